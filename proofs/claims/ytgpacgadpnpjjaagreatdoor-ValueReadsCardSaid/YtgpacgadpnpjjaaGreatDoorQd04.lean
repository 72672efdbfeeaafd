/- ValueReads: for every string the law holds: what Read returns is what the document says. No condition.. Part of the proof: texts Kg6. -/
import Derived.Below
import Derived.BigQuiet
import Derived.Deep.Cut
import Derived.Deep.CutBlock
import Derived.Deep.DeepMust
import Derived.Deep.Draws
import Derived.Deep.LoopGhost
import Derived.Deep.OwnRows
import Derived.Deep.QuietTactic
import Derived.Deep.RegionHeld3
import Derived.Deep.RegionWith
import Derived.IntWalk
import Derived.Laws.AppendOwn
import Derived.Laws.BitsAllLaws
import Derived.Laws.CopyOwn
import Derived.Laws.IdiomStrings
import Derived.Laws.OwnMore
import Derived.Laws.RangeAny
import Derived.Laws.RangeString
import Derived.Laws.Rows
import Derived.Lib.Hide
import Derived.Lib.IndexBytes
import Derived.Lib.IndexLaws
import Derived.Lib.OthersKept
import Derived.Lib.SliceRun
import Derived.Maps.AppendAt
import Derived.OwnWalk
import Derived.Shelf.Bits.Mul64
import Derived.Shelf.Lays7
import Derived.Shelf.Small.Bits
import Derived.Shelf.Small.Strs
import Derived.Shelf.Small.Utf8
import Derived.Shelf.Small.Wraps
import Derived.Shelf.Spec.BitsCarry
import Derived.Shelf.Spec.TrailingZeros
import Derived.Shelf.Strconv.Itoa0
import Derived.Shelf.Strings.Builder1
import Derived.Shelf.Strings.Builder2
import Derived.Shelf.Strings.Builder2Cap
import Derived.Shelf.Strings.BuilderF
import Derived.Shelf.Strings.BuilderK
import Derived.Shelf.Strings.Cut
import Derived.Shelf.Strings.Prefix
import Derived.Shelf.Strings.Repeat
import Derived.Shelf.Strings.Search1
import Derived.Shelf.Strings.Search2
import Derived.Shelf.Strings.Search3
import Derived.Shelf.Strings.Trim
import Derived.Shelf.Unicode.DecodeSlow
import Derived.Test.YtgpacgadpnpjjaaGreatDoorProg
import Derived.Test.YtgpacgadpnpjjaaGreatDoorQp01
import Derived.Test.YtgpacgadpnpjjaaGreatDoorQp02
import Derived.Test.YtgpacgadpnpjjaaGreatDoorQp03
import Derived.Test.YtgpacgadpnpjjaaGreatDoorQp04
import Derived.Test.YtgpacgadpnpjjaaGreatDoorQp05
import Derived.Test.YtgpacgadpnpjjaaGreatDoorQp06
import Derived.Test.YtgpacgadpnpjjaaGreatDoorQp07
import Derived.Test.YtgpacgadpnpjjaaGreatDoorQp08
import Derived.Test.YtgpacgadpnpjjaaGreatDoorQp09
import Derived.Test.YtgpacgadpnpjjaaGreatDoorQp10
import Derived.Test.YtgpacgadpnpjjaaGreatDoorQp11
import Derived.Test.YtgpacgadpnpjjaaGreatDoorQp12
import Derived.Test.YtgpacgadpnpjjaaGreatDoorQp13
import Derived.Test.YtgpacgadpnpjjaaGreatDoorQp14
import Derived.Test.YtgpacgadpnpjjaaGreatDoorQp15
import Derived.Test.YtgpacgadpnpjjaaGreatDoorQp16
import Derived.Test.YtgpacgadpnpjjaaGreatDoorQp17
import Derived.Test.YtgpacgadpnpjjaaGreatDoorQp18
import Derived.Test.YtgpacgadpnpjjaaGreatDoorQp19
import Derived.Test.YtgpacgadpnpjjaaGreatDoorQp20
import Derived.Test.YtgpacgadpnpjjaaGreatDoorQp21
import Derived.Test.YtgpacgadpnpjjaaGreatDoorQp22
import Derived.Test.YtgpacgadpnpjjaaGreatDoorQp23
import Derived.Test.YtgpacgadpnpjjaaGreatDoorQp24
import Derived.Test.YtgpacgadpnpjjaaGreatDoorQp25
import Derived.Test.YtgpacgadpnpjjaaGreatDoorQp27
import Derived.WalkKit
import Derived.WalkLawsBesides
import Derived.WalkSmall
import Derived.WalkSpells
import Derived.Test.YtgpacgadpnpjjaaGreatDoorQd01
import Derived.Test.YtgpacgadpnpjjaaGreatDoorQd02
import Derived.Test.YtgpacgadpnpjjaaGreatDoorQd03
namespace Go.Proofs.YtgpacgadpnpjjaaGreatDoor.K
open Go.RowKit
open Ma Me
theorem aGy (a b : List UInt8) : ofK a ++ ofK b = ofK (a ++ b) := zV (by rw [tL, mO, mO])
theorem aGm (s : ByteArray) (c : UInt8) (bt : Bool) (f b : List UInt8) (w : World) (hf : eG c s.data.toList = f) (hb : aft c s.data.toList = b) (hbt : decide (c ∈ s.data.toList) = bt) (hs : s.size ≤ 9223372036854775806) :
  Calls Tryz.prog 78 #[.string s, .int .u8 (c.toNat : Int)] w fun e w' => e = .returned (.tuple #[.string (ofK f), .string (ofK b), .bool bt]) ∧ Q w w' := by
 refine (aEB s c bt w hbt hs).mono ?_;rintro e w' ⟨f1, r1, rfl, h1, h2, -, -, hq⟩;rw [zV (h1.trans hf), zV (h2.trans hb)];exact ⟨rfl, hq⟩
theorem aGD (s : ByteArray) (sg : Int) (u : List UInt8) (w : World) (hsg : (if dG s.data.toList then -1 else 1) = sg) (hu : unsigned s.data.toList = u) (hs : s.size ≤ 9223372036854775806) :
  Calls Tryz.prog 77 #[.string s] w fun e w' => e = .returned (.tuple #[.string (ofK u), .int .i64 sg]) ∧ Q w w' := by
 refine (aDL s sg w hsg hs).mono ?_;rintro e w' ⟨f1, rfl, h1, -, hq⟩;rw [zV (h1.trans hu)];exact ⟨rfl, hq⟩
theorem aGi (l : List UInt8) (b : Bool) (w : World) (hb : mP l = b) (hs : l.length ≤ 9223372036854775806) :
  Calls Tryz.prog 79 #[.string (ofK l)] w fun e w' => e = .returned (.bool b) ∧ Q w w' := by
 subst hb;exact zX (ofK l) w (by rw [aA3]; exact hs)
theorem aGt (l : List UInt8) (w : World) (hd : aY l) (hs : l.length + 80 ≤ LIM) :
  Calls Tryz.prog 81 #[.string (ofK l)] w (mQ (dv l) w) := iI (ofK l) w hd (by rw [aA3]; exact hs)
def aGj : List UInt8 := [102, 112, 110, 117, 109, 32, 107, 77, 71, 84]
theorem aGP {u : List UInt8} {i : Nat} {c : UInt8} (hl : u.getLast? = some c) (hi : i < 10) (hc : aGj[i]? = some c) (hne : c ≠ 32) : iP u = (u.dropLast, 3 * (i : Int) - 15) := by
 unfold iP;rw [hl]
 rcases (show i = 0 ∨ i = 1 ∨ i = 2 ∨ i = 3 ∨ i = 4 ∨ i = 5 ∨ i = 6 ∨ i = 7 ∨ i = 8 ∨ i = 9 by omega) with rfl | rfl | rfl | rfl | rfl | rfl | rfl | rfl | rfl | rfl <;>
  (simp only [aGj, List.getElem?_cons_zero, List.getElem?_cons_succ, Option.some.injEq] at hc; subst hc; first | rfl | exact absurd rfl hne)
theorem aGF {u : List UInt8} (h : ∀ c, u.getLast? = some c → ∀ j < 10, aGj[j]? = some c → c = 32) : iP u = (u, 0) := by
 unfold iP;cases hl : u.getLast? with
 | none => rfl
 | some c =>
   have h1 := h c hl;have hp : pfx c = none := by
    unfold pfx;rw [if_neg (fun e => by subst e; exact absurd (h1 0 (by decide) rfl) (by decide)), if_neg (fun e => by subst e; exact absurd (h1 1 (by decide) rfl) (by decide)), if_neg (fun e => by subst e; exact absurd (h1 2 (by decide) rfl) (by decide)), if_neg (fun e => by subst e; exact absurd (h1 3 (by decide) rfl) (by decide)), if_neg (fun e => by subst e; exact absurd (h1 4 (by decide) rfl) (by decide)), if_neg (fun e => by subst e; exact absurd (h1 6 (by decide) rfl) (by decide)), if_neg (fun e => by subst e; exact absurd (h1 7 (by decide) rfl) (by decide)), if_neg (fun e => by subst e; exact absurd (h1 8 (by decide) rfl) (by decide)), if_neg (fun e => by subst e; exact absurd (h1 9 (by decide) rfl) (by decide))]
   simp only [hp]
theorem aGu {u : List UInt8} {i : Nat} (h : ∀ c, u.getLast? = some c → ∀ j < i, aGj[j]? = some c → c = 32) (h2 : ∀ c, u.getLast? = some c → aGj[i]? = some c → c = 32) : ∀ c, u.getLast? = some c → ∀ j < i + 1, aGj[j]? = some c → c = 32 := fun c hc j hj hp => by
 rcases Nat.lt_or_ge j i with h3 | h3
 ·exact h c hc j h3 hp
 ·obtain rfl : j = i := (by omega);exact h2 c hc hp
theorem aGw (l : List UInt8) : (unsigned l).length ≤ l.length := by
 unfold unsigned; split
 ·rw [List.length_tail]; omega
 ·exact Nat.le_refl _
theorem aDI (l : List UInt8) : (iP l).1.length ≤ l.length := by
 unfold iP; split
 ·split
  ·rw [List.length_dropLast]; omega
  ·exact Nat.le_refl _
 ·exact Nat.le_refl _
theorem aDJ (c : UInt8) (l : List UInt8) : (eG c l).length + (aft c l).length ≤ l.length := by
 rcases oJ c l with ⟨-, h1, h2⟩ | ⟨-, h⟩
 ·rw [h1, h2]; simp
 ·have := congrArg List.length h;rw [List.length_append, List.length_cons] at this;omega
theorem aGn {neg two : Bool} {f b : List UInt8} {p : Int} (h : mP f = false) : iU neg f b two p = (6, 0) := by
 unfold iU;rw [if_pos (.inl (fun hd => by rw [pF.2 hd] at h; cases h))]
theorem aGv {neg : Bool} {f b : List UInt8} {p : Int} (h : mP b = false) : iU neg f b true p = (6, 0) := by
 unfold iU;rw [if_pos (.inr ⟨rfl, fun hd => by rw [pF.2 hd] at h; cases h⟩)]
theorem aGk {neg two : Bool} {f b : List UInt8} {p : Int} (h : mP f = true) (h2 : two = true → mP b = true) (hl : 400 < f.length + b.length) : iU neg f b two p = (3, 0) := by
 unfold iU;rw [if_neg (by rintro (h3 | ⟨h3, h4⟩); exact h3 (pF.1 h); exact h4 (pF.1 (h2 h3))), if_pos hl]
theorem aGp {neg two : Bool} {f b : List UInt8} {p : Int} (h : mP f = true) (h2 : two = true → mP b = true) (hl : ¬ 400 < f.length + b.length) : iU neg f b two p = (0, sgQ neg ((dv (f ++ b) : Nat) : Rat) * aS (p - b.length)) := by
 unfold iU;rw [if_neg (by rintro (h3 | ⟨h3, h4⟩); exact h3 (pF.1 h); exact h4 (pF.1 (h2 h3))), if_neg hl]
theorem aGz {neg : Bool} {n : Nat} {sg : Int} (h : (if neg then -1 else 1) = sg) : sgQ neg ((n : Nat) : Rat) * ((1 : Nat) : Rat) = (sg : Rat) * (n : Rat) := by
 subst h;unfold sgQ;cases neg
 ·show ((n : Nat) : Rat) * ((1 : Nat) : Rat) = ((1 : Int) : Rat) * (n : Rat)
  simp
 ·show -((n : Nat) : Rat) * ((1 : Nat) : Rat) = ((-1 : Int) : Rat) * (n : Rat)
  have e : ((-1 : Int) : Rat) = -1 := rfl;rw [e]; simp; grind
theorem aGA {f b : List UInt8} (hf : aY f) (hb : aY b) : aY (f ++ b) := fun c hc => by
 rcases List.mem_append.1 hc with h | h
 ·exact hf c h
 ·exact hb c h
theorem aGQ {i : Nat} {pc : UInt8} {h : i < ({ data := #[102, 112, 110, 117, 109, 32, 107, 77, 71, 84] } : ByteArray).size} (hp : ({ data := #[102, 112, 110, 117, 109, 32, 107, 77, 71, 84] } : ByteArray)[i]'h = pc) : aGj[i]? = some pc := by
 rw [← hp]; exact byte_at h
theorem aGG (l : List UInt8) (n : Nat) : (ofK l).extract 0 n = ofK (l.take n) := zV (by rw [show ((ofK l).extract 0 n).data.toList = (ofK l).data.toList.take n by simp]; rfl)
theorem sg3 {neg : Bool} {sg : Int} (h : (if neg then -1 else 1) = sg) : sg = -1 ∨ sg = 0 ∨ sg = 1 := by cases neg <;> simp at h <;> omega
theorem aGZ {l : List UInt8} (h : aY l) (hl : l.length ≤ 400) : dg B30 (dv l) ≤ 400 := Nat.le_trans (eD aF (Nat.lt_of_lt_of_le (rD h) (Nat.pow_le_pow_left (by decide) _))) hl
theorem aGJ {l : List UInt8} (neg : Bool) (h : aY l) (hl : l.length ≤ 400) : sz (sgQ neg ((dv l : Nat) : Rat)) ≤ 401 := by
 have h1 := aBg h hl;have h2 := uJ (dv l);unfold sgQ;split
 ·rw [nP]; omega
 ·omega
set_option maxRecDepth 100000 in
set_option maxHeartbeats 8000000 in
theorem aG0 (s : ByteArray) (w : World) (hs : s.size ≤ 9223372036854775806) :
  Calls Tryz.prog 18 #[.string s] w fun e w' => ∃ r, e = .returned (.tuple #[r, .int .i64 (oL s.data.toList).1]) ∧ Rq w' r (oL s.data.toList).2 ∧ Q w w' := by
 obtain ⟨w0, hW, hG0, hR0⟩ := yR w 32 [.int .i64 0, .slice none 0 0, .slice none 0 0];go_enter Tryz.func18, Tryz.ntmps18
 go_upto_region 1 with fail
 clear hW;have HS0 := Lib.hid hs; clear hs;by_cases hS : 47 ∈ s.data.toList
 ·have HS := Lib.hid hS; clear hS;refine bJ (F := ?F1) ([.eq (.string (s)), .gen (pT3 (pEq (.string (ofK (eG 47 s.data.toList)))) (pEq (.string (ofK (aft 47 s.data.toList)))) (pEq (.bool true))), .gen (pT3 (pEq (.string (ofK (eG 47 s.data.toList)))) (pEq (.string (ofK (aft 47 s.data.toList)))) (pEq (.bool true))), .eq (.string (ofK (eG 47 s.data.toList))), .eq (.string (ofK (aft 47 s.data.toList))), .eq (.bool true), .eq (.string (ofK (eG 47 s.data.toList))), .eq (.string (ofK (aft 47 s.data.toList))), .eq (.bool true)] : List Vs) ?hF1 ?st1 ?en1
  case hF1 =>
   intro vals;simp only [Ja.fillL, Act.put, List.setIfInBounds_toArray, List.set_cons_zero, List.set_cons_succ, Nat.reduceAdd];exact rfl
  case st1 =>
   intro hctx;refine JC.p hctx ?_;refine JC.ca (fun vals W hN hd hk => (aGm (s) 47 true (eG 47 s.data.toList) (aft 47 s.data.toList) W (rfl) (rfl) (decide_eq_true HS.out) (HS0.out)).mono (by rintro e W9 ⟨rfl, hq9⟩; exact ⟨(.tuple #[.string (ofK (eG 47 s.data.toList)), .string (ofK (aft 47 s.data.toList)), .bool true]), rfl, ⟨_, _, _, rfl, rfl, rfl, rfl⟩, hq9⟩)) hctx ?_;refine JC.m 1 hctx ?_;refine JC.o hctx ?_ ?_
   ·intro L vals W hL hJ hd K hK;have d2 : (pT3 (pEq (.string (ofK (eG 47 s.data.toList)))) (pEq (.string (ofK (aft 47 s.data.toList)))) (pEq (.bool true))).p (vals 2) W := hd 2 (by kernel_rfl);generalize vals 2 = u2 at d2 hK ⊢;obtain ⟨e0, e1, e2, rfl, he0, he1, he2⟩ := d2;obtain rfl : e0 = .string (ofK (eG 47 s.data.toList)) := he0;go_simp
    exact hK.out (.string (ofK (eG 47 s.data.toList))) _ _ (by kernel_rfl) rfl (Q.refl _)
   refine JC.o hctx ?_ ?_
   ·intro L vals W hL hJ hd K hK;have d2 : (pT3 (pEq (.string (ofK (eG 47 s.data.toList)))) (pEq (.string (ofK (aft 47 s.data.toList)))) (pEq (.bool true))).p (vals 2) W := hd 2 (by kernel_rfl);generalize vals 2 = u2 at d2 hK ⊢;obtain ⟨e0, e1, e2, rfl, he0, he1, he2⟩ := d2;obtain rfl : e1 = .string (ofK (aft 47 s.data.toList)) := he1;go_simp
    exact hK.out (.string (ofK (aft 47 s.data.toList))) _ _ (by kernel_rfl) rfl (Q.refl _)
   refine JC.o hctx ?_ ?_
   ·intro L vals W hL hJ hd K hK;have d2 : (pT3 (pEq (.string (ofK (eG 47 s.data.toList)))) (pEq (.string (ofK (aft 47 s.data.toList)))) (pEq (.bool true))).p (vals 2) W := hd 2 (by kernel_rfl);generalize vals 2 = u2 at d2 hK ⊢;obtain ⟨e0, e1, e2, rfl, he0, he1, he2⟩ := d2;obtain rfl : e2 = .bool true := he2;go_simp
    exact hK.out (.bool true) _ _ (by kernel_rfl) rfl (Q.refl _)
   refine JC.p hctx ?_;refine JC.p hctx ?_;refine JC.p hctx ?_;exact Ja.Steps.nil
  intro vals w1 hq1 hall;have hG1 := hG0.trans hq1;have hR1 := hR0.q hq1;clear hG0 hR0;have f4 : vals 6 = .string (ofK (eG 47 s.data.toList)) := hall 6 (by decide);rw [f4];clear f4;have f5 : vals 7 = .string (ofK (aft 47 s.data.toList)) := hall 7 (by decide);rw [f5];clear f5;have f6 : vals 8 = .bool true := hall 8 (by decide);rw [f6];clear f6;clear hall;go_upto_region 2 with fail
  refine bJ (F := ?F2) ([.eq (.bool true)] : List Vs) ?hF2 ?st2 ?en2
  case hF2 =>
   intro vals;simp only [Ja.fillL, Act.put, List.setIfInBounds_toArray, List.set_cons_zero, List.set_cons_succ];exact rfl
  case st2 =>
   intro hctx;refine JC.p hctx ?_;exact Ja.Steps.nil
  intro vals w2 hq2 hall;have hG2 := hG1.trans hq2;have hR2 := hR1.q hq2;clear hG1 hR1;have f20 : vals 0 = .bool true := hall 0 (by decide);rw [f20];clear f20;clear hall;go_upto_region 3 with fail
  have hAt2 : At0 w [⟨none, w.heap.size, 32, [.i, .s, .s], .agg #[.int .i64 0, .slice none 0 0, .slice none 0 0], 4, 2⟩] [] w2 := At0.of hG2 ⟨bA hR2 (by omega), trivial⟩ (by simp [dO]) trivial;clear hG2 hR2;refine cK (F := ?F3) w ([.eq (.string (s)), .gen (pT2 (pRn ((aV s.data.toList).2)) (pEq (.int .i64 ((aV s.data.toList).1)))), .gen (pRn ((aV s.data.toList).2)), .eq (.int .i64 ((aV s.data.toList).1)), .any, .eq (.int .i64 ((aV s.data.toList).1))] : List Vs) _ _ (by kernel_rfl) hAt2 ?hF3 ?st3 ?en3
  case hF3 =>
   intro vals;simp only [Ja.fillL, Act.put, List.setIfInBounds_toArray, List.set_cons_zero, List.set_cons_succ, Nat.reduceAdd];exact rfl
  case st3 =>
   clear hAt2;intro hctx;refine JC.p hctx ?_;refine JC.ca (fun vals W hN hd hk => (aEC s W HS0.out).mono (by rintro e W9 ⟨r, rfl, hr, hq9⟩; exact ⟨(.tuple #[r, .int .i64 ((aV s.data.toList).1)]), rfl, ⟨_, _, rfl, hr, rfl⟩, hq9⟩)) hctx ?_;refine JC.o hctx ?_ ?_
   ·intro L vals W hL hJ hd K hK;have d1 : (pT2 (pRn ((aV s.data.toList).2)) (pEq (.int .i64 ((aV s.data.toList).1)))).p (vals 1) W := hd 1 (by kernel_rfl);generalize vals 1 = u1 at d1 hK ⊢;obtain ⟨e0, e1, rfl, he0, he1⟩ := d1;go_simp
    exact hK.out (e0) _ _ (by kernel_rfl) he0 (Q.refl _)
   refine JC.o hctx ?_ ?_
   ·intro L vals W hL hJ hd K hK;have d1 : (pT2 (pRn ((aV s.data.toList).2)) (pEq (.int .i64 ((aV s.data.toList).1)))).p (vals 1) W := hd 1 (by kernel_rfl);generalize vals 1 = u1 at d1 hK ⊢;obtain ⟨e0, e1, rfl, he0, he1⟩ := d1;obtain rfl : e1 = .int .i64 ((aV s.data.toList).1) := he1;go_simp
    exact hK.out (.int .i64 ((aV s.data.toList).1)) _ _ (by kernel_rfl) rfl (Q.refl _)
   refine JC.s3 (n := 0) rfl fRn hctx ?_;refine JC.p hctx ?_;exact Ja.Steps.nil
  intro L vals w3 hall hJ;clear hAt2;have hG3 := hJ.q;obtain ⟨AR1, kR1, cR1, AR2, kR2, cR2, hR3, nR3⟩ := aFQ (g := w.heap.size) (t := 32) (hJ.stored 0 rfl rfl (hall 4 (by decide))) (show Rq w3 (vals 2) ((aV s.data.toList).2) from hJ.s 2 (hall 2 (by decide)));have f3 : vals 5 = .int .i64 ((aV s.data.toList).1) := hJ.s 5 (hall 5 (by decide));rw [f3];clear f3;clear hall hJ;have hrd : oL s.data.toList = aV s.data.toList := if_pos HS.out;go_wp2_with fail
  have zR0 : w3.cell? ⟨w.heap.size, 0, none⟩ = some (.int .i64 (sn ((aV s.data.toList).2))) := hR3.cell 0 rfl;have zR1 : w3.cell? ⟨w.heap.size, 1, none⟩ = some (.slice AR1 kR1 cR1) := hR3.cell 1 rfl;have zR2 : w3.cell? ⟨w.heap.size, 2, none⟩ = some (.slice AR2 kR2 cR2) := hR3.cell 2 rfl;refine bodyPost_ret (v := .tuple #[.agg #[.int .i64 (sn ((aV s.data.toList).2)), .slice AR1 kR1 cR1, .slice AR2 kR2 cR2], .int .i64 ((aV s.data.toList).1)]) (by simp [results, Tryz.results18, go_sem, zR0, zR1, zR2]) rfl ?_;exact ⟨_, by rw [hrd], by rw [hrd]; exact nR3, hG3⟩
 ·have HS := Lib.hid hS; clear hS;obtain ⟨neg, Hneg⟩ : ∃ z : Bool, Hid (dG s.data.toList = z) := ⟨_, Lib.hid rfl⟩
  obtain ⟨U, HU⟩ : ∃ z : List UInt8, Hid (unsigned s.data.toList = z) := ⟨_, Lib.hid rfl⟩
  obtain ⟨sg, Hsg⟩ : ∃ z : Int, Hid ((if neg then -1 else 1) = z) := ⟨_, Lib.hid rfl⟩
  obtain ⟨V, HV⟩ : ∃ z : List UInt8, Hid ((iP U).1 = z) := ⟨_, Lib.hid rfl⟩
  obtain ⟨P, HP⟩ : ∃ z : Int, Hid ((iP U).2 = z) := ⟨_, Lib.hid rfl⟩
  obtain ⟨f, Hf⟩ : ∃ z : List UInt8, Hid (eG 46 V = z) := ⟨_, Lib.hid rfl⟩
  obtain ⟨b, Hb⟩ : ∃ z : List UInt8, Hid (aft 46 V = z) := ⟨_, Lib.hid rfl⟩
  obtain ⟨two, Ht⟩ : ∃ z : Bool, Hid (decide (46 ∈ V) = z) := ⟨_, Lib.hid rfl⟩
  have HRD : Hid (oL s.data.toList = iU neg f b two P) := Lib.hid (by unfold oL; rw [if_neg HS.out, Hneg.out, HU.out, HV.out, HP.out, Hf.out, Hb.out, Ht.out]);have HL : Hid (U.length ≤ 9223372036854775806 ∧ V.length ≤ 9223372036854775806 ∧ f.length + b.length ≤ 9223372036854775806) := Lib.hid (by have h1 := aGw s.data.toList; have h2 := aDI U; have h3 := aDJ 46 V; have h4 := HS0.out; have h5 := jT s; rw [HU.out] at h1; rw [HV.out] at h2; rw [Hf.out, Hb.out] at h3; omega);have HPb : Hid (P.natAbs ≤ 15) := Lib.hid (by rw [← HP.out]; exact aEl U);refine bJ (F := ?F4) ([.eq (.string (s)), .gen (pT3 (pEq (.string (ofK (eG 47 s.data.toList)))) (pEq (.string (ofK (aft 47 s.data.toList)))) (pEq (.bool false))), .gen (pT3 (pEq (.string (ofK (eG 47 s.data.toList)))) (pEq (.string (ofK (aft 47 s.data.toList)))) (pEq (.bool false))), .eq (.string (ofK (eG 47 s.data.toList))), .eq (.string (ofK (aft 47 s.data.toList))), .eq (.bool false), .eq (.string (ofK (eG 47 s.data.toList))), .eq (.string (ofK (aft 47 s.data.toList))), .eq (.bool false)] : List Vs) ?hF4 ?st4 ?en4
  case hF4 =>
   intro vals;simp only [Ja.fillL, Act.put, List.setIfInBounds_toArray, List.set_cons_zero, List.set_cons_succ, Nat.reduceAdd];exact rfl
  case st4 =>
   intro hctx;refine JC.p hctx ?_;refine JC.ca (fun vals W hN hd hk => (aGm (s) 47 false (eG 47 s.data.toList) (aft 47 s.data.toList) W (rfl) (rfl) (decide_eq_false HS.out) (HS0.out)).mono (by rintro e W9 ⟨rfl, hq9⟩; exact ⟨(.tuple #[.string (ofK (eG 47 s.data.toList)), .string (ofK (aft 47 s.data.toList)), .bool false]), rfl, ⟨_, _, _, rfl, rfl, rfl, rfl⟩, hq9⟩)) hctx ?_;refine JC.m 1 hctx ?_;refine JC.o hctx ?_ ?_
   ·intro L vals W hL hJ hd K hK;have d2 : (pT3 (pEq (.string (ofK (eG 47 s.data.toList)))) (pEq (.string (ofK (aft 47 s.data.toList)))) (pEq (.bool false))).p (vals 2) W := hd 2 (by kernel_rfl);generalize vals 2 = u2 at d2 hK ⊢;obtain ⟨e0, e1, e2, rfl, he0, he1, he2⟩ := d2;obtain rfl : e0 = .string (ofK (eG 47 s.data.toList)) := he0;go_simp
    exact hK.out (.string (ofK (eG 47 s.data.toList))) _ _ (by kernel_rfl) rfl (Q.refl _)
   refine JC.o hctx ?_ ?_
   ·intro L vals W hL hJ hd K hK;have d2 : (pT3 (pEq (.string (ofK (eG 47 s.data.toList)))) (pEq (.string (ofK (aft 47 s.data.toList)))) (pEq (.bool false))).p (vals 2) W := hd 2 (by kernel_rfl);generalize vals 2 = u2 at d2 hK ⊢;obtain ⟨e0, e1, e2, rfl, he0, he1, he2⟩ := d2;obtain rfl : e1 = .string (ofK (aft 47 s.data.toList)) := he1;go_simp
    exact hK.out (.string (ofK (aft 47 s.data.toList))) _ _ (by kernel_rfl) rfl (Q.refl _)
   refine JC.o hctx ?_ ?_
   ·intro L vals W hL hJ hd K hK;have d2 : (pT3 (pEq (.string (ofK (eG 47 s.data.toList)))) (pEq (.string (ofK (aft 47 s.data.toList)))) (pEq (.bool false))).p (vals 2) W := hd 2 (by kernel_rfl);generalize vals 2 = u2 at d2 hK ⊢;obtain ⟨e0, e1, e2, rfl, he0, he1, he2⟩ := d2;obtain rfl : e2 = .bool false := he2;go_simp
    exact hK.out (.bool false) _ _ (by kernel_rfl) rfl (Q.refl _)
   refine JC.p hctx ?_;refine JC.p hctx ?_;refine JC.p hctx ?_;exact Ja.Steps.nil
  intro vals w1 hq1 hall;have hG1 := hG0.trans hq1;have hR1 := hR0.q hq1;clear hG0 hR0;have f4 : vals 6 = .string (ofK (eG 47 s.data.toList)) := hall 6 (by decide);rw [f4];clear f4;have f5 : vals 7 = .string (ofK (aft 47 s.data.toList)) := hall 7 (by decide);rw [f5];clear f5;have f6 : vals 8 = .bool false := hall 8 (by decide);rw [f6];clear f6;clear hall;go_upto_region 2 with fail
  refine bJ (F := ?F5) ([.eq (.bool false)] : List Vs) ?hF5 ?st5 ?en5
  case hF5 =>
   intro vals;simp only [Ja.fillL, Act.put, List.setIfInBounds_toArray, List.set_cons_zero, List.set_cons_succ];exact rfl
  case st5 =>
   intro hctx;refine JC.p hctx ?_;exact Ja.Steps.nil
  intro vals w2 hq2 hall;have hG2 := hG1.trans hq2;have hR2 := hR1.q hq2;clear hG1 hR1;have f20 : vals 0 = .bool false := hall 0 (by decide);rw [f20];clear f20;clear hall;go_upto_region 4 with fail
  go_wp2_with fail
  refine (aGD s sg U _ (by rw [Hneg.out]; exact Hsg.out) HU.out HS0.out).mono ?_;rintro e w3 ⟨rfl, hq3⟩;have hG3 := hG2.trans hq3; have hR3 := hR2.q hq3; clear hG2 hR2 hq3;go_upto_region 5 with fail
  refine bJ (F := ?F6) ([.eq (.int .i64 (0))] : List Vs) ?hF6 ?st6 ?en6
  case hF6 =>
   intro vals;simp only [Ja.fillL, Act.put, List.setIfInBounds_toArray, List.set_cons_zero, List.set_cons_succ];exact rfl
  case st6 =>
   intro hctx;refine JC.p hctx ?_;exact Ja.Steps.nil
  intro vals w4 hq4 hall;have hG4 := hG3.trans hq4;have hR4 := hR3.q hq4;clear hG3 hR3;have f8 : vals 0 = .int .i64 (0) := hall 0 (by decide);rw [f8];clear f8;clear hall;go_upto_region 6 with fail
  refine bJ (F := ?F7) ([.eq (.int .i64 (0))] : List Vs) ?hF7 ?st7 ?en7
  case hF7 =>
   intro vals;simp only [Ja.fillL, Act.put, List.setIfInBounds_toArray, List.set_cons_zero, List.set_cons_succ];exact rfl
  case st7 =>
   intro hctx;refine JC.p hctx ?_;exact Ja.Steps.nil
  intro vals w5 hq5 hall;have hG5 := hG4.trans hq5;have hR5 := hR4.q hq5;clear hG4 hR4;have f9 : vals 0 = .int .i64 (0) := hall 0 (by decide);rw [f9];clear f9;clear hall;go_upto_block 0 with fail
  go_cut [0, 8] from 30 to 59 (fun sv pv w1 => sv = .string (ofK V) ∧ pv = .int .i64 P ∧ Q w w1 ∧ Bx w1 (w.heap.size) 32 [.int .i64 0, .slice none 0 0, .slice none 0 0])
  case first =>
   go_wp2_with fail
   go_loopw [0, 8, 9] (fun sv pv iv w1 => ∃ i : Nat, sv = .string (ofK U) ∧ pv = .int .i64 0 ∧ iv = .int .i64 (i : Int) ∧ i ≤ 10 ∧ Hid (∀ c, U.getLast? = some c → ∀ j < i, aGj[j]? = some c → c = 32) ∧ Q w w1 ∧ Bx w1 (w.heap.size) 32 [.int .i64 0, .slice none 0 0, .slice none 0 0]) (fun _ _ iv _ => 10 - (intOf iv).toNat)
   case atStart => exact ⟨0, rfl, rfl, rfl, Nat.zero_le _, Lib.hid (fun c _ j hj => absurd hj (Nat.not_lt_zero _)), hG5, hR5⟩
   case round =>
    obtain ⟨i, rfl, rfl, rfl, hi, HM, hG6, hR6⟩ := hrel;generalize wr = w6 at *
    clear hG5 hR5;have HI := Lib.hid hi; clear hi;by_cases hZ : i < 10
    ·have HZ := Lib.hid hZ; clear hZ;by_cases hE : U = []
     ·have HE := Lib.hid hE; clear hE;obtain rfl : U = [] := HE.out;go_upto_region 7 with fail
      refine bJ (F := ?F8) ([.eq (.int .i64 ((i : Int))), .eq (.bool true), .eq (.bool true), .eq (.string (ofK [])), .eq (.int .i64 (0)), .eq (.bool false), .eq (.bool false)] : List Vs) ?hF8 ?st8 ?en8
      case hF8 =>
       intro vals;simp only [Ja.fillL, Act.put, List.setIfInBounds_toArray, List.set_cons_zero, List.set_cons_succ, Nat.reduceAdd];exact rfl
      case st8 =>
       intro hctx;refine JC.p hctx ?_;refine JC.u (.bool (decide (((i : Int)) < (10)))) (congrArg Value.bool (decide_eq_true (show (((i : Int) : Int) < 10) from by have := HZ.out; omega))) hctx ?_;refine JC.p hctx ?_;refine JC.p hctx ?_;refine JC.o hctx ?_ ?_
       ·intro L vals W hL hJ hd K hK;have d3 : vals 3 = .string (ofK []) := hd 3 (by kernel_rfl);generalize vals 3 = u3 at d3 hK ⊢;subst d3;go_simp
        rw [aA3];rw [show (([] : List UInt8).length : Int) = 0 from rfl];exact hK.out (.int .i64 (0)) _ _ (by kernel_rfl) rfl (Q.refl _)
       refine JC.u (.bool (decide ((0) < (0)))) (congrArg Value.bool (decide_eq_false (show ¬ ((0 : Int) > 0) from by decide))) hctx ?_;refine JC.p hctx ?_;exact Ja.Steps.nil
      intro vals w7 hq7 hall;have hG7 := hG6.trans hq7;have hR7 := hR6.q hq7;clear hG6 hR6;have f36 : vals 6 = .bool false := hall 6 (by decide);rw [f36];clear f36;clear hall;go_wp2_with fail
      obtain rfl : V = [] := (by rw [← HV.out]; rfl);obtain rfl : P = 0 := (by rw [← HP.out]; rfl);go_meet
      case rel => exact ⟨rfl, rfl, hG7, hR7⟩
     ·have HE := Lib.hid hE; clear hE;have hU9 : 0 < U.length := List.length_pos_iff.2 HE.out;go_upto_region 7 with fail
      refine bJ (F := ?F9) ([.eq (.int .i64 ((i : Int))), .eq (.bool true), .eq (.bool true), .eq (.string (ofK U)), .eq (.int .i64 ((U.length : Int))), .eq (.bool true), .eq (.bool true)] : List Vs) ?hF9 ?st9 ?en9
      case hF9 =>
       intro vals;simp only [Ja.fillL, Act.put, List.setIfInBounds_toArray, List.set_cons_zero, List.set_cons_succ, Nat.reduceAdd];exact rfl
      case st9 =>
       intro hctx;refine JC.p hctx ?_;refine JC.u (.bool (decide (((i : Int)) < (10)))) (congrArg Value.bool (decide_eq_true (show (((i : Int) : Int) < 10) from by have := HZ.out; omega))) hctx ?_;refine JC.p hctx ?_;refine JC.p hctx ?_;refine JC.o hctx ?_ ?_
       ·intro L vals W hL hJ hd K hK;have d3 : vals 3 = .string (ofK U) := hd 3 (by kernel_rfl);generalize vals 3 = u3 at d3 hK ⊢;subst d3;go_simp
        rw [aA3];exact hK.out (.int .i64 ((U.length : Int))) _ _ (by kernel_rfl) rfl (Q.refl _)
       refine JC.u (.bool (decide ((0) < ((U.length : Int))))) (congrArg Value.bool (decide_eq_true (show (((U.length : Int) : Int) > 0) from by omega))) hctx ?_;refine JC.p hctx ?_;exact Ja.Steps.nil
      intro vals w7 hq7 hall;have hG7 := hG6.trans hq7;have hR7 := hR6.q hq7;clear hG6 hR6;have f36 : vals 6 = .bool true := hall 6 (by decide);rw [f36];clear f36;clear hall;go_upto_region 9 with fail
      obtain ⟨n, hn⟩ : ∃ n, U.length = n + 1 := ⟨U.length - 1, by omega⟩
      have hsz : (ofK U).size = n + 1 := (by rw [aA3]; exact hn);have hsz1 : ((ofK U).size : Int) - 1 = (n : Int) := (by omega);have hn0 : (0 : Int) ≤ (n : Int) := (by omega);have hn1 : (n : Int) < ((ofK U).size : Int) := (by omega);have hn2 : (n : Int).toNat = n := rfl;have hlt : n < (ofK U).size := (by omega);have hby : (ofK U).data.toList[n]? = some ((ofK U)[n]) := byte_at hlt;generalize hcc : (ofK U)[n]'hlt = c at *
      have hlast : U.getLast? = some c := (by rw [List.getLast?_eq_getElem?, hn, Nat.add_sub_cancel]; exact hby);have hn3 : (n : Int) ≤ 9223372036854775806 := (by have := HL.out; omega);have hi0 : (0 : Int) ≤ (i : Int) := (by omega);have hi1 : (i : Int) < 10 := (by have := HZ.out; omega);have hi2 : (i : Int).toNat = i := rfl;obtain ⟨pc, hpc⟩ : ∃ pc, ({ data := #[102, 112, 110, 117, 109, 32, 107, 77, 71, 84] } : ByteArray)[i]'(by show i < 10; omega) = pc := ⟨_, rfl⟩
      have hpf : aGj[i]? = some pc := aGQ hpc;have HBY := Lib.hid hlast; have HPF := Lib.hid hpf; have HN := Lib.hid hn; clear hlast hpf hn hby hsz;by_cases hQ : c = pc
      ·have HQ := Lib.hid hQ; clear hQ;by_cases hB : c = 32
       ·have HB := Lib.hid hB; clear hB;obtain rfl : c = pc := HQ.out;obtain rfl : c = 32 := HB.out;have HM2 := Lib.hid (aGu HM.out (fun c9 h9 h8 => by have h7 := Option.some.inj (h8.symm.trans HPF.out); exact h7));go_wp2_with fail
        go_region
        go_wp2_with fail
        exact ⟨⟨i + 1, rfl, rfl, rfl, by omega, HM2, hG7.drew, hR7.q (Q.refl _).drew⟩, by simp [intOf]; omega⟩
       ·have HB := Lib.hid hB; clear hB;obtain rfl : c = pc := HQ.out;have hb32 : ¬ (c.toNat : Int) = 32 := fun h => HB.out (UInt8.toNat_inj.1 (by have : (32 : UInt8).toNat = 32 := rfl; omega));have hb33 : ((c.toNat : Int) == 32) = false := beq_eq_false_iff_ne.2 hb32;have hcm : iP U = (U.dropLast, 3 * (i : Int) - 15) := aGP HBY.out (by omega) HPF.out HB.out;have hV9 : V = U.dropLast := (by rw [← HV.out, hcm]);obtain rfl : P = 3 * (i : Int) - 15 := (by rw [← HP.out, hcm]);have hex : (ofK U).extract 0 n = ofK V := (by rw [hV9, List.dropLast_eq_take, HN.out, Nat.add_sub_cancel]; exact aGG _ _);have HV9 := Lib.hid hV9; clear hV9 hcm;go_wp2_with fail
        go_region
        go_wp2_with fail
        go_meet
        case rel => exact ⟨rfl, rfl, hG7.drew, hR7.q (Q.refl _).drew⟩
      ·have HQ := Lib.hid hQ; clear hQ;have hne : ¬ (c.toNat : Int) = (pc.toNat : Int) := fun h => HQ.out (UInt8.toNat_inj.1 (by omega));have hnb : ((c.toNat : Int) == (pc.toNat : Int)) = false := beq_eq_false_iff_ne.2 hne;have HM2 := Lib.hid (aGu HM.out (fun c9 h9 h8 => by rw [HBY.out] at h9; obtain rfl := Option.some.inj h9; exact absurd (Option.some.inj (HPF.out.symm.trans h8)).symm HQ.out));go_wp2_with fail
       go_region
       go_wp2_with fail
       exact ⟨⟨i + 1, rfl, rfl, rfl, by omega, HM2, hG7.drew, hR7.q (Q.refl _).drew⟩, by simp [intOf]; omega⟩
    ·have HZ := Lib.hid hZ; clear hZ;obtain rfl : i = 10 := (by have := HI.out; have := HZ.out; omega);go_upto_region 7 with fail
     refine bJ (F := ?F10) ([.eq (.int .i64 ((10 : Int))), .eq (.bool false), .eq (.bool false), .no, .no, .no, .eq (.bool false)] : List Vs) ?hF10 ?st10 ?en10
     case hF10 =>
      intro vals;simp only [Ja.fillL, Act.put, List.setIfInBounds_toArray, List.set_cons_zero, List.set_cons_succ, Nat.reduceAdd];exact rfl
     case st10 =>
      intro hctx;refine JC.p hctx ?_;refine JC.u (.bool (decide (((10 : Int)) < (10)))) (congrArg Value.bool (decide_eq_false (show ¬ (((10 : Int) : Int) < 10) from by decide))) hctx ?_;refine JC.p hctx ?_;refine JC.n hctx ?_;refine JC.n hctx ?_;refine JC.n hctx ?_;refine JC.p hctx ?_;exact Ja.Steps.nil
     intro vals w7 hq7 hall;have hG7 := hG6.trans hq7;have hR7 := hR6.q hq7;clear hG6 hR6;have f36 : vals 6 = .bool false := hall 6 (by decide);rw [f36];clear f36;clear hall;go_wp2_with fail
     have hcm : iP U = (U, 0) := aGF HM.out;obtain rfl : V = U := (by rw [← HV.out, hcm]);obtain rfl : P = 0 := (by rw [← HP.out, hcm]);clear hcm;go_meet
     case rel => exact ⟨rfl, rfl, hG7, hR7⟩
  case rest =>
   obtain ⟨rfl, rfl, hG6, hR6⟩ := hcut;generalize wc = w6 at *
   clear hG5 hR5;go_upto_region 12 with fail
   by_cases hW : 46 ∈ (V)
   ·have HW := Lib.hid hW; clear hW;obtain rfl : two = true := (by rw [← Ht.out]; exact decide_eq_true HW.out);refine bJ (F := ?F11) ([.eq (.string (ofK V)), .gen (pT3 (pEq (.string (ofK (f)))) (pEq (.string (ofK (b)))) (pEq (.bool true))), .gen (pT3 (pEq (.string (ofK (f)))) (pEq (.string (ofK (b)))) (pEq (.bool true))), .eq (.string (ofK (f))), .eq (.string (ofK (b))), .eq (.bool true), .eq (.string (ofK (f))), .eq (.string (ofK (b))), .eq (.bool true)] : List Vs) ?hF11 ?st11 ?en11
    case hF11 =>
     intro vals;simp only [Ja.fillL, Act.put, List.setIfInBounds_toArray, List.set_cons_zero, List.set_cons_succ, Nat.reduceAdd];exact rfl
    case st11 =>
     intro hctx;refine JC.p hctx ?_;refine JC.ca (fun vals W hN hd hk => (aGm (ofK V) 46 true (f) (b) W (Hf.out) (Hb.out) (Ht.out) (by rw [aA3]; exact HL.out.2.1)).mono (by rintro e W9 ⟨rfl, hq9⟩; exact ⟨(.tuple #[.string (ofK (f)), .string (ofK (b)), .bool true]), rfl, ⟨_, _, _, rfl, rfl, rfl, rfl⟩, hq9⟩)) hctx ?_;refine JC.m 1 hctx ?_;refine JC.o hctx ?_ ?_
     ·intro L vals W hL hJ hd K hK;have d2 : (pT3 (pEq (.string (ofK (f)))) (pEq (.string (ofK (b)))) (pEq (.bool true))).p (vals 2) W := hd 2 (by kernel_rfl);generalize vals 2 = u2 at d2 hK ⊢;obtain ⟨e0, e1, e2, rfl, he0, he1, he2⟩ := d2;obtain rfl : e0 = .string (ofK (f)) := he0;go_simp
      exact hK.out (.string (ofK (f))) _ _ (by kernel_rfl) rfl (Q.refl _)
     refine JC.o hctx ?_ ?_
     ·intro L vals W hL hJ hd K hK;have d2 : (pT3 (pEq (.string (ofK (f)))) (pEq (.string (ofK (b)))) (pEq (.bool true))).p (vals 2) W := hd 2 (by kernel_rfl);generalize vals 2 = u2 at d2 hK ⊢;obtain ⟨e0, e1, e2, rfl, he0, he1, he2⟩ := d2;obtain rfl : e1 = .string (ofK (b)) := he1;go_simp
      exact hK.out (.string (ofK (b))) _ _ (by kernel_rfl) rfl (Q.refl _)
     refine JC.o hctx ?_ ?_
     ·intro L vals W hL hJ hd K hK;have d2 : (pT3 (pEq (.string (ofK (f)))) (pEq (.string (ofK (b)))) (pEq (.bool true))).p (vals 2) W := hd 2 (by kernel_rfl);generalize vals 2 = u2 at d2 hK ⊢;obtain ⟨e0, e1, e2, rfl, he0, he1, he2⟩ := d2;obtain rfl : e2 = .bool true := he2;go_simp
      exact hK.out (.bool true) _ _ (by kernel_rfl) rfl (Q.refl _)
     refine JC.p hctx ?_;refine JC.p hctx ?_;refine JC.p hctx ?_;exact Ja.Steps.nil
    intro vals w7 hq7 hall;have hG7 := hG6.trans hq7;have hR7 := hR6.q hq7;clear hG6 hR6;have f10 : vals 6 = .string (ofK (f)) := hall 6 (by decide);rw [f10];clear f10;have f11 : vals 7 = .string (ofK (b)) := hall 7 (by decide);rw [f11];clear f11;have f12 : vals 8 = .bool true := hall 8 (by decide);rw [f12];clear f12;clear hall;go_upto_region 13 with fail
    by_cases hF1 : mP f = true
    ·have HF1 := Lib.hid hF1; clear hF1;by_cases hB1 : mP b = true
     ·have HB1 := Lib.hid hB1; clear hB1;have HB0 := HB1;have HB1 : Hid (aY b) := Lib.hid (pF.1 HB0.out).1;refine bJ (F := ?F12) ([.eq (.string (ofK f)), .eq (.bool true), .eq (.bool false), .eq (.bool false), .eq (.bool true), .eq (.bool true), .eq (.string (ofK b)), .eq (.bool true), .eq (.bool false), .eq (.bool false), .eq (.bool false)] : List Vs) ?hF12 ?st12 ?en12
      case hF12 =>
       intro vals;simp only [Ja.fillL, Act.put, List.setIfInBounds_toArray, List.set_cons_zero, List.set_cons_succ, Nat.reduceAdd];exact rfl
      case st12 =>
       intro hctx;refine JC.p hctx ?_;refine JC.ca (fun vals W hN hd hk => (aGi (f) true W (HF1.out) (by have := HL.out; omega)).mono (by rintro e W9 ⟨rfl, hq9⟩; exact ⟨(.bool true), rfl, rfl, hq9⟩)) hctx ?_;refine JC.p hctx ?_;refine JC.p hctx ?_;refine JC.p hctx ?_;refine JC.p hctx ?_;refine JC.p hctx ?_;refine JC.ca (fun vals W hN hd hk => (aGi (b) true W (HB0.out) (by have := HL.out; omega)).mono (by rintro e W9 ⟨rfl, hq9⟩; exact ⟨(.bool true), rfl, rfl, hq9⟩)) hctx ?_;refine JC.p hctx ?_;refine JC.p hctx ?_;refine JC.p hctx ?_;exact Ja.Steps.nil
      intro vals w8 hq8 hall;have hG8 := hG7.trans hq8;have hR8 := hR7.q hq8;clear hG7 hR7;have f76 : vals 10 = .bool false := hall 10 (by decide);rw [f76];clear f76;clear hall;go_upto_region 15 with fail
      by_cases hLn : 400 < f.length + (b).length
      ·have HLn := Lib.hid hLn; clear hLn;refine bJ (F := ?F13) ([.eq (.string (ofK f)), .eq (.int .i64 (((f).length : Int))), .eq (.string (ofK b)), .eq (.int .i64 (((b).length : Int))), .eq (.int .i64 (((f).length : Int) + ((b).length : Int))), .eq (.bool true)] : List Vs) ?hF13 ?st13 ?en13
       case hF13 =>
        intro vals;simp only [Ja.fillL, Act.put, List.setIfInBounds_toArray, List.set_cons_zero, List.set_cons_succ, Nat.reduceAdd];exact rfl
       case st13 =>
        intro hctx;refine JC.p hctx ?_;refine JC.o hctx ?_ ?_
        ·intro L vals W hL hJ hd K hK;have d0 : vals 0 = .string (ofK f) := hd 0 (by kernel_rfl);generalize vals 0 = u0 at d0 hK ⊢;subst d0;go_simp
         rw [aA3];exact hK.out (.int .i64 (((f).length : Int))) _ _ (by kernel_rfl) rfl (Q.refl _)
        refine JC.p hctx ?_;refine JC.o hctx ?_ ?_
        ·intro L vals W hL hJ hd K hK;have d2 : vals 2 = .string (ofK b) := hd 2 (by kernel_rfl);generalize vals 2 = u2 at d2 hK ⊢;subst d2;go_simp
         rw [aA3];exact hK.out (.int .i64 (((b).length : Int))) _ _ (by kernel_rfl) rfl (Q.refl _)
        refine JC.u (.int .i64 (IntKind.i64.wrap ((((f).length : Int)) + (((b).length : Int))))) (by exact congrArg (Value.int .i64) (dA (by have := HL.out; omega) (by have := HL.out; omega))) hctx ?_;refine JC.u (.bool (decide ((400) < (((f).length : Int) + ((b).length : Int))))) (congrArg Value.bool (decide_eq_true (show ((((f).length : Int) + ((b).length : Int) : Int) > 400) from by have := HLn.out; omega))) hctx ?_;exact Ja.Steps.nil
       intro vals w9 hq9 hall;have hG9 := hG8.trans hq9;have hR9 := hR8.q hq9;clear hG8 hR8;have f83 : vals 5 = .bool true := hall 5 (by decide);rw [f83];clear f83;clear hall;go_upto_region 16 with fail
       have hAt9 : At0 w [⟨none, w.heap.size, 32, [.i, .s, .s], .agg #[.int .i64 0, .slice none 0 0, .slice none 0 0], 1, 0⟩] [] w9 := At0.of hG9 ⟨bA hR9 (by omega), trivial⟩ (by simp [dO]) trivial;clear hG9 hR9;refine cK (F := ?F14) w ([.gen (pRn (0)), .any, .eq (.int .i64 (3))] : List Vs) _ _ (by kernel_rfl) hAt9 ?hF14 ?st14 ?en14
       case hF14 =>
        intro vals;simp only [Ja.fillL, Act.put, List.setIfInBounds_toArray, List.set_cons_zero, List.set_cons_succ, Nat.reduceAdd];exact rfl
       case st14 =>
        clear hAt9;intro hctx;refine JC.o hctx ?_ ?_
        ·intro L vals W hL hJ hd K hK;go_simp
         exact hK.out (.agg #[.int .i64 0, .slice none 0 0, .slice none 0 0]) _ _ (by kernel_rfl) (Rq.none W) (Q.refl _)
        refine JC.s3 (n := 0) rfl fRn hctx ?_;refine JC.p hctx ?_;exact Ja.Steps.nil
       intro L vals w10 hall hJ;clear hAt9;have hG10 := hJ.q;obtain ⟨AR1, kR1, cR1, AR2, kR2, cR2, hR10, nR10⟩ := aFQ (g := w.heap.size) (t := 32) (hJ.stored 0 rfl rfl (hall 1 (by decide))) (show Rq w10 (vals 0) (0) from hJ.s 0 (hall 0 (by decide)));have f3 : vals 2 = .int .i64 (3) := hJ.s 2 (hall 2 (by decide));rw [f3];clear f3;clear hall hJ;go_wp2_with fail
       have zR0 : w10.cell? ⟨w.heap.size, 0, none⟩ = some (.int .i64 (sn (0))) := hR10.cell 0 rfl;have zR1 : w10.cell? ⟨w.heap.size, 1, none⟩ = some (.slice AR1 kR1 cR1) := hR10.cell 1 rfl;have zR2 : w10.cell? ⟨w.heap.size, 2, none⟩ = some (.slice AR2 kR2 cR2) := hR10.cell 2 rfl;refine bodyPost_ret (v := .tuple #[.agg #[.int .i64 (sn (0)), .slice AR1 kR1 cR1, .slice AR2 kR2 cR2], .int .i64 3]) (by simp [results, Tryz.results18, go_sem, zR0, zR1, zR2]) rfl ?_;exact ⟨_, by rw [HRD.out, aGk HF1.out (fun _ => HB0.out) HLn.out], by rw [HRD.out, aGk HF1.out (fun _ => HB0.out) HLn.out]; exact nR10, hG10⟩
      ·have HLn := Lib.hid hLn; clear hLn;refine bJ (F := ?F15) ([.eq (.string (ofK f)), .eq (.int .i64 (((f).length : Int))), .eq (.string (ofK b)), .eq (.int .i64 (((b).length : Int))), .eq (.int .i64 (((f).length : Int) + ((b).length : Int))), .eq (.bool false)] : List Vs) ?hF15 ?st15 ?en15
       case hF15 =>
        intro vals;simp only [Ja.fillL, Act.put, List.setIfInBounds_toArray, List.set_cons_zero, List.set_cons_succ, Nat.reduceAdd];exact rfl
       case st15 =>
        intro hctx;refine JC.p hctx ?_;refine JC.o hctx ?_ ?_
        ·intro L vals W hL hJ hd K hK;have d0 : vals 0 = .string (ofK f) := hd 0 (by kernel_rfl);generalize vals 0 = u0 at d0 hK ⊢;subst d0;go_simp
         rw [aA3];exact hK.out (.int .i64 (((f).length : Int))) _ _ (by kernel_rfl) rfl (Q.refl _)
        refine JC.p hctx ?_;refine JC.o hctx ?_ ?_
        ·intro L vals W hL hJ hd K hK;have d2 : vals 2 = .string (ofK b) := hd 2 (by kernel_rfl);generalize vals 2 = u2 at d2 hK ⊢;subst d2;go_simp
         rw [aA3];exact hK.out (.int .i64 (((b).length : Int))) _ _ (by kernel_rfl) rfl (Q.refl _)
        refine JC.u (.int .i64 (IntKind.i64.wrap ((((f).length : Int)) + (((b).length : Int))))) (by exact congrArg (Value.int .i64) (dA (by have := HL.out; omega) (by have := HL.out; omega))) hctx ?_;refine JC.u (.bool (decide ((400) < (((f).length : Int) + ((b).length : Int))))) (congrArg Value.bool (decide_eq_false (show ¬ ((((f).length : Int) + ((b).length : Int) : Int) > 400) from by have := HLn.out; omega))) hctx ?_;exact Ja.Steps.nil
       intro vals w9 hq9 hall;have hG9 := hG8.trans hq9;have hR9 := hR8.q hq9;clear hG8 hR8;have f83 : vals 5 = .bool false := hall 5 (by decide);rw [f83];clear f83;clear hall;go_upto_region 17 with fail
       have hcat : ¬ 9223372036854775807 < (ofK f).size + (ofK b).size := (by rw [aA3, aA3]; have := HL.out; omega);have HAD : Hid (aY (f ++ b) ∧ (f ++ b).length ≤ 400) := Lib.hid ⟨aGA (pF.1 HF1.out).1 HB1.out, by rw [List.length_append]; have := HLn.out; omega⟩;have Zq : Hid (sz (sgQ neg ((dv (f ++ b) : Nat) : Rat)) ≤ 401) := Lib.hid (aGJ neg HAD.out.1 HAD.out.2);have hs9 := hR9.lt;have N1 : Hid (dg B30 (dv (f ++ b)) ≤ 400) := Lib.hid (by have h99 := aGZ HAD.out.1 HAD.out.2; skip; omega);have B2 : Hid (31 * dg B30 (dv (f ++ b)) + 80 ≤ LIM) := Lib.hid (by have h50 := N1.out; skip; rw [aA] at *; omega);have N3 : Hid (dg B30 (1) ≤ 1) := Lib.hid (by have h99 := qM; skip; omega);have B4 : Hid (31 * dg B30 (1) + 80 ≤ LIM) := Lib.hid (by have h50 := N3.out; skip; rw [aA] at *; omega);have hAt9 : At0 w9 [⟨some 7, 0, 32, [.i, .s, .s], .agg #[.int .i64 0, .slice none 0 0, .slice none 0 0], 8, 6⟩] [] w9 := At0.of (Q.refl _) ⟨fun h => (by cases h), trivial⟩ (by simp [dO]) trivial;refine cK (F := ?F16) w9 ([.eq (.int .i64 (sg)), .eq (.string (ofK f)), .eq (.string (ofK b)), .eq (.string (ofK (f ++ b))), .gen (lZ (dv (f ++ b))), .gen (lZ (1)), .gen (pRn (sgQ neg ((dv (f ++ b) : Nat) : Rat))), .any, .any] : List Vs) _ _ (by kernel_rfl) hAt9 ?hF16 ?st16 ?en16
       case hF16 =>
        intro vals;simp only [Ja.fillL, Act.put, List.setIfInBounds_toArray, List.set_cons_zero, List.set_cons_succ, Nat.reduceAdd];exact rfl
       case st16 =>
        clear hAt9;intro hctx;refine JC.p hctx ?_;refine JC.p hctx ?_;refine JC.p hctx ?_;refine JC.o hctx ?_ ?_
        ·intro L vals W hL hJ hd K hK;have d1 : vals 1 = .string (ofK f) := hd 1 (by kernel_rfl);generalize vals 1 = u1 at d1 hK ⊢;subst d1;have d2 : vals 2 = .string (ofK b) := hd 2 (by kernel_rfl);generalize vals 2 = u2 at d2 hK ⊢;subst d2;go_simp
         rw [aGy];exact hK.out (.string (ofK (f ++ b))) _ _ (by kernel_rfl) rfl (Q.refl _)
        refine JC.ca (fun vals W hN hd hk => (aGt (f ++ b) W (HAD.out.1) (by have := HAD.out.2; rw [aA]; omega)).mono (by rintro e W9 ⟨r, rfl, hr, hq9, -⟩; exact ⟨r, rfl, hr, hq9⟩)) hctx ?_;refine JC.ca (fun vals W hN hd hk => (xJ W).mono (by rintro e W9 ⟨r, rfl, hr, hq9, -⟩; exact ⟨r, rfl, hr, hq9⟩)) hctx ?_;refine JC.ca (fun vals W hN hd hk => (zU (sg) _ _ (dv (f ++ b)) (1) (sgQ neg ((dv (f ++ b) : Nat) : Rat)) W (hd 4 (by kernel_rfl)) (hd 5 (by kernel_rfl)) (fun _ => Nat.one_pos) (sg3 Hsg.out) (aGz Hsg.out) (fun h9 => by omega) B2.out B4.out).mono (by rintro e W9 ⟨r, rfl, hr, hq9⟩; exact ⟨r, rfl, hr, hq9⟩)) hctx ?_;refine Ja.Steps.cons (JC.alloc (n := 0) (cells := [.int .i64 0, .slice none 0 0, .slice none 0 0].toArray) (t := 32) hctx (by kernel_rfl) (by rfl) (by kernel_rfl) (by rfl) (by rfl) (by kernel_rfl) (by rfl) (fun W => NbV.mk (t := 32) (ck := [.i, .s, .s]) (row := [.int .i64 0, .slice none 0 0, .slice none 0 0]) ⟨⟨_, rfl⟩, ⟨_, _, _, rfl⟩, ⟨_, _, _, rfl⟩, trivial⟩ (Bx.new W _ _)) ?_) ?_
        ·intro vals W K hK;go_simp
         exact hK.out _ (by kernel_rfl)
        refine JC.s3 (n := 0) rfl fRn hctx ?_;exact Ja.Steps.nil
       intro L vals w10 hall hJ;clear hAt9;have hq10 := hJ.q;have hG10 := hG9.trans hq10;have hR10 := hR9.q hq10;clear hG9 hR9;obtain ⟨gX, eX, geX, qX⟩ := hJ.fresh 0 rfl rfl (hall 7 (by decide)) (hall 8 (by decide));obtain ⟨AX1, kX1, cX1, AX2, kX2, cX2, hX10, nX10⟩ := aFQ (g := gX) (t := 32) qX (show Rq w10 (vals 6) (sgQ neg ((dv (f ++ b) : Nat) : Rat)) from hJ.s 6 (hall 6 (by decide)));clear qX;rw [eX];clear eX;clear hall hJ;go_upto_region 18 with fail
       have Z5 : Hid (sz (aS (P - ((b).length : Int))) ≤ 1002) := Lib.hid (by have h99 := qD (P - ((b).length : Int)); have h98 := (show (P - ((b).length : Int)).natAbs ≤ 1000 by have h1 := HPb.out; have h2 := HLn.out; omega); skip; omega);have Z6 : Hid (sz ((sgQ neg ((dv (f ++ b) : Nat) : Rat)) * (aS (P - ((b).length : Int)))) ≤ 1403) := Lib.hid (by have h99 := qC (sgQ neg ((dv (f ++ b) : Nat) : Rat)) (aS (P - ((b).length : Int))); have h0 := Zq.out; have h1 := Z5.out; omega);have B7 : Hid (1000 * (sz (sgQ neg ((dv (f ++ b) : Nat) : Rat)) + sz (aS (P - ((b).length : Int)))) + 10000 ≤ LIM) := Lib.hid (by have h0 := Zq.out; have h1 := Z5.out; rw [aA] at *; omega);have hAt10 : At0 w [⟨none, w.heap.size, 32, [.i, .s, .s], .agg #[.int .i64 0, .slice none 0 0, .slice none 0 0], 7, 6⟩, ⟨none, gX, 32, [.i, .s, .s], .agg #[.int .i64 (sn (sgQ neg ((dv (f ++ b) : Nat) : Rat))), .slice AX1 kX1 cX1, .slice AX2 kX2 cX2], 1000, 0⟩] [(.agg #[.int .i64 (sn (sgQ neg ((dv (f ++ b) : Nat) : Rat))), .slice AX1 kX1 cX1, .slice AX2 kX2 cX2], .gen (pRn (sgQ neg ((dv (f ++ b) : Nat) : Rat))))] w10 := At0.of hG10 ⟨bA hR10 (by omega), bA hX10 (by omega), trivial⟩ (by (simp [dO] <;> omega)) ⟨nX10, trivial⟩;clear hG10 hR10 hX10 nX10;refine mE (F := ?F17) w ([.gen (pRn (sgQ neg ((dv (f ++ b) : Nat) : Rat))), .eq (.int .i64 (P)), .eq (.string (ofK b)), .eq (.int .i64 (((b).length : Int))), .eq (.int .i64 (P - ((b).length : Int))), .gen (pRn (aS (P - ((b).length : Int)))), .gen (pRn ((sgQ neg ((dv (f ++ b) : Nat) : Rat)) * (aS (P - ((b).length : Int))))), .any, .eq (.int .i64 (0))] : List Vs) _ _ (by kernel_rfl) (by kernel_rfl) hAt10 ?hF17 ?st17 ?en17
       case hF17 =>
        intro vals;simp only [Ja.fillL, Act.put, List.setIfInBounds_toArray, List.set_cons_zero, List.set_cons_succ, Nat.reduceAdd];exact rfl
       case st17 =>
        clear hAt10;intro hctx;refine JC.r3 (off := 0) (row := [.int .i64 (sn (sgQ neg ((dv (f ++ b) : Nat) : Rat))), .slice AX1 kX1 cX1, .slice AX2 kX2 cX2]) (fun _ _ _ hL hJ => hJ.still 1 rfl rfl (Nat.le_of_ble_eq_true (by kernel_rfl))) (fun _ _ _ hJ => (hJ.kept 0 rfl)) hctx ?_;refine JC.p hctx ?_;refine JC.p hctx ?_;refine JC.o hctx ?_ ?_
        ·intro L vals W hL hJ hd K hK;have d2 : vals 2 = .string (ofK b) := hd 2 (by kernel_rfl);generalize vals 2 = u2 at d2 hK ⊢;subst d2;go_simp
         rw [aA3];exact hK.out (.int .i64 (((b).length : Int))) _ _ (by kernel_rfl) rfl (Q.refl _)
        refine JC.u (.int .i64 (IntKind.i64.wrap ((P) - (((b).length : Int))))) (by exact congrArg (Value.int .i64) (dA (by have h1 := HPb.out; have h2 := HLn.out; omega) (by have h1 := HPb.out; have h2 := HLn.out; omega))) hctx ?_;refine JC.ca (fun vals W hN hd hk => (aGI (P - ((b).length : Int)) W (by have h1 := HPb.out; have h2 := HLn.out; omega)).mono (by rintro e W9 ⟨r, rfl, hr, hq9⟩; exact ⟨r, rfl, hr, hq9⟩)) hctx ?_;refine JC.ca (fun vals W hN hd hk => (aGr _ _ (sgQ neg ((dv (f ++ b) : Nat) : Rat)) (aS (P - ((b).length : Int))) W (hd 0 (by kernel_rfl)) (hd 5 (by kernel_rfl)) B7.out).mono (by rintro e W9 ⟨r, rfl, hr, hq9⟩; exact ⟨r, rfl, hr, hq9⟩)) hctx ?_;refine JC.s3 (n := 0) rfl fRn hctx ?_;refine JC.p hctx ?_;exact Ja.Steps.nil
       intro L vals w11 hall hJ;clear hAt10;have hG11 := hJ.q;obtain ⟨AR1, kR1, cR1, AR2, kR2, cR2, hR11, nR11⟩ := aFQ (g := w.heap.size) (t := 32) (hJ.stored 0 rfl rfl (hall 7 (by decide))) (show Rq w11 (vals 6) ((sgQ neg ((dv (f ++ b) : Nat) : Rat)) * (aS (P - ((b).length : Int)))) from hJ.s 6 (hall 6 (by decide)));have f3 : vals 8 = .int .i64 (0) := hJ.s 8 (hall 8 (by decide));rw [f3];clear f3;clear hall hJ;go_wp2_with fail
       have zR0 : w11.cell? ⟨w.heap.size, 0, none⟩ = some (.int .i64 (sn ((sgQ neg ((dv (f ++ b) : Nat) : Rat)) * (aS (P - ((b).length : Int)))))) := hR11.cell 0 rfl;have zR1 : w11.cell? ⟨w.heap.size, 1, none⟩ = some (.slice AR1 kR1 cR1) := hR11.cell 1 rfl;have zR2 : w11.cell? ⟨w.heap.size, 2, none⟩ = some (.slice AR2 kR2 cR2) := hR11.cell 2 rfl;refine bodyPost_ret (v := .tuple #[.agg #[.int .i64 (sn ((sgQ neg ((dv (f ++ b) : Nat) : Rat)) * (aS (P - ((b).length : Int))))), .slice AR1 kR1 cR1, .slice AR2 kR2 cR2], .int .i64 0]) (by simp [results, Tryz.results18, go_sem, zR0, zR1, zR2]) rfl ?_;exact ⟨_, by rw [HRD.out, aGp HF1.out (fun _ => HB0.out) HLn.out], by rw [HRD.out, aGp HF1.out (fun _ => HB0.out) HLn.out]; exact nR11, hG11⟩
     ·have HB1 := Lib.hid hB1; clear hB1;have HB2 : Hid (mP b = false) := Lib.hid (by have h := HB1.out; rwa [Bool.not_eq_true] at h);refine bJ (F := ?F18) ([.eq (.string (ofK f)), .eq (.bool true), .eq (.bool false), .eq (.bool false), .eq (.bool true), .eq (.bool true), .eq (.string (ofK b)), .eq (.bool false), .eq (.bool true), .eq (.bool true), .eq (.bool true)] : List Vs) ?hF18 ?st18 ?en18
      case hF18 =>
       intro vals;simp only [Ja.fillL, Act.put, List.setIfInBounds_toArray, List.set_cons_zero, List.set_cons_succ, Nat.reduceAdd];exact rfl
      case st18 =>
       intro hctx;refine JC.p hctx ?_;refine JC.ca (fun vals W hN hd hk => (aGi (f) true W (HF1.out) (by have := HL.out; omega)).mono (by rintro e W9 ⟨rfl, hq9⟩; exact ⟨(.bool true), rfl, rfl, hq9⟩)) hctx ?_;refine JC.p hctx ?_;refine JC.p hctx ?_;refine JC.p hctx ?_;refine JC.p hctx ?_;refine JC.p hctx ?_;refine JC.ca (fun vals W hN hd hk => (aGi (b) false W (HB2.out) (by have := HL.out; omega)).mono (by rintro e W9 ⟨rfl, hq9⟩; exact ⟨(.bool false), rfl, rfl, hq9⟩)) hctx ?_;refine JC.p hctx ?_;refine JC.p hctx ?_;refine JC.p hctx ?_;exact Ja.Steps.nil
      intro vals w8 hq8 hall;have hG8 := hG7.trans hq8;have hR8 := hR7.q hq8;clear hG7 hR7;have f76 : vals 10 = .bool true := hall 10 (by decide);rw [f76];clear f76;clear hall;go_upto_region 14 with fail
      have hAt8 : At0 w [⟨none, w.heap.size, 32, [.i, .s, .s], .agg #[.int .i64 0, .slice none 0 0, .slice none 0 0], 1, 0⟩] [] w8 := At0.of hG8 ⟨bA hR8 (by omega), trivial⟩ (by simp [dO]) trivial;clear hG8 hR8;refine cK (F := ?F19) w ([.gen (pRn (0)), .any, .eq (.int .i64 (6))] : List Vs) _ _ (by kernel_rfl) hAt8 ?hF19 ?st19 ?en19
      case hF19 =>
       intro vals;simp only [Ja.fillL, Act.put, List.setIfInBounds_toArray, List.set_cons_zero, List.set_cons_succ, Nat.reduceAdd];exact rfl
      case st19 =>
       clear hAt8;intro hctx;refine JC.o hctx ?_ ?_
       ·intro L vals W hL hJ hd K hK;go_simp
        exact hK.out (.agg #[.int .i64 0, .slice none 0 0, .slice none 0 0]) _ _ (by kernel_rfl) (Rq.none W) (Q.refl _)
       refine JC.s3 (n := 0) rfl fRn hctx ?_;refine JC.p hctx ?_;exact Ja.Steps.nil
      intro L vals w9 hall hJ;clear hAt8;have hG9 := hJ.q;obtain ⟨AR1, kR1, cR1, AR2, kR2, cR2, hR9, nR9⟩ := aFQ (g := w.heap.size) (t := 32) (hJ.stored 0 rfl rfl (hall 1 (by decide))) (show Rq w9 (vals 0) (0) from hJ.s 0 (hall 0 (by decide)));have f3 : vals 2 = .int .i64 (6) := hJ.s 2 (hall 2 (by decide));rw [f3];clear f3;clear hall hJ;go_wp2_with fail
      have zR0 : w9.cell? ⟨w.heap.size, 0, none⟩ = some (.int .i64 (sn (0))) := hR9.cell 0 rfl;have zR1 : w9.cell? ⟨w.heap.size, 1, none⟩ = some (.slice AR1 kR1 cR1) := hR9.cell 1 rfl;have zR2 : w9.cell? ⟨w.heap.size, 2, none⟩ = some (.slice AR2 kR2 cR2) := hR9.cell 2 rfl;refine bodyPost_ret (v := .tuple #[.agg #[.int .i64 (sn (0)), .slice AR1 kR1 cR1, .slice AR2 kR2 cR2], .int .i64 6]) (by simp [results, Tryz.results18, go_sem, zR0, zR1, zR2]) rfl ?_;exact ⟨_, by rw [HRD.out, aGv HB2.out], by rw [HRD.out, aGv HB2.out]; exact nR9, hG9⟩
    ·have HF1 := Lib.hid hF1; clear hF1;have HF2 : Hid (mP f = false) := Lib.hid (by have h := HF1.out; rwa [Bool.not_eq_true] at h);refine bJ (F := ?F20) ([.eq (.string (ofK f)), .eq (.bool false), .eq (.bool true), .eq (.bool true), .no, .no, .no, .no, .no, .no, .eq (.bool true)] : List Vs) ?hF20 ?st20 ?en20
     case hF20 =>
      intro vals;simp only [Ja.fillL, Act.put, List.setIfInBounds_toArray, List.set_cons_zero, List.set_cons_succ, Nat.reduceAdd];exact rfl
     case st20 =>
      intro hctx;refine JC.p hctx ?_;refine JC.ca (fun vals W hN hd hk => (aGi (f) false W (HF2.out) (by have := HL.out; omega)).mono (by rintro e W9 ⟨rfl, hq9⟩; exact ⟨(.bool false), rfl, rfl, hq9⟩)) hctx ?_;refine JC.p hctx ?_;refine JC.p hctx ?_;refine JC.n hctx ?_;refine JC.n hctx ?_;refine JC.n hctx ?_;refine JC.n hctx ?_;refine JC.n hctx ?_;refine JC.n hctx ?_;refine JC.p hctx ?_;exact Ja.Steps.nil
     intro vals w8 hq8 hall;have hG8 := hG7.trans hq8;have hR8 := hR7.q hq8;clear hG7 hR7;have f76 : vals 10 = .bool true := hall 10 (by decide);rw [f76];clear f76;clear hall;go_upto_region 14 with fail
     have hAt8 : At0 w [⟨none, w.heap.size, 32, [.i, .s, .s], .agg #[.int .i64 0, .slice none 0 0, .slice none 0 0], 1, 0⟩] [] w8 := At0.of hG8 ⟨bA hR8 (by omega), trivial⟩ (by simp [dO]) trivial;clear hG8 hR8;refine cK (F := ?F21) w ([.gen (pRn (0)), .any, .eq (.int .i64 (6))] : List Vs) _ _ (by kernel_rfl) hAt8 ?hF21 ?st21 ?en21
     case hF21 =>
      intro vals;simp only [Ja.fillL, Act.put, List.setIfInBounds_toArray, List.set_cons_zero, List.set_cons_succ, Nat.reduceAdd];exact rfl
     case st21 =>
      clear hAt8;intro hctx;refine JC.o hctx ?_ ?_
      ·intro L vals W hL hJ hd K hK;go_simp
       exact hK.out (.agg #[.int .i64 0, .slice none 0 0, .slice none 0 0]) _ _ (by kernel_rfl) (Rq.none W) (Q.refl _)
      refine JC.s3 (n := 0) rfl fRn hctx ?_;refine JC.p hctx ?_;exact Ja.Steps.nil
     intro L vals w9 hall hJ;clear hAt8;have hG9 := hJ.q;obtain ⟨AR1, kR1, cR1, AR2, kR2, cR2, hR9, nR9⟩ := aFQ (g := w.heap.size) (t := 32) (hJ.stored 0 rfl rfl (hall 1 (by decide))) (show Rq w9 (vals 0) (0) from hJ.s 0 (hall 0 (by decide)));have f3 : vals 2 = .int .i64 (6) := hJ.s 2 (hall 2 (by decide));rw [f3];clear f3;clear hall hJ;go_wp2_with fail
     have zR0 : w9.cell? ⟨w.heap.size, 0, none⟩ = some (.int .i64 (sn (0))) := hR9.cell 0 rfl;have zR1 : w9.cell? ⟨w.heap.size, 1, none⟩ = some (.slice AR1 kR1 cR1) := hR9.cell 1 rfl;have zR2 : w9.cell? ⟨w.heap.size, 2, none⟩ = some (.slice AR2 kR2 cR2) := hR9.cell 2 rfl;refine bodyPost_ret (v := .tuple #[.agg #[.int .i64 (sn (0)), .slice AR1 kR1 cR1, .slice AR2 kR2 cR2], .int .i64 6]) (by simp [results, Tryz.results18, go_sem, zR0, zR1, zR2]) rfl ?_;exact ⟨_, by rw [HRD.out, aGn HF2.out], by rw [HRD.out, aGn HF2.out]; exact nR9, hG9⟩
   ·have HW := Lib.hid hW; clear hW;obtain rfl : two = false := (by rw [← Ht.out]; exact decide_eq_false HW.out);refine bJ (F := ?F22) ([.eq (.string (ofK V)), .gen (pT3 (pEq (.string (ofK (f)))) (pEq (.string (ofK (b)))) (pEq (.bool false))), .gen (pT3 (pEq (.string (ofK (f)))) (pEq (.string (ofK (b)))) (pEq (.bool false))), .eq (.string (ofK (f))), .eq (.string (ofK (b))), .eq (.bool false), .eq (.string (ofK (f))), .eq (.string (ofK (b))), .eq (.bool false)] : List Vs) ?hF22 ?st22 ?en22
    case hF22 =>
     intro vals;simp only [Ja.fillL, Act.put, List.setIfInBounds_toArray, List.set_cons_zero, List.set_cons_succ, Nat.reduceAdd];exact rfl
    case st22 =>
     intro hctx;refine JC.p hctx ?_;refine JC.ca (fun vals W hN hd hk => (aGm (ofK V) 46 false (f) (b) W (Hf.out) (Hb.out) (Ht.out) (by rw [aA3]; exact HL.out.2.1)).mono (by rintro e W9 ⟨rfl, hq9⟩; exact ⟨(.tuple #[.string (ofK (f)), .string (ofK (b)), .bool false]), rfl, ⟨_, _, _, rfl, rfl, rfl, rfl⟩, hq9⟩)) hctx ?_;refine JC.m 1 hctx ?_;refine JC.o hctx ?_ ?_
     ·intro L vals W hL hJ hd K hK;have d2 : (pT3 (pEq (.string (ofK (f)))) (pEq (.string (ofK (b)))) (pEq (.bool false))).p (vals 2) W := hd 2 (by kernel_rfl);generalize vals 2 = u2 at d2 hK ⊢;obtain ⟨e0, e1, e2, rfl, he0, he1, he2⟩ := d2;obtain rfl : e0 = .string (ofK (f)) := he0;go_simp
      exact hK.out (.string (ofK (f))) _ _ (by kernel_rfl) rfl (Q.refl _)
     refine JC.o hctx ?_ ?_
     ·intro L vals W hL hJ hd K hK;have d2 : (pT3 (pEq (.string (ofK (f)))) (pEq (.string (ofK (b)))) (pEq (.bool false))).p (vals 2) W := hd 2 (by kernel_rfl);generalize vals 2 = u2 at d2 hK ⊢;obtain ⟨e0, e1, e2, rfl, he0, he1, he2⟩ := d2;obtain rfl : e1 = .string (ofK (b)) := he1;go_simp
      exact hK.out (.string (ofK (b))) _ _ (by kernel_rfl) rfl (Q.refl _)
     refine JC.o hctx ?_ ?_
     ·intro L vals W hL hJ hd K hK;have d2 : (pT3 (pEq (.string (ofK (f)))) (pEq (.string (ofK (b)))) (pEq (.bool false))).p (vals 2) W := hd 2 (by kernel_rfl);generalize vals 2 = u2 at d2 hK ⊢;obtain ⟨e0, e1, e2, rfl, he0, he1, he2⟩ := d2;obtain rfl : e2 = .bool false := he2;go_simp
      exact hK.out (.bool false) _ _ (by kernel_rfl) rfl (Q.refl _)
     refine JC.p hctx ?_;refine JC.p hctx ?_;refine JC.p hctx ?_;exact Ja.Steps.nil
    intro vals w7 hq7 hall;have hG7 := hG6.trans hq7;have hR7 := hR6.q hq7;clear hG6 hR6;have f10 : vals 6 = .string (ofK (f)) := hall 6 (by decide);rw [f10];clear f10;have f11 : vals 7 = .string (ofK (b)) := hall 7 (by decide);rw [f11];clear f11;have f12 : vals 8 = .bool false := hall 8 (by decide);rw [f12];clear f12;clear hall;go_upto_region 13 with fail
    by_cases hF1 : mP f = true
    ·have HF1 := Lib.hid hF1; clear hF1;obtain rfl : b = [] := (by rw [← Hb.out]; exact (qV HW.out).2);have HB1 : Hid (aY ([] : List UInt8)) := Lib.hid (fun c hc => by cases hc);refine bJ (F := ?F23) ([.eq (.string (ofK f)), .eq (.bool true), .eq (.bool false), .eq (.bool false), .eq (.bool false), .eq (.bool false), .no, .no, .no, .eq (.bool false), .eq (.bool false)] : List Vs) ?hF23 ?st23 ?en23
     case hF23 =>
      intro vals;simp only [Ja.fillL, Act.put, List.setIfInBounds_toArray, List.set_cons_zero, List.set_cons_succ, Nat.reduceAdd];exact rfl
     case st23 =>
      intro hctx;refine JC.p hctx ?_;refine JC.ca (fun vals W hN hd hk => (aGi (f) true W (HF1.out) (by have := HL.out; omega)).mono (by rintro e W9 ⟨rfl, hq9⟩; exact ⟨(.bool true), rfl, rfl, hq9⟩)) hctx ?_;refine JC.p hctx ?_;refine JC.p hctx ?_;refine JC.p hctx ?_;refine JC.p hctx ?_;refine JC.n hctx ?_;refine JC.n hctx ?_;refine JC.n hctx ?_;refine JC.p hctx ?_;refine JC.p hctx ?_;exact Ja.Steps.nil
     intro vals w8 hq8 hall;have hG8 := hG7.trans hq8;have hR8 := hR7.q hq8;clear hG7 hR7;have f76 : vals 10 = .bool false := hall 10 (by decide);rw [f76];clear f76;clear hall;go_upto_region 15 with fail
     by_cases hLn : 400 < f.length + (([] : List UInt8)).length
     ·have HLn := Lib.hid hLn; clear hLn;refine bJ (F := ?F24) ([.eq (.string (ofK f)), .eq (.int .i64 (((f).length : Int))), .eq (.string (ofK ([] : List UInt8))), .eq (.int .i64 (((([] : List UInt8)).length : Int))), .eq (.int .i64 (((f).length : Int) + ((([] : List UInt8)).length : Int))), .eq (.bool true)] : List Vs) ?hF24 ?st24 ?en24
      case hF24 =>
       intro vals;simp only [Ja.fillL, Act.put, List.setIfInBounds_toArray, List.set_cons_zero, List.set_cons_succ, Nat.reduceAdd];exact rfl
      case st24 =>
       intro hctx;refine JC.p hctx ?_;refine JC.o hctx ?_ ?_
       ·intro L vals W hL hJ hd K hK;have d0 : vals 0 = .string (ofK f) := hd 0 (by kernel_rfl);generalize vals 0 = u0 at d0 hK ⊢;subst d0;go_simp
        rw [aA3];exact hK.out (.int .i64 (((f).length : Int))) _ _ (by kernel_rfl) rfl (Q.refl _)
       refine JC.p hctx ?_;refine JC.o hctx ?_ ?_
       ·intro L vals W hL hJ hd K hK;have d2 : vals 2 = .string (ofK ([] : List UInt8)) := hd 2 (by kernel_rfl);generalize vals 2 = u2 at d2 hK ⊢;subst d2;go_simp
        rw [aA3];exact hK.out (.int .i64 (((([] : List UInt8)).length : Int))) _ _ (by kernel_rfl) rfl (Q.refl _)
       refine JC.u (.int .i64 (IntKind.i64.wrap ((((f).length : Int)) + (((([] : List UInt8)).length : Int))))) (by exact congrArg (Value.int .i64) (dA (by have := HL.out; omega) (by have := HL.out; omega))) hctx ?_;refine JC.u (.bool (decide ((400) < (((f).length : Int) + ((([] : List UInt8)).length : Int))))) (congrArg Value.bool (decide_eq_true (show ((((f).length : Int) + ((([] : List UInt8)).length : Int) : Int) > 400) from by have := HLn.out; omega))) hctx ?_;exact Ja.Steps.nil
      intro vals w9 hq9 hall;have hG9 := hG8.trans hq9;have hR9 := hR8.q hq9;clear hG8 hR8;have f83 : vals 5 = .bool true := hall 5 (by decide);rw [f83];clear f83;clear hall;go_upto_region 16 with fail
      have hAt9 : At0 w [⟨none, w.heap.size, 32, [.i, .s, .s], .agg #[.int .i64 0, .slice none 0 0, .slice none 0 0], 1, 0⟩] [] w9 := At0.of hG9 ⟨bA hR9 (by omega), trivial⟩ (by simp [dO]) trivial;clear hG9 hR9;refine cK (F := ?F25) w ([.gen (pRn (0)), .any, .eq (.int .i64 (3))] : List Vs) _ _ (by kernel_rfl) hAt9 ?hF25 ?st25 ?en25
      case hF25 =>
       intro vals;simp only [Ja.fillL, Act.put, List.setIfInBounds_toArray, List.set_cons_zero, List.set_cons_succ, Nat.reduceAdd];exact rfl
      case st25 =>
       clear hAt9;intro hctx;refine JC.o hctx ?_ ?_
       ·intro L vals W hL hJ hd K hK;go_simp
        exact hK.out (.agg #[.int .i64 0, .slice none 0 0, .slice none 0 0]) _ _ (by kernel_rfl) (Rq.none W) (Q.refl _)
       refine JC.s3 (n := 0) rfl fRn hctx ?_;refine JC.p hctx ?_;exact Ja.Steps.nil
      intro L vals w10 hall hJ;clear hAt9;have hG10 := hJ.q;obtain ⟨AR1, kR1, cR1, AR2, kR2, cR2, hR10, nR10⟩ := aFQ (g := w.heap.size) (t := 32) (hJ.stored 0 rfl rfl (hall 1 (by decide))) (show Rq w10 (vals 0) (0) from hJ.s 0 (hall 0 (by decide)));have f3 : vals 2 = .int .i64 (3) := hJ.s 2 (hall 2 (by decide));rw [f3];clear f3;clear hall hJ;go_wp2_with fail
      have zR0 : w10.cell? ⟨w.heap.size, 0, none⟩ = some (.int .i64 (sn (0))) := hR10.cell 0 rfl;have zR1 : w10.cell? ⟨w.heap.size, 1, none⟩ = some (.slice AR1 kR1 cR1) := hR10.cell 1 rfl;have zR2 : w10.cell? ⟨w.heap.size, 2, none⟩ = some (.slice AR2 kR2 cR2) := hR10.cell 2 rfl;refine bodyPost_ret (v := .tuple #[.agg #[.int .i64 (sn (0)), .slice AR1 kR1 cR1, .slice AR2 kR2 cR2], .int .i64 3]) (by simp [results, Tryz.results18, go_sem, zR0, zR1, zR2]) rfl ?_;exact ⟨_, by rw [HRD.out, aGk HF1.out (fun h => by cases h) HLn.out], by rw [HRD.out, aGk HF1.out (fun h => by cases h) HLn.out]; exact nR10, hG10⟩
     ·have HLn := Lib.hid hLn; clear hLn;refine bJ (F := ?F26) ([.eq (.string (ofK f)), .eq (.int .i64 (((f).length : Int))), .eq (.string (ofK ([] : List UInt8))), .eq (.int .i64 (((([] : List UInt8)).length : Int))), .eq (.int .i64 (((f).length : Int) + ((([] : List UInt8)).length : Int))), .eq (.bool false)] : List Vs) ?hF26 ?st26 ?en26
      case hF26 =>
       intro vals;simp only [Ja.fillL, Act.put, List.setIfInBounds_toArray, List.set_cons_zero, List.set_cons_succ, Nat.reduceAdd];exact rfl
      case st26 =>
       intro hctx;refine JC.p hctx ?_;refine JC.o hctx ?_ ?_
       ·intro L vals W hL hJ hd K hK;have d0 : vals 0 = .string (ofK f) := hd 0 (by kernel_rfl);generalize vals 0 = u0 at d0 hK ⊢;subst d0;go_simp
        rw [aA3];exact hK.out (.int .i64 (((f).length : Int))) _ _ (by kernel_rfl) rfl (Q.refl _)
       refine JC.p hctx ?_;refine JC.o hctx ?_ ?_
       ·intro L vals W hL hJ hd K hK;have d2 : vals 2 = .string (ofK ([] : List UInt8)) := hd 2 (by kernel_rfl);generalize vals 2 = u2 at d2 hK ⊢;subst d2;go_simp
        rw [aA3];exact hK.out (.int .i64 (((([] : List UInt8)).length : Int))) _ _ (by kernel_rfl) rfl (Q.refl _)
       refine JC.u (.int .i64 (IntKind.i64.wrap ((((f).length : Int)) + (((([] : List UInt8)).length : Int))))) (by exact congrArg (Value.int .i64) (dA (by have := HL.out; omega) (by have := HL.out; omega))) hctx ?_;refine JC.u (.bool (decide ((400) < (((f).length : Int) + ((([] : List UInt8)).length : Int))))) (congrArg Value.bool (decide_eq_false (show ¬ ((((f).length : Int) + ((([] : List UInt8)).length : Int) : Int) > 400) from by have := HLn.out; omega))) hctx ?_;exact Ja.Steps.nil
      intro vals w9 hq9 hall;have hG9 := hG8.trans hq9;have hR9 := hR8.q hq9;clear hG8 hR8;have f83 : vals 5 = .bool false := hall 5 (by decide);rw [f83];clear f83;clear hall;go_upto_region 17 with fail
      have hcat : ¬ 9223372036854775807 < (ofK f).size + (ofK ([] : List UInt8)).size := (by rw [aA3, aA3]; have := HL.out; omega);have HAD : Hid (aY (f ++ ([] : List UInt8)) ∧ (f ++ ([] : List UInt8)).length ≤ 400) := Lib.hid ⟨aGA (pF.1 HF1.out).1 HB1.out, by rw [List.length_append]; have := HLn.out; omega⟩;have Zq : Hid (sz (sgQ neg ((dv (f ++ ([] : List UInt8)) : Nat) : Rat)) ≤ 401) := Lib.hid (aGJ neg HAD.out.1 HAD.out.2);have hs9 := hR9.lt;have N1 : Hid (dg B30 (dv (f ++ ([] : List UInt8))) ≤ 400) := Lib.hid (by have h99 := aGZ HAD.out.1 HAD.out.2; skip; omega);have B2 : Hid (31 * dg B30 (dv (f ++ ([] : List UInt8))) + 80 ≤ LIM) := Lib.hid (by have h50 := N1.out; skip; rw [aA] at *; omega);have N3 : Hid (dg B30 (1) ≤ 1) := Lib.hid (by have h99 := qM; skip; omega);have B4 : Hid (31 * dg B30 (1) + 80 ≤ LIM) := Lib.hid (by have h50 := N3.out; skip; rw [aA] at *; omega);have hAt9 : At0 w9 [⟨some 7, 0, 32, [.i, .s, .s], .agg #[.int .i64 0, .slice none 0 0, .slice none 0 0], 8, 6⟩] [] w9 := At0.of (Q.refl _) ⟨fun h => (by cases h), trivial⟩ (by simp [dO]) trivial;refine cK (F := ?F27) w9 ([.eq (.int .i64 (sg)), .eq (.string (ofK f)), .eq (.string (ofK ([] : List UInt8))), .eq (.string (ofK (f ++ ([] : List UInt8)))), .gen (lZ (dv (f ++ ([] : List UInt8)))), .gen (lZ (1)), .gen (pRn (sgQ neg ((dv (f ++ ([] : List UInt8)) : Nat) : Rat))), .any, .any] : List Vs) _ _ (by kernel_rfl) hAt9 ?hF27 ?st27 ?en27
      case hF27 =>
       intro vals;simp only [Ja.fillL, Act.put, List.setIfInBounds_toArray, List.set_cons_zero, List.set_cons_succ, Nat.reduceAdd];exact rfl
      case st27 =>
       clear hAt9;intro hctx;refine JC.p hctx ?_;refine JC.p hctx ?_;refine JC.p hctx ?_;refine JC.o hctx ?_ ?_
       ·intro L vals W hL hJ hd K hK;have d1 : vals 1 = .string (ofK f) := hd 1 (by kernel_rfl);generalize vals 1 = u1 at d1 hK ⊢;subst d1;have d2 : vals 2 = .string (ofK ([] : List UInt8)) := hd 2 (by kernel_rfl);generalize vals 2 = u2 at d2 hK ⊢;subst d2;go_simp
        rw [aGy];exact hK.out (.string (ofK (f ++ ([] : List UInt8)))) _ _ (by kernel_rfl) rfl (Q.refl _)
       refine JC.ca (fun vals W hN hd hk => (aGt (f ++ ([] : List UInt8)) W (HAD.out.1) (by have := HAD.out.2; rw [aA]; omega)).mono (by rintro e W9 ⟨r, rfl, hr, hq9, -⟩; exact ⟨r, rfl, hr, hq9⟩)) hctx ?_;refine JC.ca (fun vals W hN hd hk => (xJ W).mono (by rintro e W9 ⟨r, rfl, hr, hq9, -⟩; exact ⟨r, rfl, hr, hq9⟩)) hctx ?_;refine JC.ca (fun vals W hN hd hk => (zU (sg) _ _ (dv (f ++ ([] : List UInt8))) (1) (sgQ neg ((dv (f ++ ([] : List UInt8)) : Nat) : Rat)) W (hd 4 (by kernel_rfl)) (hd 5 (by kernel_rfl)) (fun _ => Nat.one_pos) (sg3 Hsg.out) (aGz Hsg.out) (fun h9 => by omega) B2.out B4.out).mono (by rintro e W9 ⟨r, rfl, hr, hq9⟩; exact ⟨r, rfl, hr, hq9⟩)) hctx ?_;refine Ja.Steps.cons (JC.alloc (n := 0) (cells := [.int .i64 0, .slice none 0 0, .slice none 0 0].toArray) (t := 32) hctx (by kernel_rfl) (by rfl) (by kernel_rfl) (by rfl) (by rfl) (by kernel_rfl) (by rfl) (fun W => NbV.mk (t := 32) (ck := [.i, .s, .s]) (row := [.int .i64 0, .slice none 0 0, .slice none 0 0]) ⟨⟨_, rfl⟩, ⟨_, _, _, rfl⟩, ⟨_, _, _, rfl⟩, trivial⟩ (Bx.new W _ _)) ?_) ?_
       ·intro vals W K hK;go_simp
        exact hK.out _ (by kernel_rfl)
       refine JC.s3 (n := 0) rfl fRn hctx ?_;exact Ja.Steps.nil
      intro L vals w10 hall hJ;clear hAt9;have hq10 := hJ.q;have hG10 := hG9.trans hq10;have hR10 := hR9.q hq10;clear hG9 hR9;obtain ⟨gX, eX, geX, qX⟩ := hJ.fresh 0 rfl rfl (hall 7 (by decide)) (hall 8 (by decide));obtain ⟨AX1, kX1, cX1, AX2, kX2, cX2, hX10, nX10⟩ := aFQ (g := gX) (t := 32) qX (show Rq w10 (vals 6) (sgQ neg ((dv (f ++ ([] : List UInt8)) : Nat) : Rat)) from hJ.s 6 (hall 6 (by decide)));clear qX;rw [eX];clear eX;clear hall hJ;go_upto_region 18 with fail
      have Z5 : Hid (sz (aS (P - ((([] : List UInt8)).length : Int))) ≤ 1002) := Lib.hid (by have h99 := qD (P - ((([] : List UInt8)).length : Int)); have h98 := (show (P - ((([] : List UInt8)).length : Int)).natAbs ≤ 1000 by have h1 := HPb.out; have h2 := HLn.out; omega); skip; omega);have Z6 : Hid (sz ((sgQ neg ((dv (f ++ ([] : List UInt8)) : Nat) : Rat)) * (aS (P - ((([] : List UInt8)).length : Int)))) ≤ 1403) := Lib.hid (by have h99 := qC (sgQ neg ((dv (f ++ ([] : List UInt8)) : Nat) : Rat)) (aS (P - ((([] : List UInt8)).length : Int))); have h0 := Zq.out; have h1 := Z5.out; omega);have B7 : Hid (1000 * (sz (sgQ neg ((dv (f ++ ([] : List UInt8)) : Nat) : Rat)) + sz (aS (P - ((([] : List UInt8)).length : Int)))) + 10000 ≤ LIM) := Lib.hid (by have h0 := Zq.out; have h1 := Z5.out; rw [aA] at *; omega);have hAt10 : At0 w [⟨none, w.heap.size, 32, [.i, .s, .s], .agg #[.int .i64 0, .slice none 0 0, .slice none 0 0], 7, 6⟩, ⟨none, gX, 32, [.i, .s, .s], .agg #[.int .i64 (sn (sgQ neg ((dv (f ++ ([] : List UInt8)) : Nat) : Rat))), .slice AX1 kX1 cX1, .slice AX2 kX2 cX2], 1000, 0⟩] [(.agg #[.int .i64 (sn (sgQ neg ((dv (f ++ ([] : List UInt8)) : Nat) : Rat))), .slice AX1 kX1 cX1, .slice AX2 kX2 cX2], .gen (pRn (sgQ neg ((dv (f ++ ([] : List UInt8)) : Nat) : Rat))))] w10 := At0.of hG10 ⟨bA hR10 (by omega), bA hX10 (by omega), trivial⟩ (by (simp [dO] <;> omega)) ⟨nX10, trivial⟩;clear hG10 hR10 hX10 nX10;refine mE (F := ?F28) w ([.gen (pRn (sgQ neg ((dv (f ++ ([] : List UInt8)) : Nat) : Rat))), .eq (.int .i64 (P)), .eq (.string (ofK ([] : List UInt8))), .eq (.int .i64 (((([] : List UInt8)).length : Int))), .eq (.int .i64 (P - ((([] : List UInt8)).length : Int))), .gen (pRn (aS (P - ((([] : List UInt8)).length : Int)))), .gen (pRn ((sgQ neg ((dv (f ++ ([] : List UInt8)) : Nat) : Rat)) * (aS (P - ((([] : List UInt8)).length : Int))))), .any, .eq (.int .i64 (0))] : List Vs) _ _ (by kernel_rfl) (by kernel_rfl) hAt10 ?hF28 ?st28 ?en28
      case hF28 =>
       intro vals;simp only [Ja.fillL, Act.put, List.setIfInBounds_toArray, List.set_cons_zero, List.set_cons_succ, Nat.reduceAdd];exact rfl
      case st28 =>
       clear hAt10;intro hctx;refine JC.r3 (off := 0) (row := [.int .i64 (sn (sgQ neg ((dv (f ++ ([] : List UInt8)) : Nat) : Rat))), .slice AX1 kX1 cX1, .slice AX2 kX2 cX2]) (fun _ _ _ hL hJ => hJ.still 1 rfl rfl (Nat.le_of_ble_eq_true (by kernel_rfl))) (fun _ _ _ hJ => (hJ.kept 0 rfl)) hctx ?_;refine JC.p hctx ?_;refine JC.p hctx ?_;refine JC.o hctx ?_ ?_
       ·intro L vals W hL hJ hd K hK;have d2 : vals 2 = .string (ofK ([] : List UInt8)) := hd 2 (by kernel_rfl);generalize vals 2 = u2 at d2 hK ⊢;subst d2;go_simp
        rw [aA3];exact hK.out (.int .i64 (((([] : List UInt8)).length : Int))) _ _ (by kernel_rfl) rfl (Q.refl _)
       refine JC.u (.int .i64 (IntKind.i64.wrap ((P) - (((([] : List UInt8)).length : Int))))) (by exact congrArg (Value.int .i64) (dA (by have h1 := HPb.out; have h2 := HLn.out; omega) (by have h1 := HPb.out; have h2 := HLn.out; omega))) hctx ?_;refine JC.ca (fun vals W hN hd hk => (aGI (P - ((([] : List UInt8)).length : Int)) W (by have h1 := HPb.out; have h2 := HLn.out; omega)).mono (by rintro e W9 ⟨r, rfl, hr, hq9⟩; exact ⟨r, rfl, hr, hq9⟩)) hctx ?_;refine JC.ca (fun vals W hN hd hk => (aGr _ _ (sgQ neg ((dv (f ++ ([] : List UInt8)) : Nat) : Rat)) (aS (P - ((([] : List UInt8)).length : Int))) W (hd 0 (by kernel_rfl)) (hd 5 (by kernel_rfl)) B7.out).mono (by rintro e W9 ⟨r, rfl, hr, hq9⟩; exact ⟨r, rfl, hr, hq9⟩)) hctx ?_;refine JC.s3 (n := 0) rfl fRn hctx ?_;refine JC.p hctx ?_;exact Ja.Steps.nil
      intro L vals w11 hall hJ;clear hAt10;have hG11 := hJ.q;obtain ⟨AR1, kR1, cR1, AR2, kR2, cR2, hR11, nR11⟩ := aFQ (g := w.heap.size) (t := 32) (hJ.stored 0 rfl rfl (hall 7 (by decide))) (show Rq w11 (vals 6) ((sgQ neg ((dv (f ++ ([] : List UInt8)) : Nat) : Rat)) * (aS (P - ((([] : List UInt8)).length : Int)))) from hJ.s 6 (hall 6 (by decide)));have f3 : vals 8 = .int .i64 (0) := hJ.s 8 (hall 8 (by decide));rw [f3];clear f3;clear hall hJ;go_wp2_with fail
      have zR0 : w11.cell? ⟨w.heap.size, 0, none⟩ = some (.int .i64 (sn ((sgQ neg ((dv (f ++ ([] : List UInt8)) : Nat) : Rat)) * (aS (P - ((([] : List UInt8)).length : Int)))))) := hR11.cell 0 rfl;have zR1 : w11.cell? ⟨w.heap.size, 1, none⟩ = some (.slice AR1 kR1 cR1) := hR11.cell 1 rfl;have zR2 : w11.cell? ⟨w.heap.size, 2, none⟩ = some (.slice AR2 kR2 cR2) := hR11.cell 2 rfl;refine bodyPost_ret (v := .tuple #[.agg #[.int .i64 (sn ((sgQ neg ((dv (f ++ ([] : List UInt8)) : Nat) : Rat)) * (aS (P - ((([] : List UInt8)).length : Int))))), .slice AR1 kR1 cR1, .slice AR2 kR2 cR2], .int .i64 0]) (by simp [results, Tryz.results18, go_sem, zR0, zR1, zR2]) rfl ?_;exact ⟨_, by rw [HRD.out, aGp HF1.out (fun h => by cases h) HLn.out], by rw [HRD.out, aGp HF1.out (fun h => by cases h) HLn.out]; exact nR11, hG11⟩
    ·have HF1 := Lib.hid hF1; clear hF1;have HF2 : Hid (mP f = false) := Lib.hid (by have h := HF1.out; rwa [Bool.not_eq_true] at h);refine bJ (F := ?F29) ([.eq (.string (ofK f)), .eq (.bool false), .eq (.bool true), .eq (.bool true), .no, .no, .no, .no, .no, .no, .eq (.bool true)] : List Vs) ?hF29 ?st29 ?en29
     case hF29 =>
      intro vals;simp only [Ja.fillL, Act.put, List.setIfInBounds_toArray, List.set_cons_zero, List.set_cons_succ, Nat.reduceAdd];exact rfl
     case st29 =>
      intro hctx;refine JC.p hctx ?_;refine JC.ca (fun vals W hN hd hk => (aGi (f) false W (HF2.out) (by have := HL.out; omega)).mono (by rintro e W9 ⟨rfl, hq9⟩; exact ⟨(.bool false), rfl, rfl, hq9⟩)) hctx ?_;refine JC.p hctx ?_;refine JC.p hctx ?_;refine JC.n hctx ?_;refine JC.n hctx ?_;refine JC.n hctx ?_;refine JC.n hctx ?_;refine JC.n hctx ?_;refine JC.n hctx ?_;refine JC.p hctx ?_;exact Ja.Steps.nil
     intro vals w8 hq8 hall;have hG8 := hG7.trans hq8;have hR8 := hR7.q hq8;clear hG7 hR7;have f76 : vals 10 = .bool true := hall 10 (by decide);rw [f76];clear f76;clear hall;go_upto_region 14 with fail
     have hAt8 : At0 w [⟨none, w.heap.size, 32, [.i, .s, .s], .agg #[.int .i64 0, .slice none 0 0, .slice none 0 0], 1, 0⟩] [] w8 := At0.of hG8 ⟨bA hR8 (by omega), trivial⟩ (by simp [dO]) trivial;clear hG8 hR8;refine cK (F := ?F30) w ([.gen (pRn (0)), .any, .eq (.int .i64 (6))] : List Vs) _ _ (by kernel_rfl) hAt8 ?hF30 ?st30 ?en30
     case hF30 =>
      intro vals;simp only [Ja.fillL, Act.put, List.setIfInBounds_toArray, List.set_cons_zero, List.set_cons_succ, Nat.reduceAdd];exact rfl
     case st30 =>
      clear hAt8;intro hctx;refine JC.o hctx ?_ ?_
      ·intro L vals W hL hJ hd K hK;go_simp
       exact hK.out (.agg #[.int .i64 0, .slice none 0 0, .slice none 0 0]) _ _ (by kernel_rfl) (Rq.none W) (Q.refl _)
      refine JC.s3 (n := 0) rfl fRn hctx ?_;refine JC.p hctx ?_;exact Ja.Steps.nil
     intro L vals w9 hall hJ;clear hAt8;have hG9 := hJ.q;obtain ⟨AR1, kR1, cR1, AR2, kR2, cR2, hR9, nR9⟩ := aFQ (g := w.heap.size) (t := 32) (hJ.stored 0 rfl rfl (hall 1 (by decide))) (show Rq w9 (vals 0) (0) from hJ.s 0 (hall 0 (by decide)));have f3 : vals 2 = .int .i64 (6) := hJ.s 2 (hall 2 (by decide));rw [f3];clear f3;clear hall hJ;go_wp2_with fail
     have zR0 : w9.cell? ⟨w.heap.size, 0, none⟩ = some (.int .i64 (sn (0))) := hR9.cell 0 rfl;have zR1 : w9.cell? ⟨w.heap.size, 1, none⟩ = some (.slice AR1 kR1 cR1) := hR9.cell 1 rfl;have zR2 : w9.cell? ⟨w.heap.size, 2, none⟩ = some (.slice AR2 kR2 cR2) := hR9.cell 2 rfl;refine bodyPost_ret (v := .tuple #[.agg #[.int .i64 (sn (0)), .slice AR1 kR1 cR1, .slice AR2 kR2 cR2], .int .i64 6]) (by simp [results, Tryz.results18, go_sem, zR0, zR1, zR2]) rfl ?_;exact ⟨_, by rw [HRD.out, aGn HF2.out], by rw [HRD.out, aGn HF2.out]; exact nR9, hG9⟩
end Go.Proofs.YtgpacgadpnpjjaaGreatDoor.K
