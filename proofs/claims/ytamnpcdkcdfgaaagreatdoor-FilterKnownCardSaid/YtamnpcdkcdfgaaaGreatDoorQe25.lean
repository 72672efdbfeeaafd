/- FilterKnown holds. No condition. -/
import Derived.Deep.DeepHandedRow
import Derived.LaidMore
import Derived.Lay
import Derived.OpenShut
import Derived.ProofKit
import Derived.Test.YtamnpcdkcdfgaaaGreatDoorCards
import Derived.Test.YtamnpcdkcdfgaaaGreatDoorTie
import Derived.Test.YtamnpcdkcdfgaaaGreatDoorQe18
namespace Go.Proofs.YtamnpcdkcdfgaaaGreatDoor
open Go.RowKit Go.ChangeShapes Go.WideShapes Go.ChangeAt
open Ma Me
theorem own : ownKnob Tryz.prog.godebug = none := by kernel_rfl
def mR : List (String × DataW Unit) := [("math/bits.deBruijn64tab", Rows.laid_math_bits_deBruijn64tab), ("pentode/value.prefixes", Rows.laid_pentode_value_prefixes)]
theorem aKB : Rows.laid_math_bits_deBruijn64tab (H := Unit) = .agg (Lib.deBruijn64tab.map fun (n : Nat) => (DataW.lit (.int .u8 (n : Int)) : DataW Unit)) := by kernel_rfl
theorem aNM {W : World} (h : laidMetH Tryz.prog mR W) : Tb W := by
 rw [MakeChecks.laidMetH_plain _ _ _ (by kernel_rfl)] at h;obtain ⟨ps, ⟨g, t, cs, fuel, p, q, hg, ht, hv, hd, _, _⟩, _, _⟩ := h;obtain rfl := Option.some.inj ((show Tryz.prog.globalNamed "math/bits.deBruijn64tab" = some 5 by kernel_rfl).symm.trans hg);obtain ⟨t', ht'⟩ : ∃ t', (Tryz.prog.globals[(5 : Nat)]?).map (·.type) = some t' ∧ (∃ e, Tryz.prog.underlying t' = some (.array 64 e) ∧ Tryz.prog.cellsOf e = 1 ∧ Tryz.prog.underlying e = some (.int .u8)) :=
  ⟨449, by kernel_rfl, ⟨5, by kernel_rfl, by kernel_rfl, by kernel_rfl⟩⟩
 obtain ⟨ht1, e, hu, c5, hue⟩ := ht';obtain rfl := Option.some.inj (ht1.symm.trans ht);obtain ⟨xs, m, _, ex, _, hl, hel⟩ := DataW.trod_array hu hd;intro r hr;have hlen : Lib.deBruijn64tab.length = 64 := by kernel_rfl
 have hE := hel r (by omega);rw [c5, Nat.mul_one, List.getElem?_eq_getElem (by omega)] at hE;obtain ⟨z, e1, e2, _⟩ := DataW.trod_int hue hE;rw [aKB] at ex;have e3 := (DataW.agg.inj (Prod.mk.inj ex).1).symm;have e4 : (xs.map (·.1))[r]? = (Lib.deBruijn64tab.map fun (n : Nat) => (DataW.lit (.int .u8 (n : Int)) : DataW Unit))[r]? := by rw [e3]
 rw [List.getElem?_map, List.getElem?_map, List.getElem?_eq_getElem (by omega : r < xs.length), List.getElem?_eq_getElem hr, e2] at e4;have hz : z = ((Lib.deBruijn64tab.getD r 0 : Nat) : Int) := by
  simp only [Option.map_some, Option.some.injEq, DataW.lit.injEq, Lit.int.injEq, true_and] at e4;rw [e4, List.getD, List.getElem?_eq_getElem hr]; rfl
 rw [World.var?_cell hg hv r, ← hz];have : cs.toList[r]? = some (.int .u8 z) := by
  have h0 : ((cs.toList.drop r).take 1)[0]? = some (.int .u8 z) := (by rw [e1]; rfl);simpa using h0
 simpa using this
theorem aKC : Rows.laid_pentode_value_prefixes (H := Unit) = .agg ((List.range 10).map fun k => .agg [.lit (.string (letter k)), .lit (.int .i64 (dW k))]) := by kernel_rfl
theorem aDB (k : Nat) (hk : k < 10) : iJ.toList[k * 2]? = some (.string (eQ k)) ∧ iJ.toList[k * 2 + 1]? = some (.int .i64 (dW k)) := by
 rcases (by omega : k = 0 ∨ k = 1 ∨ k = 2 ∨ k = 3 ∨ k = 4 ∨ k = 5 ∨ k = 6 ∨ k = 7 ∨ k = 8 ∨ k = 9) with h | h | h | h | h | h | h | h | h | h <;> subst h <;> exact ⟨rfl, rfl⟩
set_option maxRecDepth 100000 in
theorem aNN {W : World} (h : laidMetH Tryz.prog mR W) : Px W := by
 rw [MakeChecks.laidMetH_plain _ _ _ (by kernel_rfl)] at h;obtain ⟨ps, ⟨_, _, _, _, _, _, _, _, _, _, ⟨g, t, cs, fuel, p, q, hg, ht, hv, hd, _, _⟩, _⟩, _, _⟩ := h;obtain rfl := Option.some.inj ((show Tryz.prog.globalNamed "pentode/value.prefixes" = some 6 by kernel_rfl).symm.trans hg);obtain rfl := Option.some.inj ((show (Tryz.prog.globals[(6 : Nat)]?).map (·.type) = some 469 by kernel_rfl).symm.trans ht);obtain ⟨f0, f1, hu2, hf0, hf1, ho0, ho1, hc0, hc1⟩ : ∃ f0 f1 : Field, Tryz.prog.underlying 468 = some (.struct #[f0, f1]) ∧ Tryz.prog.underlying f0.type = some .string ∧ Tryz.prog.underlying f1.type = some (.int .i64) ∧ f0.offset = 0 ∧ f1.offset = 1 ∧ Tryz.prog.cellsOf f0.type = 1 ∧ Tryz.prog.cellsOf f1.type = 1 :=
  ⟨_, _, rfl, by kernel_rfl, by kernel_rfl, by kernel_rfl, by kernel_rfl, by kernel_rfl, by kernel_rfl⟩
 have hu : Tryz.prog.underlying 469 = some (.array 10 468) := by kernel_rfl
 have c2 : Tryz.prog.cellsOf 468 = 2 := by kernel_rfl
 have c20 : Tryz.prog.cellsOf 469 = 20 := by kernel_rfl
 obtain ⟨xs, m, _, ex, hcl, hl, hel⟩ := DataW.trod_array hu hd;rw [aKC] at ex;have e3 := (DataW.agg.inj (Prod.mk.inj ex).1).symm;have key : ∀ k, k < 10 → cs.toList[k * 2]? = some (.string (eQ k)) ∧ cs.toList[k * 2 + 1]? = some (.int .i64 (dW k)) := by
  intro k hk;have hE := hel k hk;rw [c2, List.getElem?_eq_getElem (by omega)] at hE;obtain ⟨y0, y1, n, e5, _, h0, h1⟩ := trod_struct2 hu2 hE;rw [ho0, hc0] at h0;rw [ho1, hc1] at h1;obtain ⟨s, a1, a2, _⟩ := DataW.trod_string hf0 h0;obtain ⟨z, b1, b2, _⟩ := DataW.trod_int hf1 h1;have e4 : (xs.map (·.1))[k]? = ((List.range 10).map fun k => (DataW.agg [.lit (.string (letter k)), .lit (.int .i64 (dW k))] : DataW Unit))[k]? := (by rw [e3]);rw [List.getElem?_map, List.getElem?_map, List.getElem?_eq_getElem (by omega : k < xs.length), List.getElem?_eq_getElem (by simpa using hk), e5, a2, b2] at e4;simp only [Option.map_some, Option.some.injEq, DataW.agg.injEq, List.cons.injEq, DataW.lit.injEq, Lit.string.injEq, Lit.int.injEq, true_and, and_true, List.getElem_range] at e4;obtain ⟨e6, e7⟩ := e4;have hs : s = eQ k := by
   unfold eQ;rw [← e6]
  constructor
  ·have h2 : (((((cs.toList.drop (k * 2)).take 2).drop 0).take 1))[0]? = some (.string s) := (by rw [a1]; rfl);rw [← hs];simpa [List.getElem?_take, List.getElem?_drop] using h2
  ·have h2 : (((((cs.toList.drop (k * 2)).take 2).drop 1).take 1))[0]? = some (.int .i64 z) := (by rw [b1]; rfl);rw [← e7];simpa [List.getElem?_take, List.getElem?_drop] using h2
 have hcs : cs = iJ := by
  apply Array.ext';apply List.ext_getElem?;intro j;by_cases hj : j < 20
  ·obtain ⟨k, hk, h2⟩ : ∃ k, k < 10 ∧ (j = k * 2 ∨ j = k * 2 + 1) := ⟨j / 2, by omega, by omega⟩
   rcases h2 with rfl | rfl
   ·rw [(key k hk).1, (aDB k hk).1]
   ·rw [(key k hk).2, (aDB k hk).2]
  ·rw [c20] at hcl;rw [List.getElem?_eq_none (by omega), List.getElem?_eq_none (by have : iJ.toList.length = 20 := rfl; omega)]
 simp only [World.var?, hg, Option.bind_some] at hv;unfold Px;split at hv
 ·rename_i c t fr hh;injection hv with hv;subst hv;rw [← hcs];exact ⟨t, fr, hh⟩
 ·cases hv
theorem aAl {H : Type} {enc : TypeId × Value → H} {P : Program} {f : Func} {s : ChangeSpec} {apart fresh handsOn again : Bool} {W W' : World} {args : Array Value} {v : Value} {ds gs : List (DataW H)} (hW : DataW.Whole enc P f.params.toList s.vars apart W args.toList ds gs []) (hres : ∀ (b : Nat) (sp : Nat → Bool) (hd : Bool), DataW.TrodAll enc P W' b sp hd f.resultTypes.toList (v.resultList f.resultTypes.size) (s.fn H (ds ++ gs)).results []) (hargs : ∀ sp : Nat → Bool, DataW.TrodAll enc P W' 0 sp true f.params.toList args.toList (s.fn H (ds ++ gs)).args []) (hvars : ∀ sp : Nat → Bool, DataW.TrodVars enc P W' sp s.vars (s.fn H (ds ++ gs)).vars []) (hk : W.keptBut W' (· ∈ ([] : List MemPlace))) (hok : ∀ (j : Nat) (t : TypeId) (r : Value), f.resultTypes[j]? = some t → (v.resultList f.resultTypes.size)[j]? = some r → Value.okWide P W' .any 0 t r) :
  s.post enc P f apart fresh handsOn again W args v W' := by
 refine ⟨ds, gs, [], [], [], [], hW, hres _ _ _, hargs _, hvars _, World.keptBut_mono (fun p hp => by cases hp) hk, fun _ => ?_⟩;refine ⟨hok, _, _, ([] ++ []) ++ [], ⟨[] ++ [], [], trodAll_append (hargs _) (hres _ _ _), hvars _, rfl, ?_, ?_⟩, ?_⟩
 ·intro b off hp;simp at hp
 ·intro _;simp
 ·intro p hp _;simp at hp
end Go.Proofs.YtamnpcdkcdfgaaaGreatDoor
