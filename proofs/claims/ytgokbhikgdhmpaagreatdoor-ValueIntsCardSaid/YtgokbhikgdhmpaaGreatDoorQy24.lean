/- x. Part of the proof: texts Ka7 Ra1 Ra2 Ra3 Ra4 Ra5 Ra6 Ra7. -/
import Derived.BigQuiet
import Derived.Deep.DeepMust
import Derived.Deep.QuietTactic
import Derived.StillTailTactics
import Derived.Test.YtgokbhikgdhmpaaGreatDoorProg
import Derived.WalkKit
import Derived.WalkLawsBesides
import Derived.WalkSpells
import Derived.Test.YtgokbhikgdhmpaaGreatDoorQy01
import Derived.Test.YtgokbhikgdhmpaaGreatDoorQy04
import Derived.Test.YtgokbhikgdhmpaaGreatDoorQy07
import Derived.Test.YtgokbhikgdhmpaaGreatDoorQy23
set_option maxHeartbeats 1000000
namespace Go.Proofs.YtgokbhikgdhmpaaGreatDoor.K
open Go.RowKit
open Ma Me
theorem st6 {ρ : Operand → Value} {o : Oper} {w : World} {g : Nat} {t : TypeId} {v0 v1 v2 v3 v4 v5 u0 u1 u2 u3 u4 u5 : Value} {T : TypeId} {x y : Operand} (hb : Bx w g t [u0, u1, u2, u3, u4, u5]) (o0 : v0.oneCell' = true) (o1 : v1.oneCell' = true) (o2 : v2.oneCell' = true) (o3 : v3.oneCell' = true) (o4 : v4.oneCell' = true) (o5 : v5.oneCell' = true) (ho : o.op = .store T x y) (hx : ρ x = .pointer (some ⟨g, 0, none⟩)) (hy : ρ y = .agg #[v0, v1, v2, v3, v4, v5]) (hS : ∀ w, Sem.run Tryz.prog (sizeOf T) w = .ok 6 w) :
  (execOp ρ o).run Tryz.prog w = .ok .skip (gF w g 0 [v0, v1, v2, v3, v4, v5]) := by
 have fz := hb.frozen;have c0 := hb.cell 0 rfl;have c1 := hb.cell 1 rfl;have c2 := hb.cell 2 rfl;have c3 := hb.cell 3 rfl;have c4 := hb.cell 4 rfl;have c5 := hb.cell 5 rfl;unfold execOp;rw [ho];simp [hx, hy, go_sem, hS, storeCells, Addr.add, fz, c0, c1, c2, c3, c4, c5, gF, o0, o1, o2, o3, o4, o5, run_store]
section
variable {ops : Array Oper} {l : List Vs} {cs : List Ce} {ks : List (Value × Vs)} {F : (Nat → Value) → Act} {a : Act} {w0 : World} {i : Nat} {o : Oper} {rest : List Oper}
theorem JC.s6 {n : Nat} {x : Ce} {T : TypeId} {p y : Operand} (hx : cs[n]? = some x) (form : ∀ v W, (l.getD x.src .any).holds v W → ∃ v0 v1 v2 v3 v4 v5, v = .agg #[v0, v1, v2, v3, v4, v5] ∧ Sh x.ck [v0, v1, v2, v3, v4, v5]) (c : Ctx ops a F) (hr : Ja.Steps Tryz.prog ops (JC w0 ops l cs ks) F (i + 1) rest)
  (ho : ops[i]? = some o := by rfl) (hop : o.op = .store T p y := by rfl) (hp : ∀ vals, (F vals).eval p = x.ptr vals := by intro vals; kernel_rfl) (hy : ∀ vals, (F vals).eval y = vals x.src := by intro vals; kernel_rfl)
  (hty : (x.t != 2) = true := by kernel_rfl) (hst : x.st = i := by rfl) (hf : ((cs.eraseIdx n).all fun c => c.al != some i && c.st != i) = true := by kernel_rfl) (hl : l.getD i .any = .any := by rfl) (hok : (l.all Vs.ok && ks.all fun p => p.2.ok) = true := by kernel_rfl)
  (hck : bZ ops cs = true := by kernel_rfl) (hg : bV ops l o true = true := by kernel_rfl) (hS : ∀ w, Sem.run Tryz.prog (sizeOf T) w = .ok 6 w := by intro _; kernel_rfl) :
  Ja.Steps Tryz.prog ops (JC w0 ops l cs ks) F i (o :: rest) :=
 Ja.Steps.cons (JC.store c hck ho hg hx (bne_iff_ne.1 hty) hst hf hl hok (fun L vals w g old hJ hpt ho' hs K hK => by
  obtain ⟨v0, v1, v2, v3, v4, v5, e, hsh⟩ := form _ _ hs;obtain ⟨row, e2, hsr, hb⟩ := ho';have hlen : row.length = 6 := (by rw [hsr.length, ← hsh.length]; rfl);obtain ⟨u0, u1, u2, u3, u4, u5, rfl⟩ : ∃ u0 u1 u2 u3 u4 u5, row = [u0, u1, u2, u3, u4, u5] := by
   match row, hlen with
   | [u0, u1, u2, u3, u4, u5], _ => exact ⟨_, _, _, _, _, _, rfl⟩
  have h1 := st6 hb (Sh.one hsh v0 (by simp)) (Sh.one hsh v1 (by simp)) (Sh.one hsh v2 (by simp)) (Sh.one hsh v3 (by simp)) (Sh.one hsh v4 (by simp)) (Sh.one hsh v5 (by simp)) hop ((hp vals).trans hpt) ((hy vals).trans e) hS;unfold Oper.wp;rw [h1, Oper.upon_skip];exact hK.out undef _ _ rfl ⟨_, e, hsh, rfl⟩)) hr
theorem JC.r6 {g : Nat} {t T : TypeId} {ck : List Ck} {row : List Value} {v0 v1 v2 v3 v4 v5 : Value} {x : Operand} (hst : ∀ L vals W, L i = false → JC w0 ops l cs ks L vals W → NbV W g t ck (.agg row.toArray)) (hv : ∀ L vals W, JC w0 ops l cs ks L vals W → (l.getD i .any).holds (.agg #[v0, v1, v2, v3, v4, v5]) W) (c : Ctx ops a F) (hr : Ja.Steps Tryz.prog ops (JC w0 ops l cs ks) F (i + 1) rest)
  (ho : ops[i]? = some o := by rfl) (hop : o.op = .load T x := by rfl) (hx : ∀ vals, (F (jT l o vals)).eval x = .pointer (some ⟨g, 0, none⟩) := by intro vals; kernel_rfl)
  (hc0 : row[0]? = some v0 := by rfl) (hc1 : row[1]? = some v1 := by rfl) (hc2 : row[2]? = some v2 := by rfl) (hc3 : row[3]? = some v3 := by rfl) (hc4 : row[4]? = some v4 := by rfl) (hc5 : row[5]? = some v5 := by rfl)
  (hck : bZ ops cs = true := by kernel_rfl) (hg : bV ops l o true = true := by kernel_rfl) (hf : (cs.all fun c => c.al != some i && c.st != i) = true := by kernel_rfl)
  (hT : ∀ w, Sem.run Tryz.prog (isAgg T) w = .ok true w := by intro _; kernel_rfl) (hS : ∀ w, Sem.run Tryz.prog (sizeOf T) w = .ok 6 w := by intro _; kernel_rfl) :
  Ja.Steps Tryz.prog ops (JC w0 ops l cs ks) F i (o :: rest) :=
 JC.o c (fun L vals w hL hJ hd K hK => by
  have hb := NbV.out (hst L vals w hL hJ);have h := ld6 (hb.cell 0 hc0) (hb.cell 1 hc1) (hb.cell 2 hc2) (hb.cell 3 hc3) (hb.cell 4 hc4) (hb.cell 5 hc5) hop (hx vals) hT hS;rw [iY hd] at h;unfold Oper.wp;rw [h, Oper.upon_value];exact hK.out _ w _ rfl (hv L vals w hJ) (Q.refl _)) hr hck ho hg hf
end
theorem rO {p q : Rat} : ∀ v W, (Vs.gen (iG p q)).holds v W → ∃ v0 v1 v2 v3 v4 v5, v = .agg #[v0, v1, v2, v3, v4, v5] ∧ Sh [.b, .s, .s, .b, .s, .s] [v0, v1, v2, v3, v4, v5] := fun v W h => by
 obtain ⟨s1, A1, n1, c1, A2, n2, c2, s2, A3, n3, c3, A4, n4, c4, e, -⟩ := (show Ns W v p q from h)
 exact ⟨_, _, _, _, _, _, e, ⟨_, rfl⟩, ⟨_, _, _, rfl⟩, ⟨_, _, _, rfl⟩, ⟨_, rfl⟩, ⟨_, _, _, rfl⟩, ⟨_, _, _, rfl⟩, trivial⟩
theorem iQ {w : World} {g : Nat} {t : TypeId} {v : Value} {q : Rat} (h : NbV w g t [.b, .s, .s] v) (hq : Nq w v q) : ∃ s A1 k1 c1 A2 k2 c2, Bx w g t [.bool s, .slice A1 k1 c1, .slice A2 k2 c2] ∧ Nq w (.agg #[.bool s, .slice A1 k1 c1, .slice A2 k2 c2]) q := by
 obtain ⟨s, A1, n1, c1, A2, n2, c2, rfl, -⟩ := Nq.form hq;exact ⟨_, _, _, _, _, _, _, NbV.out (row := [.bool s, .slice A1 n1 c1, .slice A2 n2 c2]) h, hq⟩
theorem nS {w : World} {g : Nat} {t : TypeId} {v : Value} {p q : Rat} (h : NbV w g t [.b, .s, .s, .b, .s, .s] v) (hq : Ns w v p q) : ∃ s A1 k1 c1 A2 k2 c2 s' A3 k3 c3 A4 k4 c4,
  Bx w g t [.bool s, .slice A1 k1 c1, .slice A2 k2 c2, .bool s', .slice A3 k3 c3, .slice A4 k4 c4] ∧ Ns w (.agg #[.bool s, .slice A1 k1 c1, .slice A2 k2 c2, .bool s', .slice A3 k3 c3, .slice A4 k4 c4]) p q := by
 have hq2 := hq;obtain ⟨s1, A1, n1, c1, A2, n2, c2, s2, A3, n3, c3, A4, n4, c4, rfl, -⟩ := hq2;exact ⟨_, _, _, _, _, _, _, _, _, _, _, _, _, _, NbV.out (row := [.bool s1, .slice A1 n1 c1, .slice A2 n2 c2, .bool s2, .slice A3 n3 c3, .slice A4 n4 c4]) h, hq⟩
theorem kS {w0 w : World} {g : Nat} {t : TypeId} {s : Bool} {A1 A2 : Option Addr} {k1 c1 k2 c2 : Nat} (h : Bx w g t [.bool s, .slice A1 k1 c1, .slice A2 k2 c2]) (hg : w0.heap.size ≤ g) {P : Prop} : P → w0.heap.size ≤ g ∧ NbV w g t [.b, .s, .s] (.agg #[.bool s, .slice A1 k1 c1, .slice A2 k2 c2]) :=
 fun _ => ⟨hg, _, rfl, ⟨⟨_, rfl⟩, ⟨_, _, _, rfl⟩, ⟨_, _, _, rfl⟩, trivial⟩, h⟩
theorem mM {w0 w : World} {g : Nat} {t : TypeId} {s s' : Bool} {A1 A2 A3 A4 : Option Addr} {k1 c1 k2 c2 k3 c3 k4 c4 : Nat} (h : Bx w g t [.bool s, .slice A1 k1 c1, .slice A2 k2 c2, .bool s', .slice A3 k3 c3, .slice A4 k4 c4]) (hg : w0.heap.size ≤ g) {P : Prop} : P → w0.heap.size ≤ g ∧ NbV w g t [.b, .s, .s, .b, .s, .s] (.agg #[.bool s, .slice A1 k1 c1, .slice A2 k2 c2, .bool s', .slice A3 k3 c3, .slice A4 k4 c4]) :=
 fun _ => ⟨hg, _, rfl, ⟨⟨_, rfl⟩, ⟨_, _, _, rfl⟩, ⟨_, _, _, rfl⟩, ⟨_, rfl⟩, ⟨_, _, _, rfl⟩, ⟨_, _, _, rfl⟩, trivial⟩, h⟩
theorem aAW {fn : Func} {R : Ending → World → Prop} {a : Act} {w : World} {g : Nat} {t T : TypeId} {c : Nat} {v0 v1 v2 v3 v4 v5 : Value} (hb : Bx w g t [v0, v1, v2, v3, v4, v5]) (hR : R (.returned (.agg #[v0, v1, v2, v3, v4, v5])) w)
  (hres : fn.results = #[.cell c T] := by rfl) (hslot : a.tmps.getD c undef = .pointer (some ⟨g, 0, none⟩) := by kernel_rfl) (hT : ∀ w, Sem.run Tryz.prog (isAgg T) w = .ok true w := by intro _; kernel_rfl) (hS : ∀ w, Sem.run Tryz.prog (sizeOf T) w = .ok 6 w := by intro _; kernel_rfl)
  (hd : a.defers = [] := by rfl) : bodyPost Tryz.prog fn R .ret a w := by
 have h0 := hb.cell 0 rfl;have h1 := hb.cell 1 rfl;have h2 := hb.cell 2 rfl;have h3 := hb.cell 3 rfl;have h4 := hb.cell 4 rfl;have h5 := hb.cell 5 rfl;refine bodyPost_ret (v := .agg #[v0, v1, v2, v3, v4, v5]) ?_ hd hR;unfold results;rw [hres];rw [Array.getD_eq_getD_getElem?] at hslot;simp [go_sem, hslot, hT, hS, loadVar, loadCells, loadCellsFrom, Addr.add, h0, h1, h2, h3, h4, h5]
end Go.Proofs.YtgokbhikgdhmpaaGreatDoor.K
namespace Go.Proofs.YtgokbhikgdhmpaaGreatDoor
open Go.RowKit
open Ma Me
theorem mU (A : Option Addr) (c B n : Nat) (ds : List Nat) (w : World) (hn : ds.length = n) (hc : n ≤ c) (hm : n ≤ 9223372036854775807) (hx : Rd .i64 w B A ds) :
  Calls Tryz.prog 181 #[.slice A n c] w fun e w' => ∃ k, k ≤ ds.length ∧ e = .returned (.slice A k c) ∧ Nz (ds.take k) ∧ (∀ b, vl b (ds.take k) = vl b ds) ∧ w = w' := by
 subst hn;go_enter Tryz.func181, Tryz.ntmps181
 go_wp2
 go_loop [3] (fun i => ∃ k : Nat, k ≤ ds.length ∧ i = .int .i64 (k : Int) ∧ ∀ b, vl b (ds.take k) = vl b ds) (fun i => (intOf i).toNat)
 case atStart => exact ⟨ds.length, by omega, rfl, fun b => by simp⟩
 case round =>
  obtain ⟨k, hk, rfl, hv⟩ := hrel;have HV := Lib.hid hv; clear hv;by_cases hlt : 0 < k
  ·obtain ⟨j, rfl⟩ : ∃ j, k = j + 1 := ⟨k - 1, by omega⟩
   obtain ⟨ad, rfl, hb, hcell⟩ := hx.at_ (k := j) (by omega);by_cases h0 : ds[j] = 0
   ·have h0' : ((ds[j] : Int) == 0) = true := (by simp [h0]);have H : ∀ b, vl b (ds.take j) = vl b ds := fun b => (by rw [← HV.out b, fH b (by omega), h0]; simp);have H := Lib.hid H; clear h0 HV;go_wp2
    exact ⟨⟨j, by omega, rfl, H.out⟩, by simp [intOf]⟩
   ·have h0' : ((ds[j] : Int) == 0) = false := (by simp; omega);have H : Nz (ds.take (j + 1)) := xJ (by omega) h0;clear h0;go_wp2
    go_ret
    exact ⟨j + 1, by omega, rfl, H, HV.out, rfl⟩
  ·obtain rfl : k = 0 := (by omega);go_wp2
   go_ret
   exact ⟨0, by omega, rfl, zR, HV.out, rfl⟩
theorem aCq (A B : Option Addr) (n c d : Nat) (xs ys : List Nat) (w : World) (lx : Hid (xs.length = n)) (ly : Hid (ys.length = n)) (hn : n ≤ 9223372036854775807) (rx : Rd .i64 w w.heap.size A xs) (ry : Rd .i64 w w.heap.size B ys) (wx : Wf B30 xs) (wy : Wf B30 ys) :
  Calls Tryz.prog 134 #[.slice A n c, .slice B n d] w fun e w' => e = .returned (.int .i64 (cmp (vl B30 xs) (vl B30 ys))) ∧ Q w w' := by
 go_enter Tryz.func134, Tryz.ntmps134
 go_wp2
 go_loopw [5] (fun i w1 => ∃ k : Nat, k ≤ n ∧ i = .int .i64 ((k : Int) - 1) ∧ xs.drop k = ys.drop k ∧ ∃ m, w1 = w.drewN m) (fun i _ => (intOf i + 1).toNat)
 case atStart => exact ⟨n, by omega, rfl, by rw [List.drop_of_length_le (by rw [lx.out]; omega), List.drop_of_length_le (by rw [ly.out]; omega)], 0, rfl⟩
 case round =>
  obtain ⟨k, hk, rfl, hdrop, m, rfl⟩ := hrel;have HD := Lib.hid hdrop; clear hdrop;by_cases hlt : 0 < k
  ·obtain ⟨j, rfl⟩ : ∃ j, k = j + 1 := ⟨k - 1, by omega⟩
   have jx : j < xs.length := (by rw [lx.out]; omega);have jy : j < ys.length := (by rw [ly.out]; omega);obtain ⟨ad, rfl, hb, hcx⟩ := rx.at_ jx;obtain ⟨ae, rfl, hb', hcy⟩ := ry.at_ jy;rw [show ((j + 1 : Nat) : Int) - 1 = (j : Int) from by omega];have HX := Lib.hid (List.getElem?_eq_getElem jx);have HY := Lib.hid (List.getElem?_eq_getElem jy);generalize xs[j] = x at *
   generalize ys[j] = y at *
   clear jx jy hb hb';rcases Nat.lt_trichotomy x y with h | h | h
   ·go_wp2
    go_quiet (fail)
    go_wp2
    go_ret
    exact ⟨by rw [fZ (lW wx.1 HD.out HX.out HY.out h)]; rfl, (by repeat (first | exact Q.refl _ | refine Q.drewN ?_ _))⟩
   ·subst h;go_wp2
    go_quiet (fail)
    go_wp2
    go_quiet (fail)
    go_wp2
    refine ⟨⟨j, by omega, rfl, ?_, _, rfl⟩, by simp [intOf]⟩;obtain ⟨jx, ex⟩ := List.getElem?_eq_some_iff.1 HX.out;obtain ⟨jy, ey⟩ := List.getElem?_eq_some_iff.1 HY.out;rw [List.drop_eq_getElem_cons jx, List.drop_eq_getElem_cons jy, ex, ey, HD.out]
   ·go_wp2
    go_quiet (fail)
    go_wp2
    go_quiet (fail)
    go_wp2
    go_ret
    exact ⟨by rw [iA (lW wy.1 HD.out.symm HY.out HX.out h)]; rfl, (by repeat (first | exact Q.refl _ | refine Q.drewN ?_ _))⟩
  ·obtain rfl : k = 0 := (by omega);rw [show ((0 : Nat) : Int) - 1 = -1 from by omega];go_wp2
   go_ret
   have e : xs = ys := (by simpa using HD.out);exact ⟨by rw [e, cmp_eq]; rfl, (by repeat (first | exact Q.refl _ | refine Q.drewN ?_ _))⟩
theorem fU (x y : Value) (M N : Nat) (w : World) (hx : Nr w x M) (hy : Nr w y N) (hM : dg B30 M ≤ LIM) (hN : dg B30 N ≤ LIM) :
  Calls Tryz.prog 134 #[x, y] w fun e w' => e = .returned (.int .i64 (cmp M N)) ∧ Q w w' := by
 obtain ⟨A, c, xs, rfl, hc, rx, wx, rfl⟩ := hx;obtain ⟨B, d, ys, rfl, hd, ry, wy, rfl⟩ := hy;rw [← wx.len aH, aA] at hM;rw [← wy.len aH, aA] at hN;rcases Nat.lt_trichotomy xs.length ys.length with hlt | heq | hgt
 ·have h := Wf.len_lt (b := B30) (by decide) wx.1 wy.2 hlt;rw [fZ h];clear h;go_enter Tryz.func134, Tryz.ntmps134
  go_wp2
  go_ret
  exact ⟨rfl, Q.refl _⟩
 ·obtain ⟨n, hn⟩ : ∃ n, xs.length = n := ⟨_, rfl⟩
  have hn2 : ys.length = n := (by omega);rw [hn, hn2];exact aCq A B n c d xs ys w hn hn2 (by omega) rx ry wx wy
 ·have h := Wf.len_lt (b := B30) (by decide) wy.1 wx.2 hgt;rw [iA h];clear h;go_enter Tryz.func134, Tryz.ntmps134
  go_wp2
  go_ret
  exact ⟨rfl, Q.refl _⟩
theorem rP : (Tryz.prog.info? 2).map (fun i => (i.zero, i.size, i.bytes)) = some (some (.int .i64 0), 1, 8) := by kernel_rfl
theorem pY (n : Nat) (e : Int) (he : e = (n : Int)) (hn : n ≤ LIM) (w : World) :
  (Instr.makeSlice 30 (.int .i64 e) (.int .i64 e)).run Tryz.prog w = .ok (.slice (some ⟨w.heap.size, 0, none⟩) n n) (w.alloc (.cells (zs .i64 n) 2)) := by
 rw [aA] at hn;subst he;rw [← uK];exact run_make_row' _ _ _ 8 Tryz.underlying30 rP rfl _ _ n (by omega) (by omega) w
theorem aFB (n c : Nat) (a b : Int) (ha : a = (n : Int)) (hb : b = (c : Int)) (hnc : n ≤ c) (hc : c ≤ LIM) (w : World) :
  (Instr.makeSlice 30 (.int .i64 a) (.int .i64 b)).run Tryz.prog w = .ok (.slice (some ⟨w.heap.size, 0, none⟩) n c) (w.alloc (.cells (zs .i64 c) 2)) := by
 rw [aA] at hc;subst ha hb;obtain ⟨i, hi, h1, h2, h3⟩ := info_parts rP;have h := run_make (P := Tryz.prog) w 30 2 i (.int .i64 0) Tryz.underlying30 hi h1 .i64 .i64 (n : Int) (c : Int) (by omega) (by omega) (by rw [h3]; omega) (by omega);rw [h2] at h;simp only [Int.toNat_natCast, Nat.mul_one] at h;rw [h, ← uK];rfl
theorem xE (x y : Value) (M N : Nat) (w : World) (hx : Nr w x M) (hy : Nr w y N) (hM : dg B30 M + 1 ≤ LIM) (hN : dg B30 N + 1 ≤ LIM) :
  Calls Tryz.prog 138 #[x, y] w (nW (M + N) w) := by
 have hlen : dg B30 N ≤ dg B30 M ∨ dg B30 M < dg B30 N := by omega
 rcases hlen with hlen | hlen
 case' inl =>
  obtain ⟨A, c, xs, rfl, hc, rx, wx, rfl⟩ := hx;obtain ⟨B, d, ys, rfl, hd, ry, wy, rfl⟩ := hy;rw [← wx.len aH, ← wy.len aH] at hlen;rw [← wx.len aH] at hM;rw [← wy.len aH] at hN
 case' inr =>
  obtain ⟨B, d, ys, rfl, hd, ry, wy, rfl⟩ := hx;obtain ⟨A, c, xs, rfl, hc, rx, wx, rfl⟩ := hy;rw [← wx.len aH, ← wy.len aH] at hlen;rw [← wy.len aH] at hM;rw [← wx.len aH] at hN;rw [Nat.add_comm (vl B30 ys)]
 all_goals
  have hmk := pY (xs.length + 1) ((xs.length : Int) + 1) rfl (by omega);rw [aA] at hM hN;go_enter Tryz.func138, Tryz.ntmps138
  go_wp2
  go_loopw [6, 7] (fun cv iv w1 => ∃ (k cy : Nat) (out : List Nat), k ≤ xs.length ∧ iv = .int .i64 (k : Int) ∧ cv = .int .i64 (cy : Int) ∧ cy ≤ 1 ∧
      out.length = xs.length + 1 ∧ (∀ d ∈ out, d < B30) ∧ vl B30 (out.take k) + B30 ^ k * cy = vl B30 (xs.take k) + vl B30 (ys.take k) ∧
      Blk .i64 w1 w.heap.size 2 out ∧ Q w w1) (fun _ iv _ => xs.length - (intOf iv).toNat)
  case atStart => exact ⟨0, 0, List.replicate (xs.length + 1) 0, by omega, rfl, rfl, by omega, by simp, dV (by decide), by simp [vl], Blk.made _ _ _, (Q.refl _).alloc _⟩
  case round =>
   obtain ⟨k, cy, out, hk, rfl, rfl, hcy, hl, ho, hv, hb, hq⟩ := hrel;have HV := Lib.hid hv; clear hv;have HL := Lib.hid hl; clear hl;by_cases hlt : k < xs.length
   ·obtain ⟨ad, rfl, hbk, hcx⟩ := (rx.below hq).at_ hlt;have hcell := hb.cell (i := k) (by rw [HL.out]; omega);have hfz := hb.frozen k;have bx : xs[k] < 1073741824 := wx.1 _ (List.getElem_mem _);have HX := Lib.hid (List.getElem?_eq_getElem hlt);generalize xs[k] = x at *
    by_cases hlt2 : k < ys.length
    ·obtain ⟨ae, rfl, hbk', hcy'⟩ := (ry.below hq).at_ hlt2;have by_ : ys[k] < 1073741824 := wy.1 _ (List.getElem_mem _);have HY := Lib.hid (List.getElem?_eq_getElem hlt2);generalize ys[k] = y at *
     go_wp2
     refine ⟨⟨k + 1, (cy + x + y) / B30, out.set k ((cy + x + y) % B30), by omega, by go_num, congrArg (Value.int _) (by rw [aR]; omega), by rw [aR]; omega,
      by rw [List.length_set, HL.out], dO ho (Nat.mod_lt _ (by decide)), ?_, hb.put k _ (by rw [aR]; omega), hq.setCell (Nat.le_refl _) _⟩, by simp [intOf]; omega⟩
     rw [cZ _ (by rw [HL.out]; omega), bO _ HX.out, bO _ HY.out];exact vU HV.out rfl (Nat.mod_add_div _ _).symm
    ·go_wp2
     refine ⟨⟨k + 1, (cy + x) / B30, out.set k ((cy + x) % B30), by omega, by go_num, congrArg (Value.int _) (by rw [aR]; omega), by rw [aR]; omega,
      by rw [List.length_set, HL.out], dO ho (Nat.mod_lt _ (by decide)), ?_, hb.put k _ (by rw [aR]; omega), hq.setCell (Nat.le_refl _) _⟩, by simp [intOf]; omega⟩
     rw [cZ _ (by rw [HL.out]; omega), bO _ HX.out, lI _ (by omega)];exact vU HV.out (by omega) (Nat.mod_add_div _ _).symm
   ·obtain rfl : k = xs.length := (by omega);have hcell := hb.cell (i := xs.length) (by rw [HL.out]; omega);have hfz := hb.frozen xs.length;go_wp2_with fail
    have hb2 := hb.put xs.length cy (e := (cy : Int)) rfl;refine (mU _ _ (w.heap.size + 1) _ _ _ (by rw [List.length_set, HL.out]) (Nat.le_refl _) (by omega) (hb2.rd (Nat.lt_succ_self _))).mono ?_;rintro e w2 ⟨k, hk2, rfl, hnz, hv, rfl⟩;go_wp2
    go_ret
    have ho2 := dO (k := xs.length) ho (show cy < B30 by rw [aR]; omega);refine ⟨_, rfl, Nn.of_blk hb2 hk2 (by rw [List.length_set, HL.out] at hk2; exact hk2) hnz ho2 ?_, hq.setCell (Nat.le_refl _) _, Nw.at_ (Nat.le_refl _)⟩
    rw [hv, ← List.take_of_length_le (l := out.set xs.length cy) (i := xs.length + 1) (by rw [List.length_set, HL.out]; omega), cZ _ (by rw [HL.out]; omega), HV.out,
     List.take_length, List.take_of_length_le (by omega)]
theorem jO (x y : Value) (M N : Nat) (w : World) (hx : Nr w x M) (hy : Nr w y N) (hle : N ≤ M) (hM : dg B30 M + 1 ≤ LIM) :
  Calls Tryz.prog 139 #[x, y] w (nW (M - N) w) := by
 obtain ⟨A, c, xs, rfl, hc, rx, wx, rfl⟩ := hx;obtain ⟨B, d, ys, rfl, hd, ry, wy, rfl⟩ := hy;have hlen := Wf.len_le (by decide) wx wy hle;rw [← wx.len aH] at hM;have hmk := pY xs.length (xs.length : Int) rfl (by omega);rw [aA] at hM;go_enter Tryz.func139, Tryz.ntmps139
 go_wp2
 go_loopw [6, 7, 8] (fun lv iv _ w1 => ∃ (k l : Nat) (out : List Nat), k ≤ xs.length ∧ iv = .int .i64 (k : Int) ∧ lv = .int .i64 (l : Int) ∧ l ≤ 1 ∧
     out.length = xs.length ∧ (∀ d ∈ out, d < B30) ∧ vl B30 (xs.take k) + B30 ^ k * l = vl B30 (out.take k) + vl B30 (ys.take k) ∧
     Blk .i64 w1 w.heap.size 2 out ∧ Q w w1) (fun _ iv _ _ => xs.length - (intOf iv).toNat)
 case atStart => exact ⟨0, 0, List.replicate xs.length 0, by omega, rfl, rfl, by omega, by simp, dV (by decide), by simp [vl], Blk.made _ _ _, (Q.refl _).alloc _⟩
 case round =>
  obtain ⟨k, l, out, hk, rfl, rfl, hl1, hl, ho, hv, hb, hq⟩ := hrel;have HV := Lib.hid hv; clear hv;have HL := Lib.hid hl; clear hl;by_cases hlt : k < xs.length
  ·obtain ⟨ad, rfl, hbk, hcx⟩ := (rx.below hq).at_ hlt;have hcell := hb.cell (i := k) (by rw [HL.out]; omega);have hfz := hb.frozen k;have bx : xs[k] < 1073741824 := wx.1 _ (List.getElem_mem _);have HX := Lib.hid (List.getElem?_eq_getElem hlt);generalize xs[k] = x at *
   by_cases hlt2 : k < ys.length
   ·obtain ⟨ae, rfl, hbk', hcy'⟩ := (ry.below hq).at_ hlt2;have by_ : ys[k] < 1073741824 := wy.1 _ (List.getElem_mem _);have HY := Lib.hid (List.getElem?_eq_getElem hlt2);generalize ys[k] = y at *
    by_cases hn : x < l + y
    ·go_wp2
     refine ⟨⟨k + 1, 1, out.set k (x + B30 - l - y), by omega, by go_num, rfl, by omega,
      by rw [List.length_set, HL.out], dO ho (by rw [aR]; omega), ?_, hb.put k _ (by rw [aR]; omega), hq.setCell (Nat.le_refl _) _⟩, by simp [intOf]; omega⟩
     rw [cZ _ (by rw [HL.out]; omega), bO _ HX.out, bO _ HY.out];exact lJ HV.out (by rw [aR]; omega)
    ·go_wp2
     refine ⟨⟨k + 1, 0, out.set k (x - l - y), by omega, by go_num, rfl, by omega,
      by rw [List.length_set, HL.out], dO ho (by rw [aR]; omega), ?_, hb.put k _ (by omega), hq.setCell (Nat.le_refl _) _⟩, by simp [intOf]; omega⟩
     rw [cZ _ (by rw [HL.out]; omega), bO _ HX.out, bO _ HY.out];exact lJ HV.out (by omega)
   ·by_cases hn : x < l
    ·go_wp2
     refine ⟨⟨k + 1, 1, out.set k (x + B30 - l), by omega, by go_num, rfl, by omega,
      by rw [List.length_set, HL.out], dO ho (by rw [aR]; omega), ?_, hb.put k _ (by rw [aR]; omega), hq.setCell (Nat.le_refl _) _⟩, by simp [intOf]; omega⟩
     rw [cZ _ (by rw [HL.out]; omega), bO _ HX.out, lI _ (by omega)];exact lJ HV.out (by rw [aR]; omega)
    ·go_wp2
     refine ⟨⟨k + 1, 0, out.set k (x - l), by omega, by go_num, rfl, by omega,
      by rw [List.length_set, HL.out], dO ho (by rw [aR]; omega), ?_, hb.put k _ (by omega), hq.setCell (Nat.le_refl _) _⟩, by simp [intOf]; omega⟩
     rw [cZ _ (by rw [HL.out]; omega), bO _ HX.out, lI _ (by omega)];exact lJ HV.out (by omega)
  ·obtain rfl : k = xs.length := (by omega);go_wp2_with fail
   refine (mU _ _ (w.heap.size + 1) _ _ _ HL.out (Nat.le_refl _) (by omega) (hb.rd (Nat.lt_succ_self _))).mono ?_;rintro e w2 ⟨k, hk2, rfl, hnz, hv, rfl⟩;go_wp2
   go_ret
   refine ⟨_, rfl, Nn.of_blk hb hk2 (by rw [HL.out] at hk2; exact hk2) hnz ho ?_, hq, Nw.at_ (Nat.le_refl _)⟩;rw [hv];refine vV ho HL.out hle (l := l) ?_;have h := HV.out;rw [List.take_length, List.take_of_length_le hlen, List.take_of_length_le (by rw [HL.out]; omega)] at h;exact h
theorem gW (x y : Value) (M N : Nat) (w : World) (hx : Nr w x M) (hy : Nr w y N) (hM : dg B30 M + dg B30 N + 2 ≤ LIM) :
  Calls Tryz.prog 131 #[x, y] w (nW (M * N) w) := by
 obtain ⟨A, c, xs, rfl, hc, rx, wx, rfl⟩ := hx;obtain ⟨B, d, ys, rfl, hd, ry, wy, rfl⟩ := hy;rw [← wx.len aH, ← wy.len aH] at hM;have hmk := pY (xs.length + ys.length) ((xs.length : Int) + ys.length) rfl (by omega);rw [aA] at hM;go_enter Tryz.func131, Tryz.ntmps131
 go_wp2
 go_loopw [6, 7, 8] (fun iv _ _ w1 => ∃ (i : Nat) (out : List Nat), i ≤ xs.length ∧ iv = .int .i64 (i : Int) ∧
     out.length = xs.length + ys.length ∧ (∀ d ∈ out, d < B30) ∧ vl B30 (out.take (i + ys.length)) = vl B30 (xs.take i) * vl B30 ys ∧
     out.drop (i + ys.length) = List.replicate (xs.length - i) 0 ∧
     Blk .i64 w1 w.heap.size 2 out ∧ Q w w1) (fun iv _ _ _ => xs.length - (intOf iv).toNat)
 case atStart => exact ⟨0, List.replicate (xs.length + ys.length) 0, by omega, rfl, by simp, dV (by decide), by rw [List.take_replicate, jD]; simp [vl], by simp, Blk.made _ _ _, (Q.refl _).alloc _⟩
 case round =>
  obtain ⟨i, out0, hi, rfl, hl, ho, hv, hdr, hb, hq⟩ := hrel;have HV := Lib.hid hv; clear hv;have HL0 := Lib.hid hl; clear hl;have HD := Lib.hid hdr; clear hdr;by_cases hlt : i < xs.length
  ·obtain ⟨ad, rfl, hbk, hcx0⟩ := rx.at_ hlt;have bx : xs[i] < 1073741824 := wx.1 _ (List.getElem_mem _);have HX := Lib.hid (List.getElem?_eq_getElem hlt);generalize xs[i] = x at *
   go_wp2
   obtain ⟨wo, rfl⟩ : ∃ wo : World, wo = wr := ⟨_, rfl⟩
   go_loopw [7, 8] (fun cv kv w1 => ∃ (k cy : Nat) (out : List Nat), k ≤ ys.length ∧ kv = .int .i64 (k : Int) ∧ cv = .int .i64 (cy : Int) ∧ cy < 1073741824 ∧
    out.length = xs.length + ys.length ∧ (∀ d ∈ out, d < B30) ∧ vl B30 (out.take (i + k)) + B30 ^ (i + k) * cy = vl B30 (out0.take (i + k)) + B30 ^ i * (x * vl B30 (ys.take k)) ∧
    out.drop (i + k) = out0.drop (i + k) ∧
    Blk .i64 w1 w.heap.size 2 out ∧ Q w w1) (fun _ kv _ => ys.length - (intOf kv).toNat)
   case atStart => exact ⟨0, 0, out0, by omega, rfl, rfl, by omega, HL0.out, ho, by simp [vl], rfl, hb, hq⟩
   case round =>
    clear hb hq ho;obtain ⟨k, cy, out, hk, rfl, rfl, hcy, hl, ho, hv, hdr, hb, hq⟩ := hrel;have HV2 := Lib.hid hv; clear hv;have HL := Lib.hid hl; clear hl;have HD2 := Lib.hid hdr; clear hdr;by_cases hlt2 : k < ys.length
    ·obtain ⟨ae, rfl, hbk', hcy'⟩ := (ry.below hq).at_ hlt2;have hcx := (hq.cell (p := ad.add i) (by rw [fM]; exact hbk)).trans hcx0;have by_ : ys[k] < 1073741824 := wy.1 _ (List.getElem_mem _);have HY := Lib.hid (List.getElem?_eq_getElem hlt2);generalize ys[k] = y at *
     have hik : i + k < out.length := (by rw [HL.out]; omega);have hcell := hb.cell hik;have hfz := hb.frozen (i + k);have bo : out[i + k] < 1073741824 := ho _ (List.getElem_mem _);have HO := Lib.hid (List.getElem?_eq_getElem hik);generalize out[i + k] = o at *
     clear hik;have hp : (x : Int) * y ≤ 1152921502459363329 := by
      have := Nat.mul_le_mul (show x ≤ 1073741823 by omega) (show y ≤ 1073741823 by omega);have e : ((x * y : Nat) : Int) = (x : Int) * y := Int.natCast_mul _ _;omega
     have hp0 : 0 ≤ (x : Int) * y := Int.mul_nonneg (by omega) (by omega);have HP := Lib.hid (show ((x * y : Nat) : Int) = (x : Int) * y from Int.natCast_mul _ _);clear hcx0;go_wp2
     go_quiet (fail)
     go_wp2
     have hP := HP.out
     refine ⟨⟨k + 1, (cy + x * y + o) / B30, out.set (i + k) ((cy + x * y + o) % B30), by omega, by go_num, congrArg (Value.int _) (by rw [aR]; omega), by rw [aR]; omega,
      by rw [List.length_set, HL.out], dO ho (Nat.mod_lt _ (by decide)), ?_, ?_, hb.put (i + k) _ (by rw [aR]; omega), (hq.drewN _).setCell (Nat.le_refl _) _⟩, by simp [intOf]; omega⟩
     ·have ho0 : out0[i + k]? = some o := (by rw [← aA3 HD2.out]; exact HO.out);rw [← Nat.add_assoc, cZ _ (by rw [HL.out]; omega), bO _ HY.out, bO _ ho0, Nat.add_assoc i k 1];exact aDM HV2.out rfl (Nat.mod_add_div _ _).symm
     ·rw [← Nat.add_assoc, drop_set (by omega)];exact zS HD2.out
    ·obtain rfl : k = ys.length := (by omega);have hik : i + ys.length < out.length := (by rw [HL.out]; omega);have hcell := hb.cell hik;have hfz := hb.frozen (i + ys.length);generalize out[i + ys.length] = o at *
     clear hik hcx0;go_wp2
     refine ⟨⟨i + 1, out.set (i + ys.length) cy, by omega, by go_num, by rw [List.length_set, HL.out], dO ho (by rw [aR]; omega), ?_, ?_, hb.put _ _ rfl, hq.setCell (Nat.le_refl _) _⟩, by simp [intOf]; omega⟩
     ·rw [show i + 1 + ys.length = i + ys.length + 1 from by omega, cZ _ (by rw [HL.out]; omega), HV2.out, HV.out, bO _ HX.out, List.take_length, Nat.add_mul, Nat.mul_assoc]
     ·rw [show i + 1 + ys.length = i + ys.length + 1 from by omega, drop_set (by omega), ← List.drop_drop, HD2.out, HD.out, List.drop_replicate];rfl
  ·obtain rfl : i = xs.length := (by omega);go_wp2_with fail
   refine (mU _ _ (w.heap.size + 1) _ _ _ HL0.out (Nat.le_refl _) (by omega) (hb.rd (Nat.lt_succ_self _))).mono ?_;rintro e w2 ⟨k, hk2, rfl, hnz, hv, rfl⟩;go_wp2
   go_ret
   refine ⟨_, rfl, Nn.of_blk hb hk2 (by rw [HL0.out] at hk2; exact hk2) hnz ho ?_, hq, Nw.at_ (Nat.le_refl _)⟩;rw [hv];have h := HV.out;rw [List.take_length, List.take_of_length_le (by rw [HL0.out]; omega)] at h;exact h
theorem aCr (w : World) : Calls Tryz.prog 111 #[] w (nW 1 w) := by
 go_enter Tryz.func111, Tryz.ntmps111
 go_wp2
 go_ret
 exact ⟨_, rfl, Nn.of_blk (ds := [1]) (k := 1) (heap_alloc_new w _) (by simp) (by omega) (by simp [Nz]) (by simp [B30]) (by simp [vl]), (Q.refl _).alloc _, Nw.at_ (Nat.le_refl _)⟩
theorem uO (x : Int) (N : Nat) (w : World) (hx : x = (N : Int)) (h : N < 1152921504606846976) : Calls Tryz.prog 171 #[.int .i64 x] w (nW N w) := by
 subst hx;go_enter Tryz.func171, Tryz.ntmps171
 go_wp2_with fail
 have hb : Blk .i64 (w.alloc (Obj.cells #[Value.int IntKind.i64 ((N : Int) % 1073741824), Value.int IntKind.i64 ((N : Int) / 1073741824)] 2)) w.heap.size 2 [N % B30, N / B30] :=
  (heap_alloc_new w _).trans (by rw [aR]; simp [nums])
 refine (mU _ _ (w.heap.size + 1) _ _ _ (by rfl) (Nat.le_refl _) (by omega) (hb.rd (Nat.lt_succ_self _))).mono ?_;rintro e w2 ⟨k, hk2, rfl, hnz, hv, rfl⟩;go_wp2
 go_ret
 refine ⟨_, rfl, Nn.of_blk hb hk2 hk2 hnz ?_ ?_, (Q.refl _).alloc _, Nw.at_ (Nat.le_refl _)⟩
 ·intro d hd; rw [aR] at *; simp at hd; omega
 ·rw [hv]; simp only [dL, aFJ]; rw [aR]; omega
theorem xG (x : Value) (N k : Nat) (z : Int) (w : World) (hx : Nr w x N) (hz : z = (k : Int)) (hN : dg B30 N + k + 2 ≤ LIM) : Calls Tryz.prog 174 #[x, .int .i64 z] w (nW (N * 2 ^ k) w) := by
 subst hz;obtain ⟨A, c, xs, rfl, hc, rx, wx, rfl⟩ := hx;rw [← wx.len aH] at hN;have hmk := aFB (k / 30) (xs.length + k / 30 + 1) ((k : Int) / 30) ((xs.length : Int) + (k : Int) / 30 + 1) (by omega) (by omega) (by omega) (by omega);rw [aA] at hN;obtain ⟨i0, hi, hz0, hz1, hz2⟩ := info_parts rP;have hf := aAp (k % 30) (by omega);have hf1 : 2 ^ (k % 30) ≤ 536870912 := by
  have h1 : 2 ^ (k % 30) ≤ 2 ^ 29 := Nat.pow_le_pow_right (by decide) (by omega);exact h1
 have hf0 : 0 < 2 ^ (k % 30) := Nat.pow_pos (by decide);have HF := Lib.hid (rfl : 2 ^ (k % 30) = 2 ^ (k % 30));have HE := Lib.hid hf; clear hf;go_enter Tryz.func174, Tryz.ntmps174
 go_wp2_with fail
 rw [HE.out];clear HE;have hq30 : 2 ^ k = B30 ^ (k / 30) * 2 ^ (k % 30) := by
  rw [show B30 = 2 ^ 30 from rfl, ← Nat.pow_mul, ← Nat.pow_add, Nat.div_add_mod]
 have HQ := Lib.hid hq30; clear hq30;generalize 2 ^ (k % 30) = f at *
 clear HF;obtain ⟨q, hq⟩ : ∃ q, q = k / 30 := ⟨_, rfl⟩
 rw [← hq] at HQ ⊢;have HK := Lib.hid hq;have hqk : q ≤ k := by omega
 clear hmk hq
 go_loopw [5, 7, 8] (fun ov cv iv w1 => ∃ (i cy : Nat) (out : List Nat), i ≤ xs.length ∧ iv = .int .i64 (i : Int) ∧ cv = .int .i64 (cy : Int) ∧ cy < f ∧
     ov = .slice (some ⟨w.heap.size, 0, none⟩) (q + i) (xs.length + q + 1) ∧
     out.length = xs.length + q + 1 ∧ (∀ d ∈ out, d < B30) ∧ vl B30 (out.take (q + i)) + B30 ^ (q + i) * cy = B30 ^ q * (vl B30 (xs.take i) * f) ∧
     Blk .i64 w1 w.heap.size 2 out ∧ Q w w1) (fun _ _ iv _ => xs.length - (intOf iv).toNat)
 case atStart => exact ⟨0, 0, List.replicate (xs.length + q + 1) 0, by omega, rfl, rfl, hf0, rfl, by simp, dV (by decide), by rw [List.take_replicate, jD]; simp [vl], Blk.made _ _ _, (Q.refl _).alloc _⟩
 case round =>
  obtain ⟨i, cy, out, hi1, rfl, rfl, hcy, rfl, hl, ho, hv, hb, hq⟩ := hrel;have HV := Lib.hid hv; clear hv;have HL := Lib.hid hl; clear hl;by_cases hlt : i < xs.length
  ·obtain ⟨ad, rfl, hbk, hcx⟩ := (rx.below hq).at_ hlt;have bx : xs[i] < 1073741824 := wx.1 _ (List.getElem_mem _);have HX := Lib.hid (List.getElem?_eq_getElem hlt);generalize xs[i] = x at *
   have hp : (x : Int) * f ≤ 1073741823 * f := by
    have := Nat.mul_le_mul_right f (show x ≤ 1073741823 by omega);have e : ((x * f : Nat) : Int) = (x : Int) * f := Int.natCast_mul _ _;omega
   have hp0 : 0 ≤ (x : Int) * f := Int.mul_nonneg (by omega) (by omega);have HP := Lib.hid (show ((x * f : Nat) : Int) = (x : Int) * f from Int.natCast_mul _ _);go_wp2_with (at_builtin; go_must (refine vC rfl _ _ _ rfl 2 i0 Tryz.underlying30 hi hz1 w.heap.size (q + i) (xs.length + q + 1) out rfl _ _ rfl (hb.alloc _) HL.out (by omega) _ ((cy + x * f) % B30) (by have := HP.out; rw [aR]; omega) (dU _ _ _) ?_); intro w2 hb2 hg2)
   have hP := HP.out;have hd : (cy + x * f) / B30 < f := by
    rw [Nat.div_lt_iff_lt_mul (by decide), aR]; omega
   refine ⟨⟨i + 1, (cy + x * f) / B30, out.set (q + i) ((cy + x * f) % B30), by omega, by go_num, congrArg (Value.int _) (by rw [aR]; omega), hd, rfl,
    by rw [List.length_set, HL.out], dO ho (Nat.mod_lt _ (by decide)), ?_, hb2, Q.grown (hq.alloc _) hg2 (by intro k e; injection e with e; omega)⟩, by simp [intOf]; omega⟩
   rw [← Nat.add_assoc, cZ _ (by rw [HL.out]; omega), bO _ HX.out, Nat.add_assoc q i 1];exact aBU HV.out rfl (Nat.mod_add_div _ _).symm
  ·obtain rfl : i = xs.length := (by omega);go_wp2_with (at_builtin; go_must (refine vC rfl _ _ _ rfl 2 i0 Tryz.underlying30 hi hz1 w.heap.size (q + xs.length) (xs.length + q + 1) out rfl _ _ rfl (hb.alloc _) HL.out (by omega) _ cy rfl (dU _ _ _) ?_); intro w2 hb2 hg2)
   have ho2 := dO (k := q + xs.length) ho (show cy < B30 by rw [aR]; omega);refine (mU _ _ (w.heap.size + 1) _ (out.set (q + xs.length) cy) _ (by rw [List.length_set, HL.out]; omega) (by omega) (by omega) (hb2.rd (Nat.lt_succ_self _))).mono ?_;rintro e w3 ⟨k2, hk2, rfl, hnz, hv, rfl⟩;go_wp2
   go_ret
   refine ⟨_, rfl, Nn.of_blk hb2 hk2 (by rw [List.length_set, HL.out] at hk2; exact hk2) hnz ho2 ?_, Q.grown (hq.alloc _) hg2 (by intro k e; injection e with e; omega), Nw.at_ (Nat.le_refl _)⟩
   rw [hv, ← List.take_of_length_le (l := out.set (q + xs.length) cy) (i := q + xs.length + 1) (by rw [List.length_set, HL.out]; omega), cZ _ (by rw [HL.out]; omega), HV.out,
       List.take_length, HQ.out]
   grind
theorem aGP (x : Value) (N : Nat) (w : World) (hx : Nr w x N) : Calls Tryz.prog 112 #[x] w fun e w' => e = .returned (.bool (decide (N = 1))) ∧ w = w' := by
 obtain ⟨A, c, xs, rfl, hc, rx, wx, rfl⟩ := hx;by_cases h1 : xs.length = 1
 ·obtain ⟨d, rfl⟩ : ∃ d, xs = [d] := List.length_eq_one_iff.1 h1;obtain ⟨ad, rfl, hb, hcell⟩ := rx.head (by simp);simp only [List.getElem_cons_zero] at hcell;have e : decide (vl B30 [d] = 1) = ((d : Int) == 1) := by
   have e0 : vl B30 [d] = d := (by simp [vl]);rw [e0, Bool.eq_iff_iff, decide_eq_true_iff, beq_iff_eq]; omega
  rw [e];have HE := Lib.hid e; clear e h1;go_enter Tryz.func112, Tryz.ntmps112
  go_wp2
  go_ret
  exact ⟨rfl, rfl⟩
 ·have e : decide (vl B30 xs = 1) = false := by
   simp only [decide_eq_false_iff_not];intro e;apply h1;rw [wx.len aH, e, dP aH]
  rw [e];have h2 : ((xs.length : Int) == 1) = false := (by simp; omega);go_enter Tryz.func112, Tryz.ntmps112
  go_wp2
  go_ret
  exact ⟨rfl, rfl⟩
theorem aBM (x : Value) (N : Nat) (w : World) (hx : Nr w x N) (h : dg B30 N ≤ 2) : Calls Tryz.prog 175 #[x] w fun e w' => e = .returned (.int .i64 (N : Int)) ∧ w = w' := by
 obtain ⟨A, c, xs, rfl, hc, rx, wx, rfl⟩ := hx;rw [← wx.len aH] at h;go_enter Tryz.func175, Tryz.ntmps175
 go_wp2
 go_loop [3, 4] (fun nv iv => ∃ (k : Nat) (V : Nat), k ≤ xs.length ∧ iv = .int .i64 ((k : Int) - 1) ∧ nv = .int .i64 (V : Int) ∧ V = vl B30 (xs.drop k)) (fun _ iv => (intOf iv + 1).toNat)
 case atStart => exact ⟨xs.length, 0, by omega, rfl, rfl, by simp [vl]⟩
 case round =>
  obtain ⟨k, V, hk, rfl, rfl, hV⟩ := hrel;have HV := Lib.hid hV; clear hV;by_cases hlt : 0 < k
  ·obtain ⟨j, rfl⟩ : ∃ j, k = j + 1 := ⟨k - 1, by omega⟩
   have jx : j < xs.length := (by omega);obtain ⟨ad, rfl, hb, hcx⟩ := rx.at_ jx;have ba : xs[j] < 1073741824 := wx.1 _ (List.getElem_mem _);have HX := Lib.hid (dG B30 jx);rw [show ((j + 1 : Nat) : Int) - 1 = (j : Int) from by omega];have hV2 : V < 1073741824 := by
    rw [HV.out];refine Nat.lt_of_lt_of_le (aBV (b := B30) (j + 1) wx.1) ?_;have := Nat.pow_le_pow_right (n := B30) (by decide) (show xs.length - (j + 1) ≤ 1 by omega);rw [Nat.pow_one] at this; exact this
   generalize xs[j] = x at *
   clear jx;go_wp2
   exact ⟨⟨j, V * B30 + x, by omega, rfl, congrArg (Value.int _) (by rw [aR]; omega), by rw [HX.out, ← HV.out]; grind⟩, by simp [intOf]⟩
  ·obtain rfl : k = 0 := (by omega);rw [show ((0 : Nat) : Int) - 1 = -1 from by omega];go_wp2
   go_ret
   exact ⟨by rw [HV.out]; rfl, rfl⟩
theorem aEH (x : Value) (N : Nat) (w : World) (hx : Nr w x N) (h : dg B30 N ≤ LIM) : Calls Tryz.prog 197 #[x] w fun e w' => e = .returned (.int .i64 (bl N : Int)) ∧ w = w' := by
 obtain ⟨A, c, xs, rfl, hc, rx, wx, rfl⟩ := hx;rw [← wx.len aH, aA] at h;by_cases h0 : xs.length = 0
 ·obtain rfl : xs = [] := List.eq_nil_of_length_eq_zero h0;have h2 : ((0 : Int) == 0) = true := rfl;rw [show bl (vl B30 []) = 0 from mX];simp only [List.length_nil];clear h0;go_enter Tryz.func197, Tryz.ntmps197
  go_wp2
  go_ret
  exact ⟨rfl, rfl⟩
 ·obtain ⟨n, hn⟩ : ∃ n, xs.length = n + 1 := ⟨xs.length - 1, by omega⟩
  obtain ⟨ad, rfl, hb, hcx⟩ := rx.at_ (k := n) (by omega);have ba : xs[n] < 1073741824 := wx.1 _ (List.getElem_mem _);have bz : 0 < xs[n] := by
   have h1 := wx.2;rw [Nz, List.getLast?_eq_getElem?, hn, Nat.add_sub_cancel, List.getElem?_eq_getElem (by omega)] at h1;simp at h1; omega
  have hB := yF (p := 30) (n := n) wx.1 hn (List.getElem?_eq_getElem (by omega)) bz;change bl (vl B30 xs) = _ at hB;rw [hn, hB];clear hB hc wx;generalize xs[n] = t0 at *
  have h2 : ((n : Int) + 1 == 0) = false := (by simp; omega);have hbl : bl t0 ≤ 30 := (bI _ _).2 ba;go_enter Tryz.func197, Tryz.ntmps197
  go_wp2
  go_loop [3, 4] (fun nv tv => ∃ (m t : Nat), nv = .int .i64 (m : Int) ∧ tv = .int .i64 (t : Int) ∧ m + bl t = 30 * n + bl t0 ∧ t < 1073741824) (fun _ tv => (intOf tv).toNat)
  case atStart => exact ⟨30 * n, t0, congrArg (Value.int _) (by omega), rfl, rfl, ba⟩
  case round =>
   obtain ⟨m, t, rfl, rfl, hm, ht⟩ := hrel;by_cases hp : 0 < t
   ·have hm2 : m + 1 + bl (t / 2) = 30 * n + bl t0 := (by rw [jE hp] at hm; omega);have hm1 : m ≤ 30 * n + 30 := (by omega);have HM := Lib.hid hm2; clear hm hm2;go_wp2
    exact ⟨⟨m + 1, t / 2, by go_num, congrArg (Value.int _) (by omega), HM.out, by omega⟩, by simp [intOf]; omega⟩
   ·obtain rfl : t = 0 := (by omega);rw [mX] at hm;have HM := Lib.hid hm; clear hm;go_wp2
    go_ret
    exact ⟨gV (by have := HM.out; omega), rfl⟩
theorem uP (x : Value) (N : Nat) (w : World) (hx : Nr w x N) (h : dg B30 N ≤ LIM) (h0 : 0 < N) : Calls Tryz.prog 172 #[x] w fun e w' => e = .returned (.int .i64 (tz N : Int)) ∧ w = w' := by
 obtain ⟨A, c, xs, rfl, hc, rx, wx, rfl⟩ := hx;rw [← wx.len aH, aA] at h;go_enter Tryz.func172, Tryz.ntmps172
 go_wp2
 go_loop [3] (fun nv => ∃ (q : Nat), nv = .int .i64 (30 * (q : Int)) ∧ q < xs.length ∧ ∀ j, j < q → xs[j]? = some 0) (fun nv => xs.length * 30 - (intOf nv).toNat)
 case atStart =>
  refine ⟨0, rfl, ?_, by omega⟩;rcases xs with _ | _
  ·simp [vl] at h0
  ·simp
 case round =>
  obtain ⟨q, rfl, hq, hz⟩ := hrel;obtain ⟨ad, rfl, hb, hcx⟩ := rx.at_ hq;have ba : xs[q] < 1073741824 := wx.1 _ (List.getElem_mem _);by_cases hx0 : xs[q] = 0
  ·have hnext : q + 1 < xs.length := by
    rcases Nat.lt_or_ge (q + 1) xs.length with h1 | h1
    ·exact h1
    ·exfalso;have h2 := wx.2;rw [Nz, List.getLast?_eq_getElem?, show xs.length - 1 = q by omega, List.getElem?_eq_getElem hq, hx0] at h2;exact h2 rfl
   have hz2 : ∀ j, j < q + 1 → xs[j]? = some 0 := by
    intro j hj;rcases Nat.lt_or_ge j q with h1 | h1
    ·exact hz j h1
    ·obtain rfl : j = q := (by omega);rw [List.getElem?_eq_getElem hq, hx0]
   have HZ2 := Lib.hid hz2; clear hz2 hz;have h3 : ((xs[q] : Int) == 0) = true := (by simp [hx0]);clear hx0;generalize xs[q] = t at *
   go_wp2
   exact ⟨⟨q + 1, congrArg (Value.int _) (by omega), hnext, HZ2.out⟩, by simp [intOf]; omega⟩
  ·have hB := yG (p := 30) (q := q) hz (List.getElem?_eq_getElem hq) (by omega) ba;change tz (vl B30 xs) = _ at hB;have HB := Lib.hid hB;have h3 : ((xs[q] : Int) == 0) = false := (by simp; omega);clear hB hz wx h0 hc;have hpos : 0 < xs[q] := (by omega);clear hx0;have htz : tz xs[q] ≤ 30 := by
    rcases Nat.lt_or_ge 30 (tz xs[q]) with h1 | h1
    ·exfalso;have h2 := (fQ hpos).1;have h4 : 0 < xs[q] / 2 ^ tz xs[q] := by
      rcases Nat.eq_zero_or_pos (xs[q] / 2 ^ tz xs[q]) with h5 | h5
      ·rw [h5] at h2; omega
      ·exact h5
     have h5 := Nat.mul_le_mul_left (2 ^ tz xs[q]) h4;have h6 : 2 ^ 30 ≤ 2 ^ tz xs[q] := Nat.pow_le_pow_right (by decide) (by omega);have h7 : (2 : Nat) ^ 30 = 1073741824 := rfl;omega
    ·exact h1
   generalize xs[q] = t0 at *
   go_wp2
   go_loop [3, 4] (fun nv tv => ∃ (m t : Nat), nv = .int .i64 (m : Int) ∧ tv = .int .i64 (t : Int) ∧ m + tz t = 30 * q + tz t0 ∧ t < 1073741824 ∧ 0 < t) (fun _ tv => (intOf tv).toNat)
   case atStart => exact ⟨30 * q, t0, congrArg (Value.int _) (by omega), rfl, rfl, ba, hpos⟩
   case round =>
    obtain ⟨m, t, rfl, rfl, hm, ht, ht0⟩ := hrel;by_cases hp : t % 2 = 0
    ·have hm2 : m + 1 + tz (t / 2) = 30 * q + tz t0 := (by rw [kV ht0 hp] at hm; omega);have hm1 : m ≤ 30 * q + 30 := (by omega);have HM := Lib.hid hm2; clear hm hm2;have h4 : ((t : Int) % 2 == 0) = true := (by simp; omega);have ht2 : 2 ≤ t := (by omega);clear hp;go_wp2
     exact ⟨⟨m + 1, t / 2, by go_num, congrArg (Value.int _) (by omega), HM.out, by omega, by omega⟩, by simp [intOf]; omega⟩
    ·rw [oQ (by omega)] at hm;have HM := Lib.hid hm; clear hm;have h4 : ((t : Int) % 2 == 0) = false := (by simp; omega);clear hp;go_wp2
     go_ret
     exact ⟨gV (by have := HM.out; have := HB.out; omega), rfl⟩
set_option maxRecDepth 100000 in
theorem qA (x : Value) (N k : Nat) (z : Int) (w : World) (hx : Nr w x N) (hz : z = (k : Int)) (h : dg B30 N ≤ LIM) (hk : k ≤ 4611686018427387904) : Calls Tryz.prog 173 #[x, .int .i64 z] w (nW (N / 2 ^ k) w) := by
 subst hz;obtain ⟨A, c, xs, rfl, hc, rx, wx, rfl⟩ := hx;rw [← wx.len aH] at h;have hq30 : 2 ^ k = B30 ^ (k / 30) * 2 ^ (k % 30) := by
  rw [show B30 = 2 ^ 30 from rfl, ← Nat.pow_mul, ← Nat.pow_add, Nat.div_add_mod]
 rw [hq30, ← Nat.div_div_eq_div_mul];clear hq30;by_cases hlt : xs.length ≤ k / 30
 ·have e : vl B30 xs / B30 ^ (k / 30) / 2 ^ (k % 30) = 0 := by
   rw [show vl B30 xs / B30 ^ (k / 30) = 0 from Nat.div_eq_of_lt ?_, Nat.zero_div];exact Nat.lt_of_lt_of_le (dK wx.1) (Nat.pow_le_pow_right (by decide) hlt)
  rw [e];clear e;rw [aA] at h;go_enter Tryz.func173, Tryz.ntmps173
  go_wp2
  go_ret
  exact ⟨_, rfl, Nn.zero _ _, Q.refl _, Nw.nil⟩
 ·rw [← iD (by decide) (by omega) wx.1];obtain ⟨ad, rfl, hbk, _⟩ := rx.at_ (k := 0) (by omega);have rz := rx.drop (k := k / 30) hc;rw [if_neg (by omega)] at rz;simp only [Option.map_some] at rz;have mz : ∀ d ∈ xs.drop (k / 30), d < B30 := fV wx.1;have hlz : (xs.drop (k / 30)).length = xs.length - k / 30 := (by rw [List.length_drop]);have hmk := pY (xs.length - k / 30) ((xs.length - k / 30 : Nat) : Int) rfl (by omega);rw [aA] at h;have HZ := Lib.hid hlz; clear hlz;have HE := Lib.hid (aAp (k % 30) (by omega));have hf1 : 2 ^ (k % 30) ≤ 536870912 := by
   have h1 : 2 ^ (k % 30) ≤ 2 ^ 29 := Nat.pow_le_pow_right (by decide) (by omega);exact h1
  have hf0 : 0 < 2 ^ (k % 30) := Nat.pow_pos (by decide);have HG := Lib.hid (show B30 = 2 ^ (k % 30) * 2 ^ (30 - k % 30) by rw [← Nat.pow_add, show k % 30 + (30 - k % 30) = 30 by omega]; rfl);have hg1 : 2 ^ (30 - k % 30) ≤ 1073741824 := by
   have h1 : 2 ^ (30 - k % 30) ≤ 2 ^ 30 := Nat.pow_le_pow_right (by decide) (by omega);exact h1
  go_enter Tryz.func173, Tryz.ntmps173
  go_wp2_with fail
  rw [HE.out];clear HE hmk;have hfg : (1073741824 : Int) / ((2 ^ (k % 30) : Nat) : Int) = ((2 ^ (30 - k % 30) : Nat) : Int) := by
   have := HG.out;rw [aR] at this;rw [show (1073741824 : Int) = ((1073741824 : Nat) : Int) from rfl, this, ← Int.natCast_ediv, Nat.mul_div_cancel_left _ hf0]
  have HFG := Lib.hid hfg; clear hfg;generalize 2 ^ (k % 30) = f at *
  generalize 2 ^ (30 - k % 30) = g at *
  generalize ad.add (k / 30) = az at *
  generalize xs.drop (k / 30) = zl at *
  have hn : zl.length ≤ 1099511627776 := (by rw [HZ.out]; omega);have hn0 : 0 < xs.length - k / 30 := (by omega);have hn1 : xs.length - k / 30 ≤ 1099511627776 := (by omega);clear rx;generalize xs.length - k / 30 = n at *
  go_loopw [7] (fun iv w1 => ∃ (i : Nat) (out : List Nat), i ≤ n ∧ iv = .int .i64 (i : Int) ∧
   out.length = n ∧ (∀ d ∈ out, d < B30) ∧ f * vl B30 (out.take i) + zl.getD 0 0 % f = vl B30 (zl.take i) + B30 ^ i * (zl.getD i 0 % f) ∧
   Blk .i64 w1 w.heap.size 2 out ∧ Q w w1) (fun iv _ => n - (intOf iv).toNat)
  case atStart => exact ⟨0, List.replicate n 0, by omega, rfl, by simp, dV (by decide), by simp [vl], Blk.made _ _ _, (Q.refl _).alloc _⟩
  case round =>
   obtain ⟨i, out, hi1, rfl, hl, ho, hv, hb, hq⟩ := hrel;have HV := Lib.hid hv; clear hv;have HL := Lib.hid hl; clear hl;by_cases hlt1 : i < n
   ·have hiz : i < zl.length := (by rw [HZ.out]; exact hlt1);obtain ⟨_, he, hbz, hcx⟩ := (rz.below hq).at_ hiz;cases he;have bx : zl[i] < 1073741824 := mz _ (List.getElem_mem _);have hio : i < out.length := (by rw [HL.out]; exact hlt1);have hcell := hb.cell hio;generalize out[i] = o at *
    clear hio;have hfz := hb.frozen i;have hgd : zl.getD i 0 = zl[i] := (by rw [List.getD_eq_getElem?_getD, List.getElem?_eq_getElem hiz]; rfl);have HD := Lib.hid hgd; clear hgd;generalize zl[i] = x at *
    clear hiz;have hxf : (x : Int) / f ≤ 1073741823 := by
     have := Nat.div_le_self x f;have e : ((x / f : Nat) : Int) = (x : Int) / f := Int.natCast_ediv _ _;omega
    have hxf0 : 0 ≤ (x : Int) / f := Int.ediv_nonneg (by omega) (by omega);have HXF := Lib.hid (show ((x / f : Nat) : Int) = (x : Int) / f from Int.natCast_ediv _ _);by_cases hlt2 : i + 1 < n
    ·have hiz : i + 1 < zl.length := (by rw [HZ.out]; exact hlt2);obtain ⟨_, he, hbz', hcx2⟩ := (rz.below hq).at_ hiz;cases he;have by_ : zl[i + 1] < 1073741824 := mz _ (List.getElem_mem _);have hgd : zl.getD (i + 1) 0 = zl[i + 1] := (by rw [List.getD_eq_getElem?_getD, List.getElem?_eq_getElem hiz]; rfl);have HD2 := Lib.hid hgd; clear hgd;generalize zl[i + 1] = y at *
     clear hiz;have hyf := Nat.mod_lt y hf0;have HYF := Lib.hid (show ((y % f : Nat) : Int) = (y : Int) % f from Int.natCast_emod _ _);have hyg : (y : Int) % f * g ≤ 1073741824 := by
      have h1 := Nat.mul_le_mul_right g (Nat.le_of_lt hyf);have h2 := HG.out;rw [aR] at h2;rw [← HYF.out, ← Int.natCast_mul];omega
     have hyg0 : 0 ≤ (y : Int) % f * g := Int.mul_nonneg (by rw [← HYF.out]; omega) (by omega);have hyi : (y : Int) % f < f := (by rw [← HYF.out]; omega);have hyi0 : 0 ≤ (y : Int) % f := (by rw [← HYF.out]; omega);have hD : (1073741824 : Int) / f ≤ 1073741824 := (by rw [HFG.out]; omega);have hD0 : 0 ≤ (1073741824 : Int) / f := (by rw [HFG.out]; omega);have hyD : (y : Int) % f * (1073741824 / f) ≤ 1073741824 := (by rw [HFG.out]; exact hyg);have hyD0 : 0 ≤ (y : Int) % f * (1073741824 / f) := (by rw [HFG.out]; exact hyg0);clear hyg hyg0;go_wp2
     have hb5 := hb.put i (x / f) (e := (x : Int) / f) HXF.out.symm;have hq5 := hq.setCell (p := ⟨w.heap.size, i, none⟩) (Nat.le_refl _) (.int .i64 ((x : Int) / f));generalize wr.setCell ⟨w.heap.size, i, none⟩ (.int .i64 ((x : Int) / f)) = w5 at *
     have hcx5 : w5.cell? (az.add (i + 1)) = some (.int .i64 (y : Int)) := by
      have h1 := (hq.cell (p := az.add (i + 1)) (by rw [fM]; exact hbz)).symm.trans hcx2;exact (hq5.cell (by rw [fM]; exact hbz)).trans h1
     have hc5 : w5.cell? ⟨w.heap.size, i, none⟩ = some (.int .i64 ((x : Int) / f)) := by
      rw [hb5.cell (by rw [List.length_set, HL.out]; exact hlt1)];simp [HXF.out]
     have hf5 := hb5.frozen i;clear hcx2 hcell hfz hcx;rw [aEa] at hcx5;go_region
     go_wp2
     have hE := HG.out;have hxg : x / f < g := by
      rw [Nat.div_lt_iff_lt_mul hf0, Nat.mul_comm, ← hE]; rw [aR]; exact bx
     have ho' : x / f + y % f * g < B30 := by
      have h1 : (y % f + 1) * g ≤ f * g := Nat.mul_le_mul_right g hyf;rw [Nat.add_mul, Nat.one_mul, ← hE] at h1;omega
     have hcast : (x : Int) / f + (y : Int) % f * (1073741824 / f) = ((x / f + y % f * g : Nat) : Int) := by
      rw [HFG.out, Int.natCast_add, Int.natCast_mul, HXF.out, HYF.out]
     refine ⟨⟨i + 1, (out.set i (x / f)).set i (x / f + y % f * g), by omega, by go_num, by rw [List.length_set, List.length_set, HL.out], dO (dO ho (by rw [aR]; have := Nat.div_le_self x f; omega)) ho', ?_, (hb5.put i _ hcast).drew, (hq5.setCell (Nat.le_refl _) _).drew⟩, by simp [intOf]; omega⟩;have hv := HV.out;rw [HD.out] at hv;rw [List.set_set, cZ _ (by rw [HL.out]; omega), rY, HD.out, HD2.out];exact vW hE hv rfl
    ·have hD2 : zl.getD (i + 1) 0 = 0 := by
      rw [List.getD_eq_getElem?_getD, List.getElem?_eq_none (by rw [HZ.out]; omega)]; rfl
     go_wp2
     refine ⟨⟨i + 1, out.set i (x / f), by omega, by go_num, by rw [List.length_set, HL.out], dO ho (by rw [aR]; have := Nat.div_le_self x f; omega), ?_, hb.put i (x / f) HXF.out.symm, hq.setCell (Nat.le_refl _) _⟩, by simp [intOf]; omega⟩;have hv := HV.out;rw [HD.out] at hv;rw [cZ _ (by rw [HL.out]; omega), rY, HD.out, hD2];exact vW (y := 0) HG.out hv (by simp)
   ·obtain rfl : i = n := (by omega);go_wp2_with fail
    refine (mU _ _ (w.heap.size + 1) _ _ _ HL.out (Nat.le_refl _) (by omega) (hb.rd (Nat.lt_succ_self _))).mono ?_;rintro e w2 ⟨k2, hk2, rfl, hnz, hv, rfl⟩;go_wp2
    go_ret
    refine ⟨_, rfl, Nn.of_blk hb hk2 (by rw [HL.out] at hk2; exact hk2) hnz ho ?_, hq, Nw.at_ (Nat.le_refl _)⟩;rw [hv];have h := HV.out;rw [List.take_of_length_le (by rw [HL.out]; omega), List.take_of_length_le (by rw [HZ.out]; omega), show zl.getD i 0 = 0 by rw [List.getD_eq_getElem?_getD, List.getElem?_eq_none (by rw [HZ.out]; omega)]; rfl, Nat.zero_mod, Nat.mul_zero, Nat.add_zero] at h;rw [← h, Nat.mul_add_div hf0, Nat.div_eq_of_lt (Nat.mod_lt _ hf0), Nat.add_zero]
end Go.Proofs.YtgokbhikgdhmpaaGreatDoor
