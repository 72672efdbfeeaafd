/- ValueSpans: spans of numbers. No condition. -/
import Derived.Test.YtajbfablmpmgbaaGreatDoorQw03
namespace Go.Proofs.YtajbfablmpmgbaaGreatDoor
open Go.RowKit
open Ma Me
def bt (d : Nat) : Nat := if d = 1 then 0 else d
theorem Me.Nm.parts {w : World} {x : Value} {N : Nat} (h : Nm w x N) : ∃ A c, x = .slice A (dg W64 N) c ∧ dg W64 N ≤ c := by
 obtain ⟨A, c, xs, rfl, hc, rx, wx, rfl⟩ := h;rw [← wx.len aD];exact ⟨A, c, rfl, hc⟩
def Nf (w : World) (v : Value) (s : Bool) (N D : Nat) : Prop := ∃ t b, v = .agg #[.bool s, t, b] ∧ Nm w t N ∧ Nm w b D
theorem Nf.q {w w' : World} {v : Value} {s : Bool} {N D : Nat} (h : Nf w v s N D) (hq : Q w w') : Nf w' v s N D := by
 obtain ⟨t, b, h1, h2, h3⟩ := h;exact ⟨t, b, h1, h2.q hq, h3.q hq⟩
theorem Nf.form {w : World} {v : Value} {s : Bool} {N D : Nat} (h : Nf w v s N D) : ∃ A c A2 c2, v = .agg #[.bool s, .slice A (dg W64 N) c, .slice A2 (dg W64 D) c2] ∧ Nm w (.slice A (dg W64 N) c) N ∧ Nm w (.slice A2 (dg W64 D) c2) D := by
 obtain ⟨t, b, rfl, h2, h3⟩ := h;obtain ⟨A, c, rfl, hc⟩ := h2.parts;obtain ⟨A2, c2, rfl, hc2⟩ := h3.parts;exact ⟨A, c, A2, c2, rfl, h2, h3⟩
theorem qW {D : Nat} : dg W64 D = 0 ↔ D = 0 := ⟨fun h => bI aD h, fun h => by rw [h, aT]⟩
def Nq (w : World) (v : Value) (q : Rat) : Prop := Nf w v (decide (q.num < 0)) q.num.natAbs (bt q.den)
theorem Nq.q {w w' : World} {v : Value} {q : Rat} (h : Nq w v q) (hq : Q w w') : Nq w' v q := Nf.q h hq
theorem xI (q : Rat) : bt q.den = 0 ↔ q.den = 1 := by
 have := q.den_pos;unfold bt; split <;> omega
theorem Nq.form {w : World} {v : Value} {q : Rat} (h : Nq w v q) : ∃ s A1 n1 c1 A2 n2 c2, v = .agg #[.bool s, .slice A1 n1 c1, .slice A2 n2 c2] ∧ Hid (s = decide (q.num < 0)) ∧ Hid (n1 = 0 ↔ q = 0) ∧ Hid (n2 = 0 ↔ q.den = 1) ∧ Nm w (.slice A1 n1 c1) q.num.natAbs ∧ Nm w (.slice A2 n2 c2) (bt q.den) := by
 obtain ⟨A1, c1, A2, c2, rfl, h1, h2⟩ := Nf.form h;refine ⟨_, _, _, _, _, _, _, rfl, yW rfl, yW ?_, yW ?_, h1, h2⟩
 ·rw [qW];constructor
  ·intro h3; exact Rat.num_eq_zero.1 (by omega)
  ·intro h3; rw [h3]; rfl
 ·rw [qW, xI]
def Ns (w : World) (v : Value) (p q : Rat) : Prop := ∃ s1 A1 n1 c1 A2 n2 c2 s2 A3 n3 c3 A4 n4 c4, v = .agg #[.bool s1, .slice A1 n1 c1, .slice A2 n2 c2, .bool s2, .slice A3 n3 c3, .slice A4 n4 c4] ∧
 Nq w (.agg #[.bool s1, .slice A1 n1 c1, .slice A2 n2 c2]) p ∧ Nq w (.agg #[.bool s2, .slice A3 n3 c3, .slice A4 n4 c4]) q
theorem Ns.q {w w' : World} {v : Value} {p q : Rat} (h : Ns w v p q) (hq : Q w w') : Ns w' v p q := by
 obtain ⟨s1, A1, n1, c1, A2, n2, c2, s2, A3, n3, c3, A4, n4, c4, e, h1, h2⟩ := h;exact ⟨s1, A1, n1, c1, A2, n2, c2, s2, A3, n3, c3, A4, n4, c4, e, h1.q hq, h2.q hq⟩
end Go.Proofs.YtajbfablmpmgbaaGreatDoor
namespace Go.Proofs.YtajbfablmpmgbaaGreatDoor.K
open Go.RowKit
open Ma Me
theorem aDK {w w' : World} {v : Value} {q : Rat} {g : Nat} (h : Nq w v q) (ha : Ap w w' g) : Nq w' v q := by
 obtain ⟨t, b, e, h1, h2⟩ := h;exact ⟨t, b, e, ha.nm h1, ha.nm h2⟩
def fB (q : Rat) : Pr := ⟨fun v w => Nq w v q, fun h hq => Nq.q h hq, true, fun _ h ha => aDK h ha⟩
def dO (p q : Rat) : Pr := ⟨fun v w => Ns w v p q, fun h hq => Ns.q h hq, true,
 fun _ ⟨s1, A1, n1, c1, A2, n2, c2, s2, A3, n3, c3, A4, n4, c4, e, h1, h2⟩ ha => ⟨s1, A1, n1, c1, A2, n2, c2, s2, A3, n3, c3, A4, n4, c4, e, aDK h1 ha, aDK h2 ha⟩⟩
theorem iU (w : World) : Nq w (.agg #[.bool false, .slice none 0 0, .slice none 0 0]) 0 := ⟨_, _, rfl, Nm.zero Option.none 0, Nm.zero Option.none 0⟩
section
variable {w : World} {s1 s2 : Bool} {A1 A2 A3 A4 : Option Addr} {n1 c1 n2 c2 n3 c3 n4 c4 : Nat} {p q : Rat}
end
end Go.Proofs.YtajbfablmpmgbaaGreatDoor.K
namespace Go.Proofs.YtajbfablmpmgbaaGreatDoor.K
open Go.RowKit
open Ma Me
theorem iO {q : Rat} : ∀ v W, (Vs.gen (fB q)).holds v W → ∃ v0 v1 v2, v = .agg #[v0, v1, v2] ∧ Sh [.b, .s, .s] [v0, v1, v2] := fun v W h => by
 obtain ⟨s, A1, n1, c1, A2, n2, c2, e, -⟩ := Nq.form (show Nq W v q from h);exact ⟨_, _, _, e, ⟨_, rfl⟩, ⟨_, _, _, rfl⟩, ⟨_, _, _, rfl⟩, trivial⟩
theorem st6 {ρ : Operand → Value} {o : Oper} {w : World} {g : Nat} {t : TypeId} {v0 v1 v2 v3 v4 v5 u0 u1 u2 u3 u4 u5 : Value} {T : TypeId} {x y : Operand} (hb : Bx w g t [u0, u1, u2, u3, u4, u5]) (o0 : v0.oneCell' = true) (o1 : v1.oneCell' = true) (o2 : v2.oneCell' = true) (o3 : v3.oneCell' = true) (o4 : v4.oneCell' = true) (o5 : v5.oneCell' = true) (ho : o.op = .store T x y) (hx : ρ x = .pointer (some ⟨g, 0, none⟩)) (hy : ρ y = .agg #[v0, v1, v2, v3, v4, v5]) (hS : ∀ w, Sem.run Tryz.prog (sizeOf T) w = .ok 6 w) :
  (execOp ρ o).run Tryz.prog w = .ok .skip (gF w g 0 [v0, v1, v2, v3, v4, v5]) := by
 have fz := hb.frozen;have c0 := hb.cell 0 rfl;have c1 := hb.cell 1 rfl;have c2 := hb.cell 2 rfl;have c3 := hb.cell 3 rfl;have c4 := hb.cell 4 rfl;have c5 := hb.cell 5 rfl;unfold execOp;rw [ho];simp [hx, hy, go_sem, hS, storeCells, Addr.add, fz, c0, c1, c2, c3, c4, c5, gF, o0, o1, o2, o3, o4, o5, run_store]
section
variable {ops : Array Oper} {l : List Vs} {cs : List Ce} {ks : List (Value × Vs)} {F : (Nat → Value) → Act} {a : Act} {w0 : World} {i : Nat} {o : Oper} {rest : List Oper}
theorem JC.s6 {n : Nat} {x : Ce} {T : TypeId} {p y : Operand} (hx : cs[n]? = some x) (form : ∀ v W, (l.getD x.src .any).holds v W → ∃ v0 v1 v2 v3 v4 v5, v = .agg #[v0, v1, v2, v3, v4, v5] ∧ Sh x.ck [v0, v1, v2, v3, v4, v5]) (c : Ctx ops a F) (hr : Ja.Steps Tryz.prog ops (JC w0 ops l cs ks) F (i + 1) rest)
  (ho : ops[i]? = some o := by rfl) (hop : o.op = .store T p y := by rfl) (hp : ∀ vals, (F vals).eval p = x.ptr vals := by intro vals; kernel_rfl) (hy : ∀ vals, (F vals).eval y = vals x.src := by intro vals; kernel_rfl)
  (hty : (x.t != 2 && (x.t != 33 || Nat.ble x.ck.length 3)) = true := by kernel_rfl) (hst : x.st = i := by rfl) (hf : ((cs.eraseIdx n).all fun c => c.al != some i && c.st != i) = true := by kernel_rfl) (hl : l.getD i .any = .any := by rfl) (hok : (l.all Vs.ok && ks.all fun p => p.2.ok) = true := by kernel_rfl)
  (hck : bC ops cs = true := by kernel_rfl) (hg : bF ops l o true = true := by kernel_rfl) (hS : ∀ w, Sem.run Tryz.prog (sizeOf T) w = .ok 6 w := by intro _; kernel_rfl) :
  Ja.Steps Tryz.prog ops (JC w0 ops l cs ks) F i (o :: rest) :=
 Ja.Steps.cons (JC.store c hck ho hg hx (aGe hty) hst hf hl hok (fun L vals w g old hJ hpt ho' hs K hK => by
  obtain ⟨v0, v1, v2, v3, v4, v5, e, hsh⟩ := form _ _ hs;obtain ⟨row, e2, hsr, hb⟩ := ho';have hlen : row.length = 6 := (by rw [hsr.length, ← hsh.length]; rfl);obtain ⟨u0, u1, u2, u3, u4, u5, rfl⟩ : ∃ u0 u1 u2 u3 u4 u5, row = [u0, u1, u2, u3, u4, u5] := by
   match row, hlen with
   | [u0, u1, u2, u3, u4, u5], _ => exact ⟨_, _, _, _, _, _, rfl⟩
  have h1 := st6 hb (Sh.one hsh v0 (by simp)) (Sh.one hsh v1 (by simp)) (Sh.one hsh v2 (by simp)) (Sh.one hsh v3 (by simp)) (Sh.one hsh v4 (by simp)) (Sh.one hsh v5 (by simp)) hop ((hp vals).trans hpt) ((hy vals).trans e) hS;unfold Oper.wp;rw [h1, Oper.upon_skip];exact hK.out undef _ _ rfl ⟨_, e, hsh, rfl⟩)) hr
end
theorem aL {p q : Rat} : ∀ v W, (Vs.gen (dO p q)).holds v W → ∃ v0 v1 v2 v3 v4 v5, v = .agg #[v0, v1, v2, v3, v4, v5] ∧ Sh [.b, .s, .s, .b, .s, .s] [v0, v1, v2, v3, v4, v5] := fun v W h => by
 obtain ⟨s1, A1, n1, c1, A2, n2, c2, s2, A3, n3, c3, A4, n4, c4, e, -⟩ := (show Ns W v p q from h)
 exact ⟨_, _, _, _, _, _, e, ⟨_, rfl⟩, ⟨_, _, _, rfl⟩, ⟨_, _, _, rfl⟩, ⟨_, rfl⟩, ⟨_, _, _, rfl⟩, ⟨_, _, _, rfl⟩, trivial⟩
theorem fRs {p q : Rat} : ∀ v W, (Vs.gen (pRs p q)).holds v W → ∃ v0 v1 v2 v3 v4 v5, v = .agg #[v0, v1, v2, v3, v4, v5] ∧ Sh [.i, .s, .s, .i, .s, .s] [v0, v1, v2, v3, v4, v5] := fun v W h => by
 obtain ⟨s1, A1, n1, c1, A2, n2, c2, s2, A3, n3, c3, A4, n4, c4, e, -⟩ := (show Rs W v p q from h)
 exact ⟨_, _, _, _, _, _, e, ⟨_, rfl⟩, ⟨_, _, _, rfl⟩, ⟨_, _, _, rfl⟩, ⟨_, rfl⟩, ⟨_, _, _, rfl⟩, ⟨_, _, _, rfl⟩, trivial⟩
theorem aJt {fn : Func} {R : Ending → World → Prop} {a : Act} {w : World} {g : Nat} {t T : TypeId} {c : Nat} {v0 v1 v2 v3 v4 v5 : Value} (hb : Bx w g t [v0, v1, v2, v3, v4, v5]) (hR : R (.returned (.agg #[v0, v1, v2, v3, v4, v5])) w)
  (hres : fn.results = #[.cell c T] := by rfl) (hslot : a.tmps.getD c undef = .pointer (some ⟨g, 0, none⟩) := by kernel_rfl) (hT : ∀ w, Sem.run Tryz.prog (isAgg T) w = .ok true w := by intro _; kernel_rfl) (hS : ∀ w, Sem.run Tryz.prog (sizeOf T) w = .ok 6 w := by intro _; kernel_rfl)
  (hd : a.defers = [] := by rfl) : bodyPost Tryz.prog fn R .ret a w := by
 have h0 := hb.cell 0 rfl;have h1 := hb.cell 1 rfl;have h2 := hb.cell 2 rfl;have h3 := hb.cell 3 rfl;have h4 := hb.cell 4 rfl;have h5 := hb.cell 5 rfl;refine bodyPost_ret (v := .agg #[v0, v1, v2, v3, v4, v5]) ?_ hd hR;unfold results;rw [hres];rw [Array.getD_eq_getD_getElem?] at hslot;simp [go_sem, hslot, hT, hS, loadVar, loadCells, loadCellsFrom, Addr.add, h0, h1, h2, h3, h4, h5]
end Go.Proofs.YtajbfablmpmgbaaGreatDoor.K
namespace Go.Proofs.YtajbfablmpmgbaaGreatDoor.K
open Go.RowKit
open Ma Me
section
variable {ops : Array Oper} {l : List Vs} {cs : List Ce} {ks : List (Value × Vs)} {F : (Nat → Value) → Act} {a : Act} {w0 : World} {i : Nat} {o : Oper} {rest : List Oper}
theorem JC.al {n : Nat} {x : Ce} {t : TypeId} {row : List Value} (hnew : Sh x.ck row) (c : Ctx ops a F) (hr : Ja.Steps Tryz.prog ops (JC w0 ops l cs ks) F (i + 1) rest)
  (hx : cs[n]? = some x := by rfl) (hal : x.al = some i := by rfl) (ht : x.t = t := by rfl) (hrow : x.row = .agg row.toArray := by rfl)
  (hf : ((cs.eraseIdx n).all fun c => c.al != some i && c.st != i) = true := by kernel_rfl) (hl : l.getD i .any = .any := by rfl)
  (ho : ops[i]? = some o := by rfl) (hck : bC ops cs = true := by kernel_rfl) (hg : bF ops l o true = true := by kernel_rfl)
  (hrun : ∀ vals w, (execOp (F vals).eval o).run Tryz.prog w = .ok (.value (.pointer (some ⟨w.heap.size, 0, none⟩))) (w.alloc (.cells row.toArray t)) := by intro vals w; kernel_rfl) :
  Ja.Steps Tryz.prog ops (JC w0 ops l cs ks) F i (o :: rest) :=
 Ja.Steps.cons (JC.alloc (t := t) (cells := row.toArray) c hck ho hg hx hal hf hl (fun W => by rw [hrow, ht]; exact NbV.mk hnew (Bx.new W _ _)) (fun vals w K hK => by
  unfold Oper.wp;rw [hrun vals w, Oper.upon_value];exact hK.out _ rfl)) hr
def zN : List Value := [.bool false, .slice none 0 0, .slice none 0 0]
def zR : List Value := [.int .i64 0, .slice none 0 0, .slice none 0 0]
theorem shN : Sh [.b, .s, .s] zN := ⟨⟨_, rfl⟩, ⟨_, _, _, rfl⟩, ⟨_, _, _, rfl⟩, trivial⟩
theorem shR : Sh [.i, .s, .s] zR := ⟨⟨_, rfl⟩, ⟨_, _, _, rfl⟩, ⟨_, _, _, rfl⟩, trivial⟩
theorem shS : Sh [.b, .s, .s, .b, .s, .s] (zN ++ zN) := ⟨⟨_, rfl⟩, ⟨_, _, _, rfl⟩, ⟨_, _, _, rfl⟩, ⟨_, rfl⟩, ⟨_, _, _, rfl⟩, ⟨_, _, _, rfl⟩, trivial⟩
theorem shT : Sh [.i, .s, .s, .i, .s, .s] (zR ++ zR) := ⟨⟨_, rfl⟩, ⟨_, _, _, rfl⟩, ⟨_, _, _, rfl⟩, ⟨_, rfl⟩, ⟨_, _, _, rfl⟩, ⟨_, _, _, rfl⟩, trivial⟩
def aDL (f : Nat → Value) (j k : Nat) (u v : Value) : Nat → Value := fun x => if x = j then u else if x = k then v else f x
theorem aDa (f : Nat → Value) (j k : Nat) {u v : Value} (h1 : f j = u) (h2 : f k = v) : aDL f j k u v = f := by
 funext x;unfold aDL;split
 ·rename_i h; rw [h, h1]
 ·split
  ·rename_i h; rw [h, h2]
  ·rfl
theorem JC.bs (j k : Nat) {p q : Rat} (c : Ctx ops a F) (hr : Ja.Steps Tryz.prog ops (JC w0 ops l cs ks) F (i + 1) rest)
  (hlj : l.getD j .any = .gen (fB p) := by rfl) (hlk : l.getD k .any = .gen (fB q) := by rfl) (hl : l.getD i .any = .gen (dO p q) := by rfl)
  (hj : (o.after.any fun e => Region.binds .any e && e.on == j) = true := by kernel_rfl) (hk : (o.after.any fun e => Region.binds .any e && e.on == k) = true := by kernel_rfl)
  (ho : ops[i]? = some o := by rfl) (hck : bC ops cs = true := by kernel_rfl) (hg : bF ops l o true = true := by kernel_rfl) (hf : (cs.all fun c => c.al != some i && c.st != i) = true := by kernel_rfl)
  (hrun : ∀ (vals : Nat → Value) w s1 A1 n1 c1 A2 n2 c2 s3 A3 n3 c3 A4 n4 c4, (execOp (F (aDL vals j k (.agg #[.bool s1, .slice A1 n1 c1, .slice A2 n2 c2]) (.agg #[.bool s3, .slice A3 n3 c3, .slice A4 n4 c4]))).eval o).run Tryz.prog w = .ok (.value (.agg #[.bool s1, .slice A1 n1 c1, .slice A2 n2 c2, .bool s3, .slice A3 n3 c3, .slice A4 n4 c4])) w := by intros; kernel_rfl) :
  Ja.Steps Tryz.prog ops (JC w0 ops l cs ks) F i (o :: rest) :=
 JC.o c (fun L vals w _ _ hd K hK => by
  have h1 := hd j hj;have h2 := hd k hk;unfold SL at h1 h2;rw [hlj] at h1;rw [hlk] at h2;have h1' : Nq w (vals j) p := h1;have h2' : Nq w (vals k) q := h2;obtain ⟨s1, A1, n1, c1, A2, n2, c2, e1, -⟩ := Nq.form h1';obtain ⟨s3, A3, n3, c3, A4, n4, c4, e2, -⟩ := Nq.form h2';have h := hrun vals w s1 A1 n1 c1 A2 n2 c2 s3 A3 n3 c3 A4 n4 c4;rw [aDa vals j k e1 e2] at h;unfold Oper.wp;rw [h, Oper.upon_value];refine hK.out _ w _ rfl ?_ (Q.refl _);unfold SL; rw [hl];rw [e1] at h1'; rw [e2] at h2';exact ⟨_, _, _, _, _, _, _, _, _, _, _, _, _, _, rfl, h1', h2'⟩) hr hck ho hg hf
theorem JC.bt (j k : Nat) {p q : Rat} (c : Ctx ops a F) (hr : Ja.Steps Tryz.prog ops (JC w0 ops l cs ks) F (i + 1) rest)
  (hlj : l.getD j .any = .gen (pRn p) := by rfl) (hlk : l.getD k .any = .gen (pRn q) := by rfl) (hl : l.getD i .any = .gen (pRs p q) := by rfl)
  (hj : (o.after.any fun e => Region.binds .any e && e.on == j) = true := by kernel_rfl) (hk : (o.after.any fun e => Region.binds .any e && e.on == k) = true := by kernel_rfl)
  (ho : ops[i]? = some o := by rfl) (hck : bC ops cs = true := by kernel_rfl) (hg : bF ops l o true = true := by kernel_rfl) (hf : (cs.all fun c => c.al != some i && c.st != i) = true := by kernel_rfl)
  (hrun : ∀ (vals : Nat → Value) w s1 A1 n1 c1 A2 n2 c2 s3 A3 n3 c3 A4 n4 c4, (execOp (F (aDL vals j k (.agg #[.int .i64 s1, .slice A1 n1 c1, .slice A2 n2 c2]) (.agg #[.int .i64 s3, .slice A3 n3 c3, .slice A4 n4 c4]))).eval o).run Tryz.prog w = .ok (.value (.agg #[.int .i64 s1, .slice A1 n1 c1, .slice A2 n2 c2, .int .i64 s3, .slice A3 n3 c3, .slice A4 n4 c4])) w := by intros; kernel_rfl) :
  Ja.Steps Tryz.prog ops (JC w0 ops l cs ks) F i (o :: rest) :=
 JC.o c (fun L vals w _ _ hd K hK => by
  have h1 := hd j hj;have h2 := hd k hk;unfold SL at h1 h2;rw [hlj] at h1;rw [hlk] at h2;have h1' : Rq w (vals j) p := h1;have h2' : Rq w (vals k) q := h2;have h1'' := h1'; have h2'' := h2';obtain ⟨A1, n1, c1, A2, n2, c2, e1, -⟩ := h1'';obtain ⟨A3, n3, c3, A4, n4, c4, e2, -⟩ := h2'';have h := hrun vals w (sn p) A1 n1 c1 A2 n2 c2 (sn q) A3 n3 c3 A4 n4 c4;rw [aDa vals j k e1 e2] at h;unfold Oper.wp;rw [h, Oper.upon_value];refine hK.out _ w _ rfl ?_ (Q.refl _);unfold SL; rw [hl];rw [e1] at h1'; rw [e2] at h2';exact ⟨_, _, _, _, _, _, _, _, _, _, _, _, _, _, rfl, h1', h2'⟩) hr hck ho hg hf
end
end Go.Proofs.YtajbfablmpmgbaaGreatDoor.K
namespace Go.Proofs.YtajbfablmpmgbaaGreatDoor.K
open Go.RowKit
open Ma Me
structure Cb where
 g : Nat
 t : TypeId
 ck : List Ck
 v : Value
 s : Vs
inductive Sx where
 | k
 | s (a b : Nat)
structure Fr where
 al : Nat
 t : TypeId
 ck : List Ck
 row : List Value
 x : Sx
structure St (w0 : World) (cs : List Cb) (ks : List (Value × Vs)) (w : World) : Prop where
 q : Q w0 w
 c : ∀ c ∈ cs, w0.heap.size ≤ c.g ∧ NbV w c.g c.t c.ck c.v ∧ c.s.holds c.v w
 d : ∀ (m k : Nat) (y z : Cb), m ≠ k → cs[m]? = some y → cs[k]? = some z → y.g ≠ z.g
 k : ∀ p ∈ ks, p.2.holds p.1 w
def mkE (c : Cb) : Sx → Ce
 | .k => ⟨none, c.g, c.t, c.ck, c.v, 1000, 0⟩
 | .s a b => ⟨none, c.g, c.t, c.ck, c.v, a, b⟩
def mkF (f : Fr) : Ce := match f.x with
 | .k => ⟨some f.al, 0, f.t, f.ck, .agg f.row.toArray, 1000, 0⟩
 | .s a b => ⟨some f.al, 0, f.t, f.ck, .agg f.row.toArray, a, b⟩
def mkC : List Sx → List Cb → List Ce
 | _, [] => []
 | [], c :: cs => mkE c .k :: mkC [] cs
 | x :: xs, c :: cs => mkE c x :: mkC xs cs
def cont (cs : List Cb) : List (Value × Vs) := cs.map fun c => (c.v, c.s)
def poE (l : List Vs) (vals : Nat → Value) (c : Cb) : Sx → Cb
 | .k => c
 | .s _ b => ⟨c.g, c.t, c.ck, vals b, l.getD b .any⟩
def poF (l : List Vs) (vals : Nat → Value) (ga : Nat → Nat) (f : Fr) : Cb := match f.x with
 | .k => ⟨ga f.al, f.t, f.ck, .agg f.row.toArray, .eq (.agg f.row.toArray)⟩
 | .s _ b => ⟨ga f.al, f.t, f.ck, vals b, l.getD b .any⟩
def poC (l : List Vs) (vals : Nat → Value) : List Sx → List Cb → List Cb
 | _, [] => []
 | [], c :: cs => c :: poC l vals [] cs
 | x :: xs, c :: cs => poE l vals c x :: poC l vals xs cs
def post (l : List Vs) (vals : Nat → Value) (ga : Nat → Nat) (ss : List Sx) (fs : List Fr) (cs : List Cb) : List Cb := poC l vals ss cs ++ fs.map (poF l vals ga)
def mU (n : Nat) : Sx → Bool
 | .k => Nat.ble n 1000
 | .s a b => Nat.blt a n && Nat.blt b n
def Ce.addr (ga : Nat → Nat) (x : Ce) : Nat := match x.al with | none => x.g | some a => ga a
def RelB (l : List Vs) (vals : Nat → Value) (ga : Nat → Nat) (n : Nat) (x : Ce) (y : Cb) (s : Vs) : Prop :=
 y.g = x.addr ga ∧ y.t = x.t ∧ y.ck = x.ck ∧ ((x.st < n ∧ x.src < n ∧ y.v = vals x.src ∧ y.s = l.getD x.src .any) ∨ (n ≤ x.st ∧ y.v = x.row ∧ y.s = s))
section
variable {l : List Vs} {vals : Nat → Value} {ga : Nat → Nat} {n : Nat}
theorem relE {c : Cb} {x : Sx} (h : mU n x = true) : RelB l vals ga n (mkE c x) (poE l vals c x) c.s := by
 cases x with
 | k => exact ⟨rfl, rfl, rfl, Or.inr ⟨Nat.le_of_ble_eq_true h, rfl, rfl⟩⟩
 | s a b =>
   obtain ⟨h1, h2⟩ := (Bool.and_eq_true _ _).mp h;exact ⟨rfl, rfl, rfl, Or.inl ⟨Nat.le_of_ble_eq_true h1, Nat.le_of_ble_eq_true h2, rfl, rfl⟩⟩
theorem aJu {f : Fr} (h : mU n f.x = true) : RelB l vals ga n (mkF f) (poF l vals ga f) (.eq (mkF f).row) := by
 obtain ⟨al, t, ck, row, x⟩ := f;cases x with
 | k => exact ⟨rfl, rfl, rfl, Or.inr ⟨Nat.le_of_ble_eq_true h, rfl, rfl⟩⟩
 | s a b =>
   obtain ⟨h1, h2⟩ := (Bool.and_eq_true _ _).mp h;exact ⟨rfl, rfl, rfl, Or.inl ⟨Nat.le_of_ble_eq_true h1, Nat.le_of_ble_eq_true h2, rfl, rfl⟩⟩
theorem aBQ (hn : mU n .k = true) : ∀ {ss : List Sx} {cs : List Cb} {m : Nat} {y : Cb}, (ss.all (mU n)) = true → (poC l vals ss cs)[m]? = some y → ∃ x c, (mkC ss cs)[m]? = some x ∧ c ∈ cs ∧ x.row = c.v ∧ x.al = none ∧ RelB l vals ga n x y c.s
 | _, [], _, _, _, h => by simp [poC] at h
 | [], c :: cs, 0, y, _, h => by
   simp [poC] at h; subst h;exact ⟨_, c, rfl, by simp, rfl, rfl, relE (x := .k) hn⟩
 | [], c :: cs, m + 1, y, hs, h => by
   obtain ⟨x, c', h1, h2, h3⟩ := aBQ hn (ss := []) (cs := cs) (m := m) (y := y) hs (by simpa [poC] using h);exact ⟨x, c', by simpa [mkC] using h1, List.mem_cons_of_mem _ h2, h3⟩
 | x :: xs, c :: cs, 0, y, hs, h => by
   simp [poC] at h; subst h;obtain ⟨h1, h2⟩ := (Bool.and_eq_true _ _).mp hs;exact ⟨_, c, rfl, by simp, by cases x <;> rfl, by cases x <;> rfl, relE h1⟩
 | x :: xs, c :: cs, m + 1, y, hs, h => by
   obtain ⟨h1, h2⟩ := (Bool.and_eq_true _ _).mp hs;obtain ⟨x', c', h3, h4, h5⟩ := aBQ hn (ss := xs) (cs := cs) (m := m) (y := y) h2 (by simpa [poC] using h);exact ⟨x', c', by simpa [mkC] using h3, List.mem_cons_of_mem _ h4, h5⟩
theorem wG : ∀ {ss : List Sx} {cs : List Cb}, (mkC ss cs).length = cs.length
 | _, [] => rfl
 | [], c :: cs => by simp [mkC, wG (ss := []) (cs := cs)]
 | x :: xs, c :: cs => by simp [mkC, wG (ss := xs) (cs := cs)]
theorem aAh : ∀ {ss : List Sx} {cs : List Cb}, (poC l vals ss cs).length = cs.length
 | _, [] => rfl
 | [], c :: cs => by simp [poC, aAh (ss := []) (cs := cs)]
 | x :: xs, c :: cs => by simp [poC, aAh (ss := xs) (cs := cs)]
theorem post_at {ss : List Sx} {fs : List Fr} {cs : List Cb} (hn : mU n .k = true) (hs : ss.all (mU n) = true) (hf : (fs.all fun f => mU n f.x) = true) {m : Nat} {y : Cb} (h : (post l vals ga ss fs cs)[m]? = some y) :
  ∃ x s, (mkC ss cs ++ fs.map mkF)[m]? = some x ∧ RelB l vals ga n x y s ∧ ((x.al = none ∧ ∃ c ∈ cs, x.row = c.v ∧ s = c.s) ∨ (s = .eq x.row ∧ ∃ f ∈ fs, x.al = some f.al)) := by
 unfold post at h;rw [List.getElem?_append, aAh] at h;rw [List.getElem?_append, wG];split at h
 ·rename_i hlt;rw [if_pos hlt];obtain ⟨x, c, h1, h2, h3, h4, h5⟩ := aBQ hn hs h;exact ⟨x, c.s, h1, h5, Or.inl ⟨h4, c, h2, h3, rfl⟩⟩
 ·rename_i hlt;rw [if_neg hlt];rw [List.getElem?_map] at h ⊢;cases e : fs[m - cs.length]? with
  | none => rw [e] at h; cases h
  | some f =>
    rw [e] at h;injection h with h;subst h;have hm := List.mem_of_getElem? e;exact ⟨mkF f, .eq (mkF f).row, rfl, aJu (List.all_eq_true.1 hf f hm), Or.inr ⟨rfl, f, hm, by unfold mkF; split <;> rfl⟩⟩
end
section
variable {P : Program} {ops : Array Oper} {Q' : Exit → Act → World → Prop} {l : List Vs} {cs : List Cb} {ks : List (Value × Vs)} {ss : List Sx} {fs : List Fr} {F : (Nat → Value) → Act} {a : Act} {w0 : World}
theorem aAi : ∀ {ss : List Sx} {cs : List Cb} {x : Ce}, x ∈ mkC ss cs → ∃ c ∈ cs, x.g = c.g ∧ x.t = c.t ∧ x.ck = c.ck ∧ x.row = c.v
 | _, [], _, h => by cases h
 | [], c :: cs, x, h => by
   rcases List.mem_cons.1 h with rfl | h
   ·exact ⟨c, by simp, rfl, rfl, rfl, rfl⟩
   ·obtain ⟨c', h1, h2⟩ := aAi h; exact ⟨c', List.mem_cons_of_mem _ h1, h2⟩
 | s :: ss, c :: cs, x, h => by
   rcases List.mem_cons.1 h with rfl | h
   ·exact ⟨c, by simp, by cases s <;> exact ⟨rfl, rfl, rfl, rfl⟩⟩
   ·obtain ⟨c', h1, h2⟩ := aAi h; exact ⟨c', List.mem_cons_of_mem _ h1, h2⟩
theorem aAj : ∀ {ss : List Sx} {cs : List Cb} {m : Nat} {x : Ce}, (mkC ss cs)[m]? = some x → ∃ c, cs[m]? = some c ∧ x.g = c.g
 | _, [], _, _, h => by simp [mkC] at h
 | [], c :: cs, 0, x, h => by simp [mkC] at h; subst h; exact ⟨c, rfl, rfl⟩
 | [], c :: cs, m + 1, x, h => by
   obtain ⟨c', h1, h2⟩ := aAj (ss := []) (cs := cs) (m := m) (x := x) (by simpa [mkC] using h);exact ⟨c', by simpa using h1, h2⟩
 | s :: ss, c :: cs, 0, x, h => by simp [mkC] at h; subst h; exact ⟨c, rfl, by cases s <;> rfl⟩
 | s :: ss, c :: cs, m + 1, x, h => by
   obtain ⟨c', h1, h2⟩ := aAj (ss := ss) (cs := cs) (m := m) (x := x) (by simpa [mkC] using h);exact ⟨c', by simpa using h1, h2⟩
theorem aBR {f : Fr} : (mkF f).al = some f.al := by unfold mkF; split <;> rfl
theorem St.at0 {w : World} (h : St w0 cs ks w) : At0 w0 (mkC ss cs ++ fs.map mkF) (cont cs ++ ks) w := by
 refine ⟨h.q, fun x hx hal => ?_, fun m k y z hmk hy hz h1 h2 => ?_, fun p hp => ?_⟩
 ·rcases List.mem_append.1 hx with hx | hx
  ·obtain ⟨c, hc, e1, e2, e3, e4⟩ := aAi hx;obtain ⟨h1, h2, h3⟩ := h.c c hc;rw [e1, e2, e3, e4];exact ⟨h1, h2⟩
  ·obtain ⟨f, -, rfl⟩ := List.mem_map.1 hx;rw [aBR] at hal; cases hal
 ·have key : ∀ {m : Nat} {y : Ce}, (mkC ss cs ++ fs.map mkF)[m]? = some y → y.al = none → ∃ c, cs[m]? = some c ∧ y.g = c.g := fun {m y} hy hal => by
   rw [List.getElem?_append, wG] at hy;split at hy
   ·exact aAj hy
   ·obtain ⟨f, -, rfl⟩ := List.mem_map.1 (List.mem_of_getElem? hy);rw [aBR] at hal; cases hal
  obtain ⟨c1, g1, g2⟩ := key hy h1;obtain ⟨c2, g3, g4⟩ := key hz h2;rw [g2, g4];exact h.d m k c1 c2 hmk g1 g3
 ·rcases List.mem_append.1 hp with hp | hp
  ·obtain ⟨c, hc, rfl⟩ := List.mem_map.1 hp;exact (h.c c hc).2.2
  ·exact h.k p hp
def adr : Value → Nat
 | .pointer (some a) => a.block
 | _ => 0
theorem JC.st {L : Nat → Bool} {vals : Nat → Value} {W : World} (hck : bC ops (mkC ss cs ++ fs.map mkF) = true) (hn : mU ops.size .k = true) (hs : ss.all (mU ops.size) = true) (hf : (fs.all fun f => mU ops.size f.x) = true)
  (hall : ∀ j, j < ops.size → L j = true) (h : JC w0 ops l (mkC ss cs ++ fs.map mkF) (cont cs ++ ks) L vals W) (kp : List Nat) (hkp : kp.all (fun j => Nat.blt j ops.size) = true) :
  St w0 (post l vals (fun j => adr (vals j)) ss fs cs) (ks ++ kp.map fun j => (vals j, l.getD j .any)) W ∧ ∀ f ∈ fs, vals f.al = .pointer (some ⟨adr (vals f.al), 0, none⟩) := by
 have live : ∀ x ∈ mkC ss cs ++ fs.map mkF, x.live L = true := fun x hx => by
  unfold Ce.live;have := List.all_eq_true.1 hck x hx;simp only [Bool.and_eq_true] at this;cases e : x.al with
  | none => rfl
  | some b =>
    have h2 := this.2;simp only [e, Bool.and_eq_true, decide_eq_true_eq] at h2;exact hall _ h2.2
 have ptr : ∀ x ∈ mkC ss cs ++ fs.map mkF, x.ptr vals = .pointer (some ⟨x.addr (fun j => adr (vals j)), 0, none⟩) := fun x hx => by
  obtain ⟨g, h1, -⟩ := h.c x hx (live x hx);unfold Ce.ptr Ce.addr at *
  cases e : x.al with
  | none => rfl
  | some b =>
    simp only [e] at h1;simp only [h1, adr]
 refine ⟨⟨h.q, fun y hy => ?_, fun m k y z hmk hy hz => ?_, fun p hp => ?_⟩, fun f hf' => ?_⟩
 ·obtain ⟨m, hm⟩ := List.mem_iff_getElem?.1 hy;obtain ⟨x, s, hx, ⟨e1, e2, e3, e4⟩, hsx⟩ := post_at (ga := fun j => adr (vals j)) hn hs hf hm;have hxm := List.mem_of_getElem? hx;obtain ⟨g, h1, h2, h3⟩ := h.c x hxm (live x hxm);have hg : g = x.addr (fun j => adr (vals j)) := by
   have := h1.symm.trans (ptr x hxm);injection this with this; injection this with this; injection this
  subst hg;rw [e1, e2, e3];rcases e4 with ⟨a1, a2, a3, a4⟩ | ⟨a1, a2, a3⟩
  ·rw [a3, a4];rw [if_pos (hall _ a1)] at h3;exact ⟨h2, h3, h.s _ (hall _ a2)⟩
  ·rw [a2, a3];rw [if_neg (by rw [h.b _ a1]; decide)] at h3;refine ⟨h2, h3, ?_⟩;rcases hsx with ⟨-, c, hc, b1, b2⟩ | ⟨b1, -⟩
   ·rw [b1, b2]; exact h.k _ (List.mem_append_left _ (List.mem_map.2 ⟨c, hc, rfl⟩))
   ·rw [b1]; rfl
 ·obtain ⟨x, s, hx, ⟨e1, -⟩, -⟩ := post_at (ga := fun j => adr (vals j)) hn hs hf hy;obtain ⟨x', s', hx', ⟨e1', -⟩, -⟩ := post_at (ga := fun j => adr (vals j)) hn hs hf hz;have hxm := List.mem_of_getElem? hx;have hxm' := List.mem_of_getElem? hx';intro e;refine h.d m k x x' hmk hx hx' (live x hxm) (live x' hxm') ?_;rw [ptr x hxm, ptr x' hxm', ← e1, ← e1', e]
 ·rcases List.mem_append.1 hp with hp | hp
  ·exact h.k p (List.mem_append_right _ hp)
  ·obtain ⟨j, hj, rfl⟩ := List.mem_map.1 hp;exact h.s j (hall j (Nat.le_of_ble_eq_true (List.all_eq_true.1 hkp j hj)))
 ·have hm : mkF f ∈ mkC ss cs ++ fs.map mkF := List.mem_append_right _ (List.mem_map.2 ⟨f, hf', rfl⟩);have := ptr _ hm;unfold Ce.ptr Ce.addr at this;simpa only [aBR] using this
structure Vl (l : List Vs) (vals : Nat → Value) (fs : List Fr) (n : Nat) : Prop where
 e : ∀ j {v : Value}, l.getD j .any = .eq v → Nat.blt j n = true → vals j = v
 f : ∀ j, (fs.any fun f => f.al == j) = true → vals j = .pointer (some ⟨adr (vals j), 0, none⟩)
theorem reg {id : Nat} {b : Bool} {w : World} (l : List Vs) (ss : List Sx) (fs : List Fr) (kp : List Nat) (hS : Hid (St w0 cs ks w)) {ces : List Ce} {kks : List (Value × Vs)} {cs2 : (Nat → Value) → List Cb} {ks2 : (Nat → Value) → List (Value × Vs)} (hstep : Ctx ops a F → Ja.Steps P ops (JC w0 ops l ces kks) F 0 ops.toList) (hend : ∀ vals w', Hid (Vl l vals fs ops.size) → Hid (St w0 (cs2 vals) (ks2 vals) w') → Q' .normal (F vals) w')
  (hF : ∀ vals, Ja.fillL vals ops.toList 0 a = F vals := by
   intro vals; simp only [Ja.fillL, Act.put, List.setIfInBounds_toArray, List.set, Nat.reduceAdd]; exact rfl)
  (h1 : mkC ss cs ++ fs.map mkF = ces := by dsimp only [mkC, mkE, mkF, List.map, List.cons_append, List.nil_append] <;> exact rfl)
  (h2 : cont cs ++ ks = kks := by dsimp only [cont, List.map, List.cons_append, List.nil_append] <;> exact rfl)
  (h3 : ∀ vals, post l vals (fun j => adr (vals j)) ss fs cs = cs2 vals := by
   intro vals; dsimp only [post, poC, poE, poF, List.map, List.cons_append, List.nil_append, List.getD_cons_succ, List.getD_cons_zero] <;> exact rfl)
  (h4 : ∀ vals, (ks ++ kp.map fun j => (vals j, l.getD j .any)) = ks2 vals := by
   intro vals; dsimp only [List.map, List.cons_append, List.nil_append, List.getD_cons_succ, List.getD_cons_zero] <;> exact rfl)
  (hm : P.follows .mixedOrders = true := by kernel_rfl) (hsh : (Ja.shape ops && Region.noSelect ops && Ja.inBounds ops a.tmps.size) = true := by kernel_rfl)
  (hck : bC ops (mkC ss cs ++ fs.map mkF) = true := by kernel_rfl) (hok : (mU ops.size .k && ss.all (mU ops.size) && (fs.all fun f => mU ops.size f.x) && kp.all (fun j => Nat.blt j ops.size)) = true := by kernel_rfl) : (Code.region id ops b).wp P Q' a w := by
 subst h1 h2;simp only [Bool.and_eq_true] at hok;obtain ⟨⟨⟨o1, o2⟩, o3⟩, o4⟩ := hok;have fin : ∀ L vals w', (∀ j, j < ops.size → L j = true) → JC w0 ops l (mkC ss cs ++ fs.map mkF) (cont cs ++ ks) L vals w' → Q' .normal (F vals) w' := fun L vals w' hall hJ => by
  obtain ⟨h1, h2⟩ := hJ.st hck o1 o2 o3 hall kp o4;rw [h3, h4] at h1;refine hend vals w' (yW ⟨fun j v hv hj => ?_, fun j hj => ?_⟩) (yW h1)
  rotate_left
  ·obtain ⟨f, hf, he⟩ := List.any_eq_true.1 hj;rw [beq_iff_eq] at he;rw [← he]; exact h2 f hf
  have := hJ.s j (hall j (Nat.le_of_ble_eq_true hj));unfold SL at this;rw [hv] at this;exact this
 cases b with
 | true => exact aBP w0 l _ _ hm hsh hS.out.at0 hF hstep fin
 | false => exact aDJ w0 l _ _ hsh hS.out.at0 hF hstep fin
end
theorem mo4 {A B : Value → World → Prop} {w : World} : ∀ (e : Ending) (w' : World), (∃ r, e = .returned r ∧ A r w' ∧ Q w w' ∧ B r w') → ∃ r, e = .returned r ∧ A r w' ∧ Q w w' := fun _ _ ⟨r, h1, h2, h3, _⟩ => ⟨r, h1, h2, h3⟩
theorem mo0 {v : Value} {w : World} : ∀ (e : Ending) (w' : World), (e = .returned v ∧ Q w w') → ∃ r, e = .returned r ∧ (Vs.eq v).holds r w' ∧ Q w w' := fun _ _ ⟨h1, h2⟩ => ⟨v, h1, rfl, h2⟩
theorem mo1 {u v : Value} {w : World} (h : u = v) : ∀ (e : Ending) (w' : World), (e = .returned u ∧ Q w w') → ∃ r, e = .returned r ∧ (Vs.eq v).holds r w' ∧ Q w w' := fun _ _ ⟨h1, h2⟩ => ⟨v, h ▸ h1, rfl, h2⟩
theorem mo2 {u v : Value} {w : World} (h : u = v) : ∀ (e : Ending) (w' : World), (e = .returned u ∧ w = w') → ∃ r, e = .returned r ∧ (Vs.eq v).holds r w' ∧ Q w w' := fun _ _ ⟨h1, h2⟩ => ⟨v, h ▸ h1, rfl, h2 ▸ Q.refl _⟩
def pVn (N : Nat) : Pr := ⟨fun v w => Nm w v N, fun h hq => h.q hq, true, fun _ h ha => ha.nm h⟩
def part (v : Value) (o : Nat) : Value := match v with
 | .agg a => .agg ((a.toList.drop o).take 3).toArray
 | _ => v
def cellAt (v : Value) (o : Nat) : Value := match v with
 | .agg a => (a.toList[o]?).getD undef
 | _ => v
theorem pa0 {p q : Rat} : ∀ v W, (Vs.gen (dO p q)).holds v W → (Vs.gen (fB p)).holds (part v 0) W := fun v W ⟨_, _, _, _, _, _, _, _, _, _, _, _, _, _, e, h, _⟩ => by rw [e]; exact h
theorem pa3 {p q : Rat} : ∀ v W, (Vs.gen (dO p q)).holds v W → (Vs.gen (fB q)).holds (part v 3) W := fun v W ⟨_, _, _, _, _, _, _, _, _, _, _, _, _, _, e, _, h⟩ => by rw [e]; exact h
theorem pb0 {p q : Rat} : ∀ v W, (Vs.gen (pRs p q)).holds v W → (Vs.gen (pRn p)).holds (part v 0) W := fun v W ⟨_, _, _, _, _, _, _, _, _, _, _, _, _, _, e, h, _⟩ => by rw [e]; exact h
theorem pb3 {p q : Rat} : ∀ v W, (Vs.gen (pRs p q)).holds v W → (Vs.gen (pRn q)).holds (part v 3) W := fun v W ⟨_, _, _, _, _, _, _, _, _, _, _, _, _, _, e, _, h⟩ => by rw [e]; exact h
theorem rn0 {q : Rat} : ∀ v W, (Vs.gen (pRn q)).holds v W → (Vs.eq (.int .i64 (sn q))).holds (cellAt v 0) W := fun v W ⟨_, _, _, _, _, _, e, _⟩ => by rw [e]; rfl
theorem rn1 {q : Rat} : ∀ v W, (Vs.gen (pRn q)).holds v W → (Vs.gen (aF q.num.natAbs)).holds (cellAt v 1) W := fun v W ⟨_, _, _, _, _, _, e, h, _⟩ => by rw [e]; exact h
theorem rn2 {q : Rat} (hz : q ≠ 0) : ∀ v W, (Vs.gen (pRn q)).holds v W → (Vs.gen (aF q.den)).holds (cellAt v 2) W := fun v W ⟨_, _, _, _, _, _, e, _, h⟩ => by rw [e]; exact h hz
theorem nu0 {q : Rat} {b : Bool} (hb : decide (q < 0) = b) : ∀ v W, (Vs.gen (fB q)).holds v W → (Vs.eq (.bool b)).holds (cellAt v 0) W := fun v W h => by
 obtain ⟨s1, A1, n1, c1, A2, n2, c2, rfl, E1, -⟩ := (show Nq W v q from h).form;show Value.bool s1 = _;rw [← hb, E1.out];congr 1;exact decide_eq_decide.2 (bZ q)
theorem nu1 {q : Rat} : ∀ v W, (Vs.gen (fB q)).holds v W → (Vs.gen (pVn q.num.natAbs)).holds (cellAt v 1) W := fun v W ⟨_, _, e, h, _⟩ => by rw [e]; exact h
theorem ns0 {p q : Rat} {b : Bool} (hb : decide (p < 0) = b) : ∀ v W, (Vs.gen (dO p q)).holds v W → (Vs.eq (.bool b)).holds (cellAt v 0) W := fun v W ⟨_, _, _, _, _, _, _, _, _, _, _, _, _, _, e, h, _⟩ => by have h9 := nu0 hb _ _ h; rw [e]; exact h9
theorem ns3 {p q : Rat} {b : Bool} (hb : decide (q < 0) = b) : ∀ v W, (Vs.gen (dO p q)).holds v W → (Vs.eq (.bool b)).holds (cellAt v 3) W := fun v W ⟨_, _, _, _, _, _, _, _, _, _, _, _, _, _, e, _, h⟩ => by have h9 := nu0 hb _ _ h; rw [e]; exact h9
theorem rs0 {p q : Rat} : ∀ v W, (Vs.gen (pRs p q)).holds v W → (Vs.eq (.int .i64 (sn p))).holds (cellAt v 0) W := fun v W ⟨_, _, _, _, _, _, _, _, _, _, _, _, _, _, e, h, _⟩ => by have h9 := rn0 _ _ h; rw [e]; exact h9
theorem rs1 {p q : Rat} : ∀ v W, (Vs.gen (pRs p q)).holds v W → (Vs.gen (aF p.num.natAbs)).holds (cellAt v 1) W := fun v W ⟨_, _, _, _, _, _, _, _, _, _, _, _, _, _, e, h, _⟩ => by have h9 := rn1 _ _ h; rw [e]; exact h9
theorem rs2 {p q : Rat} (hz : p ≠ 0) : ∀ v W, (Vs.gen (pRs p q)).holds v W → (Vs.gen (aF p.den)).holds (cellAt v 2) W := fun v W ⟨_, _, _, _, _, _, _, _, _, _, _, _, _, _, e, h, _⟩ => by have h9 := rn2 hz _ _ h; rw [e]; exact h9
theorem rs3 {p q : Rat} : ∀ v W, (Vs.gen (pRs p q)).holds v W → (Vs.eq (.int .i64 (sn q))).holds (cellAt v 3) W := fun v W ⟨_, _, _, _, _, _, _, _, _, _, _, _, _, _, e, _, h⟩ => by have h9 := rn0 _ _ h; rw [e]; exact h9
theorem rs4 {p q : Rat} : ∀ v W, (Vs.gen (pRs p q)).holds v W → (Vs.gen (aF q.num.natAbs)).holds (cellAt v 4) W := fun v W ⟨_, _, _, _, _, _, _, _, _, _, _, _, _, _, e, _, h⟩ => by have h9 := rn1 _ _ h; rw [e]; exact h9
theorem rs5 {p q : Rat} (hz : q ≠ 0) : ∀ v W, (Vs.gen (pRs p q)).holds v W → (Vs.gen (aF q.den)).holds (cellAt v 5) W := fun v W ⟨_, _, _, _, _, _, _, _, _, _, _, _, _, _, e, _, h⟩ => by have h9 := rn2 hz _ _ h; rw [e]; exact h9
theorem eqC {u : Value} {off : Nat} : ∀ v W, (Vs.eq u).holds v W → (Vs.eq (cellAt u off)).holds (cellAt v off) W := fun v W h => by rw [show v = u from h]; rfl
theorem st2 {ρ : Operand → Value} {o : Oper} {w : World} {g : Nat} {t : TypeId} {v0 v1 u0 u1 : Value} {T : TypeId} {x y : Operand} (hb : Bx w g t [u0, u1]) (o0 : v0.oneCell' = true) (o1 : v1.oneCell' = true)  (ho : o.op = .store T x y) (hx : ρ x = .pointer (some ⟨g, 0, none⟩)) (hy : ρ y = .agg #[v0, v1]) (hS : ∀ w, Sem.run Tryz.prog (sizeOf T) w = .ok 2 w) :
  (execOp ρ o).run Tryz.prog w = .ok .skip (gF w g 0 [v0, v1]) := by
 have fz := hb.frozen;have c0 := hb.cell 0 rfl;have c1 := hb.cell 1 rfl;unfold execOp;rw [ho];simp [hx, hy, go_sem, hS, storeCells, Addr.add, fz, c0, c1, gF, o0, o1, run_store]
theorem aDM : ∀ {l : List Value}, l.length = 3 → ∃ a b c, l = [a, b, c]
 | [a, b, c], _ => ⟨a, b, c, rfl⟩
theorem aDN : ∀ {l : List Value}, l.length = 6 → ∃ a b c d e f, l = [a, b, c, d, e, f]
 | [a, b, c, d, e, f], _ => ⟨a, b, c, d, e, f, rfl⟩
section
variable {ops : Array Oper} {l : List Vs} {cs : List Ce} {ks : List (Value × Vs)} {F : (Nat → Value) → Act} {a : Act} {w0 : World} {i : Nat} {o : Oper} {rest : List Oper}
theorem JC.was' {L : Nat → Bool} {vals : Nat → Value} {W : World} (n : Nat) {x : Ce} (hx : cs[n]? = some x) (hal : x.al = none)
  (hb : (Nat.ble ops.size x.st || waits ops x.st x.src && waits ops x.src i || waits ops x.st i) = true) (hL : L i = false) (h : JC w0 ops l cs ks L vals W) : NbV W x.g x.t x.ck x.row := by
 rcases (Bool.or_eq_true _ _).mp hb with h0 | h0
 ·rcases (Bool.or_eq_true _ _).mp h0 with h1 | h1
  ·exact h.still n hx hal (Nat.le_of_ble_eq_true h1)
  ·obtain ⟨h2, h3⟩ := (Bool.and_eq_true _ _).mp h1;exact h.before n i hx hal hL h2 h3
 ·refine h.at n hx hal ?_;cases hs : L x.st with
  | false => rfl
  | true =>
    have := h.cl _ _ hs h0;rw [hL] at this; cases this
theorem JC.s2 {n : Nat} {x : Ce} {T : TypeId} {p y : Operand} (hx : cs[n]? = some x) (form : ∀ v W, (l.getD x.src .any).holds v W → ∃ v0 v1, v = .agg #[v0, v1] ∧ Sh x.ck [v0, v1]) (c : Ctx ops a F) (hr : Ja.Steps Tryz.prog ops (JC w0 ops l cs ks) F (i + 1) rest)
  (ho : ops[i]? = some o := by rfl) (hop : o.op = .store T p y := by rfl) (hp : ∀ vals, (F vals).eval p = x.ptr vals := by intro vals; kernel_rfl) (hy : ∀ vals, (F vals).eval y = vals x.src := by intro vals; kernel_rfl)
  (hty : (x.t != 2 && (x.t != 33 || Nat.ble x.ck.length 3)) = true := by kernel_rfl) (hst : x.st = i := by rfl) (hf : ((cs.eraseIdx n).all fun c => c.al != some i && c.st != i) = true := by kernel_rfl) (hl : l.getD i .any = .any := by rfl) (hok : (l.all Vs.ok && ks.all fun p => p.2.ok) = true := by kernel_rfl)
  (hck : bC ops cs = true := by kernel_rfl) (hg : bF ops l o true = true := by kernel_rfl) (hS : ∀ w, Sem.run Tryz.prog (sizeOf T) w = .ok 2 w := by intro _; kernel_rfl) :
  Ja.Steps Tryz.prog ops (JC w0 ops l cs ks) F i (o :: rest) :=
 Ja.Steps.cons (JC.store c hck ho hg hx (aGe hty) hst hf hl hok (fun L vals w g old hJ hpt ho' hs K hK => by
  obtain ⟨v0, v1, e, hsh⟩ := form _ _ hs;obtain ⟨row, e2, hsr, hb⟩ := ho';have hlen : row.length = 2 := (by rw [hsr.length, ← hsh.length]; rfl);obtain ⟨u0, u1, rfl⟩ : ∃ u0 u1, row = [u0, u1] := by
   match row, hlen with
   | [u0, u1], _ => exact ⟨_, _, rfl⟩
  have h1 := st2 hb (Sh.one hsh v0 (by simp)) (Sh.one hsh v1 (by simp)) hop ((hp vals).trans hpt) ((hy vals).trans e) hS;unfold Oper.wp;rw [h1, Oper.upon_skip];exact hK.out undef _ _ rfl ⟨_, e, hsh, rfl⟩)) hr
theorem aIr {a b : ByteArray} : ∀ v W, (Vs.eq (.agg #[.string a, .string b])).holds v W → ∃ v0 v1, v = .agg #[v0, v1] ∧ Sh [.t, .t] [v0, v1] := fun _ _ h => ⟨_, _, h, ⟨_, rfl⟩, ⟨_, rfl⟩, trivial⟩
theorem JC.ldg (n : Nat) {x : Ce} {v : Value → Value} {y : Operand} {s s' : Vs} (off : Nat) (hp : ∀ v' W, s.holds v' W → s'.holds (v v') W) (hrun' : ∀ (ρ : Operand → Value) w, NbV w x.g x.t x.ck x.row → ρ y = .pointer (some ⟨x.g, off, none⟩) → (execOp ρ o).run Tryz.prog w = .ok (.value (v x.row)) w) (c : Ctx ops a F) (hr : Ja.Steps Tryz.prog ops (JC w0 ops l cs ks) F (i + 1) rest) (hxn : cs[n]? = some x) (hal : x.al = none) (hb : (Nat.ble ops.size x.st || waits ops x.st x.src && waits ops x.src i || waits ops x.st i) = true) (hks : ks[n]? = some (x.row, s)) (hl : l.getD i .any = s') (ho : ops[i]? = some o) (hx : ∀ vals, (F (jG l o vals)).eval y = .pointer (some ⟨x.g, off, none⟩))
  (hck : bC ops cs = true) (hg : bF ops l o true = true) (hf : (cs.all fun c => c.al != some i && c.st != i) = true) :
  Ja.Steps Tryz.prog ops (JC w0 ops l cs ks) F i (o :: rest) :=
 JC.o c (fun L vals w hL hJ hd K hK => by
  have h := hrun' (F (jG l o vals)).eval w (JC.was' n hxn hal hb hL hJ) (hx vals);rw [mR hd] at h;unfold Oper.wp;rw [h, Oper.upon_value];exact hK.out _ w _ rfl (by unfold SL; rw [hl]; exact hp _ _ (hJ.k _ (List.mem_of_getElem? hks))) (Q.refl _)) hr hck ho hg hf
theorem ld4 {ρ : Operand → Value} {w : World} {g : Nat} {v0 v1 v2 v3 : Value} {T : TypeId} {x : Operand} (h0 : w.cell? ⟨g, 0, none⟩ = some v0) (h1 : w.cell? ⟨g, 1, none⟩ = some v1) (h2 : w.cell? ⟨g, 2, none⟩ = some v2) (h3 : w.cell? ⟨g, 3, none⟩ = some v3) (ho : o.op = .load T x) (hx : ρ x = .pointer (some ⟨g, 0, none⟩)) (hT : ∀ w, Sem.run Tryz.prog (isAgg T) w = .ok true w) (hS : ∀ w, Sem.run Tryz.prog (sizeOf T) w = .ok 4 w) :
  (execOp ρ o).run Tryz.prog w = .ok (.value (.agg #[v0, v1, v2, v3])) w := by
 unfold execOp;rw [ho];simp [hx, go_sem, hT, hS, loadCellsFrom, Addr.add, h0, h1, h2, h3]
theorem aJv : ∀ {l : List Value}, l.length = 4 → ∃ a b c d, l = [a, b, c, d]
 | [a, b, c, d], _ => ⟨a, b, c, d, rfl⟩
theorem ldw {ρ : Operand → Value} {w : World} {g : Nat} {t T : TypeId} {ck : List Ck} {v : Value} {y : Operand} (hop : o.op = .load T y) (hT : ∀ w, Sem.run Tryz.prog (isAgg T) w = .ok true w) (hS : ∀ w, Sem.run Tryz.prog (sizeOf T) w = .ok ck.length w) (h36 : (ck.length == 3 || ck.length == 6 || ck.length == 4) = true)
  (h : NbV w g t ck v) (hy : ρ y = .pointer (some ⟨g, 0, none⟩)) : (execOp ρ o).run Tryz.prog w = .ok (.value v) w := by
 obtain ⟨row, rfl, hs, hb⟩ := h;have hl := hs.length;rcases (Bool.or_eq_true _ _).mp h36 with h36 | h3
 rotate_left
 ·rw [beq_iff_eq] at h3;rw [h3] at hl hS;obtain ⟨x0, x1, x2, x3, rfl⟩ := aJv hl;exact ld4 (hb.cell 0 rfl) (hb.cell 1 rfl) (hb.cell 2 rfl) (hb.cell 3 rfl) hop hy hT hS
 rcases (Bool.or_eq_true _ _).mp h36 with h3 | h3
 ·rw [beq_iff_eq] at h3;rw [h3] at hl hS;obtain ⟨x0, x1, x2, rfl⟩ := aDM hl;exact ld3 (hb.cell 0 rfl) (hb.cell 1 rfl) (hb.cell 2 rfl) hop hy hT hS
 ·rw [beq_iff_eq] at h3;rw [h3] at hl hS;obtain ⟨x0, x1, x2, x3, x4, x5, rfl⟩ := aDN hl;exact ld6 (hb.cell 0 rfl) (hb.cell 1 rfl) (hb.cell 2 rfl) (hb.cell 3 rfl) (hb.cell 4 rfl) (hb.cell 5 rfl) hop hy hT hS
theorem ldp {ρ : Operand → Value} {w : World} {g off : Nat} {t T : TypeId} {ck : List Ck} {v : Value} {y : Operand} (hop : o.op = .load T y) (hT : ∀ w, Sem.run Tryz.prog (isAgg T) w = .ok true w) (hS : ∀ w, Sem.run Tryz.prog (sizeOf T) w = .ok 3 w) (h36 : (Nat.ble (off + 3) ck.length) = true)
  (h : NbV w g t ck v) (hy : ρ y = .pointer (some ⟨g, off, none⟩)) : (execOp ρ o).run Tryz.prog w = .ok (.value (part v off)) w := by
 obtain ⟨row, rfl, hs, hb⟩ := h;have hl := hs.length;have h3 := Nat.le_of_ble_eq_true h36;rw [← hl] at h3;have e : row[off]? = some row[off] ∧ row[off + 1]? = some row[off + 1] ∧ row[off + 2]? = some row[off + 2] := ⟨List.getElem?_eq_getElem (by omega), List.getElem?_eq_getElem (by omega), List.getElem?_eq_getElem (by omega)⟩
 have := ld3 (hb.cell off e.1) (hb.cell (off + 1) e.2.1) (hb.cell (off + 2) e.2.2) hop hy hT hS;rw [this];unfold part;have e2 : (row.drop off).take 3 = [row[off], row[off + 1], row[off + 2]] := by
  rw [List.drop_eq_getElem_cons (by omega), List.drop_eq_getElem_cons (by omega), List.drop_eq_getElem_cons (by omega)];rfl
 simp only [e2]
theorem ldc {ρ : Operand → Value} {w : World} {g off : Nat} {t T : TypeId} {ck : List Ck} {v : Value} {y : Operand} (hop : o.op = .load T y) (hT : ∀ w, Sem.run Tryz.prog (isAgg T) w = .ok false w) (h36 : (Nat.blt off ck.length) = true)
  (h : NbV w g t ck v) (hy : ρ y = .pointer (some ⟨g, off, none⟩)) : (execOp ρ o).run Tryz.prog w = .ok (.value (cellAt v off)) w := by
 obtain ⟨row, rfl, hs, hb⟩ := h;have hl := hs.length;have h3 := Nat.le_of_ble_eq_true h36;rw [← hl] at h3;have e : row[off]? = some row[off] := List.getElem?_eq_getElem h3;rw [ld1 (hb.cell off e) hop hy hT];unfold cellAt;simp only [e, Option.getD_some]
theorem JW.ld (n : Nat) {x : Ce} {T : TypeId} {y : Operand} {s : Vs} (c : Ctx ops a F) (hr : Ja.Steps Tryz.prog ops (JC w0 ops l cs ks) F (i + 1) rest)
  (hxn : cs[n]? = some x := by rfl) (hal : x.al = none := by rfl) (hb : (Nat.ble ops.size x.st || waits ops x.st x.src && waits ops x.src i || waits ops x.st i) = true := by kernel_rfl)
  (hks : ks[n]? = some (x.row, s) := by rfl) (hl : l.getD i .any = s := by rfl) (ho : ops[i]? = some o := by rfl) (hop : o.op = .load T y := by rfl)
  (hx : ∀ vals, (F (jG l o vals)).eval y = .pointer (some ⟨x.g, 0, none⟩) := by intro vals; kernel_rfl)
  (hck : bC ops cs = true := by kernel_rfl) (hg : bF ops l o true = true := by kernel_rfl) (hf : (cs.all fun c => c.al != some i && c.st != i) = true := by kernel_rfl)
  (hT : ∀ w, Sem.run Tryz.prog (isAgg T) w = .ok true w := by intro _; kernel_rfl) (hS : ∀ w, Sem.run Tryz.prog (sizeOf T) w = .ok x.ck.length w := by intro _; kernel_rfl) (h36 : (x.ck.length == 3 || x.ck.length == 6 || x.ck.length == 4) = true := by kernel_rfl) :
  Ja.Steps Tryz.prog ops (JC w0 ops l cs ks) F i (o :: rest) :=
 JC.ldg (v := fun v => v) n 0 (fun _ _ h => h) (fun _ _ h hy => ldw hop hT hS h36 h hy) c hr hxn hal hb hks hl ho hx hck hg hf
theorem JW.pt (n off : Nat) {x : Ce} {T : TypeId} {y : Operand} {s s' : Vs} (c : Ctx ops a F) (hr : Ja.Steps Tryz.prog ops (JC w0 ops l cs ks) F (i + 1) rest)
  (hxn : cs[n]? = some x := by rfl) (hal : x.al = none := by rfl) (hb : (Nat.ble ops.size x.st || waits ops x.st x.src && waits ops x.src i || waits ops x.st i) = true := by kernel_rfl)
  (hks : ks[n]? = some (x.row, s) := by rfl) (hl : l.getD i .any = s' := by rfl) (hp : ∀ v' W, s.holds v' W → s'.holds (part v' off) W := by first | exact pa0 | exact pa3 | exact pb0 | exact pb3) (ho : ops[i]? = some o := by rfl) (hop : o.op = .load T y := by rfl)
  (hx : ∀ vals, (F (jG l o vals)).eval y = .pointer (some ⟨x.g, off, none⟩) := by intro vals; kernel_rfl)
  (hck : bC ops cs = true := by kernel_rfl) (hg : bF ops l o true = true := by kernel_rfl) (hf : (cs.all fun c => c.al != some i && c.st != i) = true := by kernel_rfl)
  (hT : ∀ w, Sem.run Tryz.prog (isAgg T) w = .ok true w := by intro _; kernel_rfl) (hS : ∀ w, Sem.run Tryz.prog (sizeOf T) w = .ok 3 w := by intro _; kernel_rfl) (h36 : (Nat.ble (off + 3) x.ck.length) = true := by kernel_rfl) :
  Ja.Steps Tryz.prog ops (JC w0 ops l cs ks) F i (o :: rest) :=
 JC.ldg (v := fun v => part v off) n off hp (fun _ _ h hy => ldp hop hT hS h36 h hy) c hr hxn hal hb hks hl ho hx hck hg hf
theorem JW.ce (n off : Nat) {x : Ce} {T : TypeId} {y : Operand} {s s' : Vs} (hp : ∀ v' W, s.holds v' W → s'.holds (cellAt v' off) W) (c : Ctx ops a F) (hr : Ja.Steps Tryz.prog ops (JC w0 ops l cs ks) F (i + 1) rest)
  (hxn : cs[n]? = some x := by rfl) (hal : x.al = none := by rfl) (hb : (Nat.ble ops.size x.st || waits ops x.st x.src && waits ops x.src i || waits ops x.st i) = true := by kernel_rfl)
  (hks : ks[n]? = some (x.row, s) := by rfl) (hl : l.getD i .any = s' := by rfl) (ho : ops[i]? = some o := by rfl) (hop : o.op = .load T y := by rfl)
  (hx : ∀ vals, (F (jG l o vals)).eval y = .pointer (some ⟨x.g, off, none⟩) := by intro vals; kernel_rfl)
  (hck : bC ops cs = true := by kernel_rfl) (hg : bF ops l o true = true := by kernel_rfl) (hf : (cs.all fun c => c.al != some i && c.st != i) = true := by kernel_rfl)
  (hT : ∀ w, Sem.run Tryz.prog (isAgg T) w = .ok false w := by intro _; kernel_rfl) (h36 : (Nat.blt off x.ck.length) = true := by kernel_rfl) :
  Ja.Steps Tryz.prog ops (JC w0 ops l cs ks) F i (o :: rest) :=
 JC.ldg (v := fun v => cellAt v off) n off hp (fun _ _ h hy => ldc hop hT h36 h hy) c hr hxn hal hb hks hl ho hx hck hg hf
structure CaH (w0 : World) (o : Oper) (l : List Vs) (ks : List (Value × Vs)) (vals : Nat → Value) (W : World) : Prop where
 q : Q w0 W
 d : ∀ j, (hj : (o.after.any fun e => Region.binds .any e && e.on == j) = true := by kernel_rfl) → SL l j (vals j) W
 k : ∀ (n : Nat) {p : Value × Vs}, (hn : ks[n]? = some p := by rfl) → p.2.holds p.1 W
theorem JW.ca {P : Program} {f : FuncId} {args : (Nat → Value) → Array Value}
  (h : ∀ {vals W}, CaH w0 o l ks vals W → Calls P f (args vals) W fun e w' => ∃ r, e = .returned r ∧ (l.getD i .any).holds r w' ∧ Q W w')
  (c : Ctx ops a F) (hr : Ja.Steps P ops (JC w0 ops l cs ks) F (i + 1) rest)
  (hck : bC ops cs = true := by kernel_rfl) (ho : ops[i]? = some o := by rfl) (hg : bF ops l o true = true := by kernel_rfl) (hf : (cs.all fun c => c.al != some i && c.st != i) = true := by kernel_rfl)
  (hrun : ∀ vals w, (execOp (F (jG l o vals)).eval o).run P w = .ok (.enter f (args (jG l o vals))) w := by intro vals w; kernel_rfl) :
  Ja.Steps P ops (JC w0 ops l cs ks) F i (o :: rest) :=
 JC.ca (fun _ _ h1 h2 h3 => h ⟨h1, fun j hj => h2 j hj, fun n {p} hn => h3 n p hn⟩) c hr hck ho hg hf hrun
def elt (v : Value) (k : Nat) : Value := match v with | .tuple a => (a.toList[k]?).getD undef | _ => undef
def aDO (f : Nat → Value) (j : Nat) (u : Value) : Nat → Value := fun x => if x = j then u else f x
theorem aDb (f : Nat → Value) (j : Nat) {u : Value} (h : f j = u) : aDO f j u = f := by
 funext x;unfold aDO;split
 ·rename_i e; rw [e, h]
 ·rfl
theorem JW.x2 (j k : Nat) {p1 p2 : Pr} {s : Vs} (c : Ctx ops a F) (hr : Ja.Steps Tryz.prog ops (JC w0 ops l cs ks) F (i + 1) rest)
  (hj : l.getD j .any = .gen (pT2 p1 p2) := by rfl) (hl : l.getD i .any = s := by rfl) (hs : (∀ x y W, p1.p x W → p2.p y W → s.holds (elt (.tuple #[x, y]) k) W) := by first | exact fun _ _ _ h _ => h | exact fun _ _ _ _ h => h)
  (hw : (o.after.any fun e => Region.binds .any e && e.on == j) = true := by kernel_rfl) (ho : ops[i]? = some o := by rfl) (hck : bC ops cs = true := by kernel_rfl) (hg : bF ops l o true = true := by kernel_rfl) (hf : (cs.all fun c => c.al != some i && c.st != i) = true := by kernel_rfl)
  (hrun : ∀ (vals : Nat → Value) w x y, (execOp (F (aDO vals j (.tuple #[x, y]))).eval o).run Tryz.prog w = .ok (.value (elt (.tuple #[x, y]) k)) w := by intros; kernel_rfl) :
  Ja.Steps Tryz.prog ops (JC w0 ops l cs ks) F i (o :: rest) :=
 JC.o c (fun L vals w _ _ hd K hK => by
  have h1 := hd j hw;unfold SL at h1;rw [hj] at h1;obtain ⟨x, y, e, h2, h3⟩ := h1;have h := hrun vals w x y;rw [aDb vals j e] at h;unfold Oper.wp;rw [h, Oper.upon_value];exact hK.out _ w _ rfl (by unfold SL; rw [hl]; exact hs x y w h2 h3) (Q.refl _)) hr hck ho hg hf
theorem JW.x3 (j k : Nat) {p1 p2 p3 : Pr} {s : Vs} (c : Ctx ops a F) (hr : Ja.Steps Tryz.prog ops (JC w0 ops l cs ks) F (i + 1) rest)
  (hj : l.getD j .any = .gen (pT3 p1 p2 p3) := by rfl) (hl : l.getD i .any = s := by rfl) (hs : (∀ x y z W, p1.p x W → p2.p y W → p3.p z W → s.holds (elt (.tuple #[x, y, z]) k) W) := by first | exact fun _ _ _ _ h _ _ => h | exact fun _ _ _ _ _ h _ => h | exact fun _ _ _ _ _ _ h => h)
  (hw : (o.after.any fun e => Region.binds .any e && e.on == j) = true := by kernel_rfl) (ho : ops[i]? = some o := by rfl) (hck : bC ops cs = true := by kernel_rfl) (hg : bF ops l o true = true := by kernel_rfl) (hf : (cs.all fun c => c.al != some i && c.st != i) = true := by kernel_rfl)
  (hrun : ∀ (vals : Nat → Value) w x y z, (execOp (F (aDO vals j (.tuple #[x, y, z]))).eval o).run Tryz.prog w = .ok (.value (elt (.tuple #[x, y, z]) k)) w := by intros; kernel_rfl) :
  Ja.Steps Tryz.prog ops (JC w0 ops l cs ks) F i (o :: rest) :=
 JC.o c (fun L vals w _ _ hd K hK => by
  have h1 := hd j hw;unfold SL at h1;rw [hj] at h1;obtain ⟨x, y, z, e, h2, h3, h4⟩ := h1;have h := hrun vals w x y z;rw [aDb vals j e] at h;unfold Oper.wp;rw [h, Oper.upon_value];exact hK.out _ w _ rfl (by unfold SL; rw [hl]; exact hs x y z w h2 h3 h4) (Q.refl _)) hr hck ho hg hf
end
theorem St.nil {w0 w : World} (h : Q w0 w) : St w0 [] [] w := ⟨h, fun _ h => (by cases h), fun _ _ _ _ _ h => (by simp at h), fun _ h => (by cases h)⟩
theorem St.cons {w0 w : World} {g : Nat} {t : TypeId} {ck : List Ck} {row : List Value} {cs : List Cb} {ks : List (Value × Vs)} (s : Vs) (hb : Bx w g t row) (sh : Sh ck row) (n : s.holds (.agg row.toArray) w) (h : St w0 cs ks w) (hg : w0.heap.size ≤ g) (hd : ∀ c ∈ cs, g ≠ c.g) :
  St w0 (⟨g, t, ck, .agg row.toArray, s⟩ :: cs) ks w := by
 refine ⟨h.q, fun c hc => ?_, fun m k y z hmk hy hz => ?_, h.k⟩
 ·rcases List.mem_cons.1 hc with rfl | hc
  ·exact ⟨hg, NbV.mk sh hb, n⟩
  ·exact h.c c hc
 ·rcases m with _ | m <;> rcases k with _ | k
  ·exact absurd rfl hmk
  ·simp at hy hz; subst hy; exact hd z (List.mem_of_getElem? hz)
  ·simp at hy hz; subst hz; exact fun e => hd y (List.mem_of_getElem? hy) e.symm
  ·exact h.d m k y z (fun e => hmk (by rw [e])) (by simpa using hy) (by simpa using hz)
theorem fmN {w : World} {v : Value} {q : Rat} (h : Nq w v q) : ∃ x0 x1 x2, v = .agg #[x0, x1, x2] ∧ Sh [.b, .s, .s] [x0, x1, x2] := iO v w h
theorem fmR {w : World} {v : Value} {q : Rat} (h : Rq w v q) : ∃ x0 x1 x2, v = .agg #[x0, x1, x2] ∧ Sh [.i, .s, .s] [x0, x1, x2] := fRn v w h
theorem fmS {w : World} {v : Value} {p q : Rat} (h : Ns w v p q) : ∃ x0 x1 x2 x3 x4 x5, v = .agg #[x0, x1, x2, x3, x4, x5] ∧ Sh [.b, .s, .s, .b, .s, .s] [x0, x1, x2, x3, x4, x5] := aL v w h
theorem fmT {w : World} {v : Value} {p q : Rat} (h : Rs w v p q) : ∃ x0 x1 x2 x3 x4 x5, v = .agg #[x0, x1, x2, x3, x4, x5] ∧ Sh [.i, .s, .s, .i, .s, .s] [x0, x1, x2, x3, x4, x5] := fRs v w h
section
variable {w0 w : World} {g : Nat} {t : TypeId} {ck : List Ck} {cs : List Cb} {ks : List (Value × Vs)} {p q : Rat} {row : List Value}
theorem sbN (hb : Bx w g t row) (sh : Sh ck row) (n : Nq w0 (.agg row.toArray) q) (h : St w0 cs ks w) (hg : w0.heap.size ≤ g := by omega) (hd : ∀ c ∈ cs, g ≠ c.g := by simp <;> omega) : St w0 (⟨g, t, ck, .agg row.toArray, .gen (fB q)⟩ :: cs) ks w := St.cons _ hb sh (n.q h.q) h hg hd
theorem sbR (hb : Bx w g t row) (sh : Sh ck row) (n : Rq w0 (.agg row.toArray) q) (h : St w0 cs ks w) (hg : w0.heap.size ≤ g := by omega) (hd : ∀ c ∈ cs, g ≠ c.g := by simp <;> omega) : St w0 (⟨g, t, ck, .agg row.toArray, .gen (pRn q)⟩ :: cs) ks w := St.cons _ hb sh (n.q h.q) h hg hd
theorem sbS (hb : Bx w g t row) (sh : Sh ck row) (n : Ns w0 (.agg row.toArray) p q) (h : St w0 cs ks w) (hg : w0.heap.size ≤ g := by omega) (hd : ∀ c ∈ cs, g ≠ c.g := by simp <;> omega) : St w0 (⟨g, t, ck, .agg row.toArray, .gen (dO p q)⟩ :: cs) ks w := St.cons _ hb sh (n.q h.q) h hg hd
theorem sbT (hb : Bx w g t row) (sh : Sh ck row) (n : Rs w0 (.agg row.toArray) p q) (h : St w0 cs ks w) (hg : w0.heap.size ≤ g := by omega) (hd : ∀ c ∈ cs, g ≠ c.g := by simp <;> omega) : St w0 (⟨g, t, ck, .agg row.toArray, .gen (pRs p q)⟩ :: cs) ks w := St.cons _ hb sh ((pRs p q).q n h.q) h hg hd
theorem sbZ (sh : Sh ck row) (hb : Bx w g t row) (h : St w0 cs ks w) (hg : w0.heap.size ≤ g := by omega) (hd : ∀ c ∈ cs, g ≠ c.g := by simp <;> omega) : St w0 (⟨g, t, ck, .agg row.toArray, .eq (.agg row.toArray)⟩ :: cs) ks w := St.cons (.eq (.agg row.toArray)) hb sh rfl h hg hd
theorem St.kp {v : Value} (s : Vs) (hv : s.holds v w) (h : St w0 cs ks w) : St w0 cs (ks ++ [(v, s)]) w := ⟨h.q, h.c, h.d, fun p hp => by
 rcases List.mem_append.1 hp with hp | hp
 ·exact h.k p hp
 ·rw [List.mem_singleton.1 hp]; exact hv⟩
theorem St.mv {w' : World} (h : St w0 cs ks w) (hq : Q w w') : St w0 cs ks w' := ⟨h.q.trans hq, fun c hc => ⟨(h.c c hc).1, (h.c c hc).2.1.q hq, Vs.mono hq (h.c c hc).2.2⟩, h.d, fun p hp => Vs.mono hq (h.k p hp)⟩
theorem shG {a b : ByteArray} : Sh [.t, .t] [.string a, .string b] := ⟨⟨_, rfl⟩, ⟨_, rfl⟩, trivial⟩
theorem shF {a b c d : ByteArray} : Sh [.t, .t, .t, .t] [.string a, .string b, .string c, .string d] := ⟨⟨_, rfl⟩, ⟨_, rfl⟩, ⟨_, rfl⟩, ⟨_, rfl⟩, trivial⟩
theorem St.n (h : Hid (St w0 cs ks w)) (n : Nat) {x : Cb} (hx : cs[n]? = some x := by rfl) : x.s.holds x.v w := (h.out.c x (List.mem_of_getElem? hx)).2.2
theorem St.b (h : Hid (St w0 cs ks w)) (n : Nat) {x : Cb} (hx : cs[n]? = some x := by rfl) : NbV w x.g x.t x.ck x.v := (h.out.c x (List.mem_of_getElem? hx)).2.1
theorem St.ge (h : Hid (St w0 cs ks w)) (n : Nat) {x : Cb} (hx : cs[n]? = some x := by rfl) : w0.heap.size ≤ x.g := (h.out.c x (List.mem_of_getElem? hx)).1
theorem St.vv (h : Hid (St w0 cs ks w)) (n : Nat) : (ks.getD n (undef, .any)).2.holds (ks.getD n (undef, .any)).1 w := by
 rw [List.getD_eq_getElem?_getD];cases e : ks[n]? with
 | none => trivial
 | some p => exact h.out.k p (List.mem_of_getElem? e)
theorem St.v (h : Hid (St w0 cs ks w)) (n : Nat) {p : Value × Vs} (hx : ks[n]? = some p := by rfl) : p.2.holds p.1 w := h.out.k p (List.mem_of_getElem? hx)
end
theorem St.o3 {w0 w : World} {cs : List Cb} {ks : List (Value × Vs)} (h : Hid (St w0 cs ks w)) (n : Nat) {x : Cb} (hx : cs[n]? = some x := by rfl) (h3 : (x.ck.length == 3) = true := by kernel_rfl) : ∃ r0 r1 r2, Bx w x.g x.t [r0, r1, r2] ∧ x.s.holds (.agg #[r0, r1, r2]) w := by
 obtain ⟨-, ⟨row, e, hs, hb⟩, hn⟩ := h.out.c x (List.mem_of_getElem? hx);obtain ⟨x0, x1, x2, rfl⟩ := aDM (hs.length.trans (beq_iff_eq.1 h3));rw [e] at hn;exact ⟨_, _, _, hb, hn⟩
theorem St.o6 {w0 w : World} {cs : List Cb} {ks : List (Value × Vs)} (h : Hid (St w0 cs ks w)) (n : Nat) {x : Cb} (hx : cs[n]? = some x := by rfl) (h6 : (x.ck.length == 6) = true := by kernel_rfl) : ∃ r0 r1 r2 r3 r4 r5, Bx w x.g x.t [r0, r1, r2, r3, r4, r5] ∧ x.s.holds (.agg #[r0, r1, r2, r3, r4, r5]) w := by
 obtain ⟨-, ⟨row, e, hs, hb⟩, hn⟩ := h.out.c x (List.mem_of_getElem? hx);obtain ⟨x0, x1, x2, x3, x4, x5, rfl⟩ := aDN (hs.length.trans (beq_iff_eq.1 h6));rw [e] at hn;exact ⟨_, _, _, _, _, _, hb, hn⟩
abbrev eP (g o : Nat) : Vs := .eq (.pointer (some ⟨g, o, none⟩))
abbrev eB (b : Bool) : Vs := .eq (.bool b)
abbrev eI (z : Int) : Vs := .eq (.int .i64 z)
abbrev gN (q : Rat) : Vs := .gen (fB q)
abbrev gR (q : Rat) : Vs := .gen (pRn q)
abbrev gS (p q : Rat) : Vs := .gen (dO p q)
abbrev gT (p q : Rat) : Vs := .gen (pRs p q)
theorem eQ {fn : Func} {R : Ending → World → Prop} {b : Act} {w w0 : World} {cs : List Cb} {ks : List (Value × Vs)} {g : Nat} {ty : TypeId} {ck : List Ck} {v : Value} {s : Vs} {T : TypeId} {d : Nat} (n : Nat) (hS : Hid (St w0 cs ks w)) (hx : cs[n]? = some ⟨g, ty, ck, v, s⟩ := by rfl) (hR : s.holds v w → Q w0 w → R (.returned v) w)
  (hres : fn.results = #[.cell d T] := by rfl) (hslot : b.tmps.getD d undef = .pointer (some ⟨g, 0, none⟩) := by kernel_rfl) (hT : ∀ w, Sem.run Tryz.prog (isAgg T) w = .ok true w := by intro _; kernel_rfl) (hz : ∀ w, Sem.run Tryz.prog (sizeOf T) w = .ok ck.length w := by intro _; kernel_rfl)
  (h36 : (ck.length == 3 || ck.length == 6 || ck.length == 2) = true := by kernel_rfl) (hd : b.defers = [] := by rfl) : bodyPost Tryz.prog fn R .ret b w := by
 obtain ⟨-, ⟨row, e, hs, hb⟩, h3⟩ := hS.out.c _ (List.mem_of_getElem? hx);dsimp only at e hs hb h3;have hR' := hR h3 hS.out.q;rw [e] at hR';have hl := hs.length;rcases (Bool.or_eq_true _ _).mp h36 with h36 | h4
 rotate_left
 ·rw [beq_iff_eq] at h4;rw [h4] at hl hz;obtain ⟨x0, x1, rfl⟩ : ∃ a b, row = [a, b] := by
   match row, hl with
   | [a, b], _ => exact ⟨a, b, rfl⟩
  have h0 := hb.cell 0 rfl;have h1 := hb.cell 1 rfl;refine bodyPost_ret (v := .agg #[x0, x1]) ?_ hd hR';unfold results;rw [hres];rw [Array.getD_eq_getD_getElem?] at hslot;simp [go_sem, hslot, hT, hz, loadVar, loadCells, loadCellsFrom, Addr.add, h0, h1]
 rcases (Bool.or_eq_true _ _).mp h36 with h4 | h4
 ·rw [beq_iff_eq] at h4;rw [h4] at hl hz;obtain ⟨x0, x1, x2, rfl⟩ := aDM hl;exact aJs hb hR' hres hslot hT hz hd
 ·rw [beq_iff_eq] at h4;rw [h4] at hl hz;obtain ⟨x0, x1, x2, x3, x4, x5, rfl⟩ := aDN hl;exact aJt hb hR' hres hslot hT hz hd
theorem bT {fn : Func} {A : Value → World → Prop} {b : Act} {w w0 : World} {cs : List Cb} {ks : List (Value × Vs)} {g : Nat} {ty : TypeId} {ck : List Ck} {v : Value} {s : Vs} {T : TypeId} {d : Nat} (n : Nat) (hS : Hid (St w0 cs ks w)) (hx : cs[n]? = some ⟨g, ty, ck, v, s⟩ := by rfl) (hA : s.holds v w → A v w := by exact fun h => h)
  (hres : fn.results = #[.cell d T] := by rfl) (hslot : b.tmps.getD d undef = .pointer (some ⟨g, 0, none⟩) := by kernel_rfl) (hT : ∀ w, Sem.run Tryz.prog (isAgg T) w = .ok true w := by intro _; kernel_rfl) (hz : ∀ w, Sem.run Tryz.prog (sizeOf T) w = .ok ck.length w := by intro _; kernel_rfl)
  (h36 : (ck.length == 3 || ck.length == 6) = true := by kernel_rfl) (hd : b.defers = [] := by rfl) : bodyPost Tryz.prog fn (fun e w' => ∃ r, e = .returned r ∧ A r w' ∧ Q w0 w') .ret b w :=
 eQ n hS hx (fun h hq => ⟨_, rfl, hA h, hq⟩) hres hslot hT hz (by rw [h36]; rfl) hd
theorem iD {fn : Func} {R : Ending → World → Prop} {b : Act} {w w0 : World} {cs : List Cb} {ks : List (Value × Vs)} {g : Nat} {ty : TypeId} {ck : List Ck} {v : Value} {s : Vs} {T : TypeId} {d t : Nat} {u : Value} (n : Nat) (hS : Hid (St w0 cs ks w)) (hx : cs[n]? = some ⟨g, ty, ck, v, s⟩ := by rfl) (hres : fn.results = #[.cell d T, .tmp t] := by rfl)
  (hu : b.tmps.getD t undef = u := by rfl) (hR : s.holds v w → Q w0 w → R (.returned (.tuple #[v, u])) w) (hslot : b.tmps.getD d undef = .pointer (some ⟨g, 0, none⟩) := by kernel_rfl) (hT : ∀ w, Sem.run Tryz.prog (isAgg T) w = .ok true w := by intro _; kernel_rfl) (hz : ∀ w, Sem.run Tryz.prog (sizeOf T) w = .ok ck.length w := by intro _; kernel_rfl)
  (h36 : (ck.length == 3 || ck.length == 6) = true := by kernel_rfl) (hd : b.defers = [] := by rfl) : bodyPost Tryz.prog fn R .ret b w := by
 obtain ⟨-, ⟨row, e, hs, hb⟩, h3⟩ := hS.out.c _ (List.mem_of_getElem? hx);dsimp only at e hs hb h3;have hR' := hR h3 hS.out.q;rw [e] at hR';have hl := hs.length;refine bodyPost_ret (v := .tuple #[.agg row.toArray, u]) ?_ hd hR';unfold results;rw [hres];rw [Array.getD_eq_getD_getElem?] at hslot hu;rcases (Bool.or_eq_true _ _).mp h36 with h4 | h4
 ·rw [beq_iff_eq] at h4;rw [h4] at hl hz;obtain ⟨x0, x1, x2, rfl⟩ := aDM hl;have h0 := hb.cell 0 rfl;have h1 := hb.cell 1 rfl;have h2 := hb.cell 2 rfl;simp [go_sem, hslot, hu, hT, hz, loadVar, loadCells, loadCellsFrom, Addr.add, h0, h1, h2]
 ·rw [beq_iff_eq] at h4;rw [h4] at hl hz;obtain ⟨x0, x1, x2, x3, x4, x5, rfl⟩ := aDN hl;have h0 := hb.cell 0 rfl;have h1 := hb.cell 1 rfl;have h2 := hb.cell 2 rfl;have h3' := hb.cell 3 rfl;have h4' := hb.cell 4 rfl;have h5 := hb.cell 5 rfl;simp [go_sem, hslot, hu, hT, hz, loadVar, loadCells, loadCellsFrom, Addr.add, h0, h1, h2, h3', h4', h5]
end Go.Proofs.YtajbfablmpmgbaaGreatDoor.K
namespace Go.Proofs.YtajbfablmpmgbaaGreatDoor
open Go.RowKit
open Ma Me
theorem iF (p q : Rat) : sz (aB p q) ≤ sz p + sz q := by rcases oK p q with h | h <;> rw [h] <;> omega
theorem iG (p q : Rat) : sz (aA p q) ≤ sz p + sz q := by rcases rG p q with h | h <;> rw [h] <;> omega
end Go.Proofs.YtajbfablmpmgbaaGreatDoor
namespace Go.Proofs.YtajbfablmpmgbaaGreatDoor.K
open Go.RowKit
open Ma Me
section
variable {a b c d e f : Prop}
theorem ha1 (h1 : Hid a) (h : a → d) : d := h h1.out
theorem ha2 (h1 : Hid a) (h2 : Hid b) (h : a → b → d) : d := h h1.out h2.out
theorem ha3 (h1 : Hid a) (h2 : Hid b) (h3 : Hid c) (h : a → b → c → d) : d := h h1.out h2.out h3.out
theorem ha4 (h1 : Hid a) (h2 : Hid b) (h3 : Hid c) (h4 : Hid e) (h : a → b → c → e → d) : d := h h1.out h2.out h3.out h4.out
theorem ha5 (h1 : Hid a) (h2 : Hid b) (h3 : Hid c) (h4 : Hid e) (h5 : Hid f) (h : a → b → c → e → f → d) : d := h h1.out h2.out h3.out h4.out h5.out
theorem oz1 (h0 : e) (h1 : Hid a) (h : e → a → d) : Hid d := yW (h h0 h1.out)
theorem oz2 (h0 : e) (h1 : Hid a) (h2 : Hid b) (h : e → a → b → d) : Hid d := yW (h h0 h1.out h2.out)
end
section
variable {p q r s : Rat} {a b c d k e : Nat}
theorem xR (h1 : Hid (sz p ≤ a)) (h2 : Hid (sz q ≤ b)) : Hid (sz (p + q) ≤ 2 * (a + b) + 1) := yW (by have h9 := uX p q; have := h1.out; have := h2.out; omega)
theorem aDP (h1 : Hid (sz p ≤ a)) (h2 : Hid (sz q ≤ b)) : Hid (sz (p - q) ≤ 2 * (a + b) + 1) := yW (by have h9 := yQ p q; have := h1.out; have := h2.out; omega)
theorem kS (h1 : Hid (sz p ≤ a)) (h2 : Hid (sz q ≤ b)) : Hid (sz (p * q) ≤ a + b) := yW (by have h9 := gB p q; have := h1.out; have := h2.out; omega)
theorem bO (h1 : Hid (sz p ≤ a)) (h2 : Hid (sz q ≤ b)) : Hid (sz (aB p q) ≤ a + b) := yW (by have h9 := iF p q; have := h1.out; have := h2.out; omega)
theorem bL (h1 : Hid (sz p ≤ a)) (h2 : Hid (sz q ≤ b)) : Hid (sz (aA p q) ≤ a + b) := yW (by have h9 := iG p q; have := h1.out; have := h2.out; omega)
theorem pJ (h1 : Hid (sz p ≤ a)) : Hid (sz (-p) ≤ a) := yW (by rw [fA]; exact h1.out)
theorem aDQ (h1 : Hid (sz p ≤ a)) : Hid (sz p⁻¹ ≤ a + 1) := yW (by have h9 := pG p; have := h1.out; omega)
theorem zr (p : Rat) : Hid (sz p ≤ sz p) := yW (Nat.le_refl _)
theorem aBS {n : Nat} (h : Nat.ble n 1099511627776 = true) : n ≤ LIM := Nat.le_of_ble_eq_true h
theorem bb1 (h1 : Hid (sz p ≤ a)) (h : Nat.ble (k * a + e) 1099511627776 = true := by rfl) : k * sz p + e ≤ LIM := Nat.le_trans (Nat.add_le_add_right (Nat.mul_le_mul_left _ h1.out) _) (aBS h)
theorem bb2 (h1 : Hid (sz p ≤ a)) (h2 : Hid (sz q ≤ b)) (h : Nat.ble (k * (a + b) + e) 1099511627776 = true := by rfl) : k * (sz p + sz q) + e ≤ LIM :=
 Nat.le_trans (Nat.add_le_add_right (Nat.mul_le_mul_left _ (Nat.add_le_add h1.out h2.out)) _) (aBS h)
theorem bs2 (h1 : Hid (sz p ≤ a)) (h2 : Hid (sz q ≤ b)) (h : Nat.ble (a + b) k = true := by rfl) : sz p + sz q ≤ k := Nat.le_trans (Nat.add_le_add h1.out h2.out) (Nat.le_of_ble_eq_true h)
theorem bs4 (h1 : Hid (sz p ≤ a)) (h2 : Hid (sz q ≤ b)) (h3 : Hid (sz r ≤ c)) (h4 : Hid (sz s ≤ d)) (h : Nat.ble (a + b + c + d) k = true := by rfl) : sz p + sz q + sz r + sz s ≤ k :=
 Nat.le_trans (Nat.add_le_add (Nat.add_le_add (Nat.add_le_add h1.out h2.out) h3.out) h4.out) (Nat.le_of_ble_eq_true h)
theorem bz2 (h : sz p + sz q ≤ k) : Hid (sz p ≤ k) ∧ Hid (sz q ≤ k) := ⟨yW (by omega), yW (by omega)⟩
theorem bz4 (h : sz p + sz q + sz r + sz s ≤ k) : Hid (sz p ≤ k) ∧ Hid (sz q ≤ k) ∧ Hid (sz r ≤ k) ∧ Hid (sz s ≤ k) := ⟨yW (by omega), yW (by omega), yW (by omega), yW (by omega)⟩
end
end Go.Proofs.YtajbfablmpmgbaaGreatDoor.K
