/- ValueIncludes (a part of the proof): results of numbers are in the results of their spans. No condition. -/
import Derived.Test.YtgpacgadpnpjjaaGreatDoorProg
import Derived.Test.YtgpacgadpnpjjaaGreatDoorQn04
namespace Go.Proofs.YtgpacgadpnpjjaaGreatDoor.K
open Go.RowKit
open Ma Me
def Bx (w : World) (g : Nat) (t : TypeId) (row : List Value) : Prop := w.heap[g]? = some (.cells row.toArray t (0, 0))
section
variable {w w' a : World} {g k i : Nat} {t : TypeId} {row l : List Value} {x : Value}
theorem Bx.lt (h : Bx w g t row) : g < w.heap.size := by
 rcases Nat.lt_or_ge g w.heap.size with hlt | hge
 ·exact hlt
 ·unfold Bx at h; rw [Array.getElem?_eq_none hge] at h; cases h
theorem Bx.cell (h : Bx w g t row) (i : Nat) (hx : row[i]? = some x) : w.cell? ⟨g, i, none⟩ = some x := by
 unfold Bx at h;simp [World.cell?, h, hx]
theorem Bx.frozen (h : Bx w g t row) (i : Nat) : w.frozen? ⟨g, i, none⟩ = false := by
 unfold Bx at h;simp [World.frozen?, h]
theorem Bx.q (h : Bx w g t row) (hq : Q w w') : Bx w' g t row := (hq.heap h.lt).trans h
theorem Bx.new (w : World) (t : TypeId) (row : List Value) : Bx (w.alloc (.cells row.toArray t)) w.heap.size t row := heap_alloc_new w _
def gJ (w : World) (g i : Nat) : List Value → World
 | [] => w
 | x :: xs => gJ (w.setCell ⟨g, i, none⟩ x) g (i + 1) xs
theorem jE (h : k ≠ g) : (gJ w g i l).heap[k]? = w.heap[k]? := by
 induction l generalizing w i with
 | nil => rfl
 | cons x xs ih => exact ih.trans (Below.heap_setCell _ _ _ _ h)
theorem kK : (gJ w g i l).heap.size = w.heap.size := by
 induction l generalizing w i with
 | nil => rfl
 | cons x xs ih => exact ih.trans (by simp)
theorem lX (h : Q a w) (hg : a.heap.size ≤ g) : Q a (gJ w g i l) := by
 induction l generalizing w i with
 | nil => exact h
 | cons x xs ih => exact ih (h.setCell (p := ⟨g, i, none⟩) hg _)
theorem Bx.set_ (h : Bx w g t row) (i : Nat) (x : Value) : Bx (w.setCell ⟨g, i, none⟩ x) g t (row.set i x) := by
 unfold Bx at h ⊢;simp [World.setCell, Array.getElem?_modify, h]
theorem Bx.putAt {pre rest : List Value} (h : Bx w g t (pre ++ rest)) (hi : pre.length = i) (hl : rest.length = l.length) : Bx (gJ w g i l) g t (pre ++ l) := by
 induction l generalizing w i pre rest with
 | nil => 
   have : rest = [] := List.eq_nil_of_length_eq_zero hl;subst this;exact h
 | cons x xs ih =>
   cases rest with
   | nil => simp at hl
   | cons y ys =>
     have h1 := h.set_ i x;have e : (pre ++ y :: ys).set i x = (pre ++ [x]) ++ ys := by
      rw [List.set_append_right _ _ (by omega)];simp [← hi]
     rw [e] at h1;have h2 := ih h1 (i := i + 1) (by simp [hi]) (by simpa using hl);simpa [gJ] using h2
theorem Bx.put (h : Bx w g t row) (hl : row.length = l.length) : Bx (gJ w g 0 l) g t l := Bx.putAt (pre := []) h rfl hl
end
inductive Ck where
 | b | i | s | t
def Ck.is : Ck → Value → Prop
 | .b, v => ∃ x, v = .bool x
 | .i, v => ∃ x, v = .int .i64 x
 | .s, v => ∃ A n c, v = .slice A n c
 | .t, v => ∃ x, v = .string x
def Sh : List Ck → List Value → Prop
 | [], [] => True
 | k :: ks, v :: vs => k.is v ∧ Sh ks vs
 | _, _ => False
theorem Sh.length : ∀ {ks : List Ck} {vs : List Value}, Sh ks vs → vs.length = ks.length
 | [], [], _ => rfl
 | _ :: _, _ :: _, h => by simp [Sh.length h.2]
theorem Sh.no : ∀ {ks : List Ck} {vs : List Value}, Sh ks vs → ∀ x ∈ vs, ∀ z, x ≠ .int .u64 z
 | [], [], _, _, h, _ => by cases h
 | k :: ks, v :: vs, hs, x, hx, z => by
   rcases List.mem_cons.1 hx with rfl | hx
   ·intro e;have := hs.1;cases k <;> simp [Ck.is, e] at this
   ·exact Sh.no hs.2 x hx z
structure Ap (w w' : World) (g : Nat) : Prop where
 heap : ∀ k, k ≠ g → w'.heap[k]? = w.heap[k]?
 size : w'.heap.size = w.heap.size
 row : ∃ t row, Bx w g t row ∧ t ≠ 2 ∧ ∀ x ∈ row, ∀ z, x ≠ .int .u64 z
section
variable {w w' : World} {A : Option Addr} {ds : List Nat} {g N : Nat} {v : Value}
theorem Ap.rd (h : Ap w w' g) (hr : Rd .i64 w w.heap.size A ds) : Rd .i64 w' w'.heap.size A ds := fun hn => by
 obtain ⟨ad, e, hb, hc, cs, fr, ht⟩ := hr hn;have hne : ad.block ≠ g := by
  intro e;obtain ⟨t, row, hx, h1, -⟩ := h.row;unfold Bx at hx;rw [← e, ht] at hx;injection hx with hx;injection hx with _ h2 _;exact h1 h2.symm
 have he := h.heap _ hne;exact ⟨ad, e, by rw [h.size]; exact hb, fun j u hu => (pW (by rw [eF]; exact he)).trans (hc j u hu), cs, fr, he.trans ht⟩
theorem Ap.nr (h : Ap w w' g) (hr : Nr w v N) : Nr w' v N := by
 obtain ⟨A, c, ds, h1, h2, h3, h4, h5⟩ := hr;exact ⟨A, c, ds, h1, h2, h.rd h3, h4, h5⟩
theorem Ap.rw_ {xs : List Nat} (h : Ap w w' g) (hr : Rw w A xs) : Rw w' A xs := fun hn => by
 obtain ⟨b, o, e, hb, hc⟩ := hr hn;have hne : b ≠ g := by
  intro e;obtain ⟨t, row, hx, -, h1⟩ := h.row;have h2 := hc 0 _ (List.getElem?_eq_getElem hn);unfold Bx at hx;rw [← e] at hx;have h3 : row[o + 0]? = some (.int .u64 ((xs[0] : Nat) : Int)) := (by simpa [World.cell?, hx] using h2);exact h1 _ (List.mem_of_getElem? h3) _ rfl
 have he := h.heap _ hne;exact ⟨b, o, e, by rw [h.size]; exact hb, fun j u hu => (pW (p := ⟨b, o + j, none⟩) he).trans (hc j u hu)⟩
theorem Ap.nm (h : Ap w w' g) (hr : Nm w v N) : Nm w' v N := by
 obtain ⟨A, c, ds, h1, h2, h3, h4, h5⟩ := hr;exact ⟨A, c, ds, h1, h2, h.rw_ h3, h4, h5⟩
end
structure Pr where
 p : Value → World → Prop
 q : ∀ {v w w'}, p v w → Q w w' → p v w'
 ok : Bool
 a : ∀ {v w w' g}, ok = true → p v w → Ap w w' g → p v w'
inductive Vs where
 | any
 | no
 | eq (v : Value)
 | gen (p : Pr)
def Vs.holds : Vs → Value → World → Prop
 | .any, _, _ => True
 | .no, v, _ => v = undef
 | .eq u, v, _ => v = u
 | .gen p, v, w => p.p v w
theorem Vs.mono {s : Vs} {v : Value} {w w' : World} (hq : Q w w') (h : s.holds v w) : s.holds v w' := by
 cases s with
 | any => trivial
 | no => exact h
 | eq u => exact h
 | gen p => exact p.q h hq
def pEq (u : Value) : Pr := ⟨fun v _ => v = u, fun h _ => h, true, fun _ h _ => h⟩
def pT2 (a b : Pr) : Pr := ⟨fun v w => ∃ x y, v = .tuple #[x, y] ∧ a.p x w ∧ b.p y w, fun ⟨x, y, e, h1, h2⟩ hq => ⟨x, y, e, a.q h1 hq, b.q h2 hq⟩, a.ok && b.ok, fun ho ⟨x, y, e, h1, h2⟩ hq => by
 simp only [Bool.and_eq_true] at ho;exact ⟨x, y, e, a.a ho.1 h1 hq, b.a ho.2 h2 hq⟩⟩
def pT3 (a b c : Pr) : Pr := ⟨fun v w => ∃ x y z, v = .tuple #[x, y, z] ∧ a.p x w ∧ b.p y w ∧ c.p z w, fun ⟨x, y, z, e, h1, h2, h3⟩ hq => ⟨x, y, z, e, a.q h1 hq, b.q h2 hq, c.q h3 hq⟩, a.ok && b.ok && c.ok, fun ho ⟨x, y, z, e, h1, h2, h3⟩ hq => by
 simp only [Bool.and_eq_true] at ho;exact ⟨x, y, z, e, a.a ho.1.1 h1 hq, b.a ho.1.2 h2 hq, c.a ho.2 h3 hq⟩⟩
def pT5 (a b c d f : Pr) : Pr := ⟨fun v w => ∃ x y z u t, v = .tuple #[x, y, z, u, t] ∧ a.p x w ∧ b.p y w ∧ c.p z w ∧ d.p u w ∧ f.p t w,
 fun ⟨x, y, z, u, t, e, h1, h2, h3, h4, h5⟩ hq => ⟨x, y, z, u, t, e, a.q h1 hq, b.q h2 hq, c.q h3 hq, d.q h4 hq, f.q h5 hq⟩, a.ok && b.ok && c.ok && d.ok && f.ok, fun ho ⟨x, y, z, u, t, e, h1, h2, h3, h4, h5⟩ hq => by
 simp only [Bool.and_eq_true] at ho;exact ⟨x, y, z, u, t, e, a.a ho.1.1.1.1 h1 hq, b.a ho.1.1.1.2 h2 hq, c.a ho.1.1.2 h3 hq, d.a ho.1.2 h4 hq, f.a ho.2 h5 hq⟩⟩
def Vs.ok : Vs → Bool
 | .gen p => p.ok
 | _ => true
theorem aE4 {l : List Vs} (h : l.all Vs.ok = true) (j : Nat) : (l.getD j .any).ok = true := by
 rw [List.getD_eq_getElem?_getD];cases e : l[j]? with
 | none => rfl
 | some x => exact List.all_eq_true.1 h x (List.mem_of_getElem? e)
def SL (l : List Vs) (j : Nat) (v : Value) (w : World) : Prop := (l.getD j .any).holds v w
def isB : Vs → Bool → Bool
 | .eq (.bool c), b => c == b
 | _, _ => false
def aE5 : Vs → Bool
 | .no => true
 | _ => false
theorem aCb {s : Vs} (h : aE5 s = true) : s = .no := by
 cases s <;> first | rfl | cases h
theorem aDm {s : Vs} {b : Bool} (h : isB s b = true) : s = .eq (.bool b) := by
 unfold isB at h;split at h
 ·simp at h; subst h; rfl
 ·cases h
section
variable {P : Program} {ops : Array Oper} {Q' : Exit → Act → World → Prop} {l : List Vs} {F : (Nat → Value) → Act} {a : Act} {w1 : World}
structure Ctx (ops : Array Oper) (a : Act) (F : (Nat → Value) → Act) : Prop where
 hsh : (Ja.shape ops && Region.noSelect ops && Ja.inBounds ops a.tmps.size) = true
 hF : ∀ vals, F vals = Ja.fillL vals ops.toList 0 a
theorem Ctx.go (c : Ctx ops a F) : ∀ vals, F vals = Ja.fillGo ops (fun _ => true) vals ops.size a := fun vals => (c.hF vals).trans (Ja.fillL_full vals a)
def bF (ops : Array Oper) (l : List Vs) (o : Oper) (yes : Bool) : Bool :=
 match o.guard with
 | none => yes
 | some (g, b) => (isB (l.getD g .any) (b == yes) || (aE5 (l.getD g .any) && !yes)) && decide (g < ops.size) && ((ops[g]?).bind (·.dst)).isSome
theorem aCc {a : Act} {vals : Nat → Value} {o : Oper} {g : Nat} {want : Bool} (hsh : (Ja.shape ops && Region.noSelect ops && Ja.inBounds ops a.tmps.size) = true) (hg : o.guard = some (g, want)) (hlt : g < ops.size) (hd : ((ops[g]?).bind (·.dst)).isSome = true) (hv : vals g = undef) :
  Region.wanted o (yielded ops (Ja.fillGo ops (fun _ => true) vals ops.size a).tmps) = false := by
 simp only [Bool.and_eq_true] at hsh;obtain ⟨⟨h1, h2⟩, h3⟩ := hsh;obtain ⟨og, hog⟩ : ∃ o, ops[g]? = some o := ⟨_, Array.getElem?_eq_getElem hlt⟩
 obtain ⟨d, hd2⟩ := Option.isSome_iff_exists.1 hd;have hin : d < a.tmps.size := by
  have := Array.all_eq_true_iff_forall_mem.1 h3 og (Array.mem_of_getElem? hog);simp only [hog, Option.bind_some] at hd2;simpa [hd2] using this
 have := Ja.fill_get (ops := ops) (vals := vals) (a := a) (i := g) (d := d) hd2 hin (Ja.shape_spec h1 hog).1 ops.size hlt;unfold Region.wanted yielded;simp only [hg, hd2, Option.bind_some, this, hv];rfl
theorem mU {i : Nat} {o : Oper} {yes : Bool} (c : Ctx ops a F) (ho : ops[i]? = some o) (hg : bF ops l o yes = true) {vals : Nat → Value} {w : World}
  (hd : ∀ e ∈ o.after, Region.binds .any e = true → SL l e.on (vals e.on) w) : Region.wanted o (yielded ops (F vals).tmps) = yes := by
 rw [c.go];unfold bF at hg;split at hg
 ·rename_i h; unfold Region.wanted; rw [h, hg]
 ·rename_i g b h;simp only [Bool.and_eq_true, decide_eq_true_eq] at hg;obtain ⟨⟨h1, h2⟩, h3⟩ := hg;have hsh := c.hsh;simp only [Bool.and_eq_true] at hsh;obtain ⟨d, hd3⟩ := Option.isSome_iff_exists.1 h3;obtain ⟨e, he, hb, heq⟩ := (Ja.shape_spec hsh.1.1 ho).2.1 d (by simp [Oper.looksAt, h, hd3]) g hd3;have hv := hd e he hb;rw [heq] at hv;unfold SL at hv;rcases (Bool.or_eq_true _ _).mp h1 with h1 | h1
  ·rw [aDm h1] at hv;have := Ja.wanted_of (a := a) c.hsh h h2 h3 hv;rw [this];cases b <;> cases yes <;> rfl
  ·obtain ⟨h4, h5⟩ := (Bool.and_eq_true _ _).mp h1;rw [aCb h4] at hv;rw [aCc (a := a) c.hsh h h2 h3 hv];cases yes
   ·rfl
   ·cases h5
end
def NbV (w : World) (g : Nat) (t : TypeId) (ck : List Ck) (v : Value) : Prop := ∃ row, v = .agg row.toArray ∧ Sh ck row ∧ Bx w g t row
def mD (w : World) (g : Nat) (ck : List Ck) (v : Value) (w' : World) : Prop := ∃ row, v = .agg row.toArray ∧ Sh ck row ∧ w' = gJ w g 0 row
section
variable {w w' a : World} {g g2 : Nat} {t : TypeId} {ck : List Ck} {v u old : Value}
theorem NbV.q (h : NbV w g t ck v) (hq : Q w w') : NbV w' g t ck v := by
 obtain ⟨row, e, hs, h⟩ := h;exact ⟨row, e, hs, h.q hq⟩
theorem NbV.lt (h : NbV w g t ck v) : g < w.heap.size := by
 obtain ⟨row, e, hs, h⟩ := h; exact h.lt
theorem NbV.heap (h : NbV w g t ck v) (he : w'.heap[g]? = w.heap[g]?) : NbV w' g t ck v := by
 obtain ⟨row, e, hs, h⟩ := h;exact ⟨row, e, hs, he.trans h⟩
theorem mD.heap (h : mD w g ck v w') (hne : g2 ≠ g) : w'.heap[g2]? = w.heap[g2]? := by
 obtain ⟨row, e, hs, rfl⟩ := h; exact jE hne
theorem mD.q (h : mD w g ck v w') (hq : Q a w) (hg : a.heap.size ≤ g) : Q a w' := by
 obtain ⟨row, e, hs, rfl⟩ := h; exact lX hq hg
theorem mD.new (h : mD w g ck v w') (ho : NbV w g t ck old) : NbV w' g t ck v := by
 obtain ⟨row, e, hs, rfl⟩ := h;obtain ⟨row2, e2, hs2, hb⟩ := ho;exact ⟨row, e, hs, hb.put (by rw [hs.length, hs2.length])⟩
theorem mD.ap (h : mD w g ck v w') (ho : NbV w g t ck old) (ht : t ≠ 2) : Ap w w' g := by
 obtain ⟨row, e, hs, rfl⟩ := h;obtain ⟨row2, e2, hs2, hb⟩ := ho;exact ⟨fun k hk => jE hk, kK, t, row2, hb, ht, hs2.no⟩
theorem mD.sp {x : Value} {s : Vs} (h : mD w g ck v w') (ho : NbV w g t ck old) (ht : t ≠ 2) (hk : s.ok = true) (hx : s.holds x w) : s.holds x w' := by
 cases s with
 | any => trivial
 | no => exact hx
 | eq u => exact hx
 | gen p => exact p.a hk hx (h.ap ho ht)
end
structure Ce where
 al : Option Nat
 g : Nat
 t : TypeId
 ck : List Ck
 row : Value
 st : Nat
 src : Nat
def Ce.ptr (c : Ce) (vals : Nat → Value) : Value := match c.al with | none => .pointer (some ⟨c.g, 0, none⟩) | some a => vals a
def Ce.live (c : Ce) (L : Nat → Bool) : Bool := match c.al with | none => true | some a => L a
def Ce.ok (w0 : World) (c : Ce) (L : Nat → Bool) (vals : Nat → Value) (w : World) : Prop :=
 c.live L = true → ∃ g, c.ptr vals = .pointer (some ⟨g, 0, none⟩) ∧ w0.heap.size ≤ g ∧ NbV w g c.t c.ck (if L c.st = true then vals c.src else c.row)
def waits (ops : Array Oper) (i j : Nat) : Bool := match ops[i]? with | none => false | some o => o.after.any fun e => Region.binds .any e && e.on == j
structure JC (w0 : World) (ops : Array Oper) (l : List Vs) (cs : List Ce) (ks : List (Value × Vs)) (L : Nat → Bool) (vals : Nat → Value) (W : World) : Prop where
 q : Q w0 W
 s : ∀ j, L j = true → SL l j (vals j) W
 cl : ∀ i j, L i = true → waits ops i j = true → L j = true
 b : ∀ j, ops.size ≤ j → L j = false
 c : ∀ c ∈ cs, c.ok w0 L vals W
 d : ∀ (m k : Nat) (y z : Ce), m ≠ k → cs[m]? = some y → cs[k]? = some z → y.live L = true → z.live L = true → y.ptr vals ≠ z.ptr vals
 k : ∀ p ∈ ks, p.2.holds p.1 W
def bM (ops : Array Oper) (cs : List Ce) : Bool := cs.all fun c => (decide (ops.size ≤ c.st) || waits ops c.st c.src && (match c.al with | none => true | some a => waits ops c.st a)) && (match c.al with | none => true | some a => a != c.st && decide (a < ops.size))
section
variable {P : Program} {ops : Array Oper} {Q' : Exit → Act → World → Prop} {l : List Vs} {cs : List Ce} {ks : List (Value × Vs)} {F : (Nat → Value) → Act} {a : Act} {w0 : World} {L : Nat → Bool} {vals : Nat → Value} {W : World}
open Ja (upd)
theorem upd_ne {α : Type} {f : Nat → α} {i j : Nat} {v : α} (h : j ≠ i) : upd f i v j = f j := if_neg h
theorem nQ {α : Type} {f : Nat → α} {i : Nat} {v : α} : upd f i v i = v := if_pos rfl
theorem JC.closed (h : JC w0 ops l cs ks L vals W) {i : Nat} {o : Oper} (ho : ops[i]? = some o) (hdep : ∀ e ∈ o.after, Region.binds .any e = true → L e.on = true) :
  ∀ x j, upd L i true x = true → waits ops x j = true → upd L i true j = true := by
 intro x j hx hw;by_cases hji : j = i
 ·subst hji; exact nQ
 rw [upd_ne hji];by_cases hxi : x = i
 ·subst hxi;unfold waits at hw;simp only [ho] at hw;obtain ⟨e, he, hb⟩ := Array.any_eq_true'.1 hw;simp only [Bool.and_eq_true, beq_iff_eq] at hb;rw [← hb.2];exact hdep e he hb.1
 ·rw [upd_ne hxi] at hx;exact h.cl x j hx hw
theorem Ce.ok_other {c : Ce} {i : Nat} {v : Value} {W' : World} (hc : c.ok w0 L vals W) (hi : L i = false) (ha : c.al ≠ some i) (hs : c.st ≠ i) (hsrc : L c.st = true → L c.src = true)
  (hk : ∀ g u, NbV W g c.t c.ck u → c.ptr vals = .pointer (some ⟨g, 0, none⟩) → NbV W' g c.t c.ck u) : c.ok w0 (upd L i true) (upd vals i v) W' := by
 intro hl;have hp : c.live (upd L i true) = c.live L ∧ (c.live L = true → c.ptr (upd vals i v) = c.ptr vals) := by
  unfold Ce.live Ce.ptr;cases h : c.al with
  | none => exact ⟨rfl, fun _ => rfl⟩
  | some x =>
    have hx : x ≠ i := fun e => ha (by rw [h, e]);exact ⟨upd_ne hx, fun _ => upd_ne hx⟩
 rw [hp.1] at hl;obtain ⟨g, h1, h2, h3⟩ := hc hl;refine ⟨g, (hp.2 hl).trans h1, h2, ?_⟩;rw [upd_ne hs];split at h3
 ·rename_i hst;rw [if_pos hst];have : c.src ≠ i := fun e => by
   have := hsrc hst;rw [e, hi] at this; cases this
  rw [upd_ne this];exact hk g _ h3 h1
 ·rename_i hst;rw [if_neg hst];exact hk g _ h3 h1
theorem Ce.same {c : Ce} {i : Nat} {v : Value} (ha : c.al ≠ some i) : c.live (upd L i true) = c.live L ∧ c.ptr (upd vals i v) = c.ptr vals := by
 unfold Ce.live Ce.ptr;cases h : c.al with
 | none => exact ⟨rfl, rfl⟩
 | some x =>
   have hx : x ≠ i := fun e => ha (by rw [h, e]);exact ⟨upd_ne hx, upd_ne hx⟩
theorem JC.srcs (hck : bM ops cs = true) (h : JC w0 ops l cs ks L vals W) {c : Ce} (hc : c ∈ cs) (hst : L c.st = true) : L c.src = true := by
 have := List.all_eq_true.1 hck c hc;simp only [Bool.and_eq_true, Bool.or_eq_true, decide_eq_true_eq] at this;rcases this.1 with h1 | h1
 ·rw [h.b _ h1] at hst; cases hst
 ·exact h.cl _ _ hst h1.1
theorem JC.other {i : Nat} {o : Oper} (c : Ctx ops a F) (hck : bM ops cs = true) (ho : ops[i]? = some o) (hg : bF ops l o true = true) (hf : (cs.all fun c => c.al != some i && c.st != i) = true)
  (h : ∀ (L : Nat → Bool) (vals : Nat → Value) (w : World), L i = false → JC w0 ops l cs ks L vals w → (∀ j, (o.after.any fun e => Region.binds .any e && e.on == j) = true → SL l j (vals j) w) →
   ∀ K : Act → World → Prop, Hid (∀ v w' a', a' = (F vals).put o.dst v → SL l i v w' → Q w w' → K a' w') → o.wp P (F vals) w K (fun _ _ _ => False)) :
  Ja.Step P ops (JC w0 ops l cs ks) F i o := by
 intro L vals w hL hdep hJ;rw [if_pos (mU (w := w) c ho hg (fun e he hb => hJ.s _ (hdep e he hb)))];intro K hK;have hi : i < ops.size := (Array.getElem?_eq_some_iff.1 ho).1;refine h L vals w hL hJ (fun j hj => ?_) K (Lib.hid fun v w' a' e hv hq => hK v w' a' e ⟨hJ.q.trans hq, ?_, hJ.closed ho hdep, ?_, ?_, ?_, fun p hp => Vs.mono hq (hJ.k p hp)⟩)
 ·obtain ⟨e, he, hb⟩ := Array.any_eq_true'.1 hj;simp only [Bool.and_eq_true, beq_iff_eq] at hb;obtain ⟨h1, rfl⟩ := hb;exact hJ.s _ (hdep e he h1)
 ·intro j hj;by_cases hji : j = i
  ·subst hji; rw [nQ]; exact hv
  ·rw [upd_ne hji] at hj ⊢; exact Vs.mono hq (hJ.s j hj)
 ·intro j hj;rw [upd_ne (by omega)]; exact hJ.b j hj
 ·intro x hx;have hfx := List.all_eq_true.1 hf x hx;simp only [Bool.and_eq_true, bne_iff_ne] at hfx;exact Ce.ok_other (hJ.c x hx) hL hfx.1 hfx.2 (hJ.srcs hck hx) (fun g u hu _ => hu.q hq)
 ·intro m k y z hmk hy hz h1 h2;have hfx := List.all_eq_true.1 hf y (List.mem_of_getElem? hy);have hfy := List.all_eq_true.1 hf z (List.mem_of_getElem? hz);simp only [Bool.and_eq_true, bne_iff_ne] at hfx hfy;obtain ⟨e1, e2⟩ := Ce.same (L := L) (vals := vals) (v := v) hfx.1;obtain ⟨e3, e4⟩ := Ce.same (L := L) (vals := vals) (v := v) hfy.1;rw [e1] at h1; rw [e3] at h2; rw [e2, e4];exact hJ.d m k y z hmk hy hz h1 h2
theorem JC.alloc {i : Nat} {o : Oper} {n : Nat} {x : Ce} {t : TypeId} {cells : Array Value} (c : Ctx ops a F) (hck : bM ops cs = true) (ho : ops[i]? = some o) (hg : bF ops l o true = true) (hx : cs[n]? = some x) (hal : x.al = some i)
  (hf : ((cs.eraseIdx n).all fun c => c.al != some i && c.st != i) = true) (hl : l.getD i .any = .any)
  (hrow : ∀ w : World, NbV (w.alloc (.cells cells t)) w.heap.size x.t x.ck x.row)
  (h : ∀ (vals : Nat → Value) (w : World) (K : Act → World → Prop), Hid (∀ a', a' = (F vals).put o.dst (.pointer (some ⟨w.heap.size, 0, none⟩)) → K a' (w.alloc (.cells cells t))) → o.wp P (F vals) w K (fun _ _ _ => False)) :
  Ja.Step P ops (JC w0 ops l cs ks) F i o := by
 intro L vals w hL hdep hJ;rw [if_pos (mU (w := w) c ho hg (fun e he hb => hJ.s _ (hdep e he hb)))];intro K hK;have hi : i < ops.size := (Array.getElem?_eq_some_iff.1 ho).1;have hq : Q w (w.alloc (.cells cells t)) := (Q.refl w).alloc _;have hxm : x ∈ cs := List.mem_of_getElem? hx;have hxo : ∀ y ∈ cs, y.al ≠ some i ∧ y.st ≠ i ∨ y = x := by
  intro y hy;obtain ⟨m, hm⟩ := List.mem_iff_getElem?.1 hy;by_cases hmn : m = n
  ·subst hmn; rw [hx] at hm; injection hm with e; exact Or.inr e.symm
  ·refine Or.inl ?_;have : y ∈ cs.eraseIdx n := List.mem_eraseIdx_iff_getElem?.2 ⟨m, hmn, hm⟩;have := List.all_eq_true.1 hf y this;simpa [Bool.and_eq_true, bne_iff_ne] using this
 have hck2 := List.all_eq_true.1 hck x hxm;simp only [hal, Bool.and_eq_true, bne_iff_ne, decide_eq_true_eq] at hck2;have hst : L x.st = false := by
  cases hs : L x.st with
  | false => rfl
  | true =>
    rcases Bool.or_eq_true _ _ ▸ hck2.1 with h1 | h1
    ·rw [hJ.b _ (of_decide_eq_true h1)] at hs; cases hs
    ·simp only [Bool.and_eq_true] at h1;have := hJ.cl _ _ hs h1.2;rw [hL] at this; cases this
 have hlive : ∀ y ∈ cs, y.live L = true → y.al ≠ some i := fun y _ hy e => by
  unfold Ce.live at hy;rw [e] at hy;simp only [hL] at hy;cases hy
 refine h vals w K (Lib.hid fun a' e => hK _ _ a' e ⟨hJ.q.trans hq, ?_, hJ.closed ho hdep, ?_, ?_, ?_, fun p hp => Vs.mono hq (hJ.k p hp)⟩)
 ·intro j hj;by_cases hji : j = i
  ·subst hji; unfold SL; rw [hl]; trivial
  ·rw [upd_ne hji] at hj ⊢; exact Vs.mono hq (hJ.s j hj)
 ·intro j hj;rw [upd_ne (by omega)]; exact hJ.b j hj
 ·intro y hy;rcases hxo y hy with h1 | rfl
  ·exact Ce.ok_other (hJ.c y hy) hL h1.1 h1.2 (hJ.srcs hck hy) (fun g u hu _ => hu.q hq)
  ·intro _;refine ⟨w.heap.size, ?_, hJ.q.size, ?_⟩
   ·unfold Ce.ptr; rw [hal]; exact nQ
   ·rw [upd_ne (fun e => hck2.2.1 e.symm), hst];exact hrow w
 ·have key : ∀ y ∈ cs, y.al ≠ some i → y.live (upd L i true) = true → y.ptr (upd vals i (.pointer (some ⟨w.heap.size, 0, none⟩))) ≠ .pointer (some ⟨w.heap.size, 0, none⟩) := fun y hy hya hyl e => by
   obtain ⟨e1, e2⟩ := Ce.same (L := L) (vals := vals) (v := .pointer (some ⟨w.heap.size, 0, none⟩)) hya;rw [e1] at hyl;rw [e2] at e;obtain ⟨g, h1, -, h3⟩ := hJ.c y hy hyl;rw [h1] at e;injection e with e; injection e with e; injection e with e;have := h3.lt;omega
  have hn : ∀ (m : Nat) (y : Ce), cs[m]? = some y → m ≠ n → y.al ≠ some i := fun m y hm hmn hy => by
   have h2 : y ∈ cs.eraseIdx n := List.mem_eraseIdx_iff_getElem?.2 ⟨m, hmn, hm⟩;have := List.all_eq_true.1 hf y h2;simp [hy] at this
  have hxp : x.ptr (upd vals i (.pointer (some ⟨w.heap.size, 0, none⟩))) = .pointer (some ⟨w.heap.size, 0, none⟩) := by
   unfold Ce.ptr; rw [hal]; exact nQ
  intro m k y z hmk hy hz h1 h2;by_cases hmn : m = n
  ·subst hmn;rw [hx] at hy;injection hy with hy;subst hy;rw [hxp];exact fun e => key z (List.mem_of_getElem? hz) (hn k z hz (Ne.symm hmk)) h2 e.symm
  ·by_cases hkn : k = n
   ·subst hkn;rw [hx] at hz;injection hz with hz;subst hz;rw [hxp];exact key y (List.mem_of_getElem? hy) (hn m y hy hmn) h1
   ·obtain ⟨e1, e2⟩ := Ce.same (L := L) (vals := vals) (v := .pointer (some ⟨w.heap.size, 0, none⟩)) (hn m y hy hmn);obtain ⟨e3, e4⟩ := Ce.same (L := L) (vals := vals) (v := .pointer (some ⟨w.heap.size, 0, none⟩)) (hn k z hz hkn);rw [e1] at h1; rw [e3] at h2; rw [e2, e4];exact hJ.d m k y z hmk hy hz h1 h2
theorem JC.store {i : Nat} {o : Oper} {n : Nat} {x : Ce} (c : Ctx ops a F) (hck : bM ops cs = true) (ho : ops[i]? = some o) (hg : bF ops l o true = true) (hx : cs[n]? = some x) (hty : x.t ≠ 2) (hst : x.st = i)
  (hf : ((cs.eraseIdx n).all fun c => c.al != some i && c.st != i) = true) (hl : l.getD i .any = .any) (hok : (l.all Vs.ok && ks.all fun p => p.2.ok) = true)
  (h : ∀ (L : Nat → Bool) (vals : Nat → Value) (w : World) (g : Nat) (old : Value), JC w0 ops l cs ks L vals w → x.ptr vals = .pointer (some ⟨g, 0, none⟩) → NbV w g x.t x.ck old → SL l x.src (vals x.src) w →
   ∀ K : Act → World → Prop, Hid (∀ v w' a', a' = (F vals).put o.dst v → mD w g x.ck (vals x.src) w' → K a' w') → o.wp P (F vals) w K (fun _ _ _ => False)) :
  Ja.Step P ops (JC w0 ops l cs ks) F i o := by
 intro L vals w hL hdep hJ;obtain ⟨hok1, hok2⟩ := (Bool.and_eq_true _ _).mp hok;rw [if_pos (mU (w := w) c ho hg (fun e he hb => hJ.s _ (hdep e he hb)))];intro K hK;have hi : i < ops.size := (Array.getElem?_eq_some_iff.1 ho).1;have hxm : x ∈ cs := List.mem_of_getElem? hx;have hck2 := List.all_eq_true.1 hck x hxm;simp only [Bool.and_eq_true, Bool.or_eq_true, decide_eq_true_eq] at hck2;have hw : waits ops i x.src = true ∧ (∀ b, x.al = some b → waits ops i b = true) := by
  rcases hck2.1 with h1 | h1
  ·rw [hst] at h1; omega
  ·rw [hst] at h1;exact ⟨h1.1, fun b hb => by have := h1.2; rw [hb] at this; exact this⟩
 have dep : ∀ j, waits ops i j = true → L j = true := fun j hj => by
  unfold waits at hj;simp only [ho] at hj;obtain ⟨e, he, hb⟩ := Array.any_eq_true'.1 hj;simp only [Bool.and_eq_true, beq_iff_eq] at hb;rw [← hb.2];exact hdep e he hb.1
 have hsrc : L x.src = true := dep _ hw.1;have hlive : x.live L = true := by
  unfold Ce.live;cases hal : x.al with
  | none => rfl
  | some b => exact dep b (hw.2 b hal)
 have hal : x.al ≠ some i := fun e => by
  have := dep i (hw.2 i e);rw [hL] at this; cases this
 obtain ⟨g, h1, h2, h3⟩ := hJ.c x hxm hlive;have hn : ∀ (m : Nat) (y : Ce), cs[m]? = some y → m ≠ n → y.al ≠ some i ∧ y.st ≠ i := fun m y hm hmn => by
  have h2 : y ∈ cs.eraseIdx n := List.mem_eraseIdx_iff_getElem?.2 ⟨m, hmn, hm⟩;have := List.all_eq_true.1 hf y h2;simpa [Bool.and_eq_true, bne_iff_ne] using this
 have hsi : x.src ≠ i := fun e => by rw [e, hL] at hsrc; cases hsrc
 refine h L vals w g _ hJ h1 h3 (hJ.s _ hsrc) K (Lib.hid fun v w' a' e hp => hK v w' a' e ⟨hp.q hJ.q h2, ?_, hJ.closed ho hdep, ?_, ?_, ?_, fun p hp' => hp.sp h3 hty (List.all_eq_true.1 hok2 p hp') (hJ.k p hp')⟩)
 ·intro j hj;by_cases hji : j = i
  ·subst hji; unfold SL; rw [hl]; trivial
  ·rw [upd_ne hji] at hj ⊢; exact hp.sp h3 hty (aE4 hok1 j) (hJ.s j hj)
 ·intro j hj;rw [upd_ne (by omega)]; exact hJ.b j hj
 ·intro y hy;obtain ⟨m, hm⟩ := List.mem_iff_getElem?.1 hy;by_cases hmn : m = n
  ·subst hmn;rw [hx] at hm;injection hm with hm;subst hm;intro _;refine ⟨g, by rw [(Ce.same (L := L) hal).2]; exact h1, h2, ?_⟩;rw [hst, nQ, if_pos rfl, upd_ne hsi];exact hp.new h3
  ·obtain ⟨ha, hs⟩ := hn m y hm hmn;intro hyl;refine Ce.ok_other (hJ.c y hy) hL ha hs (hJ.srcs hck hy) (fun g' u hu hpt => hu.heap (hp.heap fun e => ?_)) hyl;subst e;rw [(Ce.same (L := L) (vals := vals) (v := v) ha).1] at hyl;exact hJ.d m n y x hmn hm hx hyl hlive (hpt.trans h1.symm)
 ·intro m k y z hmk hy hz h1' h2';have na : ∀ (m : Nat) (y : Ce), cs[m]? = some y → y.al ≠ some i := fun m y hm => by
   by_cases hmn : m = n
   ·subst hmn;rw [hx] at hm;injection hm with hm;subst hm;exact hal
   ·exact (hn m y hm hmn).1
  obtain ⟨e1, e2⟩ := Ce.same (L := L) (vals := vals) (v := v) (na m y hy);obtain ⟨e3, e4⟩ := Ce.same (L := L) (vals := vals) (v := v) (na k z hz);rw [e1] at h1'; rw [e3] at h2'; rw [e2, e4];exact hJ.d m k y z hmk hy hz h1' h2'
theorem JC.no {i : Nat} {o : Oper} (c : Ctx ops a F) (hck : bM ops cs = true) (ho : ops[i]? = some o) (hg : bF ops l o false = true) (hf : (cs.all fun c => c.al != some i && c.st != i) = true) (hl : l.getD i .any = .no) :
  Ja.Step P ops (JC w0 ops l cs ks) F i o := by
 intro L vals w hL hdep hJ;rw [if_neg (by rw [mU (w := w) c ho hg (fun e he hb => hJ.s _ (hdep e he hb))]; decide)];have hi : i < ops.size := (Array.getElem?_eq_some_iff.1 ho).1;refine ⟨hJ.q, ?_, hJ.closed ho hdep, ?_, ?_, ?_, hJ.k⟩
 ·intro j hj;by_cases hji : j = i
  ·subst hji; unfold SL; rw [hl]; exact nQ
  ·rw [upd_ne hji] at hj ⊢; exact hJ.s j hj
 ·intro j hj;rw [upd_ne (by omega)]; exact hJ.b j hj
 ·intro x hx;have hfx := List.all_eq_true.1 hf x hx;simp only [Bool.and_eq_true, bne_iff_ne] at hfx;exact Ce.ok_other (hJ.c x hx) hL hfx.1 hfx.2 (hJ.srcs hck hx) (fun g u hu _ => hu)
 ·intro m k y z hmk hy hz h1 h2;have hfx := List.all_eq_true.1 hf y (List.mem_of_getElem? hy);have hfy := List.all_eq_true.1 hf z (List.mem_of_getElem? hz);simp only [Bool.and_eq_true, bne_iff_ne] at hfx hfy;obtain ⟨e1, e2⟩ := Ce.same (L := L) (vals := vals) (v := undef) hfx.1;obtain ⟨e3, e4⟩ := Ce.same (L := L) (vals := vals) (v := undef) hfy.1;rw [e1] at h1; rw [e3] at h2; rw [e2, e4];exact hJ.d m k y z hmk hy hz h1 h2
theorem JC.o {i : Nat} {o : Oper} {rest : List Oper} (c : Ctx ops a F)
  (h : ∀ (L : Nat → Bool) (vals : Nat → Value) (w : World), L i = false → JC w0 ops l cs ks L vals w → (∀ j, (o.after.any fun e => Region.binds .any e && e.on == j) = true → SL l j (vals j) w) →
   ∀ K : Act → World → Prop, Hid (∀ v w' a', a' = (F vals).put o.dst v → SL l i v w' → Q w w' → K a' w') → o.wp P (F vals) w K (fun _ _ _ => False))
  (hr : Ja.Steps P ops (JC w0 ops l cs ks) F (i + 1) rest) (hck : bM ops cs = true := by kernel_rfl) (ho : ops[i]? = some o := by rfl) (hg : bF ops l o true = true := by kernel_rfl) (hf : (cs.all fun c => c.al != some i && c.st != i) = true := by kernel_rfl) :
  Ja.Steps P ops (JC w0 ops l cs ks) F i (o :: rest) := Ja.Steps.cons (JC.other c hck ho hg hf h) hr
theorem JC.n {i : Nat} {o : Oper} {rest : List Oper} (c : Ctx ops a F) (hr : Ja.Steps P ops (JC w0 ops l cs ks) F (i + 1) rest) (hck : bM ops cs = true := by kernel_rfl) (ho : ops[i]? = some o := by rfl) (hg : bF ops l o false = true := by kernel_rfl)
  (hf : (cs.all fun c => c.al != some i && c.st != i) = true := by kernel_rfl) (hl : l.getD i .any = .no := by rfl) : Ja.Steps P ops (JC w0 ops l cs ks) F i (o :: rest) := Ja.Steps.cons (JC.no c hck ho hg hf hl) hr
structure At0 (w0 : World) (cs : List Ce) (ks : List (Value × Vs)) (w : World) : Prop where
 q : Q w0 w
 c : ∀ c ∈ cs, c.al = none → w0.heap.size ≤ c.g ∧ NbV w c.g c.t c.ck c.row
 d : ∀ (m k : Nat) (y z : Ce), m ≠ k → cs[m]? = some y → cs[k]? = some z → y.al = none → z.al = none → y.g ≠ z.g
 k : ∀ p ∈ ks, p.2.holds p.1 w
theorem JC.init {w : World} (h : At0 w0 cs ks w) (vals : Nat → Value) : JC w0 ops l cs ks (fun _ => false) vals w := by
 have live : ∀ c : Ce, c.live (fun _ => false) = true → c.al = none := fun c hc => by
  unfold Ce.live at hc;split at hc
  ·assumption
  ·cases hc
 refine ⟨h.q, fun j hj => (by cases hj), fun i j hi => (by cases hi), fun _ _ => rfl, fun c hc hl => ?_, fun m k y z hmk hy hz h1 h2 => ?_, h.k⟩
 ·obtain ⟨h1, h2⟩ := h.c c hc (live c hl);exact ⟨c.g, by unfold Ce.ptr; rw [live c hl], h1, h2⟩
 ·have e1 := live y h1;have e2 := live z h2;unfold Ce.ptr;rw [e1, e2];intro e;injection e with e; injection e with e; injection e with e;exact h.d m k y z hmk hy hz e1 e2 e
theorem At0.drew {w : World} (h : At0 w0 cs ks w) : At0 w0 cs ks w.drew :=
 ⟨h.q.drew, fun c hc hn => ⟨(h.c c hc hn).1, (h.c c hc hn).2.q (Q.refl _).drew⟩, h.d, fun p hp => Vs.mono (Q.refl _).drew (h.k p hp)⟩
theorem mE {id : Nat} {w : World} (w0 : World) (l : List Vs) (cs : List Ce) (ks : List (Value × Vs)) (hm : P.follows .mixedOrders = true) (hsh : (Ja.shape ops && Region.noSelect ops && Ja.inBounds ops a.tmps.size) = true) (h0 : At0 w0 cs ks w) (hF : ∀ vals, Ja.fillL vals ops.toList 0 a = F vals) (hstep : Ctx ops a F → Ja.Steps P ops (JC w0 ops l cs ks) F 0 ops.toList) (hend : ∀ L vals w', (∀ j, j < ops.size → L j = true) → JC w0 ops l cs ks L vals w' → Q' .normal (F vals) w') : (Code.region id ops true).wp P Q' a w :=
 have c : Ctx ops a F := ⟨hsh, fun vals => (hF vals).symm⟩
 Ja.wp_region_inv hm hsh c.go (JC.init h0.drew _) (hstep c) (fun L vals w' hall h => hend L vals w' hall h)
theorem cK {id : Nat} {w : World} (w0 : World) (l : List Vs) (cs : List Ce) (ks : List (Value × Vs)) (hsh : (Ja.shape ops && Region.noSelect ops && Ja.inBounds ops a.tmps.size) = true) (h0 : At0 w0 cs ks w) (hF : ∀ vals, Ja.fillL vals ops.toList 0 a = F vals) (hstep : Ctx ops a F → Ja.Steps P ops (JC w0 ops l cs ks) F 0 ops.toList) (hend : ∀ L vals w', (∀ j, j < ops.size → L j = true) → JC w0 ops l cs ks L vals w' → Q' .normal (F vals) w') : (Code.region id ops false).wp P Q' a w :=
 have c : Ctx ops a F := ⟨hsh, fun vals => (hF vals).symm⟩
 Ja.wp_region_text hsh c.go (JC.init h0 _) (hstep c) (fun L vals w' hall h => hend L vals w' hall h)
end
def uK (w0 w : World) : List Ce → Prop
 | [] => True
 | c :: cs => (c.al = none → w0.heap.size ≤ c.g ∧ NbV w c.g c.t c.ck c.row) ∧ uK w0 w cs
def dO : List Ce → Prop
 | [] => True
 | c :: cs => (∀ d ∈ cs, c.al = none → d.al = none → c.g ≠ d.g) ∧ dO cs
def uL (w : World) : List (Value × Vs) → Prop
 | [] => True
 | p :: ps => p.2.holds p.1 w ∧ uL w ps
theorem uK.mem {w0 w : World} : ∀ {cs : List Ce}, uK w0 w cs → ∀ c ∈ cs, c.al = none → w0.heap.size ≤ c.g ∧ NbV w c.g c.t c.ck c.row
 | [], _, _, h => by cases h
 | c :: cs, h, d, hd => by
   rcases List.mem_cons.1 hd with rfl | hd
   ·exact h.1
   ·exact uK.mem h.2 d hd
theorem dO.at : ∀ {cs : List Ce}, dO cs → ∀ (m k : Nat) (y z : Ce), m ≠ k → cs[m]? = some y → cs[k]? = some z → y.al = none → z.al = none → y.g ≠ z.g
 | [], _, _, _, _, _, _, h, _, _, _ => by simp at h
 | c :: cs, h, 0, 0, _, _, hmk, _, _, _, _ => absurd rfl hmk
 | c :: cs, h, 0, k + 1, y, z, _, hy, hz, h1, h2 => by
   simp at hy; subst hy;exact h.1 z (List.mem_of_getElem? (by simpa using hz)) h1 h2
 | c :: cs, h, m + 1, 0, y, z, _, hy, hz, h1, h2 => by
   simp at hz; subst hz;exact fun e => h.1 y (List.mem_of_getElem? (by simpa using hy)) h2 h1 e.symm
 | c :: cs, h, m + 1, k + 1, y, z, hmk, hy, hz, h1, h2 => dO.at h.2 m k y z (fun e => hmk (by rw [e])) (by simpa using hy) (by simpa using hz) h1 h2
theorem uL.mem {w : World} : ∀ {ks : List (Value × Vs)}, uL w ks → ∀ p ∈ ks, p.2.holds p.1 w
 | [], _, _, h => by cases h
 | c :: cs, h, d, hd => by
   rcases List.mem_cons.1 hd with rfl | hd
   ·exact h.1
   ·exact uL.mem h.2 d hd
theorem At0.of {w0 w : World} {cs : List Ce} {ks : List (Value × Vs)} (hq : Q w0 w) (h1 : uK w0 w cs) (h2 : dO cs) (h3 : uL w ks) : At0 w0 cs ks w := ⟨hq, h1.mem, h2.at, h3.mem⟩
section
variable {ops : Array Oper} {l : List Vs} {cs : List Ce} {ks : List (Value × Vs)} {w0 : World} {L : Nat → Bool} {vals : Nat → Value} {W : World}
theorem JC.at (h : JC w0 ops l cs ks L vals W) (n : Nat) {x : Ce} (hx : cs[n]? = some x) (hal : x.al = none) (hst : L x.st = false) : NbV W x.g x.t x.ck x.row := by
 obtain ⟨g, h1, h2, h3⟩ := h.c x (List.mem_of_getElem? hx) (by unfold Ce.live; rw [hal]);unfold Ce.ptr at h1;rw [hal] at h1;injection h1 with h1; injection h1 with h1; injection h1 with h1;rw [hst, if_neg (by decide)] at h3;rw [h1]; exact h3
theorem JC.still (h : JC w0 ops l cs ks L vals W) (n : Nat) {x : Ce} (hx : cs[n]? = some x) (hal : x.al = none) (hst : ops.size ≤ x.st) : NbV W x.g x.t x.ck x.row := h.at n hx hal (h.b _ hst)
theorem JC.before (h : JC w0 ops l cs ks L vals W) (n i : Nat) {x : Ce} (hx : cs[n]? = some x) (hal : x.al = none) (hi : L i = false) (h1 : waits ops x.st x.src = true) (h2 : waits ops x.src i = true) : NbV W x.g x.t x.ck x.row := by
 refine h.at n hx hal ?_;cases hs : L x.st with
 | false => rfl
 | true =>
   have := h.cl _ _ (h.cl _ _ hs h1) h2;rw [hi] at this; cases this
theorem JC.stored (h : JC w0 ops l cs ks L vals W) (n : Nat) {x : Ce} (hx : cs[n]? = some x) (hal : x.al = none) (hst : L x.st = true) : NbV W x.g x.t x.ck (vals x.src) := by
 obtain ⟨g, h1, h2, h3⟩ := h.c x (List.mem_of_getElem? hx) (by unfold Ce.live; rw [hal]);unfold Ce.ptr at h1;rw [hal] at h1;injection h1 with h1; injection h1 with h1; injection h1 with h1;rw [hst, if_pos rfl] at h3;rw [h1]; exact h3
theorem JC.fresh (h : JC w0 ops l cs ks L vals W) (n : Nat) {x : Ce} {a : Nat} (hx : cs[n]? = some x) (hal : x.al = some a) (ha : L a = true) (hst : L x.st = true) :
  ∃ g, vals a = .pointer (some ⟨g, 0, none⟩) ∧ w0.heap.size ≤ g ∧ NbV W g x.t x.ck (vals x.src) := by
 obtain ⟨g, h1, h2, h3⟩ := h.c x (List.mem_of_getElem? hx) (by unfold Ce.live; rw [hal]; exact ha);unfold Ce.ptr at h1;rw [hal] at h1;rw [hst, if_pos rfl] at h3;exact ⟨g, h1, h2, h3⟩
theorem JC.ne (h : JC w0 ops l cs ks L vals W) (m k : Nat) {y z : Ce} (hmk : m ≠ k) (hy : cs[m]? = some y) (hz : cs[k]? = some z) (h1 : y.live L = true) (h2 : z.live L = true) {g g' : Nat}
  (e1 : y.ptr vals = .pointer (some ⟨g, 0, none⟩)) (e2 : z.ptr vals = .pointer (some ⟨g', 0, none⟩)) : g ≠ g' := by
 intro e;subst e;exact h.d m k y z hmk hy hz h1 h2 (e1.trans e2.symm)
theorem JC.kept (h : JC w0 ops l cs ks L vals W) (n : Nat) {p : Value × Vs} (hp : ks[n]? = some p) : p.2.holds p.1 W := h.k p (List.mem_of_getElem? hp)
end
end Go.Proofs.YtgpacgadpnpjjaaGreatDoor.K
namespace Go.Proofs.YtgpacgadpnpjjaaGreatDoor.K
open Go.RowKit
open Ma Me
def Rq (w : World) (v : Value) (q : Rat) : Prop := ∃ A1 n1 c1 A2 n2 c2, v = .agg #[.int .i64 (sn q), .slice A1 n1 c1, .slice A2 n2 c2] ∧ Nr w (.slice A1 n1 c1) q.num.natAbs ∧ (q ≠ 0 → Nr w (.slice A2 n2 c2) q.den)
theorem Rq.q {w w' : World} {v : Value} {q : Rat} (h : Rq w v q) (hq : Q w w') : Rq w' v q := by
 obtain ⟨A1, n1, c1, A2, n2, c2, e, h1, h2⟩ := h;exact ⟨A1, n1, c1, A2, n2, c2, e, h1.q hq, fun hz => (h2 hz).q hq⟩
theorem Rq.ap {w w' : World} {v : Value} {q : Rat} {g : Nat} (h : Rq w v q) (ha : Ap w w' g) : Rq w' v q := by
 obtain ⟨A1, n1, c1, A2, n2, c2, e, h1, h2⟩ := h;exact ⟨A1, n1, c1, A2, n2, c2, e, ha.nr h1, fun hz => ha.nr (h2 hz)⟩
def pRn (q : Rat) : Pr := ⟨fun v w => Rq w v q, fun h hq => h.q hq, true, fun _ h ha => h.ap ha⟩
section
variable {w : World} {q p : Rat} {s : Int} {A1 A2 A3 A4 : Option Addr} {n1 c1 n2 c2 n3 c3 n4 c4 : Nat}
theorem Rq.parts (h : Rq w (.agg #[.int .i64 s, .slice A1 n1 c1, .slice A2 n2 c2]) q) : s = sn q ∧ Nr w (.slice A1 n1 c1) q.num.natAbs ∧ (q ≠ 0 → Nr w (.slice A2 n2 c2) q.den) := by
 obtain ⟨A1', n1', c1', A2', n2', c2', e, h1, h2⟩ := h;simp only [Value.agg.injEq, Array.mk.injEq, List.cons.injEq, Value.int.injEq, Value.slice.injEq, and_true, true_and] at e;obtain ⟨rfl, ⟨rfl, rfl, rfl⟩, rfl, rfl, rfl⟩ := e;exact ⟨rfl, h1, h2⟩
theorem Rq.top (h : Rq w (.agg #[.int .i64 s, .slice A1 n1 c1, .slice A2 n2 c2]) q) : Nr w (.slice A1 n1 c1) q.num.natAbs := h.parts.2.1
end
theorem Rq.none (w : World) : Rq w (.agg #[.int .i64 0, .slice .none 0 0, .slice .none 0 0]) 0 := ⟨.none, 0, 0, .none, 0, 0, rfl, Nn.zero _ _, fun h => absurd rfl h⟩
theorem Rq.mk {w : World} {x y : Value} {q : Rat} (h1 : Nr w x q.num.natAbs) (h2 : q ≠ 0 → Nr w y q.den) (hy : ∃ A n c, y = .slice A n c) {s : Int} (hs : s = sn q) : Rq w (.agg #[.int .i64 s, x, y]) q := by
 obtain ⟨A, n, c, rfl⟩ := hy;obtain ⟨A1, c1, ds, rfl, h3⟩ := h1;subst hs;exact ⟨_, _, _, _, _, _, rfl, ⟨A1, c1, ds, rfl, h3⟩, h2⟩
theorem Nr.form {w : World} {x : Value} {N : Nat} (h : Nr w x N) : ∃ A n c, x = .slice A n c := by
 obtain ⟨A1, c1, ds, rfl, h3⟩ := h; exact ⟨_, _, _, rfl⟩
def Rs (w : World) (v : Value) (p q : Rat) : Prop := ∃ s1 A1 n1 c1 A2 n2 c2 s2 A3 n3 c3 A4 n4 c4, v = .agg #[.int .i64 s1, .slice A1 n1 c1, .slice A2 n2 c2, .int .i64 s2, .slice A3 n3 c3, .slice A4 n4 c4] ∧
 Rq w (.agg #[.int .i64 s1, .slice A1 n1 c1, .slice A2 n2 c2]) p ∧ Rq w (.agg #[.int .i64 s2, .slice A3 n3 c3, .slice A4 n4 c4]) q
def pRs (p q : Rat) : Pr := ⟨fun v w => Rs w v p q,
 fun ⟨s1, A1, n1, c1, A2, n2, c2, s2, A3, n3, c3, A4, n4, c4, e, h1, h2⟩ hq => ⟨s1, A1, n1, c1, A2, n2, c2, s2, A3, n3, c3, A4, n4, c4, e, h1.q hq, h2.q hq⟩, true,
 fun _ ⟨s1, A1, n1, c1, A2, n2, c2, s2, A3, n3, c3, A4, n4, c4, e, h1, h2⟩ ha => ⟨s1, A1, n1, c1, A2, n2, c2, s2, A3, n3, c3, A4, n4, c4, e, h1.ap ha, h2.ap ha⟩⟩
section
variable {w : World} {q p : Rat} {s1 s2 : Int} {A1 A2 A3 A4 : Option Addr} {n1 c1 n2 c2 n3 c3 n4 c4 : Nat}
theorem Rs.parts (h : Rs w (.agg #[.int .i64 s1, .slice A1 n1 c1, .slice A2 n2 c2, .int .i64 s2, .slice A3 n3 c3, .slice A4 n4 c4]) p q) : Rq w (.agg #[.int .i64 s1, .slice A1 n1 c1, .slice A2 n2 c2]) p ∧ Rq w (.agg #[.int .i64 s2, .slice A3 n3 c3, .slice A4 n4 c4]) q := by
 obtain ⟨s1', A1', n1', c1', A2', n2', c2', s2', A3', n3', c3', A4', n4', c4', e, h1, h2⟩ := h;simp only [Value.agg.injEq, Array.mk.injEq, List.cons.injEq, Value.int.injEq, Value.slice.injEq, and_true, true_and] at e;obtain ⟨rfl, ⟨rfl, rfl, rfl⟩, ⟨rfl, rfl, rfl⟩, rfl, ⟨rfl, rfl, rfl⟩, rfl, rfl, rfl⟩ := e;exact ⟨h1, h2⟩
end
def Ex : List Ck → (List Value → Prop) → Prop
 | [], P => P []
 | .b :: ks, P => ∃ x, Ex ks fun l => P (.bool x :: l)
 | .i :: ks, P => ∃ x, Ex ks fun l => P (.int .i64 x :: l)
 | .s :: ks, P => ∃ A n c, Ex ks fun l => P (.slice A n c :: l)
 | .t :: ks, P => ∃ x, Ex ks fun l => P (.string x :: l)
theorem Sh.ex : ∀ {ks : List Ck} {row : List Value} {P : List Value → Prop}, Sh ks row → P row → Ex ks P
 | [], [], _, _, h => h
 | .b :: _, _ :: _, _, ⟨⟨x, rfl⟩, hs⟩, h => ⟨x, Sh.ex hs h⟩
 | .i :: _, _ :: _, _, ⟨⟨x, rfl⟩, hs⟩, h => ⟨x, Sh.ex hs h⟩
 | .s :: _, _ :: _, _, ⟨⟨A, n, c, rfl⟩, hs⟩, h => ⟨A, n, c, Sh.ex hs h⟩
 | .t :: _, _ :: _, _, ⟨⟨x, rfl⟩, hs⟩, h => ⟨x, Sh.ex hs h⟩
theorem NbV.ex {w : World} {g : Nat} {t : TypeId} {ck : List Ck} {v : Value} (h : NbV w g t ck v) : Ex ck fun row => v = .agg row.toArray ∧ Bx w g t row := by
 obtain ⟨row, e, hs, hb⟩ := h;exact hs.ex ⟨e, hb⟩
theorem NbV.mk {w : World} {g : Nat} {t : TypeId} {ck : List Ck} {row : List Value} (hs : Sh ck row) (h : Bx w g t row) : NbV w g t ck (.agg row.toArray) := ⟨row, rfl, hs, h⟩
theorem NbV.out {w : World} {g : Nat} {t : TypeId} {ck : List Ck} {row : List Value} (h : NbV w g t ck (.agg row.toArray)) : Bx w g t row := by
 obtain ⟨row', e, hs, hb⟩ := h;injection e with e;have : row = row' := by simpa using e
 subst this;exact hb
theorem yR (w : World) (t1 : TypeId) (r1 : List Value) : ∃ W, w.alloc (.cells r1.toArray t1) = W ∧ Q w W ∧ Bx W w.heap.size t1 r1 :=
 ⟨_, rfl, (Q.refl _).alloc _, Bx.new w t1 r1⟩
theorem aE6 (w : World) (t1 : TypeId) (r1 : List Value) (t2 : TypeId) (r2 : List Value) : ∃ W, (w.alloc (.cells r1.toArray t1)).alloc (.cells r2.toArray t2) = W ∧ Q w W ∧ Bx W w.heap.size t1 r1 ∧ Bx W (w.heap.size + 1) t2 r2 := by
 have h1 := Bx.new w t1 r1;have h2 := Bx.new (w.alloc (.cells r1.toArray t1)) t2 r2;rw [World.size_alloc] at h2;exact ⟨_, rfl, ((Q.refl _).alloc _).alloc _, h1.q ((Q.refl _).alloc _), h2⟩
theorem aGR (w : World) (t1 : TypeId) (r1 : List Value) (t2 : TypeId) (r2 : List Value) (t3 : TypeId) (r3 : List Value) : ∃ W, ((w.alloc (.cells r1.toArray t1)).alloc (.cells r2.toArray t2)).alloc (.cells r3.toArray t3) = W ∧ Q w W ∧
  Bx W w.heap.size t1 r1 ∧ Bx W (w.heap.size + 1) t2 r2 ∧ Bx W (w.heap.size + 1 + 1) t3 r3 := by
 obtain ⟨W, e, hq, h1, h2⟩ := aE6 w t1 r1 t2 r2;have h3 := Bx.new W t3 r3;have e2 : W.heap.size = w.heap.size + 1 + 1 := by rw [← e, World.size_alloc, World.size_alloc]
 rw [e2] at h3;exact ⟨_, by rw [e], hq.alloc _, h1.q ((Q.refl _).alloc _), h2.q ((Q.refl _).alloc _), h3⟩
theorem aJe (w : World) (t1 : TypeId) (r1 : List Value) (t2 : TypeId) (r2 : List Value) (t3 : TypeId) (r3 : List Value) (t4 : TypeId) (r4 : List Value) : ∃ W, (((w.alloc (.cells r1.toArray t1)).alloc (.cells r2.toArray t2)).alloc (.cells r3.toArray t3)).alloc (.cells r4.toArray t4) = W ∧ Q w W ∧
  Bx W w.heap.size t1 r1 ∧ Bx W (w.heap.size + 1) t2 r2 ∧ Bx W (w.heap.size + 1 + 1) t3 r3 ∧ Bx W (w.heap.size + 1 + 1 + 1) t4 r4 := by
 obtain ⟨W, e, hq, h1, h2, h3⟩ := aGR w t1 r1 t2 r2 t3 r3;have h4 := Bx.new W t4 r4;have e2 : W.heap.size = w.heap.size + 1 + 1 + 1 := by rw [← e, World.size_alloc, World.size_alloc, World.size_alloc]
 rw [e2] at h4;exact ⟨_, by rw [e], hq.alloc _, h1.q ((Q.refl _).alloc _), h2.q ((Q.refl _).alloc _), h3.q ((Q.refl _).alloc _), h4⟩
end Go.Proofs.YtgpacgadpnpjjaaGreatDoor.K
namespace Go.Proofs.YtgpacgadpnpjjaaGreatDoor.K
open Go.RowKit
open Ma Me
def iX (l : List Vs) (o : Oper) (vals : Nat → Value) : Nat → Value := fun j =>
 if (o.after.any fun e => Region.binds .any e && e.on == j) = true then (match l.getD j .any with | .eq v => v | _ => vals j) else vals j
theorem iK {l : List Vs} {o : Oper} {vals : Nat → Value} {w : World} (hd : ∀ j, (o.after.any fun e => Region.binds .any e && e.on == j) = true → SL l j (vals j) w) : iX l o vals = vals := by
 funext j;unfold iX;split
 ·rename_i h;have hs := hd j h;unfold SL at hs;split
  ·rename_i v e;rw [e] at hs;exact hs.symm
  ·rfl
 ·rfl
section
variable {P : Program} {ops : Array Oper} {l : List Vs} {cs : List Ce} {ks : List (Value × Vs)} {F : (Nat → Value) → Act} {a : Act} {w0 : World} {i : Nat} {o : Oper} {rest : List Oper} {v : Value}
theorem JC.p (c : Ctx ops a F) (hr : Ja.Steps P ops (JC w0 ops l cs ks) F (i + 1) rest)
  (hck : bM ops cs = true := by kernel_rfl) (ho : ops[i]? = some o := by rfl) (hg : bF ops l o true = true := by kernel_rfl) (hf : (cs.all fun c => c.al != some i && c.st != i) = true := by kernel_rfl)
  (hl : l.getD i .any = .eq v := by rfl) (hrun : ∀ vals w, (execOp (F (iX l o vals)).eval o).run P w = .ok (.value v) w := by intro vals w; kernel_rfl) :
  Ja.Steps P ops (JC w0 ops l cs ks) F i (o :: rest) :=
 JC.o c (fun L vals w _ _ hd K hK => by
  have h := hrun vals w;rw [iK hd] at h;unfold Oper.wp;rw [h, Oper.upon_value];exact hK.out v w _ rfl (by unfold SL; rw [hl]; rfl) (Q.refl _)) hr hck ho hg hf
theorem JC.m (j : Nat) (c : Ctx ops a F) (hr : Ja.Steps P ops (JC w0 ops l cs ks) F (i + 1) rest)
  (hck : bM ops cs = true := by kernel_rfl) (ho : ops[i]? = some o := by rfl) (hg : bF ops l o true = true := by kernel_rfl) (hf : (cs.all fun c => c.al != some i && c.st != i) = true := by kernel_rfl)
  (hl : l.getD i .any = l.getD j .any := by rfl) (hj : (o.after.any fun e => Region.binds .any e && e.on == j) = true := by kernel_rfl) (hrun : ∀ vals w, (execOp (F (iX l o vals)).eval o).run P w = .ok (.value (vals j)) w := by intro vals w; kernel_rfl) :
  Ja.Steps P ops (JC w0 ops l cs ks) F i (o :: rest) :=
 JC.o c (fun L vals w _ _ hd K hK => by
  have h := hrun vals w;rw [iK hd] at h;have hs := hd j hj;unfold Oper.wp;rw [h, Oper.upon_value];exact hK.out (vals j) w _ rfl (by unfold SL at hs ⊢; rw [hl]; exact hs) (Q.refl _)) hr hck ho hg hf
theorem JC.e (v : Value) (hv : ∀ W, Q w0 W → (l.getD i .any).holds v W) (c : Ctx ops a F) (hr : Ja.Steps P ops (JC w0 ops l cs ks) F (i + 1) rest)
  (hck : bM ops cs = true := by kernel_rfl) (ho : ops[i]? = some o := by rfl) (hg : bF ops l o true = true := by kernel_rfl) (hf : (cs.all fun c => c.al != some i && c.st != i) = true := by kernel_rfl)
  (hrun : ∀ vals w, (execOp (F (iX l o vals)).eval o).run P w = .ok (.value v) w := by intro vals w; kernel_rfl) :
  Ja.Steps P ops (JC w0 ops l cs ks) F i (o :: rest) :=
 JC.o c (fun L vals w _ hJ hd K hK => by
  have h := hrun vals w;rw [iK hd] at h;unfold Oper.wp;rw [h, Oper.upon_value];exact hK.out v w _ rfl (hv w hJ.q) (Q.refl _)) hr hck ho hg hf
theorem JC.lo {g : Nat} {t : TypeId} {row : List Value} (v : Value) (hb : Bx w0 g t row) (hv : ∀ W, Q w0 W → (l.getD i .any).holds v W) (hrun : ∀ vals w, Bx w g t row → (execOp (F (iX l o vals)).eval o).run P w = .ok (.value v) w) (c : Ctx ops a F) (hr : Ja.Steps P ops (JC w0 ops l cs ks) F (i + 1) rest)
  (hck : bM ops cs = true := by kernel_rfl) (ho : ops[i]? = some o := by rfl) (hg : bF ops l o true = true := by kernel_rfl) (hf : (cs.all fun c => c.al != some i && c.st != i) = true := by kernel_rfl) :
  Ja.Steps P ops (JC w0 ops l cs ks) F i (o :: rest) :=
 JC.o c (fun L vals w _ hJ hd K hK => by
  have h := hrun vals w (hb.q hJ.q);rw [iK hd] at h;unfold Oper.wp;rw [h, Oper.upon_value];exact hK.out v w _ rfl (hv w hJ.q) (Q.refl _)) hr hck ho hg hf
theorem JC.ro {x : Ce} {row : List Value} (v : Value) (hrow : x.row = .agg row.toArray) (hst : ∀ L vals W, L i = false → JC w0 ops l cs ks L vals W → NbV W x.g x.t x.ck x.row) (hv : ∀ L vals W, JC w0 ops l cs ks L vals W → (l.getD i .any).holds v W) (hrun : ∀ vals w, Bx w x.g x.t row → (execOp (F (iX l o vals)).eval o).run P w = .ok (.value v) w) (c : Ctx ops a F) (hr : Ja.Steps P ops (JC w0 ops l cs ks) F (i + 1) rest)
  (hck : bM ops cs = true := by kernel_rfl) (ho : ops[i]? = some o := by rfl) (hg : bF ops l o true = true := by kernel_rfl) (hf : (cs.all fun c => c.al != some i && c.st != i) = true := by kernel_rfl) :
  Ja.Steps P ops (JC w0 ops l cs ks) F i (o :: rest) :=
 JC.o c (fun L vals w hL hJ hd K hK => by
  have hb := hst L vals w hL hJ;rw [hrow] at hb;have h := hrun vals w (NbV.out hb);rw [iK hd] at h;unfold Oper.wp;rw [h, Oper.upon_value];exact hK.out v w _ rfl (hv L vals w hJ) (Q.refl _)) hr hck ho hg hf
end
theorem ld1 {ρ : Operand → Value} {o : Oper} {w : World} {g off : Nat} {v : Value} {T : TypeId} {x : Operand} (h : w.cell? ⟨g, off, none⟩ = some v) (ho : o.op = .load T x) (hx : ρ x = .pointer (some ⟨g, off, none⟩)) (hT : ∀ w, Sem.run Tryz.prog (isAgg T) w = .ok false w) :
  (execOp ρ o).run Tryz.prog w = .ok (.value v) w := by
 unfold execOp;rw [ho];simp [hx, go_sem, h, hT]
theorem ld3 {ρ : Operand → Value} {o : Oper} {w : World} {g off : Nat} {v0 v1 v2 : Value} {T : TypeId} {x : Operand} (h0 : w.cell? ⟨g, off, none⟩ = some v0) (h1 : w.cell? ⟨g, off + 1, none⟩ = some v1) (h2 : w.cell? ⟨g, off + 2, none⟩ = some v2) (ho : o.op = .load T x) (hx : ρ x = .pointer (some ⟨g, off, none⟩)) (hT : ∀ w, Sem.run Tryz.prog (isAgg T) w = .ok true w) (hS : ∀ w, Sem.run Tryz.prog (sizeOf T) w = .ok 3 w) :
  (execOp ρ o).run Tryz.prog w = .ok (.value (.agg #[v0, v1, v2])) w := by
 unfold execOp;rw [ho];simp [hx, go_sem, hT, hS, loadCellsFrom, Addr.add, h0, h1, h2]
theorem ld6 {ρ : Operand → Value} {o : Oper} {w : World} {g : Nat} {v0 v1 v2 v3 v4 v5 : Value} {T : TypeId} {x : Operand} (h0 : w.cell? ⟨g, 0, none⟩ = some v0) (h1 : w.cell? ⟨g, 1, none⟩ = some v1) (h2 : w.cell? ⟨g, 2, none⟩ = some v2) (h3 : w.cell? ⟨g, 3, none⟩ = some v3) (h4 : w.cell? ⟨g, 4, none⟩ = some v4) (h5 : w.cell? ⟨g, 5, none⟩ = some v5) (ho : o.op = .load T x) (hx : ρ x = .pointer (some ⟨g, 0, none⟩)) (hT : ∀ w, Sem.run Tryz.prog (isAgg T) w = .ok true w) (hS : ∀ w, Sem.run Tryz.prog (sizeOf T) w = .ok 6 w) :
  (execOp ρ o).run Tryz.prog w = .ok (.value (.agg #[v0, v1, v2, v3, v4, v5])) w := by
 unfold execOp;rw [ho];simp [hx, go_sem, hT, hS, loadCellsFrom, Addr.add, h0, h1, h2, h3, h4, h5]
theorem st3 {ρ : Operand → Value} {o : Oper} {w : World} {g : Nat} {t : TypeId} {v0 v1 v2 u0 u1 u2 : Value} {T : TypeId} {x y : Operand} (hb : Bx w g t [u0, u1, u2]) (o0 : v0.oneCell' = true) (o1 : v1.oneCell' = true) (o2 : v2.oneCell' = true) (ho : o.op = .store T x y) (hx : ρ x = .pointer (some ⟨g, 0, none⟩)) (hy : ρ y = .agg #[v0, v1, v2]) (hS : ∀ w, Sem.run Tryz.prog (sizeOf T) w = .ok 3 w) :
  (execOp ρ o).run Tryz.prog w = .ok .skip (gJ w g 0 [v0, v1, v2]) := by
 have fz := hb.frozen;have c0 := hb.cell 0 rfl;have c1 := hb.cell 1 rfl;have c2 := hb.cell 2 rfl;unfold execOp;rw [ho];simp [hx, hy, go_sem, hS, storeCells, Addr.add, fz, c0, c1, c2, gJ, o0, o1, o2, run_store]
section
variable {ops : Array Oper} {l : List Vs} {cs : List Ce} {ks : List (Value × Vs)} {F : (Nat → Value) → Act} {a : Act} {w0 : World} {i : Nat} {o : Oper} {rest : List Oper}
theorem JC.l1 {g off : Nat} {t T : TypeId} {row : List Value} {v : Value} {x : Operand} (hb : Bx w0 g t row) (hv : ∀ W, Q w0 W → (l.getD i .any).holds v W) (c : Ctx ops a F) (hr : Ja.Steps Tryz.prog ops (JC w0 ops l cs ks) F (i + 1) rest)
  (ho : ops[i]? = some o := by rfl) (hop : o.op = .load T x := by rfl) (hx : ∀ vals, (F (iX l o vals)).eval x = .pointer (some ⟨g, off, none⟩) := by intro vals; kernel_rfl) (hc : row[off]? = some v := by rfl)
  (hck : bM ops cs = true := by kernel_rfl) (hg : bF ops l o true = true := by kernel_rfl) (hf : (cs.all fun c => c.al != some i && c.st != i) = true := by kernel_rfl) (hT : ∀ w, Sem.run Tryz.prog (isAgg T) w = .ok false w := by intro _; kernel_rfl) :
  Ja.Steps Tryz.prog ops (JC w0 ops l cs ks) F i (o :: rest) :=
 JC.lo v hb hv (fun vals _ h => ld1 (h.cell off hc) hop (hx vals) hT) c hr hck ho hg hf
theorem JC.l3 {g off : Nat} {t T : TypeId} {row : List Value} {v0 v1 v2 : Value} {x : Operand} (hb : Bx w0 g t row) (hv : ∀ W, Q w0 W → (l.getD i .any).holds (.agg #[v0, v1, v2]) W) (c : Ctx ops a F) (hr : Ja.Steps Tryz.prog ops (JC w0 ops l cs ks) F (i + 1) rest)
  (ho : ops[i]? = some o := by rfl) (hop : o.op = .load T x := by rfl) (hx : ∀ vals, (F (iX l o vals)).eval x = .pointer (some ⟨g, off, none⟩) := by intro vals; kernel_rfl)
  (hc0 : row[off]? = some v0 := by rfl) (hc1 : row[off + 1]? = some v1 := by rfl) (hc2 : row[off + 2]? = some v2 := by rfl)
  (hck : bM ops cs = true := by kernel_rfl) (hg : bF ops l o true = true := by kernel_rfl) (hf : (cs.all fun c => c.al != some i && c.st != i) = true := by kernel_rfl)
  (hT : ∀ w, Sem.run Tryz.prog (isAgg T) w = .ok true w := by intro _; kernel_rfl) (hS : ∀ w, Sem.run Tryz.prog (sizeOf T) w = .ok 3 w := by intro _; kernel_rfl) :
  Ja.Steps Tryz.prog ops (JC w0 ops l cs ks) F i (o :: rest) :=
 JC.lo _ hb hv (fun vals _ h => ld3 (h.cell off hc0) (h.cell (off + 1) hc1) (h.cell (off + 2) hc2) hop (hx vals) hT hS) c hr hck ho hg hf
theorem JC.r1 {g off : Nat} {t T : TypeId} {ck : List Ck} {row : List Value} {v : Value} {x : Operand} (hst : ∀ L vals W, L i = false → JC w0 ops l cs ks L vals W → NbV W g t ck (.agg row.toArray)) (hv : ∀ L vals W, JC w0 ops l cs ks L vals W → (l.getD i .any).holds v W) (c : Ctx ops a F) (hr : Ja.Steps Tryz.prog ops (JC w0 ops l cs ks) F (i + 1) rest)
  (ho : ops[i]? = some o := by rfl) (hop : o.op = .load T x := by rfl) (hx : ∀ vals, (F (iX l o vals)).eval x = .pointer (some ⟨g, off, none⟩) := by intro vals; kernel_rfl) (hc : row[off]? = some v := by rfl)
  (hck : bM ops cs = true := by kernel_rfl) (hg : bF ops l o true = true := by kernel_rfl) (hf : (cs.all fun c => c.al != some i && c.st != i) = true := by kernel_rfl) (hT : ∀ w, Sem.run Tryz.prog (isAgg T) w = .ok false w := by intro _; kernel_rfl) :
  Ja.Steps Tryz.prog ops (JC w0 ops l cs ks) F i (o :: rest) :=
 JC.o c (fun L vals w hL hJ hd K hK => by
  have h := ld1 ((NbV.out (hst L vals w hL hJ)).cell off hc) hop (hx vals) hT;rw [iK hd] at h;unfold Oper.wp;rw [h, Oper.upon_value];exact hK.out v w _ rfl (hv L vals w hJ) (Q.refl _)) hr hck ho hg hf
theorem JC.r3 {g off : Nat} {t T : TypeId} {ck : List Ck} {row : List Value} {v0 v1 v2 : Value} {x : Operand} (hst : ∀ L vals W, L i = false → JC w0 ops l cs ks L vals W → NbV W g t ck (.agg row.toArray)) (hv : ∀ L vals W, JC w0 ops l cs ks L vals W → (l.getD i .any).holds (.agg #[v0, v1, v2]) W) (c : Ctx ops a F) (hr : Ja.Steps Tryz.prog ops (JC w0 ops l cs ks) F (i + 1) rest)
  (ho : ops[i]? = some o := by rfl) (hop : o.op = .load T x := by rfl) (hx : ∀ vals, (F (iX l o vals)).eval x = .pointer (some ⟨g, off, none⟩) := by intro vals; kernel_rfl)
  (hc0 : row[off]? = some v0 := by rfl) (hc1 : row[off + 1]? = some v1 := by rfl) (hc2 : row[off + 2]? = some v2 := by rfl)
  (hck : bM ops cs = true := by kernel_rfl) (hg : bF ops l o true = true := by kernel_rfl) (hf : (cs.all fun c => c.al != some i && c.st != i) = true := by kernel_rfl)
  (hT : ∀ w, Sem.run Tryz.prog (isAgg T) w = .ok true w := by intro _; kernel_rfl) (hS : ∀ w, Sem.run Tryz.prog (sizeOf T) w = .ok 3 w := by intro _; kernel_rfl) :
  Ja.Steps Tryz.prog ops (JC w0 ops l cs ks) F i (o :: rest) :=
 JC.o c (fun L vals w hL hJ hd K hK => by
  have hb := NbV.out (hst L vals w hL hJ);have h := ld3 (hb.cell off hc0) (hb.cell (off + 1) hc1) (hb.cell (off + 2) hc2) hop (hx vals) hT hS;rw [iK hd] at h;unfold Oper.wp;rw [h, Oper.upon_value];exact hK.out _ w _ rfl (hv L vals w hJ) (Q.refl _)) hr hck ho hg hf
theorem JC.u {P : Program} {v : Value} (u : Value) (e : u = v) (c : Ctx ops a F) (hr : Ja.Steps P ops (JC w0 ops l cs ks) F (i + 1) rest)
  (hck : bM ops cs = true := by kernel_rfl) (ho : ops[i]? = some o := by rfl) (hg : bF ops l o true = true := by kernel_rfl) (hf : (cs.all fun c => c.al != some i && c.st != i) = true := by kernel_rfl)
  (hl : l.getD i .any = .eq v := by rfl) (hrun : ∀ vals w, (execOp (F (iX l o vals)).eval o).run P w = .ok (.value u) w := by intro vals w; kernel_rfl) :
  Ja.Steps P ops (JC w0 ops l cs ks) F i (o :: rest) :=
 JC.p c hr hck ho hg hf hl (fun vals w => by rw [← e]; exact hrun vals w)
theorem JC.ca {P : Program} {f : FuncId} {args : (Nat → Value) → Array Value}
  (h : ∀ vals W, Q w0 W → (∀ j, (o.after.any fun e => Region.binds .any e && e.on == j) = true → SL l j (vals j) W) → (∀ (n : Nat) (p : Value × Vs), ks[n]? = some p → p.2.holds p.1 W) → Calls P f (args vals) W fun e w' => ∃ r, e = .returned r ∧ (l.getD i .any).holds r w' ∧ Q W w')
  (c : Ctx ops a F) (hr : Ja.Steps P ops (JC w0 ops l cs ks) F (i + 1) rest)
  (hck : bM ops cs = true := by kernel_rfl) (ho : ops[i]? = some o := by rfl) (hg : bF ops l o true = true := by kernel_rfl) (hf : (cs.all fun c => c.al != some i && c.st != i) = true := by kernel_rfl)
  (hrun : ∀ vals w, (execOp (F (iX l o vals)).eval o).run P w = .ok (.enter f (args (iX l o vals))) w := by intro vals w; kernel_rfl) :
  Ja.Steps P ops (JC w0 ops l cs ks) F i (o :: rest) :=
 JC.o c (fun L vals w _ hJ hd K hK => by
  have h1 := hrun vals w;rw [iK hd] at h1;unfold Oper.wp;rw [h1, Oper.upon_enter];refine (h vals w hJ.q hd (fun n p hn => hJ.k p (List.mem_of_getElem? hn))).mono ?_;rintro e w' ⟨r, rfl, h2, h3⟩;exact hK.out r w' _ rfl h2 h3) hr hck ho hg hf
theorem Sh.one : ∀ {ks : List Ck} {vs : List Value}, Sh ks vs → ∀ x ∈ vs, x.oneCell' = true
 | [], [], _, _, h => by cases h
 | k :: ks, v :: vs, hs, x, hx => by
   rcases List.mem_cons.1 hx with rfl | hx
   ·have := hs.1;cases k
    ·obtain ⟨b, rfl⟩ := this; rfl
    ·obtain ⟨b, rfl⟩ := this; rfl
    ·obtain ⟨b, _, _, rfl⟩ := this; rfl
    ·obtain ⟨b, rfl⟩ := this; rfl
   ·exact Sh.one hs.2 x hx
theorem JC.s3 {n : Nat} {x : Ce} {T : TypeId} {p y : Operand} (hx : cs[n]? = some x) (form : ∀ v W, (l.getD x.src .any).holds v W → ∃ v0 v1 v2, v = .agg #[v0, v1, v2] ∧ Sh x.ck [v0, v1, v2]) (c : Ctx ops a F) (hr : Ja.Steps Tryz.prog ops (JC w0 ops l cs ks) F (i + 1) rest)
  (ho : ops[i]? = some o := by rfl) (hop : o.op = .store T p y := by rfl) (hp : ∀ vals, (F vals).eval p = x.ptr vals := by intro vals; kernel_rfl) (hy : ∀ vals, (F vals).eval y = vals x.src := by intro vals; kernel_rfl)
  (hty : (x.t != 2) = true := by kernel_rfl) (hst : x.st = i := by rfl) (hf : ((cs.eraseIdx n).all fun c => c.al != some i && c.st != i) = true := by kernel_rfl) (hl : l.getD i .any = .any := by rfl) (hok : (l.all Vs.ok && ks.all fun p => p.2.ok) = true := by kernel_rfl)
  (hck : bM ops cs = true := by kernel_rfl) (hg : bF ops l o true = true := by kernel_rfl) (hS : ∀ w, Sem.run Tryz.prog (sizeOf T) w = .ok 3 w := by intro _; kernel_rfl) :
  Ja.Steps Tryz.prog ops (JC w0 ops l cs ks) F i (o :: rest) :=
 Ja.Steps.cons (JC.store c hck ho hg hx (bne_iff_ne.1 hty) hst hf hl hok (fun L vals w g old hJ hpt ho' hs K hK => by
  obtain ⟨v0, v1, v2, e, hsh⟩ := form _ _ hs;obtain ⟨row, e2, hsr, hb⟩ := ho';have hlen : row.length = 3 := (by rw [hsr.length, ← hsh.length]; rfl);obtain ⟨u0, u1, u2, rfl⟩ : ∃ u0 u1 u2, row = [u0, u1, u2] := by
   match row, hlen with
   | [u0, u1, u2], _ => exact ⟨_, _, _, rfl⟩
  have h1 := st3 hb (Sh.one hsh v0 (by simp)) (Sh.one hsh v1 (by simp)) (Sh.one hsh v2 (by simp)) hop ((hp vals).trans hpt) ((hy vals).trans e) hS;unfold Oper.wp;rw [h1, Oper.upon_skip];exact hK.out undef _ _ rfl ⟨_, e, hsh, rfl⟩)) hr
theorem fRn {q : Rat} : ∀ v W, (Vs.gen (pRn q)).holds v W → ∃ v0 v1 v2, v = .agg #[v0, v1, v2] ∧ Sh [.i, .s, .s] [v0, v1, v2] := fun v W h => by
 obtain ⟨A1, n1, c1, A2, n2, c2, e, -⟩ := (show Rq W v q from h)
 exact ⟨_, _, _, e, ⟨_, rfl⟩, ⟨_, _, _, rfl⟩, ⟨_, _, _, rfl⟩, trivial⟩
end
end Go.Proofs.YtgpacgadpnpjjaaGreatDoor.K
namespace Go.Proofs.YtgpacgadpnpjjaaGreatDoor.K
open Go.RowKit
open Ma Me
section
variable {P : Program} {ops : Array Oper} {Q' : Exit → Act → World → Prop} {F : (Nat → Value) → Act} {a : Act} {w : World}
theorem bJ {id : Nat} (l : List Vs) (hF : ∀ vals, Ja.fillL vals ops.toList 0 a = F vals) (hstep : Ctx ops a F → Ja.Steps P ops (JC w ops l [] []) F 0 ops.toList)
  (hend : ∀ vals w', Q w w' → (∀ j, j < ops.size → SL l j (vals j) w') → Q' .normal (F vals) w') (hsh : (Ja.shape ops && Region.noSelect ops && Ja.inBounds ops a.tmps.size) = true := by kernel_rfl) : (Code.region id ops false).wp P Q' a w :=
 cK w l [] [] hsh (At0.of (Q.refl _) trivial trivial trivial) hF hstep (fun _ vals w' hall hJ => hend vals w' hJ.q (fun j hj => hJ.s j (hall j hj)))
theorem oO {id : Nat} (l : List Vs) (hF : ∀ vals, Ja.fillL vals ops.toList 0 a = F vals) (hstep : Ctx ops a F → Ja.Steps P ops (JC w ops l [] []) F 0 ops.toList)
  (hend : ∀ vals w', Q w w' → (∀ j, j < ops.size → SL l j (vals j) w') → Q' .normal (F vals) w') (hm : P.follows .mixedOrders = true := by kernel_rfl) (hsh : (Ja.shape ops && Region.noSelect ops && Ja.inBounds ops a.tmps.size) = true := by kernel_rfl) : (Code.region id ops true).wp P Q' a w :=
 mE w l [] [] hm hsh (At0.of (Q.refl _) trivial trivial trivial) hF hstep (fun _ vals w' hall hJ => hend vals w' hJ.q (fun j hj => hJ.s j (hall j hj)))
end
theorem aFQ {w : World} {g : Nat} {t : TypeId} {v : Value} {q : Rat} (h : NbV w g t [.i, .s, .s] v) (hq : Rq w v q) : ∃ A1 k1 c1 A2 k2 c2, Bx w g t [.int .i64 (sn q), .slice A1 k1 c1, .slice A2 k2 c2] ∧ Rq w (.agg #[.int .i64 (sn q), .slice A1 k1 c1, .slice A2 k2 c2]) q := by
 have hq2 := hq;obtain ⟨A1, n1, c1, A2, n2, c2, rfl, -⟩ := hq2;exact ⟨_, _, _, _, _, _, NbV.out (row := [.int .i64 (sn q), .slice A1 n1 c1, .slice A2 n2 c2]) h, hq⟩
theorem bA {w0 w : World} {g : Nat} {t : TypeId} {s : Int} {A1 A2 : Option Addr} {k1 c1 k2 c2 : Nat} (h : Bx w g t [.int .i64 s, .slice A1 k1 c1, .slice A2 k2 c2]) (hg : w0.heap.size ≤ g) {P : Prop} : P → w0.heap.size ≤ g ∧ NbV w g t [.i, .s, .s] (.agg #[.int .i64 s, .slice A1 k1 c1, .slice A2 k2 c2]) :=
 fun _ => ⟨hg, _, rfl, ⟨⟨_, rfl⟩, ⟨_, _, _, rfl⟩, ⟨_, _, _, rfl⟩, trivial⟩, h⟩
end Go.Proofs.YtgpacgadpnpjjaaGreatDoor.K
