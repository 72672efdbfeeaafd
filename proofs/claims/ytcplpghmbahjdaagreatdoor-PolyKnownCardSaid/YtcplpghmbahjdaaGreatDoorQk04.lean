/- The examples of the document about polynomials. No condition. Part of the proof: texts Ka1 Ka2 Ka4 Ka6 Na0 Ka3 Ka5 Ka7 Ka8 Na1 Na2. -/
import Derived.Test.YtcplpghmbahjdaaGreatDoorProg
import Derived.Test.YtcplpghmbahjdaaGreatDoorQk01
import Derived.Test.YtcplpghmbahjdaaGreatDoorQk02
import Derived.Test.YtcplpghmbahjdaaGreatDoorQk03
namespace Go.Proofs.YtcplpghmbahjdaaGreatDoor.K
open Go.RowKit
open Ma Me
def Bx (w : World) (g : Nat) (t : TypeId) (row : List Value) : Prop := w.heap[g]? = some (.cells row.toArray t (0, 0))
section
variable {w w' a : World} {g k i : Nat} {t : TypeId} {row l : List Value} {x : Value}
theorem Bx.lt (h : Bx w g t row) : g < w.heap.size := by
 rcases Nat.lt_or_ge g w.heap.size with hlt | hge
 ·exact hlt
 ·unfold Bx at h; rw [Array.getElem?_eq_none hge] at h; cases h
theorem Bx.cell (h : Bx w g t row) (i : Nat) (hx : row[i]? = some x) : w.cell? ⟨g, i, none⟩ = some x := by
 unfold Bx at h;simp [World.cell?, h, hx]
theorem Bx.frozen (h : Bx w g t row) (i : Nat) : w.frozen? ⟨g, i, none⟩ = false := by
 unfold Bx at h;simp [World.frozen?, h]
theorem Bx.q (h : Bx w g t row) (hq : Q w w') : Bx w' g t row := (hq.heap h.lt).trans h
theorem Bx.new (w : World) (t : TypeId) (row : List Value) : Bx (w.alloc (.cells row.toArray t)) w.heap.size t row := heap_alloc_new w _
def jR (w : World) (g i : Nat) : List Value → World
 | [] => w
 | x :: xs => jR (w.setCell ⟨g, i, none⟩ x) g (i + 1) xs
theorem yF (h : k ≠ g) : (jR w g i l).heap[k]? = w.heap[k]? := by
 induction l generalizing w i with
 | nil => rfl
 | cons x xs ih => exact ih.trans (Below.heap_setCell _ _ _ _ h)
theorem aDY : (jR w g i l).heap.size = w.heap.size := by
 induction l generalizing w i with
 | nil => rfl
 | cons x xs ih => exact ih.trans (by simp)
theorem aIG (h : Q a w) (hg : a.heap.size ≤ g) : Q a (jR w g i l) := by
 induction l generalizing w i with
 | nil => exact h
 | cons x xs ih => exact ih (h.setCell (p := ⟨g, i, none⟩) hg _)
theorem Bx.set_ (h : Bx w g t row) (i : Nat) (x : Value) : Bx (w.setCell ⟨g, i, none⟩ x) g t (row.set i x) := by
 unfold Bx at h ⊢;simp [World.setCell, Array.getElem?_modify, h]
theorem Bx.putAt {pre rest : List Value} (h : Bx w g t (pre ++ rest)) (hi : pre.length = i) (hl : rest.length = l.length) : Bx (jR w g i l) g t (pre ++ l) := by
 induction l generalizing w i pre rest with
 | nil => 
   have : rest = [] := List.eq_nil_of_length_eq_zero hl;subst this;exact h
 | cons x xs ih =>
   cases rest with
   | nil => simp at hl
   | cons y ys =>
     have h1 := h.set_ i x;have e : (pre ++ y :: ys).set i x = (pre ++ [x]) ++ ys := by
      rw [List.set_append_right _ _ (by omega)];simp [← hi]
     rw [e] at h1;have h2 := ih h1 (i := i + 1) (by simp [hi]) (by simpa using hl);simpa [jR] using h2
theorem Bx.put (h : Bx w g t row) (hl : row.length = l.length) : Bx (jR w g 0 l) g t l := Bx.putAt (pre := []) h rfl hl
end
inductive Ck where
 | b | i | s | t
def Ck.is : Ck → Value → Prop
 | .b, v => ∃ x, v = .bool x
 | .i, v => ∃ x, v = .int .i64 x
 | .s, v => ∃ A n c, v = .slice A n c
 | .t, v => ∃ x, v = .string x
def Sh : List Ck → List Value → Prop
 | [], [] => True
 | k :: ks, v :: vs => k.is v ∧ Sh ks vs
 | _, _ => False
theorem Sh.length : ∀ {ks : List Ck} {vs : List Value}, Sh ks vs → vs.length = ks.length
 | [], [], _ => rfl
 | _ :: _, _ :: _, h => by simp [Sh.length h.2]
theorem Sh.no : ∀ {ks : List Ck} {vs : List Value}, Sh ks vs → ∀ x ∈ vs, ∀ z, x ≠ .int .u64 z
 | [], [], _, _, h, _ => by cases h
 | k :: ks, v :: vs, hs, x, hx, z => by
   rcases List.mem_cons.1 hx with rfl | hx
   ·intro e;have := hs.1;cases k <;> simp [Ck.is, e] at this
   ·exact Sh.no hs.2 x hx z
structure Ap (w w' : World) (g : Nat) : Prop where
 heap : ∀ k, k ≠ g → w'.heap[k]? = w.heap[k]?
 size : w'.heap.size = w.heap.size
 row : ∃ t row, Bx w g t row ∧ t ≠ 2 ∧ (∀ x ∈ row, ∀ z, x ≠ .int .u64 z) ∧ (t = 73 → row.length ≤ 3)
section
variable {w w' : World} {A : Option Addr} {ds : List Nat} {g N : Nat} {v : Value}
theorem Ap.rd (h : Ap w w' g) (hr : Rd .i64 w w.heap.size A ds) : Rd .i64 w' w'.heap.size A ds := fun hn => by
 obtain ⟨ad, e, hb, hc, cs, fr, ht⟩ := hr hn;have hne : ad.block ≠ g := by
  intro e;obtain ⟨t, row, hx, h1, -⟩ := h.row;unfold Bx at hx;rw [← e, ht] at hx;injection hx with hx;injection hx with _ h2 _;exact h1 h2.symm
 have he := h.heap _ hne;exact ⟨ad, e, by rw [h.size]; exact hb, fun j u hu => (kW (by rw [jP]; exact he)).trans (hc j u hu), cs, fr, he.trans ht⟩
theorem Ap.nr (h : Ap w w' g) (hr : Nr w v N) : Nr w' v N := by
 obtain ⟨A, c, ds, h1, h2, h3, h4, h5⟩ := hr;exact ⟨A, c, ds, h1, h2, h.rd h3, h4, h5⟩
theorem Ap.rw_ {xs : List Nat} (h : Ap w w' g) (hr : Rw w A xs) : Rw w' A xs := fun hn => by
 obtain ⟨b, o, e, hb, hc⟩ := hr hn;have hne : b ≠ g := by
  intro e;obtain ⟨t, row, hx, -, h1, -⟩ := h.row;have h2 := hc 0 _ (List.getElem?_eq_getElem hn);unfold Bx at hx;rw [← e] at hx;have h3 : row[o + 0]? = some (.int .u64 ((xs[0] : Nat) : Int)) := (by simpa [World.cell?, hx] using h2);exact h1 _ (List.mem_of_getElem? h3) _ rfl
 have he := h.heap _ hne;exact ⟨b, o, e, by rw [h.size]; exact hb, fun j u hu => (kW (p := ⟨b, o + j, none⟩) he).trans (hc j u hu)⟩
theorem Ap.nm (h : Ap w w' g) (hr : Nm w v N) : Nm w' v N := by
 obtain ⟨A, c, ds, h1, h2, h3, h4, h5⟩ := hr;exact ⟨A, c, ds, h1, h2, h.rw_ h3, h4, h5⟩
end
structure Pr where
 p : Value → World → Prop
 q : ∀ {v w w'}, p v w → Q w w' → p v w'
 ok : Bool
 a : ∀ {v w w' g}, ok = true → p v w → Ap w w' g → p v w'
inductive Vs where
 | any
 | no
 | eq (v : Value)
 | gen (p : Pr)
def Vs.holds : Vs → Value → World → Prop
 | .any, _, _ => True
 | .no, v, _ => v = undef
 | .eq u, v, _ => v = u
 | .gen p, v, w => p.p v w
theorem Vs.mono {s : Vs} {v : Value} {w w' : World} (hq : Q w w') (h : s.holds v w) : s.holds v w' := by
 cases s with
 | any => trivial
 | no => exact h
 | eq u => exact h
 | gen p => exact p.q h hq
def pT2 (a b : Pr) : Pr := ⟨fun v w => ∃ x y, v = .tuple #[x, y] ∧ a.p x w ∧ b.p y w, fun ⟨x, y, e, h1, h2⟩ hq => ⟨x, y, e, a.q h1 hq, b.q h2 hq⟩, a.ok && b.ok, fun ho ⟨x, y, e, h1, h2⟩ hq => by
 simp only [Bool.and_eq_true] at ho;exact ⟨x, y, e, a.a ho.1 h1 hq, b.a ho.2 h2 hq⟩⟩
def pT3 (a b c : Pr) : Pr := ⟨fun v w => ∃ x y z, v = .tuple #[x, y, z] ∧ a.p x w ∧ b.p y w ∧ c.p z w, fun ⟨x, y, z, e, h1, h2, h3⟩ hq => ⟨x, y, z, e, a.q h1 hq, b.q h2 hq, c.q h3 hq⟩, a.ok && b.ok && c.ok, fun ho ⟨x, y, z, e, h1, h2, h3⟩ hq => by
 simp only [Bool.and_eq_true] at ho;exact ⟨x, y, z, e, a.a ho.1.1 h1 hq, b.a ho.1.2 h2 hq, c.a ho.2 h3 hq⟩⟩
def Vs.ok : Vs → Bool
 | .gen p => p.ok
 | _ => true
theorem aIH {l : List Vs} (h : l.all Vs.ok = true) (j : Nat) : (l.getD j .any).ok = true := by
 rw [List.getD_eq_getElem?_getD];cases e : l[j]? with
 | none => rfl
 | some x => exact List.all_eq_true.1 h x (List.mem_of_getElem? e)
def SL (l : List Vs) (j : Nat) (v : Value) (w : World) : Prop := (l.getD j .any).holds v w
def isB : Vs → Bool → Bool
 | .eq (.bool c), b => c == b
 | _, _ => false
def aII : Vs → Bool
 | .no => true
 | _ => false
theorem aDZ {s : Vs} (h : aII s = true) : s = .no := by
 cases s <;> first | rfl | cases h
theorem aFt {s : Vs} {b : Bool} (h : isB s b = true) : s = .eq (.bool b) := by
 unfold isB at h;split at h
 ·simp at h; subst h; rfl
 ·cases h
section
variable {P : Program} {ops : Array Oper} {Q' : Exit → Act → World → Prop} {l : List Vs} {F : (Nat → Value) → Act} {a : Act} {w1 : World}
structure Ctx (ops : Array Oper) (a : Act) (F : (Nat → Value) → Act) : Prop where
 hsh : (Ja.shape ops && Region.noSelect ops && Ja.inBounds ops a.tmps.size) = true
 hF : ∀ vals, F vals = Ja.fillL vals ops.toList 0 a
theorem Ctx.go (c : Ctx ops a F) : ∀ vals, F vals = Ja.fillGo ops (fun _ => true) vals ops.size a := fun vals => (c.hF vals).trans (Ja.fillL_full vals a)
def aU (ops : Array Oper) (l : List Vs) (o : Oper) (yes : Bool) : Bool :=
 match o.guard with
 | none => yes
 | some (g, b) => (isB (l.getD g .any) (b == yes) || (aII (l.getD g .any) && !yes)) && decide (g < ops.size) && ((ops[g]?).bind (·.dst)).isSome
theorem aD0 {a : Act} {vals : Nat → Value} {o : Oper} {g : Nat} {want : Bool} (hsh : (Ja.shape ops && Region.noSelect ops && Ja.inBounds ops a.tmps.size) = true) (hg : o.guard = some (g, want)) (hlt : g < ops.size) (hd : ((ops[g]?).bind (·.dst)).isSome = true) (hv : vals g = undef) :
  Region.wanted o (yielded ops (Ja.fillGo ops (fun _ => true) vals ops.size a).tmps) = false := by
 simp only [Bool.and_eq_true] at hsh;obtain ⟨⟨h1, h2⟩, h3⟩ := hsh;obtain ⟨og, hog⟩ : ∃ o, ops[g]? = some o := ⟨_, Array.getElem?_eq_getElem hlt⟩
 obtain ⟨d, hd2⟩ := Option.isSome_iff_exists.1 hd;have hin : d < a.tmps.size := by
  have := Array.all_eq_true_iff_forall_mem.1 h3 og (Array.mem_of_getElem? hog);simp only [hog, Option.bind_some] at hd2;simpa [hd2] using this
 have := Ja.fill_get (ops := ops) (vals := vals) (a := a) (i := g) (d := d) hd2 hin (Ja.shape_spec h1 hog).1 ops.size hlt;unfold Region.wanted yielded;simp only [hg, hd2, Option.bind_some, this, hv];rfl
theorem mR {i : Nat} {o : Oper} {yes : Bool} (c : Ctx ops a F) (ho : ops[i]? = some o) (hg : aU ops l o yes = true) {vals : Nat → Value} {w : World}
  (hd : ∀ e ∈ o.after, Region.binds .any e = true → SL l e.on (vals e.on) w) : Region.wanted o (yielded ops (F vals).tmps) = yes := by
 rw [c.go];unfold aU at hg;split at hg
 ·rename_i h; unfold Region.wanted; rw [h, hg]
 ·rename_i g b h;simp only [Bool.and_eq_true, decide_eq_true_eq] at hg;obtain ⟨⟨h1, h2⟩, h3⟩ := hg;have hsh := c.hsh;simp only [Bool.and_eq_true] at hsh;obtain ⟨d, hd3⟩ := Option.isSome_iff_exists.1 h3;obtain ⟨e, he, hb, heq⟩ := (Ja.shape_spec hsh.1.1 ho).2.1 d (by simp [Oper.looksAt, h, hd3]) g hd3;have hv := hd e he hb;rw [heq] at hv;unfold SL at hv;rcases (Bool.or_eq_true _ _).mp h1 with h1 | h1
  ·rw [aFt h1] at hv;have := Ja.wanted_of (a := a) c.hsh h h2 h3 hv;rw [this];cases b <;> cases yes <;> rfl
  ·obtain ⟨h4, h5⟩ := (Bool.and_eq_true _ _).mp h1;rw [aDZ h4] at hv;rw [aD0 (a := a) c.hsh h h2 h3 hv];cases yes
   ·rfl
   ·cases h5
end
def NbV (w : World) (g : Nat) (t : TypeId) (ck : List Ck) (v : Value) : Prop := ∃ row, v = .agg row.toArray ∧ Sh ck row ∧ Bx w g t row
def mG (w : World) (g : Nat) (ck : List Ck) (v : Value) (w' : World) : Prop := ∃ row, v = .agg row.toArray ∧ Sh ck row ∧ w' = jR w g 0 row
section
variable {w w' a : World} {g g2 : Nat} {t : TypeId} {ck : List Ck} {v u old : Value}
theorem NbV.q (h : NbV w g t ck v) (hq : Q w w') : NbV w' g t ck v := by
 obtain ⟨row, e, hs, h⟩ := h;exact ⟨row, e, hs, h.q hq⟩
theorem NbV.lt (h : NbV w g t ck v) : g < w.heap.size := by
 obtain ⟨row, e, hs, h⟩ := h; exact h.lt
theorem NbV.heap (h : NbV w g t ck v) (he : w'.heap[g]? = w.heap[g]?) : NbV w' g t ck v := by
 obtain ⟨row, e, hs, h⟩ := h;exact ⟨row, e, hs, he.trans h⟩
theorem mG.heap (h : mG w g ck v w') (hne : g2 ≠ g) : w'.heap[g2]? = w.heap[g2]? := by
 obtain ⟨row, e, hs, rfl⟩ := h; exact yF hne
theorem mG.q (h : mG w g ck v w') (hq : Q a w) (hg : a.heap.size ≤ g) : Q a w' := by
 obtain ⟨row, e, hs, rfl⟩ := h; exact aIG hq hg
theorem mG.new (h : mG w g ck v w') (ho : NbV w g t ck old) : NbV w' g t ck v := by
 obtain ⟨row, e, hs, rfl⟩ := h;obtain ⟨row2, e2, hs2, hb⟩ := ho;exact ⟨row, e, hs, hb.put (by rw [hs.length, hs2.length])⟩
theorem mG.ap (h : mG w g ck v w') (ho : NbV w g t ck old) (ht : t ≠ 2 ∧ (t = 73 → ck.length ≤ 3)) : Ap w w' g := by
 obtain ⟨row, e, hs, rfl⟩ := h;obtain ⟨row2, e2, hs2, hb⟩ := ho;exact ⟨fun k hk => yF hk, aDY, t, row2, hb, ht.1, hs2.no, fun e => by rw [hs2.length]; exact ht.2 e⟩
theorem mG.sp {x : Value} {s : Vs} (h : mG w g ck v w') (ho : NbV w g t ck old) (ht : t ≠ 2 ∧ (t = 73 → ck.length ≤ 3)) (hk : s.ok = true) (hx : s.holds x w) : s.holds x w' := by
 cases s with
 | any => trivial
 | no => exact hx
 | eq u => exact hx
 | gen p => exact p.a hk hx (h.ap ho ht)
end
structure Ce where
 al : Option Nat
 g : Nat
 t : TypeId
 ck : List Ck
 row : Value
 st : Nat
 src : Nat
def Ce.ptr (c : Ce) (vals : Nat → Value) : Value := match c.al with | none => .pointer (some ⟨c.g, 0, none⟩) | some a => vals a
def Ce.live (c : Ce) (L : Nat → Bool) : Bool := match c.al with | none => true | some a => L a
def Ce.ok (w0 : World) (c : Ce) (L : Nat → Bool) (vals : Nat → Value) (w : World) : Prop :=
 c.live L = true → ∃ g, c.ptr vals = .pointer (some ⟨g, 0, none⟩) ∧ w0.heap.size ≤ g ∧ NbV w g c.t c.ck (if L c.st = true then vals c.src else c.row)
def waits (ops : Array Oper) (i j : Nat) : Bool := match ops[i]? with | none => false | some o => o.after.any fun e => Region.binds .any e && e.on == j
structure JC (w0 : World) (ops : Array Oper) (l : List Vs) (cs : List Ce) (ks : List (Value × Vs)) (L : Nat → Bool) (vals : Nat → Value) (W : World) : Prop where
 q : Q w0 W
 s : ∀ j, L j = true → SL l j (vals j) W
 cl : ∀ i j, L i = true → waits ops i j = true → L j = true
 b : ∀ j, ops.size ≤ j → L j = false
 c : ∀ c ∈ cs, c.ok w0 L vals W
 d : ∀ (m k : Nat) (y z : Ce), m ≠ k → cs[m]? = some y → cs[k]? = some z → y.live L = true → z.live L = true → y.ptr vals ≠ z.ptr vals
 k : ∀ p ∈ ks, p.2.holds p.1 W
def aT (ops : Array Oper) (cs : List Ce) : Bool := cs.all fun c => (decide (ops.size ≤ c.st) || waits ops c.st c.src && (match c.al with | none => true | some a => waits ops c.st a)) && (match c.al with | none => true | some a => a != c.st && decide (a < ops.size))
section
variable {P : Program} {ops : Array Oper} {Q' : Exit → Act → World → Prop} {l : List Vs} {cs : List Ce} {ks : List (Value × Vs)} {F : (Nat → Value) → Act} {a : Act} {w0 : World} {L : Nat → Bool} {vals : Nat → Value} {W : World}
open Ja (upd)
theorem upd_ne {α : Type} {f : Nat → α} {i j : Nat} {v : α} (h : j ≠ i) : upd f i v j = f j := if_neg h
theorem oJ {α : Type} {f : Nat → α} {i : Nat} {v : α} : upd f i v i = v := if_pos rfl
theorem JC.closed (h : JC w0 ops l cs ks L vals W) {i : Nat} {o : Oper} (ho : ops[i]? = some o) (hdep : ∀ e ∈ o.after, Region.binds .any e = true → L e.on = true) :
  ∀ x j, upd L i true x = true → waits ops x j = true → upd L i true j = true := by
 intro x j hx hw;by_cases hji : j = i
 ·subst hji; exact oJ
 rw [upd_ne hji];by_cases hxi : x = i
 ·subst hxi;unfold waits at hw;simp only [ho] at hw;obtain ⟨e, he, hb⟩ := Array.any_eq_true'.1 hw;simp only [Bool.and_eq_true, beq_iff_eq] at hb;rw [← hb.2];exact hdep e he hb.1
 ·rw [upd_ne hxi] at hx;exact h.cl x j hx hw
theorem Ce.ok_other {c : Ce} {i : Nat} {v : Value} {W' : World} (hc : c.ok w0 L vals W) (hi : L i = false) (ha : c.al ≠ some i) (hs : c.st ≠ i) (hsrc : L c.st = true → L c.src = true)
  (hk : ∀ g u, NbV W g c.t c.ck u → c.ptr vals = .pointer (some ⟨g, 0, none⟩) → NbV W' g c.t c.ck u) : c.ok w0 (upd L i true) (upd vals i v) W' := by
 intro hl;have hp : c.live (upd L i true) = c.live L ∧ (c.live L = true → c.ptr (upd vals i v) = c.ptr vals) := by
  unfold Ce.live Ce.ptr;cases h : c.al with
  | none => exact ⟨rfl, fun _ => rfl⟩
  | some x =>
    have hx : x ≠ i := fun e => ha (by rw [h, e]);exact ⟨upd_ne hx, fun _ => upd_ne hx⟩
 rw [hp.1] at hl;obtain ⟨g, h1, h2, h3⟩ := hc hl;refine ⟨g, (hp.2 hl).trans h1, h2, ?_⟩;rw [upd_ne hs];split at h3
 ·rename_i hst;rw [if_pos hst];have : c.src ≠ i := fun e => by
   have := hsrc hst;rw [e, hi] at this; cases this
  rw [upd_ne this];exact hk g _ h3 h1
 ·rename_i hst;rw [if_neg hst];exact hk g _ h3 h1
theorem Ce.same {c : Ce} {i : Nat} {v : Value} (ha : c.al ≠ some i) : c.live (upd L i true) = c.live L ∧ c.ptr (upd vals i v) = c.ptr vals := by
 unfold Ce.live Ce.ptr;cases h : c.al with
 | none => exact ⟨rfl, rfl⟩
 | some x =>
   have hx : x ≠ i := fun e => ha (by rw [h, e]);exact ⟨upd_ne hx, upd_ne hx⟩
theorem JC.srcs (hck : aT ops cs = true) (h : JC w0 ops l cs ks L vals W) {c : Ce} (hc : c ∈ cs) (hst : L c.st = true) : L c.src = true := by
 have := List.all_eq_true.1 hck c hc;simp only [Bool.and_eq_true, Bool.or_eq_true, decide_eq_true_eq] at this;rcases this.1 with h1 | h1
 ·rw [h.b _ h1] at hst; cases hst
 ·exact h.cl _ _ hst h1.1
theorem JC.other {i : Nat} {o : Oper} (c : Ctx ops a F) (hck : aT ops cs = true) (ho : ops[i]? = some o) (hg : aU ops l o true = true) (hf : (cs.all fun c => c.al != some i && c.st != i) = true)
  (h : ∀ (L : Nat → Bool) (vals : Nat → Value) (w : World), L i = false → JC w0 ops l cs ks L vals w → (∀ j, (o.after.any fun e => Region.binds .any e && e.on == j) = true → SL l j (vals j) w) →
   ∀ K : Act → World → Prop, Hid (∀ v w' a', a' = (F vals).put o.dst v → SL l i v w' → Q w w' → K a' w') → o.wp P (F vals) w K (fun _ _ _ => False)) :
  Ja.Step P ops (JC w0 ops l cs ks) F i o := by
 intro L vals w hL hdep hJ;rw [if_pos (mR (w := w) c ho hg (fun e he hb => hJ.s _ (hdep e he hb)))];intro K hK;have hi : i < ops.size := (Array.getElem?_eq_some_iff.1 ho).1;refine h L vals w hL hJ (fun j hj => ?_) K (Lib.hid fun v w' a' e hv hq => hK v w' a' e ⟨hJ.q.trans hq, ?_, hJ.closed ho hdep, ?_, ?_, ?_, fun p hp => Vs.mono hq (hJ.k p hp)⟩)
 ·obtain ⟨e, he, hb⟩ := Array.any_eq_true'.1 hj;simp only [Bool.and_eq_true, beq_iff_eq] at hb;obtain ⟨h1, rfl⟩ := hb;exact hJ.s _ (hdep e he h1)
 ·intro j hj;by_cases hji : j = i
  ·subst hji; rw [oJ]; exact hv
  ·rw [upd_ne hji] at hj ⊢; exact Vs.mono hq (hJ.s j hj)
 ·intro j hj;rw [upd_ne (by omega)]; exact hJ.b j hj
 ·intro x hx;have hfx := List.all_eq_true.1 hf x hx;simp only [Bool.and_eq_true, bne_iff_ne] at hfx;exact Ce.ok_other (hJ.c x hx) hL hfx.1 hfx.2 (hJ.srcs hck hx) (fun g u hu _ => hu.q hq)
 ·intro m k y z hmk hy hz h1 h2;have hfx := List.all_eq_true.1 hf y (List.mem_of_getElem? hy);have hfy := List.all_eq_true.1 hf z (List.mem_of_getElem? hz);simp only [Bool.and_eq_true, bne_iff_ne] at hfx hfy;obtain ⟨e1, e2⟩ := Ce.same (L := L) (vals := vals) (v := v) hfx.1;obtain ⟨e3, e4⟩ := Ce.same (L := L) (vals := vals) (v := v) hfy.1;rw [e1] at h1; rw [e3] at h2; rw [e2, e4];exact hJ.d m k y z hmk hy hz h1 h2
theorem JC.alloc {i : Nat} {o : Oper} {n : Nat} {x : Ce} {t : TypeId} {cells : Array Value} (c : Ctx ops a F) (hck : aT ops cs = true) (ho : ops[i]? = some o) (hg : aU ops l o true = true) (hx : cs[n]? = some x) (hal : x.al = some i)
  (hf : ((cs.eraseIdx n).all fun c => c.al != some i && c.st != i) = true) (hl : l.getD i .any = .any)
  (hrow : ∀ w : World, NbV (w.alloc (.cells cells t)) w.heap.size x.t x.ck x.row)
  (h : ∀ (vals : Nat → Value) (w : World) (K : Act → World → Prop), Hid (∀ a', a' = (F vals).put o.dst (.pointer (some ⟨w.heap.size, 0, none⟩)) → K a' (w.alloc (.cells cells t))) → o.wp P (F vals) w K (fun _ _ _ => False)) :
  Ja.Step P ops (JC w0 ops l cs ks) F i o := by
 intro L vals w hL hdep hJ;rw [if_pos (mR (w := w) c ho hg (fun e he hb => hJ.s _ (hdep e he hb)))];intro K hK;have hi : i < ops.size := (Array.getElem?_eq_some_iff.1 ho).1;have hq : Q w (w.alloc (.cells cells t)) := (Q.refl w).alloc _;have hxm : x ∈ cs := List.mem_of_getElem? hx;have hxo : ∀ y ∈ cs, y.al ≠ some i ∧ y.st ≠ i ∨ y = x := by
  intro y hy;obtain ⟨m, hm⟩ := List.mem_iff_getElem?.1 hy;by_cases hmn : m = n
  ·subst hmn; rw [hx] at hm; injection hm with e; exact Or.inr e.symm
  ·refine Or.inl ?_;have : y ∈ cs.eraseIdx n := List.mem_eraseIdx_iff_getElem?.2 ⟨m, hmn, hm⟩;have := List.all_eq_true.1 hf y this;simpa [Bool.and_eq_true, bne_iff_ne] using this
 have hck2 := List.all_eq_true.1 hck x hxm;simp only [hal, Bool.and_eq_true, bne_iff_ne, decide_eq_true_eq] at hck2;have hst : L x.st = false := by
  cases hs : L x.st with
  | false => rfl
  | true =>
    rcases Bool.or_eq_true _ _ ▸ hck2.1 with h1 | h1
    ·rw [hJ.b _ (of_decide_eq_true h1)] at hs; cases hs
    ·simp only [Bool.and_eq_true] at h1;have := hJ.cl _ _ hs h1.2;rw [hL] at this; cases this
 have hlive : ∀ y ∈ cs, y.live L = true → y.al ≠ some i := fun y _ hy e => by
  unfold Ce.live at hy;rw [e] at hy;simp only [hL] at hy;cases hy
 refine h vals w K (Lib.hid fun a' e => hK _ _ a' e ⟨hJ.q.trans hq, ?_, hJ.closed ho hdep, ?_, ?_, ?_, fun p hp => Vs.mono hq (hJ.k p hp)⟩)
 ·intro j hj;by_cases hji : j = i
  ·subst hji; unfold SL; rw [hl]; trivial
  ·rw [upd_ne hji] at hj ⊢; exact Vs.mono hq (hJ.s j hj)
 ·intro j hj;rw [upd_ne (by omega)]; exact hJ.b j hj
 ·intro y hy;rcases hxo y hy with h1 | rfl
  ·exact Ce.ok_other (hJ.c y hy) hL h1.1 h1.2 (hJ.srcs hck hy) (fun g u hu _ => hu.q hq)
  ·intro _;refine ⟨w.heap.size, ?_, hJ.q.size, ?_⟩
   ·unfold Ce.ptr; rw [hal]; exact oJ
   ·rw [upd_ne (fun e => hck2.2.1 e.symm), hst];exact hrow w
 ·have key : ∀ y ∈ cs, y.al ≠ some i → y.live (upd L i true) = true → y.ptr (upd vals i (.pointer (some ⟨w.heap.size, 0, none⟩))) ≠ .pointer (some ⟨w.heap.size, 0, none⟩) := fun y hy hya hyl e => by
   obtain ⟨e1, e2⟩ := Ce.same (L := L) (vals := vals) (v := .pointer (some ⟨w.heap.size, 0, none⟩)) hya;rw [e1] at hyl;rw [e2] at e;obtain ⟨g, h1, -, h3⟩ := hJ.c y hy hyl;rw [h1] at e;injection e with e; injection e with e; injection e with e;have := h3.lt;omega
  have hn : ∀ (m : Nat) (y : Ce), cs[m]? = some y → m ≠ n → y.al ≠ some i := fun m y hm hmn hy => by
   have h2 : y ∈ cs.eraseIdx n := List.mem_eraseIdx_iff_getElem?.2 ⟨m, hmn, hm⟩;have := List.all_eq_true.1 hf y h2;simp [hy] at this
  have hxp : x.ptr (upd vals i (.pointer (some ⟨w.heap.size, 0, none⟩))) = .pointer (some ⟨w.heap.size, 0, none⟩) := by
   unfold Ce.ptr; rw [hal]; exact oJ
  intro m k y z hmk hy hz h1 h2;by_cases hmn : m = n
  ·subst hmn;rw [hx] at hy;injection hy with hy;subst hy;rw [hxp];exact fun e => key z (List.mem_of_getElem? hz) (hn k z hz (Ne.symm hmk)) h2 e.symm
  ·by_cases hkn : k = n
   ·subst hkn;rw [hx] at hz;injection hz with hz;subst hz;rw [hxp];exact key y (List.mem_of_getElem? hy) (hn m y hy hmn) h1
   ·obtain ⟨e1, e2⟩ := Ce.same (L := L) (vals := vals) (v := .pointer (some ⟨w.heap.size, 0, none⟩)) (hn m y hy hmn);obtain ⟨e3, e4⟩ := Ce.same (L := L) (vals := vals) (v := .pointer (some ⟨w.heap.size, 0, none⟩)) (hn k z hz hkn);rw [e1] at h1; rw [e3] at h2; rw [e2, e4];exact hJ.d m k y z hmk hy hz h1 h2
theorem JC.store {i : Nat} {o : Oper} {n : Nat} {x : Ce} (c : Ctx ops a F) (hck : aT ops cs = true) (ho : ops[i]? = some o) (hg : aU ops l o true = true) (hx : cs[n]? = some x) (hty : x.t ≠ 2 ∧ (x.t = 73 → x.ck.length ≤ 3)) (hst : x.st = i)
  (hf : ((cs.eraseIdx n).all fun c => c.al != some i && c.st != i) = true) (hl : l.getD i .any = .any) (hok : (l.all Vs.ok && ks.all fun p => p.2.ok) = true)
  (h : ∀ (L : Nat → Bool) (vals : Nat → Value) (w : World) (g : Nat) (old : Value), JC w0 ops l cs ks L vals w → x.ptr vals = .pointer (some ⟨g, 0, none⟩) → NbV w g x.t x.ck old → SL l x.src (vals x.src) w →
   ∀ K : Act → World → Prop, Hid (∀ v w' a', a' = (F vals).put o.dst v → mG w g x.ck (vals x.src) w' → K a' w') → o.wp P (F vals) w K (fun _ _ _ => False)) :
  Ja.Step P ops (JC w0 ops l cs ks) F i o := by
 intro L vals w hL hdep hJ;obtain ⟨hok1, hok2⟩ := (Bool.and_eq_true _ _).mp hok;rw [if_pos (mR (w := w) c ho hg (fun e he hb => hJ.s _ (hdep e he hb)))];intro K hK;have hi : i < ops.size := (Array.getElem?_eq_some_iff.1 ho).1;have hxm : x ∈ cs := List.mem_of_getElem? hx;have hck2 := List.all_eq_true.1 hck x hxm;simp only [Bool.and_eq_true, Bool.or_eq_true, decide_eq_true_eq] at hck2;have hw : waits ops i x.src = true ∧ (∀ b, x.al = some b → waits ops i b = true) := by
  rcases hck2.1 with h1 | h1
  ·rw [hst] at h1; omega
  ·rw [hst] at h1;exact ⟨h1.1, fun b hb => by have := h1.2; rw [hb] at this; exact this⟩
 have dep : ∀ j, waits ops i j = true → L j = true := fun j hj => by
  unfold waits at hj;simp only [ho] at hj;obtain ⟨e, he, hb⟩ := Array.any_eq_true'.1 hj;simp only [Bool.and_eq_true, beq_iff_eq] at hb;rw [← hb.2];exact hdep e he hb.1
 have hsrc : L x.src = true := dep _ hw.1;have hlive : x.live L = true := by
  unfold Ce.live;cases hal : x.al with
  | none => rfl
  | some b => exact dep b (hw.2 b hal)
 have hal : x.al ≠ some i := fun e => by
  have := dep i (hw.2 i e);rw [hL] at this; cases this
 obtain ⟨g, h1, h2, h3⟩ := hJ.c x hxm hlive;have hn : ∀ (m : Nat) (y : Ce), cs[m]? = some y → m ≠ n → y.al ≠ some i ∧ y.st ≠ i := fun m y hm hmn => by
  have h2 : y ∈ cs.eraseIdx n := List.mem_eraseIdx_iff_getElem?.2 ⟨m, hmn, hm⟩;have := List.all_eq_true.1 hf y h2;simpa [Bool.and_eq_true, bne_iff_ne] using this
 have hsi : x.src ≠ i := fun e => by rw [e, hL] at hsrc; cases hsrc
 refine h L vals w g _ hJ h1 h3 (hJ.s _ hsrc) K (Lib.hid fun v w' a' e hp => hK v w' a' e ⟨hp.q hJ.q h2, ?_, hJ.closed ho hdep, ?_, ?_, ?_, fun p hp' => hp.sp h3 hty (List.all_eq_true.1 hok2 p hp') (hJ.k p hp')⟩)
 ·intro j hj;by_cases hji : j = i
  ·subst hji; unfold SL; rw [hl]; trivial
  ·rw [upd_ne hji] at hj ⊢; exact hp.sp h3 hty (aIH hok1 j) (hJ.s j hj)
 ·intro j hj;rw [upd_ne (by omega)]; exact hJ.b j hj
 ·intro y hy;obtain ⟨m, hm⟩ := List.mem_iff_getElem?.1 hy;by_cases hmn : m = n
  ·subst hmn;rw [hx] at hm;injection hm with hm;subst hm;intro _;refine ⟨g, by rw [(Ce.same (L := L) hal).2]; exact h1, h2, ?_⟩;rw [hst, oJ, if_pos rfl, upd_ne hsi];exact hp.new h3
  ·obtain ⟨ha, hs⟩ := hn m y hm hmn;intro hyl;refine Ce.ok_other (hJ.c y hy) hL ha hs (hJ.srcs hck hy) (fun g' u hu hpt => hu.heap (hp.heap fun e => ?_)) hyl;subst e;rw [(Ce.same (L := L) (vals := vals) (v := v) ha).1] at hyl;exact hJ.d m n y x hmn hm hx hyl hlive (hpt.trans h1.symm)
 ·intro m k y z hmk hy hz h1' h2';have na : ∀ (m : Nat) (y : Ce), cs[m]? = some y → y.al ≠ some i := fun m y hm => by
   by_cases hmn : m = n
   ·subst hmn;rw [hx] at hm;injection hm with hm;subst hm;exact hal
   ·exact (hn m y hm hmn).1
  obtain ⟨e1, e2⟩ := Ce.same (L := L) (vals := vals) (v := v) (na m y hy);obtain ⟨e3, e4⟩ := Ce.same (L := L) (vals := vals) (v := v) (na k z hz);rw [e1] at h1'; rw [e3] at h2'; rw [e2, e4];exact hJ.d m k y z hmk hy hz h1' h2'
theorem JC.no {i : Nat} {o : Oper} (c : Ctx ops a F) (hck : aT ops cs = true) (ho : ops[i]? = some o) (hg : aU ops l o false = true) (hf : (cs.all fun c => c.al != some i && c.st != i) = true) (hl : l.getD i .any = .no) :
  Ja.Step P ops (JC w0 ops l cs ks) F i o := by
 intro L vals w hL hdep hJ;rw [if_neg (by rw [mR (w := w) c ho hg (fun e he hb => hJ.s _ (hdep e he hb))]; decide)];have hi : i < ops.size := (Array.getElem?_eq_some_iff.1 ho).1;refine ⟨hJ.q, ?_, hJ.closed ho hdep, ?_, ?_, ?_, hJ.k⟩
 ·intro j hj;by_cases hji : j = i
  ·subst hji; unfold SL; rw [hl]; exact oJ
  ·rw [upd_ne hji] at hj ⊢; exact hJ.s j hj
 ·intro j hj;rw [upd_ne (by omega)]; exact hJ.b j hj
 ·intro x hx;have hfx := List.all_eq_true.1 hf x hx;simp only [Bool.and_eq_true, bne_iff_ne] at hfx;exact Ce.ok_other (hJ.c x hx) hL hfx.1 hfx.2 (hJ.srcs hck hx) (fun g u hu _ => hu)
 ·intro m k y z hmk hy hz h1 h2;have hfx := List.all_eq_true.1 hf y (List.mem_of_getElem? hy);have hfy := List.all_eq_true.1 hf z (List.mem_of_getElem? hz);simp only [Bool.and_eq_true, bne_iff_ne] at hfx hfy;obtain ⟨e1, e2⟩ := Ce.same (L := L) (vals := vals) (v := undef) hfx.1;obtain ⟨e3, e4⟩ := Ce.same (L := L) (vals := vals) (v := undef) hfy.1;rw [e1] at h1; rw [e3] at h2; rw [e2, e4];exact hJ.d m k y z hmk hy hz h1 h2
theorem JC.o {i : Nat} {o : Oper} {rest : List Oper} (c : Ctx ops a F)
  (h : ∀ (L : Nat → Bool) (vals : Nat → Value) (w : World), L i = false → JC w0 ops l cs ks L vals w → (∀ j, (o.after.any fun e => Region.binds .any e && e.on == j) = true → SL l j (vals j) w) →
   ∀ K : Act → World → Prop, Hid (∀ v w' a', a' = (F vals).put o.dst v → SL l i v w' → Q w w' → K a' w') → o.wp P (F vals) w K (fun _ _ _ => False))
  (hr : Ja.Steps P ops (JC w0 ops l cs ks) F (i + 1) rest) (hck : aT ops cs = true := by kernel_rfl) (ho : ops[i]? = some o := by rfl) (hg : aU ops l o true = true := by kernel_rfl) (hf : (cs.all fun c => c.al != some i && c.st != i) = true := by kernel_rfl) :
  Ja.Steps P ops (JC w0 ops l cs ks) F i (o :: rest) := Ja.Steps.cons (JC.other c hck ho hg hf h) hr
theorem JC.n {i : Nat} {o : Oper} {rest : List Oper} (c : Ctx ops a F) (hr : Ja.Steps P ops (JC w0 ops l cs ks) F (i + 1) rest) (hck : aT ops cs = true := by kernel_rfl) (ho : ops[i]? = some o := by rfl) (hg : aU ops l o false = true := by kernel_rfl)
  (hf : (cs.all fun c => c.al != some i && c.st != i) = true := by kernel_rfl) (hl : l.getD i .any = .no := by rfl) : Ja.Steps P ops (JC w0 ops l cs ks) F i (o :: rest) := Ja.Steps.cons (JC.no c hck ho hg hf hl) hr
structure At0 (w0 : World) (cs : List Ce) (ks : List (Value × Vs)) (w : World) : Prop where
 q : Q w0 w
 c : ∀ c ∈ cs, c.al = none → w0.heap.size ≤ c.g ∧ NbV w c.g c.t c.ck c.row
 d : ∀ (m k : Nat) (y z : Ce), m ≠ k → cs[m]? = some y → cs[k]? = some z → y.al = none → z.al = none → y.g ≠ z.g
 k : ∀ p ∈ ks, p.2.holds p.1 w
theorem JC.init {w : World} (h : At0 w0 cs ks w) (vals : Nat → Value) : JC w0 ops l cs ks (fun _ => false) vals w := by
 have live : ∀ c : Ce, c.live (fun _ => false) = true → c.al = none := fun c hc => by
  unfold Ce.live at hc;split at hc
  ·assumption
  ·cases hc
 refine ⟨h.q, fun j hj => (by cases hj), fun i j hi => (by cases hi), fun _ _ => rfl, fun c hc hl => ?_, fun m k y z hmk hy hz h1 h2 => ?_, h.k⟩
 ·obtain ⟨h1, h2⟩ := h.c c hc (live c hl);exact ⟨c.g, by unfold Ce.ptr; rw [live c hl], h1, h2⟩
 ·have e1 := live y h1;have e2 := live z h2;unfold Ce.ptr;rw [e1, e2];intro e;injection e with e; injection e with e; injection e with e;exact h.d m k y z hmk hy hz e1 e2 e
theorem At0.drew {w : World} (h : At0 w0 cs ks w) : At0 w0 cs ks w.drew :=
 ⟨h.q.drew, fun c hc hn => ⟨(h.c c hc hn).1, (h.c c hc hn).2.q (Q.refl _).drew⟩, h.d, fun p hp => Vs.mono (Q.refl _).drew (h.k p hp)⟩
theorem aAu {id : Nat} {w : World} (w0 : World) (l : List Vs) (cs : List Ce) (ks : List (Value × Vs)) (hm : P.follows .mixedOrders = true) (hsh : (Ja.shape ops && Region.noSelect ops && Ja.inBounds ops a.tmps.size) = true) (h0 : At0 w0 cs ks w) (hF : ∀ vals, Ja.fillL vals ops.toList 0 a = F vals) (hstep : Ctx ops a F → Ja.Steps P ops (JC w0 ops l cs ks) F 0 ops.toList) (hend : ∀ L vals w', (∀ j, j < ops.size → L j = true) → JC w0 ops l cs ks L vals w' → Q' .normal (F vals) w') : (Code.region id ops true).wp P Q' a w :=
 have c : Ctx ops a F := ⟨hsh, fun vals => (hF vals).symm⟩
 Ja.wp_region_inv hm hsh c.go (JC.init h0.drew _) (hstep c) (fun L vals w' hall h => hend L vals w' hall h)
theorem aCN {id : Nat} {w : World} (w0 : World) (l : List Vs) (cs : List Ce) (ks : List (Value × Vs)) (hsh : (Ja.shape ops && Region.noSelect ops && Ja.inBounds ops a.tmps.size) = true) (h0 : At0 w0 cs ks w) (hF : ∀ vals, Ja.fillL vals ops.toList 0 a = F vals) (hstep : Ctx ops a F → Ja.Steps P ops (JC w0 ops l cs ks) F 0 ops.toList) (hend : ∀ L vals w', (∀ j, j < ops.size → L j = true) → JC w0 ops l cs ks L vals w' → Q' .normal (F vals) w') : (Code.region id ops false).wp P Q' a w :=
 have c : Ctx ops a F := ⟨hsh, fun vals => (hF vals).symm⟩
 Ja.wp_region_text hsh c.go (JC.init h0 _) (hstep c) (fun L vals w' hall h => hend L vals w' hall h)
end
def vD (w0 w : World) : List Ce → Prop
 | [] => True
 | c :: cs => (c.al = none → w0.heap.size ≤ c.g ∧ NbV w c.g c.t c.ck c.row) ∧ vD w0 w cs
def rA : List Ce → Prop
 | [] => True
 | c :: cs => (∀ d ∈ cs, c.al = none → d.al = none → c.g ≠ d.g) ∧ rA cs
def vE (w : World) : List (Value × Vs) → Prop
 | [] => True
 | p :: ps => p.2.holds p.1 w ∧ vE w ps
theorem vD.mem {w0 w : World} : ∀ {cs : List Ce}, vD w0 w cs → ∀ c ∈ cs, c.al = none → w0.heap.size ≤ c.g ∧ NbV w c.g c.t c.ck c.row
 | [], _, _, h => by cases h
 | c :: cs, h, d, hd => by
   rcases List.mem_cons.1 hd with rfl | hd
   ·exact h.1
   ·exact vD.mem h.2 d hd
theorem rA.at : ∀ {cs : List Ce}, rA cs → ∀ (m k : Nat) (y z : Ce), m ≠ k → cs[m]? = some y → cs[k]? = some z → y.al = none → z.al = none → y.g ≠ z.g
 | [], _, _, _, _, _, _, h, _, _, _ => by simp at h
 | c :: cs, h, 0, 0, _, _, hmk, _, _, _, _ => absurd rfl hmk
 | c :: cs, h, 0, k + 1, y, z, _, hy, hz, h1, h2 => by
   simp at hy; subst hy;exact h.1 z (List.mem_of_getElem? (by simpa using hz)) h1 h2
 | c :: cs, h, m + 1, 0, y, z, _, hy, hz, h1, h2 => by
   simp at hz; subst hz;exact fun e => h.1 y (List.mem_of_getElem? (by simpa using hy)) h2 h1 e.symm
 | c :: cs, h, m + 1, k + 1, y, z, hmk, hy, hz, h1, h2 => rA.at h.2 m k y z (fun e => hmk (by rw [e])) (by simpa using hy) (by simpa using hz) h1 h2
theorem vE.mem {w : World} : ∀ {ks : List (Value × Vs)}, vE w ks → ∀ p ∈ ks, p.2.holds p.1 w
 | [], _, _, h => by cases h
 | c :: cs, h, d, hd => by
   rcases List.mem_cons.1 hd with rfl | hd
   ·exact h.1
   ·exact vE.mem h.2 d hd
theorem At0.of {w0 w : World} {cs : List Ce} {ks : List (Value × Vs)} (hq : Q w0 w) (h1 : vD w0 w cs) (h2 : rA cs) (h3 : vE w ks) : At0 w0 cs ks w := ⟨hq, h1.mem, h2.at, h3.mem⟩
section
variable {ops : Array Oper} {l : List Vs} {cs : List Ce} {ks : List (Value × Vs)} {w0 : World} {L : Nat → Bool} {vals : Nat → Value} {W : World}
theorem JC.at (h : JC w0 ops l cs ks L vals W) (n : Nat) {x : Ce} (hx : cs[n]? = some x) (hal : x.al = none) (hst : L x.st = false) : NbV W x.g x.t x.ck x.row := by
 obtain ⟨g, h1, h2, h3⟩ := h.c x (List.mem_of_getElem? hx) (by unfold Ce.live; rw [hal]);unfold Ce.ptr at h1;rw [hal] at h1;injection h1 with h1; injection h1 with h1; injection h1 with h1;rw [hst, if_neg (by decide)] at h3;rw [h1]; exact h3
theorem JC.still (h : JC w0 ops l cs ks L vals W) (n : Nat) {x : Ce} (hx : cs[n]? = some x) (hal : x.al = none) (hst : ops.size ≤ x.st) : NbV W x.g x.t x.ck x.row := h.at n hx hal (h.b _ hst)
theorem JC.before (h : JC w0 ops l cs ks L vals W) (n i : Nat) {x : Ce} (hx : cs[n]? = some x) (hal : x.al = none) (hi : L i = false) (h1 : waits ops x.st x.src = true) (h2 : waits ops x.src i = true) : NbV W x.g x.t x.ck x.row := by
 refine h.at n hx hal ?_;cases hs : L x.st with
 | false => rfl
 | true =>
   have := h.cl _ _ (h.cl _ _ hs h1) h2;rw [hi] at this; cases this
theorem JC.fresh (h : JC w0 ops l cs ks L vals W) (n : Nat) {x : Ce} {a : Nat} (hx : cs[n]? = some x) (hal : x.al = some a) (ha : L a = true) (hst : L x.st = true) :
  ∃ g, vals a = .pointer (some ⟨g, 0, none⟩) ∧ w0.heap.size ≤ g ∧ NbV W g x.t x.ck (vals x.src) := by
 obtain ⟨g, h1, h2, h3⟩ := h.c x (List.mem_of_getElem? hx) (by unfold Ce.live; rw [hal]; exact ha);unfold Ce.ptr at h1;rw [hal] at h1;rw [hst, if_pos rfl] at h3;exact ⟨g, h1, h2, h3⟩
theorem JC.ne (h : JC w0 ops l cs ks L vals W) (m k : Nat) {y z : Ce} (hmk : m ≠ k) (hy : cs[m]? = some y) (hz : cs[k]? = some z) (h1 : y.live L = true) (h2 : z.live L = true) {g g' : Nat}
  (e1 : y.ptr vals = .pointer (some ⟨g, 0, none⟩)) (e2 : z.ptr vals = .pointer (some ⟨g', 0, none⟩)) : g ≠ g' := by
 intro e;subst e;exact h.d m k y z hmk hy hz h1 h2 (e1.trans e2.symm)
theorem JC.kept (h : JC w0 ops l cs ks L vals W) (n : Nat) {p : Value × Vs} (hp : ks[n]? = some p) : p.2.holds p.1 W := h.k p (List.mem_of_getElem? hp)
end
end Go.Proofs.YtcplpghmbahjdaaGreatDoor.K
namespace Go.Proofs.YtcplpghmbahjdaaGreatDoor.K
open Go.RowKit
open Ma Me
def Rq (w : World) (v : Value) (q : Rat) : Prop := ∃ A1 n1 c1 A2 n2 c2, v = .agg #[.int .i64 (sn q), .slice A1 n1 c1, .slice A2 n2 c2] ∧ Nr w (.slice A1 n1 c1) q.num.natAbs ∧ (q ≠ 0 → Nr w (.slice A2 n2 c2) q.den)
theorem Rq.q {w w' : World} {v : Value} {q : Rat} (h : Rq w v q) (hq : Q w w') : Rq w' v q := by
 obtain ⟨A1, n1, c1, A2, n2, c2, e, h1, h2⟩ := h;exact ⟨A1, n1, c1, A2, n2, c2, e, h1.q hq, fun hz => (h2 hz).q hq⟩
theorem Rq.ap {w w' : World} {v : Value} {q : Rat} {g : Nat} (h : Rq w v q) (ha : Ap w w' g) : Rq w' v q := by
 obtain ⟨A1, n1, c1, A2, n2, c2, e, h1, h2⟩ := h;exact ⟨A1, n1, c1, A2, n2, c2, e, ha.nr h1, fun hz => ha.nr (h2 hz)⟩
def pRn (q : Rat) : Pr := ⟨fun v w => Rq w v q, fun h hq => h.q hq, true, fun _ h ha => h.ap ha⟩
section
variable {w : World} {q p : Rat} {s : Int} {A1 A2 A3 A4 : Option Addr} {n1 c1 n2 c2 n3 c3 n4 c4 : Nat}
theorem Rq.parts (h : Rq w (.agg #[.int .i64 s, .slice A1 n1 c1, .slice A2 n2 c2]) q) : s = sn q ∧ Nr w (.slice A1 n1 c1) q.num.natAbs ∧ (q ≠ 0 → Nr w (.slice A2 n2 c2) q.den) := by
 obtain ⟨A1', n1', c1', A2', n2', c2', e, h1, h2⟩ := h;simp only [Value.agg.injEq, Array.mk.injEq, List.cons.injEq, Value.int.injEq, Value.slice.injEq, and_true, true_and] at e;obtain ⟨rfl, ⟨rfl, rfl, rfl⟩, rfl, rfl, rfl⟩ := e;exact ⟨rfl, h1, h2⟩
end
theorem Rq.none (w : World) : Rq w (.agg #[.int .i64 0, .slice .none 0 0, .slice .none 0 0]) 0 := ⟨.none, 0, 0, .none, 0, 0, rfl, Nn.zero _ _, fun h => absurd rfl h⟩
theorem Rq.mk {w : World} {x y : Value} {q : Rat} (h1 : Nr w x q.num.natAbs) (h2 : q ≠ 0 → Nr w y q.den) (hy : ∃ A n c, y = .slice A n c) {s : Int} (hs : s = sn q) : Rq w (.agg #[.int .i64 s, x, y]) q := by
 obtain ⟨A, n, c, rfl⟩ := hy;obtain ⟨A1, c1, ds, rfl, h3⟩ := h1;subst hs;exact ⟨_, _, _, _, _, _, rfl, ⟨A1, c1, ds, rfl, h3⟩, h2⟩
theorem Nr.form {w : World} {x : Value} {N : Nat} (h : Nr w x N) : ∃ A n c, x = .slice A n c := by
 obtain ⟨A1, c1, ds, rfl, h3⟩ := h; exact ⟨_, _, _, rfl⟩
theorem uA {q : Rat} : sn q = 0 ↔ q = 0 := by
 rcases gJ q with ⟨h, e⟩ | ⟨h, e⟩ | ⟨h, e⟩
 ·rw [e]; constructor
  ·intro h; omega
  ·rintro rfl; exact absurd h (by decide)
 ·rw [e]; exact ⟨fun _ => h, fun _ => rfl⟩
 ·rw [e]; constructor
  ·intro h; omega
  ·rintro rfl; exact absurd h (by decide)
def Rs (w : World) (v : Value) (p q : Rat) : Prop := ∃ s1 A1 n1 c1 A2 n2 c2 s2 A3 n3 c3 A4 n4 c4, v = .agg #[.int .i64 s1, .slice A1 n1 c1, .slice A2 n2 c2, .int .i64 s2, .slice A3 n3 c3, .slice A4 n4 c4] ∧
 Rq w (.agg #[.int .i64 s1, .slice A1 n1 c1, .slice A2 n2 c2]) p ∧ Rq w (.agg #[.int .i64 s2, .slice A3 n3 c3, .slice A4 n4 c4]) q
def pRs (p q : Rat) : Pr := ⟨fun v w => Rs w v p q,
 fun ⟨s1, A1, n1, c1, A2, n2, c2, s2, A3, n3, c3, A4, n4, c4, e, h1, h2⟩ hq => ⟨s1, A1, n1, c1, A2, n2, c2, s2, A3, n3, c3, A4, n4, c4, e, h1.q hq, h2.q hq⟩, true,
 fun _ ⟨s1, A1, n1, c1, A2, n2, c2, s2, A3, n3, c3, A4, n4, c4, e, h1, h2⟩ ha => ⟨s1, A1, n1, c1, A2, n2, c2, s2, A3, n3, c3, A4, n4, c4, e, h1.ap ha, h2.ap ha⟩⟩
section
variable {w : World} {q p : Rat} {s1 s2 : Int} {A1 A2 A3 A4 : Option Addr} {n1 c1 n2 c2 n3 c3 n4 c4 : Nat}
theorem Rs.parts (h : Rs w (.agg #[.int .i64 s1, .slice A1 n1 c1, .slice A2 n2 c2, .int .i64 s2, .slice A3 n3 c3, .slice A4 n4 c4]) p q) : Rq w (.agg #[.int .i64 s1, .slice A1 n1 c1, .slice A2 n2 c2]) p ∧ Rq w (.agg #[.int .i64 s2, .slice A3 n3 c3, .slice A4 n4 c4]) q := by
 obtain ⟨s1', A1', n1', c1', A2', n2', c2', s2', A3', n3', c3', A4', n4', c4', e, h1, h2⟩ := h;simp only [Value.agg.injEq, Array.mk.injEq, List.cons.injEq, Value.int.injEq, Value.slice.injEq, and_true, true_and] at e;obtain ⟨rfl, ⟨rfl, rfl, rfl⟩, ⟨rfl, rfl, rfl⟩, rfl, ⟨rfl, rfl, rfl⟩, rfl, rfl, rfl⟩ := e;exact ⟨h1, h2⟩
end
def Ex : List Ck → (List Value → Prop) → Prop
 | [], P => P []
 | .b :: ks, P => ∃ x, Ex ks fun l => P (.bool x :: l)
 | .i :: ks, P => ∃ x, Ex ks fun l => P (.int .i64 x :: l)
 | .s :: ks, P => ∃ A n c, Ex ks fun l => P (.slice A n c :: l)
 | .t :: ks, P => ∃ x, Ex ks fun l => P (.string x :: l)
theorem Sh.ex : ∀ {ks : List Ck} {row : List Value} {P : List Value → Prop}, Sh ks row → P row → Ex ks P
 | [], [], _, _, h => h
 | .b :: _, _ :: _, _, ⟨⟨x, rfl⟩, hs⟩, h => ⟨x, Sh.ex hs h⟩
 | .i :: _, _ :: _, _, ⟨⟨x, rfl⟩, hs⟩, h => ⟨x, Sh.ex hs h⟩
 | .s :: _, _ :: _, _, ⟨⟨A, n, c, rfl⟩, hs⟩, h => ⟨A, n, c, Sh.ex hs h⟩
 | .t :: _, _ :: _, _, ⟨⟨x, rfl⟩, hs⟩, h => ⟨x, Sh.ex hs h⟩
theorem NbV.ex {w : World} {g : Nat} {t : TypeId} {ck : List Ck} {v : Value} (h : NbV w g t ck v) : Ex ck fun row => v = .agg row.toArray ∧ Bx w g t row := by
 obtain ⟨row, e, hs, hb⟩ := h;exact hs.ex ⟨e, hb⟩
theorem NbV.mk {w : World} {g : Nat} {t : TypeId} {ck : List Ck} {row : List Value} (hs : Sh ck row) (h : Bx w g t row) : NbV w g t ck (.agg row.toArray) := ⟨row, rfl, hs, h⟩
theorem NbV.out {w : World} {g : Nat} {t : TypeId} {ck : List Ck} {row : List Value} (h : NbV w g t ck (.agg row.toArray)) : Bx w g t row := by
 obtain ⟨row', e, hs, hb⟩ := h;injection e with e;have : row = row' := by simpa using e
 subst this;exact hb
theorem aKU (w : World) (t1 : TypeId) (r1 : List Value) (t2 : TypeId) (r2 : List Value) : ∃ W, (w.alloc (.cells r1.toArray t1)).alloc (.cells r2.toArray t2) = W ∧ Q w W ∧ Bx W w.heap.size t1 r1 ∧ Bx W (w.heap.size + 1) t2 r2 := by
 have h1 := Bx.new w t1 r1;have h2 := Bx.new (w.alloc (.cells r1.toArray t1)) t2 r2;rw [World.size_alloc] at h2;exact ⟨_, rfl, ((Q.refl _).alloc _).alloc _, h1.q ((Q.refl _).alloc _), h2⟩
end Go.Proofs.YtcplpghmbahjdaaGreatDoor.K
namespace Go.Proofs.YtcplpghmbahjdaaGreatDoor.K
open Go.RowKit
open Ma Me
def gX (l : List Vs) (o : Oper) (vals : Nat → Value) : Nat → Value := fun j =>
 if (o.after.any fun e => Region.binds .any e && e.on == j) = true then (match l.getD j .any with | .eq v => v | _ => vals j) else vals j
theorem kK {l : List Vs} {o : Oper} {vals : Nat → Value} {w : World} (hd : ∀ j, (o.after.any fun e => Region.binds .any e && e.on == j) = true → SL l j (vals j) w) : gX l o vals = vals := by
 funext j;unfold gX;split
 ·rename_i h;have hs := hd j h;unfold SL at hs;split
  ·rename_i v e;rw [e] at hs;exact hs.symm
  ·rfl
 ·rfl
section
variable {P : Program} {ops : Array Oper} {l : List Vs} {cs : List Ce} {ks : List (Value × Vs)} {F : (Nat → Value) → Act} {a : Act} {w0 : World} {i : Nat} {o : Oper} {rest : List Oper} {v : Value}
theorem JC.p (c : Ctx ops a F) (hr : Ja.Steps P ops (JC w0 ops l cs ks) F (i + 1) rest)
  (hck : aT ops cs = true := by kernel_rfl) (ho : ops[i]? = some o := by rfl) (hg : aU ops l o true = true := by kernel_rfl) (hf : (cs.all fun c => c.al != some i && c.st != i) = true := by kernel_rfl)
  (hl : l.getD i .any = .eq v := by rfl) (hrun : ∀ vals w, (execOp (F (gX l o vals)).eval o).run P w = .ok (.value v) w := by intro vals w; kernel_rfl) :
  Ja.Steps P ops (JC w0 ops l cs ks) F i (o :: rest) :=
 JC.o c (fun L vals w _ _ hd K hK => by
  have h := hrun vals w;rw [kK hd] at h;unfold Oper.wp;rw [h, Oper.upon_value];exact hK.out v w _ rfl (by unfold SL; rw [hl]; rfl) (Q.refl _)) hr hck ho hg hf
theorem JC.m (j : Nat) (c : Ctx ops a F) (hr : Ja.Steps P ops (JC w0 ops l cs ks) F (i + 1) rest)
  (hck : aT ops cs = true := by kernel_rfl) (ho : ops[i]? = some o := by rfl) (hg : aU ops l o true = true := by kernel_rfl) (hf : (cs.all fun c => c.al != some i && c.st != i) = true := by kernel_rfl)
  (hl : l.getD i .any = l.getD j .any := by rfl) (hj : (o.after.any fun e => Region.binds .any e && e.on == j) = true := by kernel_rfl) (hrun : ∀ vals w, (execOp (F (gX l o vals)).eval o).run P w = .ok (.value (vals j)) w := by intro vals w; kernel_rfl) :
  Ja.Steps P ops (JC w0 ops l cs ks) F i (o :: rest) :=
 JC.o c (fun L vals w _ _ hd K hK => by
  have h := hrun vals w;rw [kK hd] at h;have hs := hd j hj;unfold Oper.wp;rw [h, Oper.upon_value];exact hK.out (vals j) w _ rfl (by unfold SL at hs ⊢; rw [hl]; exact hs) (Q.refl _)) hr hck ho hg hf
theorem JC.kp (n : Nat) (p : Vs) (hn : ks[n]? = some (v, p)) (hl : l.getD i .any = p) (c : Ctx ops a F) (hr : Ja.Steps P ops (JC w0 ops l cs ks) F (i + 1) rest)
  (hck : aT ops cs = true := by kernel_rfl) (ho : ops[i]? = some o := by rfl) (hg : aU ops l o true = true := by kernel_rfl) (hf : (cs.all fun c => c.al != some i && c.st != i) = true := by kernel_rfl)
  (hrun : ∀ vals w, (execOp (F (gX l o vals)).eval o).run P w = .ok (.value v) w := by intro vals w; kernel_rfl) :
  Ja.Steps P ops (JC w0 ops l cs ks) F i (o :: rest) :=
 JC.o c (fun L vals w _ hJ hd K hK => by
  have h := hrun vals w;rw [kK hd] at h;unfold Oper.wp;rw [h, Oper.upon_value];exact hK.out v w _ rfl (by unfold SL; rw [hl]; exact hJ.k _ (List.mem_of_getElem? hn)) (Q.refl _)) hr hck ho hg hf
theorem JC.lo {g : Nat} {t : TypeId} {row : List Value} (v : Value) (hb : Bx w0 g t row) (hv : ∀ W, Q w0 W → (l.getD i .any).holds v W) (hrun : ∀ vals w, Bx w g t row → (execOp (F (gX l o vals)).eval o).run P w = .ok (.value v) w) (c : Ctx ops a F) (hr : Ja.Steps P ops (JC w0 ops l cs ks) F (i + 1) rest)
  (hck : aT ops cs = true := by kernel_rfl) (ho : ops[i]? = some o := by rfl) (hg : aU ops l o true = true := by kernel_rfl) (hf : (cs.all fun c => c.al != some i && c.st != i) = true := by kernel_rfl) :
  Ja.Steps P ops (JC w0 ops l cs ks) F i (o :: rest) :=
 JC.o c (fun L vals w _ hJ hd K hK => by
  have h := hrun vals w (hb.q hJ.q);rw [kK hd] at h;unfold Oper.wp;rw [h, Oper.upon_value];exact hK.out v w _ rfl (hv w hJ.q) (Q.refl _)) hr hck ho hg hf
end
theorem ld1 {ρ : Operand → Value} {o : Oper} {w : World} {g off : Nat} {v : Value} {T : TypeId} {x : Operand} (h : w.cell? ⟨g, off, none⟩ = some v) (ho : o.op = .load T x) (hx : ρ x = .pointer (some ⟨g, off, none⟩)) (hT : ∀ w, Sem.run Tryz.prog (isAgg T) w = .ok false w) :
  (execOp ρ o).run Tryz.prog w = .ok (.value v) w := by
 unfold execOp;rw [ho];simp [hx, go_sem, h, hT]
theorem ld3 {ρ : Operand → Value} {o : Oper} {w : World} {g off : Nat} {v0 v1 v2 : Value} {T : TypeId} {x : Operand} (h0 : w.cell? ⟨g, off, none⟩ = some v0) (h1 : w.cell? ⟨g, off + 1, none⟩ = some v1) (h2 : w.cell? ⟨g, off + 2, none⟩ = some v2) (ho : o.op = .load T x) (hx : ρ x = .pointer (some ⟨g, off, none⟩)) (hT : ∀ w, Sem.run Tryz.prog (isAgg T) w = .ok true w) (hS : ∀ w, Sem.run Tryz.prog (sizeOf T) w = .ok 3 w) :
  (execOp ρ o).run Tryz.prog w = .ok (.value (.agg #[v0, v1, v2])) w := by
 unfold execOp;rw [ho];simp [hx, go_sem, hT, hS, loadCellsFrom, Addr.add, h0, h1, h2]
theorem ld6 {ρ : Operand → Value} {o : Oper} {w : World} {g : Nat} {v0 v1 v2 v3 v4 v5 : Value} {T : TypeId} {x : Operand} (h0 : w.cell? ⟨g, 0, none⟩ = some v0) (h1 : w.cell? ⟨g, 1, none⟩ = some v1) (h2 : w.cell? ⟨g, 2, none⟩ = some v2) (h3 : w.cell? ⟨g, 3, none⟩ = some v3) (h4 : w.cell? ⟨g, 4, none⟩ = some v4) (h5 : w.cell? ⟨g, 5, none⟩ = some v5) (ho : o.op = .load T x) (hx : ρ x = .pointer (some ⟨g, 0, none⟩)) (hT : ∀ w, Sem.run Tryz.prog (isAgg T) w = .ok true w) (hS : ∀ w, Sem.run Tryz.prog (sizeOf T) w = .ok 6 w) :
  (execOp ρ o).run Tryz.prog w = .ok (.value (.agg #[v0, v1, v2, v3, v4, v5])) w := by
 unfold execOp;rw [ho];simp [hx, go_sem, hT, hS, loadCellsFrom, Addr.add, h0, h1, h2, h3, h4, h5]
theorem st3 {ρ : Operand → Value} {o : Oper} {w : World} {g : Nat} {t : TypeId} {v0 v1 v2 u0 u1 u2 : Value} {T : TypeId} {x y : Operand} (hb : Bx w g t [u0, u1, u2]) (o0 : v0.oneCell' = true) (o1 : v1.oneCell' = true) (o2 : v2.oneCell' = true) (ho : o.op = .store T x y) (hx : ρ x = .pointer (some ⟨g, 0, none⟩)) (hy : ρ y = .agg #[v0, v1, v2]) (hS : ∀ w, Sem.run Tryz.prog (sizeOf T) w = .ok 3 w) :
  (execOp ρ o).run Tryz.prog w = .ok .skip (jR w g 0 [v0, v1, v2]) := by
 have fz := hb.frozen;have c0 := hb.cell 0 rfl;have c1 := hb.cell 1 rfl;have c2 := hb.cell 2 rfl;unfold execOp;rw [ho];simp [hx, hy, go_sem, hS, storeCells, Addr.add, fz, c0, c1, c2, jR, o0, o1, o2, run_store]
section
variable {ops : Array Oper} {l : List Vs} {cs : List Ce} {ks : List (Value × Vs)} {F : (Nat → Value) → Act} {a : Act} {w0 : World} {i : Nat} {o : Oper} {rest : List Oper}
theorem JC.l1 {g off : Nat} {t T : TypeId} {row : List Value} {v : Value} {x : Operand} (hb : Bx w0 g t row) (hv : ∀ W, Q w0 W → (l.getD i .any).holds v W) (c : Ctx ops a F) (hr : Ja.Steps Tryz.prog ops (JC w0 ops l cs ks) F (i + 1) rest)
  (ho : ops[i]? = some o := by rfl) (hop : o.op = .load T x := by rfl) (hx : ∀ vals, (F (gX l o vals)).eval x = .pointer (some ⟨g, off, none⟩) := by intro vals; kernel_rfl) (hc : row[off]? = some v := by rfl)
  (hck : aT ops cs = true := by kernel_rfl) (hg : aU ops l o true = true := by kernel_rfl) (hf : (cs.all fun c => c.al != some i && c.st != i) = true := by kernel_rfl) (hT : ∀ w, Sem.run Tryz.prog (isAgg T) w = .ok false w := by intro _; kernel_rfl) :
  Ja.Steps Tryz.prog ops (JC w0 ops l cs ks) F i (o :: rest) :=
 JC.lo v hb hv (fun vals _ h => ld1 (h.cell off hc) hop (hx vals) hT) c hr hck ho hg hf
theorem JC.r3 {g off : Nat} {t T : TypeId} {ck : List Ck} {row : List Value} {v0 v1 v2 : Value} {x : Operand} (hst : ∀ L vals W, L i = false → JC w0 ops l cs ks L vals W → NbV W g t ck (.agg row.toArray)) (hv : ∀ L vals W, JC w0 ops l cs ks L vals W → (l.getD i .any).holds (.agg #[v0, v1, v2]) W) (c : Ctx ops a F) (hr : Ja.Steps Tryz.prog ops (JC w0 ops l cs ks) F (i + 1) rest)
  (ho : ops[i]? = some o := by rfl) (hop : o.op = .load T x := by rfl) (hx : ∀ vals, (F (gX l o vals)).eval x = .pointer (some ⟨g, off, none⟩) := by intro vals; kernel_rfl)
  (hc0 : row[off]? = some v0 := by rfl) (hc1 : row[off + 1]? = some v1 := by rfl) (hc2 : row[off + 2]? = some v2 := by rfl)
  (hck : aT ops cs = true := by kernel_rfl) (hg : aU ops l o true = true := by kernel_rfl) (hf : (cs.all fun c => c.al != some i && c.st != i) = true := by kernel_rfl)
  (hT : ∀ w, Sem.run Tryz.prog (isAgg T) w = .ok true w := by intro _; kernel_rfl) (hS : ∀ w, Sem.run Tryz.prog (sizeOf T) w = .ok 3 w := by intro _; kernel_rfl) :
  Ja.Steps Tryz.prog ops (JC w0 ops l cs ks) F i (o :: rest) :=
 JC.o c (fun L vals w hL hJ hd K hK => by
  have hb := NbV.out (hst L vals w hL hJ);have h := ld3 (hb.cell off hc0) (hb.cell (off + 1) hc1) (hb.cell (off + 2) hc2) hop (hx vals) hT hS;rw [kK hd] at h;unfold Oper.wp;rw [h, Oper.upon_value];exact hK.out _ w _ rfl (hv L vals w hJ) (Q.refl _)) hr hck ho hg hf
theorem JC.u {P : Program} {v : Value} (u : Value) (e : u = v) (c : Ctx ops a F) (hr : Ja.Steps P ops (JC w0 ops l cs ks) F (i + 1) rest)
  (hck : aT ops cs = true := by kernel_rfl) (ho : ops[i]? = some o := by rfl) (hg : aU ops l o true = true := by kernel_rfl) (hf : (cs.all fun c => c.al != some i && c.st != i) = true := by kernel_rfl)
  (hl : l.getD i .any = .eq v := by rfl) (hrun : ∀ vals w, (execOp (F (gX l o vals)).eval o).run P w = .ok (.value u) w := by intro vals w; kernel_rfl) :
  Ja.Steps P ops (JC w0 ops l cs ks) F i (o :: rest) :=
 JC.p c hr hck ho hg hf hl (fun vals w => by rw [← e]; exact hrun vals w)
theorem JC.ca {P : Program} {f : FuncId} {args : (Nat → Value) → Array Value}
  (h : ∀ vals W, Q w0 W → (∀ j, (o.after.any fun e => Region.binds .any e && e.on == j) = true → SL l j (vals j) W) → (∀ (n : Nat) (p : Value × Vs), ks[n]? = some p → p.2.holds p.1 W) → Calls P f (args vals) W fun e w' => ∃ r, e = .returned r ∧ (l.getD i .any).holds r w' ∧ Q W w')
  (c : Ctx ops a F) (hr : Ja.Steps P ops (JC w0 ops l cs ks) F (i + 1) rest)
  (hck : aT ops cs = true := by kernel_rfl) (ho : ops[i]? = some o := by rfl) (hg : aU ops l o true = true := by kernel_rfl) (hf : (cs.all fun c => c.al != some i && c.st != i) = true := by kernel_rfl)
  (hrun : ∀ vals w, (execOp (F (gX l o vals)).eval o).run P w = .ok (.enter f (args (gX l o vals))) w := by intro vals w; kernel_rfl) :
  Ja.Steps P ops (JC w0 ops l cs ks) F i (o :: rest) :=
 JC.o c (fun L vals w _ hJ hd K hK => by
  have h1 := hrun vals w;rw [kK hd] at h1;unfold Oper.wp;rw [h1, Oper.upon_enter];refine (h vals w hJ.q hd (fun n p hn => hJ.k p (List.mem_of_getElem? hn))).mono ?_;rintro e w' ⟨r, rfl, h2, h3⟩;exact hK.out r w' _ rfl h2 h3) hr hck ho hg hf
theorem Sh.one : ∀ {ks : List Ck} {vs : List Value}, Sh ks vs → ∀ x ∈ vs, x.oneCell' = true
 | [], [], _, _, h => by cases h
 | k :: ks, v :: vs, hs, x, hx => by
   rcases List.mem_cons.1 hx with rfl | hx
   ·have := hs.1;cases k
    ·obtain ⟨b, rfl⟩ := this; rfl
    ·obtain ⟨b, rfl⟩ := this; rfl
    ·obtain ⟨b, _, _, rfl⟩ := this; rfl
    ·obtain ⟨b, rfl⟩ := this; rfl
   ·exact Sh.one hs.2 x hx
theorem aFu {t : TypeId} {n : Nat} (h : (t != 2 && (t != 73 || Nat.ble n 3)) = true) : t ≠ 2 ∧ (t = 73 → n ≤ 3) := by
 rcases (Bool.and_eq_true _ _).mp h with ⟨h1, h2⟩
 refine ⟨bne_iff_ne.1 h1, fun e => ?_⟩;rcases (Bool.or_eq_true _ _).mp h2 with h3 | h3
 ·exact absurd e (bne_iff_ne.1 h3)
 ·exact Nat.le_of_ble_eq_true h3
theorem JC.s3 {n : Nat} {x : Ce} {T : TypeId} {p y : Operand} (hx : cs[n]? = some x) (form : ∀ v W, (l.getD x.src .any).holds v W → ∃ v0 v1 v2, v = .agg #[v0, v1, v2] ∧ Sh x.ck [v0, v1, v2]) (c : Ctx ops a F) (hr : Ja.Steps Tryz.prog ops (JC w0 ops l cs ks) F (i + 1) rest)
  (ho : ops[i]? = some o := by rfl) (hop : o.op = .store T p y := by rfl) (hp : ∀ vals, (F vals).eval p = x.ptr vals := by intro vals; kernel_rfl) (hy : ∀ vals, (F vals).eval y = vals x.src := by intro vals; kernel_rfl)
  (hty : (x.t != 2 && (x.t != 73 || Nat.ble x.ck.length 3)) = true := by kernel_rfl) (hst : x.st = i := by rfl) (hf : ((cs.eraseIdx n).all fun c => c.al != some i && c.st != i) = true := by kernel_rfl) (hl : l.getD i .any = .any := by rfl) (hok : (l.all Vs.ok && ks.all fun p => p.2.ok) = true := by kernel_rfl)
  (hck : aT ops cs = true := by kernel_rfl) (hg : aU ops l o true = true := by kernel_rfl) (hS : ∀ w, Sem.run Tryz.prog (sizeOf T) w = .ok 3 w := by intro _; kernel_rfl) :
  Ja.Steps Tryz.prog ops (JC w0 ops l cs ks) F i (o :: rest) :=
 Ja.Steps.cons (JC.store c hck ho hg hx (aFu hty) hst hf hl hok (fun L vals w g old hJ hpt ho' hs K hK => by
  obtain ⟨v0, v1, v2, e, hsh⟩ := form _ _ hs;obtain ⟨row, e2, hsr, hb⟩ := ho';have hlen : row.length = 3 := (by rw [hsr.length, ← hsh.length]; rfl);obtain ⟨u0, u1, u2, rfl⟩ : ∃ u0 u1 u2, row = [u0, u1, u2] := by
   match row, hlen with
   | [u0, u1, u2], _ => exact ⟨_, _, _, rfl⟩
  have h1 := st3 hb (Sh.one hsh v0 (by simp)) (Sh.one hsh v1 (by simp)) (Sh.one hsh v2 (by simp)) hop ((hp vals).trans hpt) ((hy vals).trans e) hS;unfold Oper.wp;rw [h1, Oper.upon_skip];exact hK.out undef _ _ rfl ⟨_, e, hsh, rfl⟩)) hr
end
end Go.Proofs.YtcplpghmbahjdaaGreatDoor.K
namespace Go.Proofs.YtcplpghmbahjdaaGreatDoor.K
open Go.RowKit
open Ma Me
section
variable {P : Program} {ops : Array Oper} {Q' : Exit → Act → World → Prop} {F : (Nat → Value) → Act} {a : Act} {w : World}
end
end Go.Proofs.YtcplpghmbahjdaaGreatDoor.K
namespace Go.Proofs.YtcplpghmbahjdaaGreatDoor
open Go.RowKit
open Ma Me
section
variable {fn : Func} {R : Ending → World → Prop} {a : Act} {w : World} {g : Nat} {T : TypeId} {c t : Nat} {v0 v1 v2 : Value}
theorem rz3 (h0 : w.cell? ⟨g, 0, none⟩ = some v0) (h1 : w.cell? ⟨g, 1, none⟩ = some v1) (h2 : w.cell? ⟨g, 2, none⟩ = some v2) (hR : R (.returned (.agg #[v0, v1, v2])) w)
  (hres : fn.results = #[.cell c T] := by rfl) (hslot : a.tmps.getD c undef = .pointer (some ⟨g, 0, none⟩) := by kernel_rfl) (hT : ∀ w, Sem.run Tryz.prog (isAgg T) w = .ok true w := by intro _; kernel_rfl) (hS : ∀ w, Sem.run Tryz.prog (sizeOf T) w = .ok 3 w := by intro _; kernel_rfl)
  (hd : a.defers = [] := by rfl) : bodyPost Tryz.prog fn R .ret a w := by
 refine bodyPost_ret (v := .agg #[v0, v1, v2]) ?_ hd hR;unfold results;rw [hres];rw [Array.getD_eq_getD_getElem?] at hslot;simp [go_sem, hslot, hT, hS, loadVar, loadCells, loadCellsFrom, Addr.add, h0, h1, h2]
theorem rt3 (u : Value) (h0 : w.cell? ⟨g, 0, none⟩ = some v0) (h1 : w.cell? ⟨g, 1, none⟩ = some v1) (h2 : w.cell? ⟨g, 2, none⟩ = some v2) (hR : R (.returned (.tuple #[.agg #[v0, v1, v2], u])) w)
  (hres : fn.results = #[.cell c T, .tmp t] := by rfl) (hu : a.tmps.getD t undef = u := by rfl) (hslot : a.tmps.getD c undef = .pointer (some ⟨g, 0, none⟩) := by kernel_rfl) (hT : ∀ w, Sem.run Tryz.prog (isAgg T) w = .ok true w := by intro _; kernel_rfl) (hS : ∀ w, Sem.run Tryz.prog (sizeOf T) w = .ok 3 w := by intro _; kernel_rfl)
  (hd : a.defers = [] := by rfl) : bodyPost Tryz.prog fn R .ret a w := by
 refine bodyPost_ret (v := .tuple #[.agg #[v0, v1, v2], u]) ?_ hd hR;unfold results;rw [hres];rw [Array.getD_eq_getD_getElem?] at hslot hu;simp [go_sem, hslot, hu, hT, hS, loadVar, loadCells, loadCellsFrom, Addr.add, h0, h1, h2]
end
end Go.Proofs.YtcplpghmbahjdaaGreatDoor
namespace Go.Proofs.YtcplpghmbahjdaaGreatDoor
open Go.RowKit
open Ma Me
def bt (d : Nat) : Nat := if d = 1 then 0 else d
theorem Me.Nm.parts {w : World} {x : Value} {N : Nat} (h : Nm w x N) : ∃ A c, x = .slice A (dg W64 N) c ∧ dg W64 N ≤ c := by
 obtain ⟨A, c, xs, rfl, hc, rx, wx, rfl⟩ := h;rw [← wx.len aC];exact ⟨A, c, rfl, hc⟩
def Nf (w : World) (v : Value) (s : Bool) (N D : Nat) : Prop := ∃ t b, v = .agg #[.bool s, t, b] ∧ Nm w t N ∧ Nm w b D
theorem Nf.q {w w' : World} {v : Value} {s : Bool} {N D : Nat} (h : Nf w v s N D) (hq : Q w w') : Nf w' v s N D := by
 obtain ⟨t, b, h1, h2, h3⟩ := h;exact ⟨t, b, h1, h2.q hq, h3.q hq⟩
theorem Nf.form {w : World} {v : Value} {s : Bool} {N D : Nat} (h : Nf w v s N D) : ∃ A c A2 c2, v = .agg #[.bool s, .slice A (dg W64 N) c, .slice A2 (dg W64 D) c2] ∧ Nm w (.slice A (dg W64 N) c) N ∧ Nm w (.slice A2 (dg W64 D) c2) D := by
 obtain ⟨t, b, rfl, h2, h3⟩ := h;obtain ⟨A, c, rfl, hc⟩ := h2.parts;obtain ⟨A2, c2, rfl, hc2⟩ := h3.parts;exact ⟨A, c, A2, c2, rfl, h2, h3⟩
theorem pG {D : Nat} : dg W64 D = 0 ↔ D = 0 := ⟨fun h => bV aC h, fun h => by rw [h, aY]⟩
def Nq (w : World) (v : Value) (q : Rat) : Prop := Nf w v (decide (q.num < 0)) q.num.natAbs (bt q.den)
theorem Nq.q {w w' : World} {v : Value} {q : Rat} (h : Nq w v q) (hq : Q w w') : Nq w' v q := Nf.q h hq
theorem uB (q : Rat) : bt q.den = 0 ↔ q.den = 1 := by
 have := q.den_pos;unfold bt; split <;> omega
theorem Nq.form {w : World} {v : Value} {q : Rat} (h : Nq w v q) : ∃ s A1 n1 c1 A2 n2 c2, v = .agg #[.bool s, .slice A1 n1 c1, .slice A2 n2 c2] ∧ Hid (s = decide (q.num < 0)) ∧ Hid (n1 = 0 ↔ q = 0) ∧ Hid (n2 = 0 ↔ q.den = 1) ∧ Nm w (.slice A1 n1 c1) q.num.natAbs ∧ Nm w (.slice A2 n2 c2) (bt q.den) := by
 obtain ⟨A1, c1, A2, c2, rfl, h1, h2⟩ := Nf.form h;refine ⟨_, _, _, _, _, _, _, rfl, Lib.hid rfl, Lib.hid ?_, Lib.hid ?_, h1, h2⟩
 ·rw [pG];constructor
  ·intro h3; exact Rat.num_eq_zero.1 (by omega)
  ·intro h3; rw [h3]; rfl
 ·rw [pG, uB]
def Ns (w : World) (v : Value) (p q : Rat) : Prop := ∃ s1 A1 n1 c1 A2 n2 c2 s2 A3 n3 c3 A4 n4 c4, v = .agg #[.bool s1, .slice A1 n1 c1, .slice A2 n2 c2, .bool s2, .slice A3 n3 c3, .slice A4 n4 c4] ∧
 Nq w (.agg #[.bool s1, .slice A1 n1 c1, .slice A2 n2 c2]) p ∧ Nq w (.agg #[.bool s2, .slice A3 n3 c3, .slice A4 n4 c4]) q
theorem Ns.q {w w' : World} {v : Value} {p q : Rat} (h : Ns w v p q) (hq : Q w w') : Ns w' v p q := by
 obtain ⟨s1, A1, n1, c1, A2, n2, c2, s2, A3, n3, c3, A4, n4, c4, e, h1, h2⟩ := h;exact ⟨s1, A1, n1, c1, A2, n2, c2, s2, A3, n3, c3, A4, n4, c4, e, h1.q hq, h2.q hq⟩
end Go.Proofs.YtcplpghmbahjdaaGreatDoor
namespace Go.Proofs.YtcplpghmbahjdaaGreatDoor.K
open Go.RowKit
open Ma Me
theorem aCO {w w' : World} {v : Value} {q : Rat} {g : Nat} (h : Nq w v q) (ha : Ap w w' g) : Nq w' v q := by
 obtain ⟨t, b, e, h1, h2⟩ := h;exact ⟨t, b, e, ha.nm h1, ha.nm h2⟩
def wY (q : Rat) : Pr := ⟨fun v w => Nq w v q, fun h hq => Nq.q h hq, true, fun _ h ha => aCO h ha⟩
def aGB (p q : Rat) : Pr := ⟨fun v w => Ns w v p q, fun h hq => Ns.q h hq, true,
 fun _ ⟨s1, A1, n1, c1, A2, n2, c2, s2, A3, n3, c3, A4, n4, c4, e, h1, h2⟩ ha => ⟨s1, A1, n1, c1, A2, n2, c2, s2, A3, n3, c3, A4, n4, c4, e, aCO h1 ha, aCO h2 ha⟩⟩
section
variable {w : World} {s1 s2 : Bool} {A1 A2 A3 A4 : Option Addr} {n1 c1 n2 c2 n3 c3 n4 c4 : Nat} {p q : Rat}
end
end Go.Proofs.YtcplpghmbahjdaaGreatDoor.K
namespace Go.Proofs.YtcplpghmbahjdaaGreatDoor.K
open Go.RowKit
open Ma Me
theorem aKV {q : Rat} : ∀ v W, (Vs.gen (wY q)).holds v W → ∃ v0 v1 v2, v = .agg #[v0, v1, v2] ∧ Sh [.b, .s, .s] [v0, v1, v2] := fun v W h => by
 obtain ⟨s, A1, n1, c1, A2, n2, c2, e, -⟩ := Nq.form (show Nq W v q from h);exact ⟨_, _, _, e, ⟨_, rfl⟩, ⟨_, _, _, rfl⟩, ⟨_, _, _, rfl⟩, trivial⟩
theorem st6 {ρ : Operand → Value} {o : Oper} {w : World} {g : Nat} {t : TypeId} {v0 v1 v2 v3 v4 v5 u0 u1 u2 u3 u4 u5 : Value} {T : TypeId} {x y : Operand} (hb : Bx w g t [u0, u1, u2, u3, u4, u5]) (o0 : v0.oneCell' = true) (o1 : v1.oneCell' = true) (o2 : v2.oneCell' = true) (o3 : v3.oneCell' = true) (o4 : v4.oneCell' = true) (o5 : v5.oneCell' = true) (ho : o.op = .store T x y) (hx : ρ x = .pointer (some ⟨g, 0, none⟩)) (hy : ρ y = .agg #[v0, v1, v2, v3, v4, v5]) (hS : ∀ w, Sem.run Tryz.prog (sizeOf T) w = .ok 6 w) :
  (execOp ρ o).run Tryz.prog w = .ok .skip (jR w g 0 [v0, v1, v2, v3, v4, v5]) := by
 have fz := hb.frozen;have c0 := hb.cell 0 rfl;have c1 := hb.cell 1 rfl;have c2 := hb.cell 2 rfl;have c3 := hb.cell 3 rfl;have c4 := hb.cell 4 rfl;have c5 := hb.cell 5 rfl;unfold execOp;rw [ho];simp [hx, hy, go_sem, hS, storeCells, Addr.add, fz, c0, c1, c2, c3, c4, c5, jR, o0, o1, o2, o3, o4, o5, run_store]
section
variable {ops : Array Oper} {l : List Vs} {cs : List Ce} {ks : List (Value × Vs)} {F : (Nat → Value) → Act} {a : Act} {w0 : World} {i : Nat} {o : Oper} {rest : List Oper}
theorem JC.s6 {n : Nat} {x : Ce} {T : TypeId} {p y : Operand} (hx : cs[n]? = some x) (form : ∀ v W, (l.getD x.src .any).holds v W → ∃ v0 v1 v2 v3 v4 v5, v = .agg #[v0, v1, v2, v3, v4, v5] ∧ Sh x.ck [v0, v1, v2, v3, v4, v5]) (c : Ctx ops a F) (hr : Ja.Steps Tryz.prog ops (JC w0 ops l cs ks) F (i + 1) rest)
  (ho : ops[i]? = some o := by rfl) (hop : o.op = .store T p y := by rfl) (hp : ∀ vals, (F vals).eval p = x.ptr vals := by intro vals; kernel_rfl) (hy : ∀ vals, (F vals).eval y = vals x.src := by intro vals; kernel_rfl)
  (hty : (x.t != 2 && (x.t != 73 || Nat.ble x.ck.length 3)) = true := by kernel_rfl) (hst : x.st = i := by rfl) (hf : ((cs.eraseIdx n).all fun c => c.al != some i && c.st != i) = true := by kernel_rfl) (hl : l.getD i .any = .any := by rfl) (hok : (l.all Vs.ok && ks.all fun p => p.2.ok) = true := by kernel_rfl)
  (hck : aT ops cs = true := by kernel_rfl) (hg : aU ops l o true = true := by kernel_rfl) (hS : ∀ w, Sem.run Tryz.prog (sizeOf T) w = .ok 6 w := by intro _; kernel_rfl) :
  Ja.Steps Tryz.prog ops (JC w0 ops l cs ks) F i (o :: rest) :=
 Ja.Steps.cons (JC.store c hck ho hg hx (aFu hty) hst hf hl hok (fun L vals w g old hJ hpt ho' hs K hK => by
  obtain ⟨v0, v1, v2, v3, v4, v5, e, hsh⟩ := form _ _ hs;obtain ⟨row, e2, hsr, hb⟩ := ho';have hlen : row.length = 6 := (by rw [hsr.length, ← hsh.length]; rfl);obtain ⟨u0, u1, u2, u3, u4, u5, rfl⟩ : ∃ u0 u1 u2 u3 u4 u5, row = [u0, u1, u2, u3, u4, u5] := by
   match row, hlen with
   | [u0, u1, u2, u3, u4, u5], _ => exact ⟨_, _, _, _, _, _, rfl⟩
  have h1 := st6 hb (Sh.one hsh v0 (by simp)) (Sh.one hsh v1 (by simp)) (Sh.one hsh v2 (by simp)) (Sh.one hsh v3 (by simp)) (Sh.one hsh v4 (by simp)) (Sh.one hsh v5 (by simp)) hop ((hp vals).trans hpt) ((hy vals).trans e) hS;unfold Oper.wp;rw [h1, Oper.upon_skip];exact hK.out undef _ _ rfl ⟨_, e, hsh, rfl⟩)) hr
end
end Go.Proofs.YtcplpghmbahjdaaGreatDoor.K
namespace Go.Proofs.YtcplpghmbahjdaaGreatDoor.K
open Go.RowKit
open Ma Me
section
variable {ops : Array Oper} {l : List Vs} {cs : List Ce} {ks : List (Value × Vs)} {F : (Nat → Value) → Act} {a : Act} {w0 : World} {i : Nat} {o : Oper} {rest : List Oper}
theorem JC.al {n : Nat} {x : Ce} {t : TypeId} {row : List Value} (hnew : Sh x.ck row) (c : Ctx ops a F) (hr : Ja.Steps Tryz.prog ops (JC w0 ops l cs ks) F (i + 1) rest)
  (hx : cs[n]? = some x := by rfl) (hal : x.al = some i := by rfl) (ht : x.t = t := by rfl) (hrow : x.row = .agg row.toArray := by rfl)
  (hf : ((cs.eraseIdx n).all fun c => c.al != some i && c.st != i) = true := by kernel_rfl) (hl : l.getD i .any = .any := by rfl)
  (ho : ops[i]? = some o := by rfl) (hck : aT ops cs = true := by kernel_rfl) (hg : aU ops l o true = true := by kernel_rfl)
  (hrun : ∀ vals w, (execOp (F vals).eval o).run Tryz.prog w = .ok (.value (.pointer (some ⟨w.heap.size, 0, none⟩))) (w.alloc (.cells row.toArray t)) := by intro vals w; kernel_rfl) :
  Ja.Steps Tryz.prog ops (JC w0 ops l cs ks) F i (o :: rest) :=
 Ja.Steps.cons (JC.alloc (t := t) (cells := row.toArray) c hck ho hg hx hal hf hl (fun W => by rw [hrow, ht]; exact NbV.mk hnew (Bx.new W _ _)) (fun vals w K hK => by
  unfold Oper.wp;rw [hrun vals w, Oper.upon_value];exact hK.out _ rfl)) hr
def zR : List Value := [.int .i64 0, .slice none 0 0, .slice none 0 0]
theorem shR : Sh [.i, .s, .s] zR := ⟨⟨_, rfl⟩, ⟨_, _, _, rfl⟩, ⟨_, _, _, rfl⟩, trivial⟩
theorem shT : Sh [.i, .s, .s, .i, .s, .s] (zR ++ zR) := ⟨⟨_, rfl⟩, ⟨_, _, _, rfl⟩, ⟨_, _, _, rfl⟩, ⟨_, rfl⟩, ⟨_, _, _, rfl⟩, ⟨_, _, _, rfl⟩, trivial⟩
def aFv (f : Nat → Value) (j k : Nat) (u v : Value) : Nat → Value := fun x => if x = j then u else if x = k then v else f x
theorem aHr (f : Nat → Value) (j k : Nat) {u v : Value} (h1 : f j = u) (h2 : f k = v) : aFv f j k u v = f := by
 funext x;unfold aFv;split
 ·rename_i h; rw [h, h1]
 ·split
  ·rename_i h; rw [h, h2]
  ·rfl
theorem JC.bt (j k : Nat) {p q : Rat} (c : Ctx ops a F) (hr : Ja.Steps Tryz.prog ops (JC w0 ops l cs ks) F (i + 1) rest)
  (hlj : l.getD j .any = .gen (pRn p) := by rfl) (hlk : l.getD k .any = .gen (pRn q) := by rfl) (hl : l.getD i .any = .gen (pRs p q) := by rfl)
  (hj : (o.after.any fun e => Region.binds .any e && e.on == j) = true := by kernel_rfl) (hk : (o.after.any fun e => Region.binds .any e && e.on == k) = true := by kernel_rfl)
  (ho : ops[i]? = some o := by rfl) (hck : aT ops cs = true := by kernel_rfl) (hg : aU ops l o true = true := by kernel_rfl) (hf : (cs.all fun c => c.al != some i && c.st != i) = true := by kernel_rfl)
  (hrun : ∀ (vals : Nat → Value) w s1 A1 n1 c1 A2 n2 c2 s3 A3 n3 c3 A4 n4 c4, (execOp (F (aFv vals j k (.agg #[.int .i64 s1, .slice A1 n1 c1, .slice A2 n2 c2]) (.agg #[.int .i64 s3, .slice A3 n3 c3, .slice A4 n4 c4]))).eval o).run Tryz.prog w = .ok (.value (.agg #[.int .i64 s1, .slice A1 n1 c1, .slice A2 n2 c2, .int .i64 s3, .slice A3 n3 c3, .slice A4 n4 c4])) w := by intros; kernel_rfl) :
  Ja.Steps Tryz.prog ops (JC w0 ops l cs ks) F i (o :: rest) :=
 JC.o c (fun L vals w _ _ hd K hK => by
  have h1 := hd j hj;have h2 := hd k hk;unfold SL at h1 h2;rw [hlj] at h1;rw [hlk] at h2;have h1' : Rq w (vals j) p := h1;have h2' : Rq w (vals k) q := h2;have h1'' := h1'; have h2'' := h2';obtain ⟨A1, n1, c1, A2, n2, c2, e1, -⟩ := h1'';obtain ⟨A3, n3, c3, A4, n4, c4, e2, -⟩ := h2'';have h := hrun vals w (sn p) A1 n1 c1 A2 n2 c2 (sn q) A3 n3 c3 A4 n4 c4;rw [aHr vals j k e1 e2] at h;unfold Oper.wp;rw [h, Oper.upon_value];refine hK.out _ w _ rfl ?_ (Q.refl _);unfold SL; rw [hl];rw [e1] at h1'; rw [e2] at h2';exact ⟨_, _, _, _, _, _, _, _, _, _, _, _, _, _, rfl, h1', h2'⟩) hr hck ho hg hf
end
end Go.Proofs.YtcplpghmbahjdaaGreatDoor.K
namespace Go.Proofs.YtcplpghmbahjdaaGreatDoor.K
open Go.RowKit
open Ma Me
structure Cb where
 g : Nat
 t : TypeId
 ck : List Ck
 v : Value
 s : Vs
inductive Sx where
 | k
 | s (a b : Nat)
structure Fr where
 al : Nat
 t : TypeId
 ck : List Ck
 row : List Value
 x : Sx
structure St (w0 : World) (cs : List Cb) (ks : List (Value × Vs)) (w : World) : Prop where
 q : Q w0 w
 c : ∀ c ∈ cs, w0.heap.size ≤ c.g ∧ NbV w c.g c.t c.ck c.v ∧ c.s.holds c.v w
 d : ∀ (m k : Nat) (y z : Cb), m ≠ k → cs[m]? = some y → cs[k]? = some z → y.g ≠ z.g
 k : ∀ p ∈ ks, p.2.holds p.1 w
def mkE (c : Cb) : Sx → Ce
 | .k => ⟨none, c.g, c.t, c.ck, c.v, 1000, 0⟩
 | .s a b => ⟨none, c.g, c.t, c.ck, c.v, a, b⟩
def mkF (f : Fr) : Ce := match f.x with
 | .k => ⟨some f.al, 0, f.t, f.ck, .agg f.row.toArray, 1000, 0⟩
 | .s a b => ⟨some f.al, 0, f.t, f.ck, .agg f.row.toArray, a, b⟩
def mkC : List Sx → List Cb → List Ce
 | _, [] => []
 | [], c :: cs => mkE c .k :: mkC [] cs
 | x :: xs, c :: cs => mkE c x :: mkC xs cs
def cont (cs : List Cb) : List (Value × Vs) := cs.map fun c => (c.v, c.s)
def poE (l : List Vs) (vals : Nat → Value) (c : Cb) : Sx → Cb
 | .k => c
 | .s _ b => ⟨c.g, c.t, c.ck, vals b, l.getD b .any⟩
def poF (l : List Vs) (vals : Nat → Value) (ga : Nat → Nat) (f : Fr) : Cb := match f.x with
 | .k => ⟨ga f.al, f.t, f.ck, .agg f.row.toArray, .eq (.agg f.row.toArray)⟩
 | .s _ b => ⟨ga f.al, f.t, f.ck, vals b, l.getD b .any⟩
def poC (l : List Vs) (vals : Nat → Value) : List Sx → List Cb → List Cb
 | _, [] => []
 | [], c :: cs => c :: poC l vals [] cs
 | x :: xs, c :: cs => poE l vals c x :: poC l vals xs cs
def post (l : List Vs) (vals : Nat → Value) (ga : Nat → Nat) (ss : List Sx) (fs : List Fr) (cs : List Cb) : List Cb := poC l vals ss cs ++ fs.map (poF l vals ga)
def kL (n : Nat) : Sx → Bool
 | .k => Nat.ble n 1000
 | .s a b => Nat.blt a n && Nat.blt b n
def Ce.addr (ga : Nat → Nat) (x : Ce) : Nat := match x.al with | none => x.g | some a => ga a
def RelB (l : List Vs) (vals : Nat → Value) (ga : Nat → Nat) (n : Nat) (x : Ce) (y : Cb) (s : Vs) : Prop :=
 y.g = x.addr ga ∧ y.t = x.t ∧ y.ck = x.ck ∧ ((x.st < n ∧ x.src < n ∧ y.v = vals x.src ∧ y.s = l.getD x.src .any) ∨ (n ≤ x.st ∧ y.v = x.row ∧ y.s = s))
section
variable {l : List Vs} {vals : Nat → Value} {ga : Nat → Nat} {n : Nat}
theorem relE {c : Cb} {x : Sx} (h : kL n x = true) : RelB l vals ga n (mkE c x) (poE l vals c x) c.s := by
 cases x with
 | k => exact ⟨rfl, rfl, rfl, Or.inr ⟨Nat.le_of_ble_eq_true h, rfl, rfl⟩⟩
 | s a b =>
   obtain ⟨h1, h2⟩ := (Bool.and_eq_true _ _).mp h;exact ⟨rfl, rfl, rfl, Or.inl ⟨Nat.le_of_ble_eq_true h1, Nat.le_of_ble_eq_true h2, rfl, rfl⟩⟩
theorem aKW {f : Fr} (h : kL n f.x = true) : RelB l vals ga n (mkF f) (poF l vals ga f) (.eq (mkF f).row) := by
 obtain ⟨al, t, ck, row, x⟩ := f;cases x with
 | k => exact ⟨rfl, rfl, rfl, Or.inr ⟨Nat.le_of_ble_eq_true h, rfl, rfl⟩⟩
 | s a b =>
   obtain ⟨h1, h2⟩ := (Bool.and_eq_true _ _).mp h;exact ⟨rfl, rfl, rfl, Or.inl ⟨Nat.le_of_ble_eq_true h1, Nat.le_of_ble_eq_true h2, rfl, rfl⟩⟩
theorem aAv (hn : kL n .k = true) : ∀ {ss : List Sx} {cs : List Cb} {m : Nat} {y : Cb}, (ss.all (kL n)) = true → (poC l vals ss cs)[m]? = some y → ∃ x c, (mkC ss cs)[m]? = some x ∧ c ∈ cs ∧ x.row = c.v ∧ x.al = none ∧ RelB l vals ga n x y c.s
 | _, [], _, _, _, h => by simp [poC] at h
 | [], c :: cs, 0, y, _, h => by
   simp [poC] at h; subst h;exact ⟨_, c, rfl, by simp, rfl, rfl, relE (x := .k) hn⟩
 | [], c :: cs, m + 1, y, hs, h => by
   obtain ⟨x, c', h1, h2, h3⟩ := aAv hn (ss := []) (cs := cs) (m := m) (y := y) hs (by simpa [poC] using h);exact ⟨x, c', by simpa [mkC] using h1, List.mem_cons_of_mem _ h2, h3⟩
 | x :: xs, c :: cs, 0, y, hs, h => by
   simp [poC] at h; subst h;obtain ⟨h1, h2⟩ := (Bool.and_eq_true _ _).mp hs;exact ⟨_, c, rfl, by simp, by cases x <;> rfl, by cases x <;> rfl, relE h1⟩
 | x :: xs, c :: cs, m + 1, y, hs, h => by
   obtain ⟨h1, h2⟩ := (Bool.and_eq_true _ _).mp hs;obtain ⟨x', c', h3, h4, h5⟩ := aAv hn (ss := xs) (cs := cs) (m := m) (y := y) h2 (by simpa [poC] using h);exact ⟨x', c', by simpa [mkC] using h3, List.mem_cons_of_mem _ h4, h5⟩
theorem sV : ∀ {ss : List Sx} {cs : List Cb}, (mkC ss cs).length = cs.length
 | _, [] => rfl
 | [], c :: cs => by simp [mkC, sV (ss := []) (cs := cs)]
 | x :: xs, c :: cs => by simp [mkC, sV (ss := xs) (cs := cs)]
theorem wZ : ∀ {ss : List Sx} {cs : List Cb}, (poC l vals ss cs).length = cs.length
 | _, [] => rfl
 | [], c :: cs => by simp [poC, wZ (ss := []) (cs := cs)]
 | x :: xs, c :: cs => by simp [poC, wZ (ss := xs) (cs := cs)]
theorem post_at {ss : List Sx} {fs : List Fr} {cs : List Cb} (hn : kL n .k = true) (hs : ss.all (kL n) = true) (hf : (fs.all fun f => kL n f.x) = true) {m : Nat} {y : Cb} (h : (post l vals ga ss fs cs)[m]? = some y) :
  ∃ x s, (mkC ss cs ++ fs.map mkF)[m]? = some x ∧ RelB l vals ga n x y s ∧ ((x.al = none ∧ ∃ c ∈ cs, x.row = c.v ∧ s = c.s) ∨ (s = .eq x.row ∧ ∃ f ∈ fs, x.al = some f.al)) := by
 unfold post at h;rw [List.getElem?_append, wZ] at h;rw [List.getElem?_append, sV];split at h
 ·rename_i hlt;rw [if_pos hlt];obtain ⟨x, c, h1, h2, h3, h4, h5⟩ := aAv hn hs h;exact ⟨x, c.s, h1, h5, Or.inl ⟨h4, c, h2, h3, rfl⟩⟩
 ·rename_i hlt;rw [if_neg hlt];rw [List.getElem?_map] at h ⊢;cases e : fs[m - cs.length]? with
  | none => rw [e] at h; cases h
  | some f =>
    rw [e] at h;injection h with h;subst h;have hm := List.mem_of_getElem? e;exact ⟨mkF f, .eq (mkF f).row, rfl, aKW (List.all_eq_true.1 hf f hm), Or.inr ⟨rfl, f, hm, by unfold mkF; split <;> rfl⟩⟩
end
section
variable {P : Program} {ops : Array Oper} {Q' : Exit → Act → World → Prop} {l : List Vs} {cs : List Cb} {ks : List (Value × Vs)} {ss : List Sx} {fs : List Fr} {F : (Nat → Value) → Act} {a : Act} {w0 : World}
theorem xA : ∀ {ss : List Sx} {cs : List Cb} {x : Ce}, x ∈ mkC ss cs → ∃ c ∈ cs, x.g = c.g ∧ x.t = c.t ∧ x.ck = c.ck ∧ x.row = c.v
 | _, [], _, h => by cases h
 | [], c :: cs, x, h => by
   rcases List.mem_cons.1 h with rfl | h
   ·exact ⟨c, by simp, rfl, rfl, rfl, rfl⟩
   ·obtain ⟨c', h1, h2⟩ := xA h; exact ⟨c', List.mem_cons_of_mem _ h1, h2⟩
 | s :: ss, c :: cs, x, h => by
   rcases List.mem_cons.1 h with rfl | h
   ·exact ⟨c, by simp, by cases s <;> exact ⟨rfl, rfl, rfl, rfl⟩⟩
   ·obtain ⟨c', h1, h2⟩ := xA h; exact ⟨c', List.mem_cons_of_mem _ h1, h2⟩
theorem xB : ∀ {ss : List Sx} {cs : List Cb} {m : Nat} {x : Ce}, (mkC ss cs)[m]? = some x → ∃ c, cs[m]? = some c ∧ x.g = c.g
 | _, [], _, _, h => by simp [mkC] at h
 | [], c :: cs, 0, x, h => by simp [mkC] at h; subst h; exact ⟨c, rfl, rfl⟩
 | [], c :: cs, m + 1, x, h => by
   obtain ⟨c', h1, h2⟩ := xB (ss := []) (cs := cs) (m := m) (x := x) (by simpa [mkC] using h);exact ⟨c', by simpa using h1, h2⟩
 | s :: ss, c :: cs, 0, x, h => by simp [mkC] at h; subst h; exact ⟨c, rfl, by cases s <;> rfl⟩
 | s :: ss, c :: cs, m + 1, x, h => by
   obtain ⟨c', h1, h2⟩ := xB (ss := ss) (cs := cs) (m := m) (x := x) (by simpa [mkC] using h);exact ⟨c', by simpa using h1, h2⟩
theorem aAw {f : Fr} : (mkF f).al = some f.al := by unfold mkF; split <;> rfl
theorem St.at0 {w : World} (h : St w0 cs ks w) : At0 w0 (mkC ss cs ++ fs.map mkF) (cont cs ++ ks) w := by
 refine ⟨h.q, fun x hx hal => ?_, fun m k y z hmk hy hz h1 h2 => ?_, fun p hp => ?_⟩
 ·rcases List.mem_append.1 hx with hx | hx
  ·obtain ⟨c, hc, e1, e2, e3, e4⟩ := xA hx;obtain ⟨h1, h2, h3⟩ := h.c c hc;rw [e1, e2, e3, e4];exact ⟨h1, h2⟩
  ·obtain ⟨f, -, rfl⟩ := List.mem_map.1 hx;rw [aAw] at hal; cases hal
 ·have key : ∀ {m : Nat} {y : Ce}, (mkC ss cs ++ fs.map mkF)[m]? = some y → y.al = none → ∃ c, cs[m]? = some c ∧ y.g = c.g := fun {m y} hy hal => by
   rw [List.getElem?_append, sV] at hy;split at hy
   ·exact xB hy
   ·obtain ⟨f, -, rfl⟩ := List.mem_map.1 (List.mem_of_getElem? hy);rw [aAw] at hal; cases hal
  obtain ⟨c1, g1, g2⟩ := key hy h1;obtain ⟨c2, g3, g4⟩ := key hz h2;rw [g2, g4];exact h.d m k c1 c2 hmk g1 g3
 ·rcases List.mem_append.1 hp with hp | hp
  ·obtain ⟨c, hc, rfl⟩ := List.mem_map.1 hp;exact (h.c c hc).2.2
  ·exact h.k p hp
def adr : Value → Nat
 | .pointer (some a) => a.block
 | _ => 0
theorem JC.st {L : Nat → Bool} {vals : Nat → Value} {W : World} (hck : aT ops (mkC ss cs ++ fs.map mkF) = true) (hn : kL ops.size .k = true) (hs : ss.all (kL ops.size) = true) (hf : (fs.all fun f => kL ops.size f.x) = true)
  (hall : ∀ j, j < ops.size → L j = true) (h : JC w0 ops l (mkC ss cs ++ fs.map mkF) (cont cs ++ ks) L vals W) (kp : List Nat) (hkp : kp.all (fun j => Nat.blt j ops.size) = true) :
  St w0 (post l vals (fun j => adr (vals j)) ss fs cs) (ks ++ kp.map fun j => (vals j, l.getD j .any)) W ∧ ∀ f ∈ fs, vals f.al = .pointer (some ⟨adr (vals f.al), 0, none⟩) := by
 have live : ∀ x ∈ mkC ss cs ++ fs.map mkF, x.live L = true := fun x hx => by
  unfold Ce.live;have := List.all_eq_true.1 hck x hx;simp only [Bool.and_eq_true] at this;cases e : x.al with
  | none => rfl
  | some b =>
    have h2 := this.2;simp only [e, Bool.and_eq_true, decide_eq_true_eq] at h2;exact hall _ h2.2
 have ptr : ∀ x ∈ mkC ss cs ++ fs.map mkF, x.ptr vals = .pointer (some ⟨x.addr (fun j => adr (vals j)), 0, none⟩) := fun x hx => by
  obtain ⟨g, h1, -⟩ := h.c x hx (live x hx);unfold Ce.ptr Ce.addr at *
  cases e : x.al with
  | none => rfl
  | some b =>
    simp only [e] at h1;simp only [h1, adr]
 refine ⟨⟨h.q, fun y hy => ?_, fun m k y z hmk hy hz => ?_, fun p hp => ?_⟩, fun f hf' => ?_⟩
 ·obtain ⟨m, hm⟩ := List.mem_iff_getElem?.1 hy;obtain ⟨x, s, hx, ⟨e1, e2, e3, e4⟩, hsx⟩ := post_at (ga := fun j => adr (vals j)) hn hs hf hm;have hxm := List.mem_of_getElem? hx;obtain ⟨g, h1, h2, h3⟩ := h.c x hxm (live x hxm);have hg : g = x.addr (fun j => adr (vals j)) := by
   have := h1.symm.trans (ptr x hxm);injection this with this; injection this with this; injection this
  subst hg;rw [e1, e2, e3];rcases e4 with ⟨a1, a2, a3, a4⟩ | ⟨a1, a2, a3⟩
  ·rw [a3, a4];rw [if_pos (hall _ a1)] at h3;exact ⟨h2, h3, h.s _ (hall _ a2)⟩
  ·rw [a2, a3];rw [if_neg (by rw [h.b _ a1]; decide)] at h3;refine ⟨h2, h3, ?_⟩;rcases hsx with ⟨-, c, hc, b1, b2⟩ | ⟨b1, -⟩
   ·rw [b1, b2]; exact h.k _ (List.mem_append_left _ (List.mem_map.2 ⟨c, hc, rfl⟩))
   ·rw [b1]; rfl
 ·obtain ⟨x, s, hx, ⟨e1, -⟩, -⟩ := post_at (ga := fun j => adr (vals j)) hn hs hf hy;obtain ⟨x', s', hx', ⟨e1', -⟩, -⟩ := post_at (ga := fun j => adr (vals j)) hn hs hf hz;have hxm := List.mem_of_getElem? hx;have hxm' := List.mem_of_getElem? hx';intro e;refine h.d m k x x' hmk hx hx' (live x hxm) (live x' hxm') ?_;rw [ptr x hxm, ptr x' hxm', ← e1, ← e1', e]
 ·rcases List.mem_append.1 hp with hp | hp
  ·exact h.k p (List.mem_append_right _ hp)
  ·obtain ⟨j, hj, rfl⟩ := List.mem_map.1 hp;exact h.s j (hall j (Nat.le_of_ble_eq_true (List.all_eq_true.1 hkp j hj)))
 ·have hm : mkF f ∈ mkC ss cs ++ fs.map mkF := List.mem_append_right _ (List.mem_map.2 ⟨f, hf', rfl⟩);have := ptr _ hm;unfold Ce.ptr Ce.addr at this;simpa only [aAw] using this
structure Vl (l : List Vs) (vals : Nat → Value) (fs : List Fr) (n : Nat) : Prop where
 e : ∀ j {v : Value}, l.getD j .any = .eq v → Nat.blt j n = true → vals j = v
 f : ∀ j, (fs.any fun f => f.al == j) = true → vals j = .pointer (some ⟨adr (vals j), 0, none⟩)
theorem reg {id : Nat} {b : Bool} {w : World} (l : List Vs) (ss : List Sx) (fs : List Fr) (kp : List Nat) (hS : Hid (St w0 cs ks w)) {ces : List Ce} {kks : List (Value × Vs)} {cs2 : (Nat → Value) → List Cb} {ks2 : (Nat → Value) → List (Value × Vs)} (hstep : Ctx ops a F → Ja.Steps P ops (JC w0 ops l ces kks) F 0 ops.toList) (hend : ∀ vals w', Hid (Vl l vals fs ops.size) → Hid (St w0 (cs2 vals) (ks2 vals) w') → Q' .normal (F vals) w')
  (hF : ∀ vals, Ja.fillL vals ops.toList 0 a = F vals := by
   intro vals; simp only [Ja.fillL, Act.put, List.setIfInBounds_toArray, List.set_cons_zero, List.set_cons_succ, Nat.reduceAdd]; exact rfl)
  (h1 : mkC ss cs ++ fs.map mkF = ces := by dsimp only [mkC, mkE, mkF, List.map, List.cons_append, List.nil_append] <;> exact rfl)
  (h2 : cont cs ++ ks = kks := by dsimp only [cont, List.map, List.cons_append, List.nil_append] <;> exact rfl)
  (h3 : ∀ vals, post l vals (fun j => adr (vals j)) ss fs cs = cs2 vals := by
   intro vals; dsimp only [post, poC, poE, poF, List.map, List.cons_append, List.nil_append, List.getD_cons_succ, List.getD_cons_zero] <;> exact rfl)
  (h4 : ∀ vals, (ks ++ kp.map fun j => (vals j, l.getD j .any)) = ks2 vals := by
   intro vals; dsimp only [List.map, List.cons_append, List.nil_append, List.getD_cons_succ, List.getD_cons_zero] <;> exact rfl)
  (hm : P.follows .mixedOrders = true := by kernel_rfl) (hsh : (Ja.shape ops && Region.noSelect ops && Ja.inBounds ops a.tmps.size) = true := by kernel_rfl)
  (hck : aT ops (mkC ss cs ++ fs.map mkF) = true := by kernel_rfl) (hok : (kL ops.size .k && ss.all (kL ops.size) && (fs.all fun f => kL ops.size f.x) && kp.all (fun j => Nat.blt j ops.size)) = true := by kernel_rfl) : (Code.region id ops b).wp P Q' a w := by
 subst h1 h2;simp only [Bool.and_eq_true] at hok;obtain ⟨⟨⟨o1, o2⟩, o3⟩, o4⟩ := hok;have fin : ∀ L vals w', (∀ j, j < ops.size → L j = true) → JC w0 ops l (mkC ss cs ++ fs.map mkF) (cont cs ++ ks) L vals w' → Q' .normal (F vals) w' := fun L vals w' hall hJ => by
  obtain ⟨h1, h2⟩ := hJ.st hck o1 o2 o3 hall kp o4;rw [h3, h4] at h1;refine hend vals w' (Lib.hid ⟨fun j v hv hj => ?_, fun j hj => ?_⟩) (Lib.hid h1)
  rotate_left
  ·obtain ⟨f, hf, he⟩ := List.any_eq_true.1 hj;rw [beq_iff_eq] at he;rw [← he]; exact h2 f hf
  have := hJ.s j (hall j (Nat.le_of_ble_eq_true hj));unfold SL at this;rw [hv] at this;exact this
 cases b with
 | true => exact aAu w0 l _ _ hm hsh hS.out.at0 hF hstep fin
 | false => exact aCN w0 l _ _ hsh hS.out.at0 hF hstep fin
end
theorem mo4 {A B : Value → World → Prop} {w : World} : ∀ (e : Ending) (w' : World), (∃ r, e = .returned r ∧ A r w' ∧ Q w w' ∧ B r w') → ∃ r, e = .returned r ∧ A r w' ∧ Q w w' := fun _ _ ⟨r, h1, h2, h3, _⟩ => ⟨r, h1, h2, h3⟩
theorem mo0 {v : Value} {w : World} : ∀ (e : Ending) (w' : World), (e = .returned v ∧ Q w w') → ∃ r, e = .returned r ∧ (Vs.eq v).holds r w' ∧ Q w w' := fun _ _ ⟨h1, h2⟩ => ⟨v, h1, rfl, h2⟩
theorem mo1 {u v : Value} {w : World} (h : u = v) : ∀ (e : Ending) (w' : World), (e = .returned u ∧ Q w w') → ∃ r, e = .returned r ∧ (Vs.eq v).holds r w' ∧ Q w w' := fun _ _ ⟨h1, h2⟩ => ⟨v, h ▸ h1, rfl, h2⟩
theorem mo2 {u v : Value} {w : World} (h : u = v) : ∀ (e : Ending) (w' : World), (e = .returned u ∧ w = w') → ∃ r, e = .returned r ∧ (Vs.eq v).holds r w' ∧ Q w w' := fun _ _ ⟨h1, h2⟩ => ⟨v, h ▸ h1, rfl, h2 ▸ Q.refl _⟩
def pVn (N : Nat) : Pr := ⟨fun v w => Nm w v N, fun h hq => h.q hq, true, fun _ h ha => ha.nm h⟩
def part (v : Value) (o : Nat) : Value := match v with
 | .agg a => .agg ((a.toList.drop o).take 3).toArray
 | _ => v
def cellAt (v : Value) (o : Nat) : Value := match v with
 | .agg a => (a.toList[o]?).getD undef
 | _ => v
theorem pa0 {p q : Rat} : ∀ v W, (Vs.gen (aGB p q)).holds v W → (Vs.gen (wY p)).holds (part v 0) W := fun v W ⟨_, _, _, _, _, _, _, _, _, _, _, _, _, _, e, h, _⟩ => by rw [e]; exact h
theorem pa3 {p q : Rat} : ∀ v W, (Vs.gen (aGB p q)).holds v W → (Vs.gen (wY q)).holds (part v 3) W := fun v W ⟨_, _, _, _, _, _, _, _, _, _, _, _, _, _, e, _, h⟩ => by rw [e]; exact h
theorem pb0 {p q : Rat} : ∀ v W, (Vs.gen (pRs p q)).holds v W → (Vs.gen (pRn p)).holds (part v 0) W := fun v W ⟨_, _, _, _, _, _, _, _, _, _, _, _, _, _, e, h, _⟩ => by rw [e]; exact h
theorem pb3 {p q : Rat} : ∀ v W, (Vs.gen (pRs p q)).holds v W → (Vs.gen (pRn q)).holds (part v 3) W := fun v W ⟨_, _, _, _, _, _, _, _, _, _, _, _, _, _, e, _, h⟩ => by rw [e]; exact h
theorem nu1 {q : Rat} : ∀ v W, (Vs.gen (wY q)).holds v W → (Vs.gen (pVn q.num.natAbs)).holds (cellAt v 1) W := fun v W ⟨_, _, e, h, _⟩ => by rw [e]; exact h
theorem st2 {ρ : Operand → Value} {o : Oper} {w : World} {g : Nat} {t : TypeId} {v0 v1 u0 u1 : Value} {T : TypeId} {x y : Operand} (hb : Bx w g t [u0, u1]) (o0 : v0.oneCell' = true) (o1 : v1.oneCell' = true)  (ho : o.op = .store T x y) (hx : ρ x = .pointer (some ⟨g, 0, none⟩)) (hy : ρ y = .agg #[v0, v1]) (hS : ∀ w, Sem.run Tryz.prog (sizeOf T) w = .ok 2 w) :
  (execOp ρ o).run Tryz.prog w = .ok .skip (jR w g 0 [v0, v1]) := by
 have fz := hb.frozen;have c0 := hb.cell 0 rfl;have c1 := hb.cell 1 rfl;unfold execOp;rw [ho];simp [hx, hy, go_sem, hS, storeCells, Addr.add, fz, c0, c1, jR, o0, o1, run_store]
theorem aIJ : ∀ {l : List Value}, l.length = 3 → ∃ a b c, l = [a, b, c]
 | [a, b, c], _ => ⟨a, b, c, rfl⟩
theorem aKX : ∀ {l : List Value}, l.length = 6 → ∃ a b c d e f, l = [a, b, c, d, e, f]
 | [a, b, c, d, e, f], _ => ⟨a, b, c, d, e, f, rfl⟩
section
variable {ops : Array Oper} {l : List Vs} {cs : List Ce} {ks : List (Value × Vs)} {F : (Nat → Value) → Act} {a : Act} {w0 : World} {i : Nat} {o : Oper} {rest : List Oper}
theorem JC.was' {L : Nat → Bool} {vals : Nat → Value} {W : World} (n : Nat) {x : Ce} (hx : cs[n]? = some x) (hal : x.al = none)
  (hb : (Nat.ble ops.size x.st || waits ops x.st x.src && waits ops x.src i || waits ops x.st i) = true) (hL : L i = false) (h : JC w0 ops l cs ks L vals W) : NbV W x.g x.t x.ck x.row := by
 rcases (Bool.or_eq_true _ _).mp hb with h0 | h0
 ·rcases (Bool.or_eq_true _ _).mp h0 with h1 | h1
  ·exact h.still n hx hal (Nat.le_of_ble_eq_true h1)
  ·obtain ⟨h2, h3⟩ := (Bool.and_eq_true _ _).mp h1;exact h.before n i hx hal hL h2 h3
 ·refine h.at n hx hal ?_;cases hs : L x.st with
  | false => rfl
  | true =>
    have := h.cl _ _ hs h0;rw [hL] at this; cases this
theorem JC.s2 {n : Nat} {x : Ce} {T : TypeId} {p y : Operand} (hx : cs[n]? = some x) (form : ∀ v W, (l.getD x.src .any).holds v W → ∃ v0 v1, v = .agg #[v0, v1] ∧ Sh x.ck [v0, v1]) (c : Ctx ops a F) (hr : Ja.Steps Tryz.prog ops (JC w0 ops l cs ks) F (i + 1) rest)
  (ho : ops[i]? = some o := by rfl) (hop : o.op = .store T p y := by rfl) (hp : ∀ vals, (F vals).eval p = x.ptr vals := by intro vals; kernel_rfl) (hy : ∀ vals, (F vals).eval y = vals x.src := by intro vals; kernel_rfl)
  (hty : (x.t != 2 && (x.t != 73 || Nat.ble x.ck.length 3)) = true := by kernel_rfl) (hst : x.st = i := by rfl) (hf : ((cs.eraseIdx n).all fun c => c.al != some i && c.st != i) = true := by kernel_rfl) (hl : l.getD i .any = .any := by rfl) (hok : (l.all Vs.ok && ks.all fun p => p.2.ok) = true := by kernel_rfl)
  (hck : aT ops cs = true := by kernel_rfl) (hg : aU ops l o true = true := by kernel_rfl) (hS : ∀ w, Sem.run Tryz.prog (sizeOf T) w = .ok 2 w := by intro _; kernel_rfl) :
  Ja.Steps Tryz.prog ops (JC w0 ops l cs ks) F i (o :: rest) :=
 Ja.Steps.cons (JC.store c hck ho hg hx (aFu hty) hst hf hl hok (fun L vals w g old hJ hpt ho' hs K hK => by
  obtain ⟨v0, v1, e, hsh⟩ := form _ _ hs;obtain ⟨row, e2, hsr, hb⟩ := ho';have hlen : row.length = 2 := (by rw [hsr.length, ← hsh.length]; rfl);obtain ⟨u0, u1, rfl⟩ : ∃ u0 u1, row = [u0, u1] := by
   match row, hlen with
   | [u0, u1], _ => exact ⟨_, _, rfl⟩
  have h1 := st2 hb (Sh.one hsh v0 (by simp)) (Sh.one hsh v1 (by simp)) hop ((hp vals).trans hpt) ((hy vals).trans e) hS;unfold Oper.wp;rw [h1, Oper.upon_skip];exact hK.out undef _ _ rfl ⟨_, e, hsh, rfl⟩)) hr
theorem JC.ldg (n : Nat) {x : Ce} {v : Value → Value} {y : Operand} {s s' : Vs} (off : Nat) (hp : ∀ v' W, s.holds v' W → s'.holds (v v') W) (hrun' : ∀ (ρ : Operand → Value) w, NbV w x.g x.t x.ck x.row → ρ y = .pointer (some ⟨x.g, off, none⟩) → (execOp ρ o).run Tryz.prog w = .ok (.value (v x.row)) w) (c : Ctx ops a F) (hr : Ja.Steps Tryz.prog ops (JC w0 ops l cs ks) F (i + 1) rest) (hxn : cs[n]? = some x) (hal : x.al = none) (hb : (Nat.ble ops.size x.st || waits ops x.st x.src && waits ops x.src i || waits ops x.st i) = true) (hks : ks[n]? = some (x.row, s)) (hl : l.getD i .any = s') (ho : ops[i]? = some o) (hx : ∀ vals, (F (gX l o vals)).eval y = .pointer (some ⟨x.g, off, none⟩))
  (hck : aT ops cs = true) (hg : aU ops l o true = true) (hf : (cs.all fun c => c.al != some i && c.st != i) = true) :
  Ja.Steps Tryz.prog ops (JC w0 ops l cs ks) F i (o :: rest) :=
 JC.o c (fun L vals w hL hJ hd K hK => by
  have h := hrun' (F (gX l o vals)).eval w (JC.was' n hxn hal hb hL hJ) (hx vals);rw [kK hd] at h;unfold Oper.wp;rw [h, Oper.upon_value];exact hK.out _ w _ rfl (by unfold SL; rw [hl]; exact hp _ _ (hJ.k _ (List.mem_of_getElem? hks))) (Q.refl _)) hr hck ho hg hf
theorem ld4 {ρ : Operand → Value} {w : World} {g : Nat} {v0 v1 v2 v3 : Value} {T : TypeId} {x : Operand} (h0 : w.cell? ⟨g, 0, none⟩ = some v0) (h1 : w.cell? ⟨g, 1, none⟩ = some v1) (h2 : w.cell? ⟨g, 2, none⟩ = some v2) (h3 : w.cell? ⟨g, 3, none⟩ = some v3) (ho : o.op = .load T x) (hx : ρ x = .pointer (some ⟨g, 0, none⟩)) (hT : ∀ w, Sem.run Tryz.prog (isAgg T) w = .ok true w) (hS : ∀ w, Sem.run Tryz.prog (sizeOf T) w = .ok 4 w) :
  (execOp ρ o).run Tryz.prog w = .ok (.value (.agg #[v0, v1, v2, v3])) w := by
 unfold execOp;rw [ho];simp [hx, go_sem, hT, hS, loadCellsFrom, Addr.add, h0, h1, h2, h3]
theorem aKY : ∀ {l : List Value}, l.length = 4 → ∃ a b c d, l = [a, b, c, d]
 | [a, b, c, d], _ => ⟨a, b, c, d, rfl⟩
theorem ldw {ρ : Operand → Value} {w : World} {g : Nat} {t T : TypeId} {ck : List Ck} {v : Value} {y : Operand} (hop : o.op = .load T y) (hT : ∀ w, Sem.run Tryz.prog (isAgg T) w = .ok true w) (hS : ∀ w, Sem.run Tryz.prog (sizeOf T) w = .ok ck.length w) (h36 : (ck.length == 3 || ck.length == 6 || ck.length == 4) = true)
  (h : NbV w g t ck v) (hy : ρ y = .pointer (some ⟨g, 0, none⟩)) : (execOp ρ o).run Tryz.prog w = .ok (.value v) w := by
 obtain ⟨row, rfl, hs, hb⟩ := h;have hl := hs.length;rcases (Bool.or_eq_true _ _).mp h36 with h36 | h3
 rotate_left
 ·rw [beq_iff_eq] at h3;rw [h3] at hl hS;obtain ⟨x0, x1, x2, x3, rfl⟩ := aKY hl;exact ld4 (hb.cell 0 rfl) (hb.cell 1 rfl) (hb.cell 2 rfl) (hb.cell 3 rfl) hop hy hT hS
 rcases (Bool.or_eq_true _ _).mp h36 with h3 | h3
 ·rw [beq_iff_eq] at h3;rw [h3] at hl hS;obtain ⟨x0, x1, x2, rfl⟩ := aIJ hl;exact ld3 (hb.cell 0 rfl) (hb.cell 1 rfl) (hb.cell 2 rfl) hop hy hT hS
 ·rw [beq_iff_eq] at h3;rw [h3] at hl hS;obtain ⟨x0, x1, x2, x3, x4, x5, rfl⟩ := aKX hl;exact ld6 (hb.cell 0 rfl) (hb.cell 1 rfl) (hb.cell 2 rfl) (hb.cell 3 rfl) (hb.cell 4 rfl) (hb.cell 5 rfl) hop hy hT hS
theorem ldp {ρ : Operand → Value} {w : World} {g off : Nat} {t T : TypeId} {ck : List Ck} {v : Value} {y : Operand} (hop : o.op = .load T y) (hT : ∀ w, Sem.run Tryz.prog (isAgg T) w = .ok true w) (hS : ∀ w, Sem.run Tryz.prog (sizeOf T) w = .ok 3 w) (h36 : (Nat.ble (off + 3) ck.length) = true)
  (h : NbV w g t ck v) (hy : ρ y = .pointer (some ⟨g, off, none⟩)) : (execOp ρ o).run Tryz.prog w = .ok (.value (part v off)) w := by
 obtain ⟨row, rfl, hs, hb⟩ := h;have hl := hs.length;have h3 := Nat.le_of_ble_eq_true h36;rw [← hl] at h3;have e : row[off]? = some row[off] ∧ row[off + 1]? = some row[off + 1] ∧ row[off + 2]? = some row[off + 2] := ⟨List.getElem?_eq_getElem (by omega), List.getElem?_eq_getElem (by omega), List.getElem?_eq_getElem (by omega)⟩
 have := ld3 (hb.cell off e.1) (hb.cell (off + 1) e.2.1) (hb.cell (off + 2) e.2.2) hop hy hT hS;rw [this];unfold part;have e2 : (row.drop off).take 3 = [row[off], row[off + 1], row[off + 2]] := by
  rw [List.drop_eq_getElem_cons (by omega), List.drop_eq_getElem_cons (by omega), List.drop_eq_getElem_cons (by omega)];rfl
 simp only [e2]
theorem ldc {ρ : Operand → Value} {w : World} {g off : Nat} {t T : TypeId} {ck : List Ck} {v : Value} {y : Operand} (hop : o.op = .load T y) (hT : ∀ w, Sem.run Tryz.prog (isAgg T) w = .ok false w) (h36 : (Nat.blt off ck.length) = true)
  (h : NbV w g t ck v) (hy : ρ y = .pointer (some ⟨g, off, none⟩)) : (execOp ρ o).run Tryz.prog w = .ok (.value (cellAt v off)) w := by
 obtain ⟨row, rfl, hs, hb⟩ := h;have hl := hs.length;have h3 := Nat.le_of_ble_eq_true h36;rw [← hl] at h3;have e : row[off]? = some row[off] := List.getElem?_eq_getElem h3;rw [ld1 (hb.cell off e) hop hy hT];unfold cellAt;simp only [e, Option.getD_some]
theorem JW.ld (n : Nat) {x : Ce} {T : TypeId} {y : Operand} {s : Vs} (c : Ctx ops a F) (hr : Ja.Steps Tryz.prog ops (JC w0 ops l cs ks) F (i + 1) rest)
  (hxn : cs[n]? = some x := by rfl) (hal : x.al = none := by rfl) (hb : (Nat.ble ops.size x.st || waits ops x.st x.src && waits ops x.src i || waits ops x.st i) = true := by kernel_rfl)
  (hks : ks[n]? = some (x.row, s) := by rfl) (hl : l.getD i .any = s := by rfl) (ho : ops[i]? = some o := by rfl) (hop : o.op = .load T y := by rfl)
  (hx : ∀ vals, (F (gX l o vals)).eval y = .pointer (some ⟨x.g, 0, none⟩) := by intro vals; kernel_rfl)
  (hck : aT ops cs = true := by kernel_rfl) (hg : aU ops l o true = true := by kernel_rfl) (hf : (cs.all fun c => c.al != some i && c.st != i) = true := by kernel_rfl)
  (hT : ∀ w, Sem.run Tryz.prog (isAgg T) w = .ok true w := by intro _; kernel_rfl) (hS : ∀ w, Sem.run Tryz.prog (sizeOf T) w = .ok x.ck.length w := by intro _; kernel_rfl) (h36 : (x.ck.length == 3 || x.ck.length == 6 || x.ck.length == 4) = true := by kernel_rfl) :
  Ja.Steps Tryz.prog ops (JC w0 ops l cs ks) F i (o :: rest) :=
 JC.ldg (v := fun v => v) n 0 (fun _ _ h => h) (fun _ _ h hy => ldw hop hT hS h36 h hy) c hr hxn hal hb hks hl ho hx hck hg hf
theorem JW.pt (n off : Nat) {x : Ce} {T : TypeId} {y : Operand} {s s' : Vs} (c : Ctx ops a F) (hr : Ja.Steps Tryz.prog ops (JC w0 ops l cs ks) F (i + 1) rest)
  (hxn : cs[n]? = some x := by rfl) (hal : x.al = none := by rfl) (hb : (Nat.ble ops.size x.st || waits ops x.st x.src && waits ops x.src i || waits ops x.st i) = true := by kernel_rfl)
  (hks : ks[n]? = some (x.row, s) := by rfl) (hl : l.getD i .any = s' := by rfl) (hp : ∀ v' W, s.holds v' W → s'.holds (part v' off) W := by first | exact pa0 | exact pa3 | exact pb0 | exact pb3) (ho : ops[i]? = some o := by rfl) (hop : o.op = .load T y := by rfl)
  (hx : ∀ vals, (F (gX l o vals)).eval y = .pointer (some ⟨x.g, off, none⟩) := by intro vals; kernel_rfl)
  (hck : aT ops cs = true := by kernel_rfl) (hg : aU ops l o true = true := by kernel_rfl) (hf : (cs.all fun c => c.al != some i && c.st != i) = true := by kernel_rfl)
  (hT : ∀ w, Sem.run Tryz.prog (isAgg T) w = .ok true w := by intro _; kernel_rfl) (hS : ∀ w, Sem.run Tryz.prog (sizeOf T) w = .ok 3 w := by intro _; kernel_rfl) (h36 : (Nat.ble (off + 3) x.ck.length) = true := by kernel_rfl) :
  Ja.Steps Tryz.prog ops (JC w0 ops l cs ks) F i (o :: rest) :=
 JC.ldg (v := fun v => part v off) n off hp (fun _ _ h hy => ldp hop hT hS h36 h hy) c hr hxn hal hb hks hl ho hx hck hg hf
theorem JW.ce (n off : Nat) {x : Ce} {T : TypeId} {y : Operand} {s s' : Vs} (hp : ∀ v' W, s.holds v' W → s'.holds (cellAt v' off) W) (c : Ctx ops a F) (hr : Ja.Steps Tryz.prog ops (JC w0 ops l cs ks) F (i + 1) rest)
  (hxn : cs[n]? = some x := by rfl) (hal : x.al = none := by rfl) (hb : (Nat.ble ops.size x.st || waits ops x.st x.src && waits ops x.src i || waits ops x.st i) = true := by kernel_rfl)
  (hks : ks[n]? = some (x.row, s) := by rfl) (hl : l.getD i .any = s' := by rfl) (ho : ops[i]? = some o := by rfl) (hop : o.op = .load T y := by rfl)
  (hx : ∀ vals, (F (gX l o vals)).eval y = .pointer (some ⟨x.g, off, none⟩) := by intro vals; kernel_rfl)
  (hck : aT ops cs = true := by kernel_rfl) (hg : aU ops l o true = true := by kernel_rfl) (hf : (cs.all fun c => c.al != some i && c.st != i) = true := by kernel_rfl)
  (hT : ∀ w, Sem.run Tryz.prog (isAgg T) w = .ok false w := by intro _; kernel_rfl) (h36 : (Nat.blt off x.ck.length) = true := by kernel_rfl) :
  Ja.Steps Tryz.prog ops (JC w0 ops l cs ks) F i (o :: rest) :=
 JC.ldg (v := fun v => cellAt v off) n off hp (fun _ _ h hy => ldc hop hT h36 h hy) c hr hxn hal hb hks hl ho hx hck hg hf
structure CaH (w0 : World) (o : Oper) (l : List Vs) (ks : List (Value × Vs)) (vals : Nat → Value) (W : World) : Prop where
 q : Q w0 W
 d : ∀ j, (hj : (o.after.any fun e => Region.binds .any e && e.on == j) = true := by kernel_rfl) → SL l j (vals j) W
 k : ∀ (n : Nat) {p : Value × Vs}, (hn : ks[n]? = some p := by rfl) → p.2.holds p.1 W
theorem JW.ca {P : Program} {f : FuncId} {args : (Nat → Value) → Array Value}
  (h : ∀ {vals W}, CaH w0 o l ks vals W → Calls P f (args vals) W fun e w' => ∃ r, e = .returned r ∧ (l.getD i .any).holds r w' ∧ Q W w')
  (c : Ctx ops a F) (hr : Ja.Steps P ops (JC w0 ops l cs ks) F (i + 1) rest)
  (hck : aT ops cs = true := by kernel_rfl) (ho : ops[i]? = some o := by rfl) (hg : aU ops l o true = true := by kernel_rfl) (hf : (cs.all fun c => c.al != some i && c.st != i) = true := by kernel_rfl)
  (hrun : ∀ vals w, (execOp (F (gX l o vals)).eval o).run P w = .ok (.enter f (args (gX l o vals))) w := by intro vals w; kernel_rfl) :
  Ja.Steps P ops (JC w0 ops l cs ks) F i (o :: rest) :=
 JC.ca (fun _ _ h1 h2 h3 => h ⟨h1, fun j hj => h2 j hj, fun n {p} hn => h3 n p hn⟩) c hr hck ho hg hf hrun
def elt (v : Value) (k : Nat) : Value := match v with | .tuple a => (a.toList[k]?).getD undef | _ => undef
def aCP (f : Nat → Value) (j : Nat) (u : Value) : Nat → Value := fun x => if x = j then u else f x
theorem aBR (f : Nat → Value) (j : Nat) {u : Value} (h : f j = u) : aCP f j u = f := by
 funext x;unfold aCP;split
 ·rename_i e; rw [e, h]
 ·rfl
theorem JW.x2 (j k : Nat) {p1 p2 : Pr} {s : Vs} (c : Ctx ops a F) (hr : Ja.Steps Tryz.prog ops (JC w0 ops l cs ks) F (i + 1) rest)
  (hj : l.getD j .any = .gen (pT2 p1 p2) := by rfl) (hl : l.getD i .any = s := by rfl) (hs : (∀ x y W, p1.p x W → p2.p y W → s.holds (elt (.tuple #[x, y]) k) W) := by first | exact fun _ _ _ h _ => h | exact fun _ _ _ _ h => h)
  (hw : (o.after.any fun e => Region.binds .any e && e.on == j) = true := by kernel_rfl) (ho : ops[i]? = some o := by rfl) (hck : aT ops cs = true := by kernel_rfl) (hg : aU ops l o true = true := by kernel_rfl) (hf : (cs.all fun c => c.al != some i && c.st != i) = true := by kernel_rfl)
  (hrun : ∀ (vals : Nat → Value) w x y, (execOp (F (aCP vals j (.tuple #[x, y]))).eval o).run Tryz.prog w = .ok (.value (elt (.tuple #[x, y]) k)) w := by intros; kernel_rfl) :
  Ja.Steps Tryz.prog ops (JC w0 ops l cs ks) F i (o :: rest) :=
 JC.o c (fun L vals w _ _ hd K hK => by
  have h1 := hd j hw;unfold SL at h1;rw [hj] at h1;obtain ⟨x, y, e, h2, h3⟩ := h1;have h := hrun vals w x y;rw [aBR vals j e] at h;unfold Oper.wp;rw [h, Oper.upon_value];exact hK.out _ w _ rfl (by unfold SL; rw [hl]; exact hs x y w h2 h3) (Q.refl _)) hr hck ho hg hf
theorem JW.x3 (j k : Nat) {p1 p2 p3 : Pr} {s : Vs} (c : Ctx ops a F) (hr : Ja.Steps Tryz.prog ops (JC w0 ops l cs ks) F (i + 1) rest)
  (hj : l.getD j .any = .gen (pT3 p1 p2 p3) := by rfl) (hl : l.getD i .any = s := by rfl) (hs : (∀ x y z W, p1.p x W → p2.p y W → p3.p z W → s.holds (elt (.tuple #[x, y, z]) k) W) := by first | exact fun _ _ _ _ h _ _ => h | exact fun _ _ _ _ _ h _ => h | exact fun _ _ _ _ _ _ h => h)
  (hw : (o.after.any fun e => Region.binds .any e && e.on == j) = true := by kernel_rfl) (ho : ops[i]? = some o := by rfl) (hck : aT ops cs = true := by kernel_rfl) (hg : aU ops l o true = true := by kernel_rfl) (hf : (cs.all fun c => c.al != some i && c.st != i) = true := by kernel_rfl)
  (hrun : ∀ (vals : Nat → Value) w x y z, (execOp (F (aCP vals j (.tuple #[x, y, z]))).eval o).run Tryz.prog w = .ok (.value (elt (.tuple #[x, y, z]) k)) w := by intros; kernel_rfl) :
  Ja.Steps Tryz.prog ops (JC w0 ops l cs ks) F i (o :: rest) :=
 JC.o c (fun L vals w _ _ hd K hK => by
  have h1 := hd j hw;unfold SL at h1;rw [hj] at h1;obtain ⟨x, y, z, e, h2, h3, h4⟩ := h1;have h := hrun vals w x y z;rw [aBR vals j e] at h;unfold Oper.wp;rw [h, Oper.upon_value];exact hK.out _ w _ rfl (by unfold SL; rw [hl]; exact hs x y z w h2 h3 h4) (Q.refl _)) hr hck ho hg hf
end
theorem St.nil {w0 w : World} (h : Q w0 w) : St w0 [] [] w := ⟨h, fun _ h => (by cases h), fun _ _ _ _ _ h => (by simp at h), fun _ h => (by cases h)⟩
theorem St.cons {w0 w : World} {g : Nat} {t : TypeId} {ck : List Ck} {row : List Value} {cs : List Cb} {ks : List (Value × Vs)} (s : Vs) (hb : Bx w g t row) (sh : Sh ck row) (n : s.holds (.agg row.toArray) w) (h : St w0 cs ks w) (hg : w0.heap.size ≤ g) (hd : ∀ c ∈ cs, g ≠ c.g) :
  St w0 (⟨g, t, ck, .agg row.toArray, s⟩ :: cs) ks w := by
 refine ⟨h.q, fun c hc => ?_, fun m k y z hmk hy hz => ?_, h.k⟩
 ·rcases List.mem_cons.1 hc with rfl | hc
  ·exact ⟨hg, NbV.mk sh hb, n⟩
  ·exact h.c c hc
 ·rcases m with _ | m <;> rcases k with _ | k
  ·exact absurd rfl hmk
  ·simp at hy hz; subst hy; exact hd z (List.mem_of_getElem? hz)
  ·simp at hy hz; subst hz; exact fun e => hd y (List.mem_of_getElem? hy) e.symm
  ·exact h.d m k y z (fun e => hmk (by rw [e])) (by simpa using hy) (by simpa using hz)
theorem fmN {w : World} {v : Value} {q : Rat} (h : Nq w v q) : ∃ x0 x1 x2, v = .agg #[x0, x1, x2] ∧ Sh [.b, .s, .s] [x0, x1, x2] := aKV v w h
section
variable {w0 w : World} {g : Nat} {t : TypeId} {ck : List Ck} {cs : List Cb} {ks : List (Value × Vs)} {p q : Rat} {row : List Value}
theorem sbN (hb : Bx w g t row) (sh : Sh ck row) (n : Nq w0 (.agg row.toArray) q) (h : St w0 cs ks w) (hg : w0.heap.size ≤ g := by omega) (hd : ∀ c ∈ cs, g ≠ c.g := by simp <;> omega) : St w0 (⟨g, t, ck, .agg row.toArray, .gen (wY q)⟩ :: cs) ks w := St.cons _ hb sh (n.q h.q) h hg hd
theorem St.kp {v : Value} (s : Vs) (hv : s.holds v w) (h : St w0 cs ks w) : St w0 cs (ks ++ [(v, s)]) w := ⟨h.q, h.c, h.d, fun p hp => by
 rcases List.mem_append.1 hp with hp | hp
 ·exact h.k p hp
 ·rw [List.mem_singleton.1 hp]; exact hv⟩
theorem St.n (h : Hid (St w0 cs ks w)) (n : Nat) {x : Cb} (hx : cs[n]? = some x := by rfl) : x.s.holds x.v w := (h.out.c x (List.mem_of_getElem? hx)).2.2
theorem St.b (h : Hid (St w0 cs ks w)) (n : Nat) {x : Cb} (hx : cs[n]? = some x := by rfl) : NbV w x.g x.t x.ck x.v := (h.out.c x (List.mem_of_getElem? hx)).2.1
theorem St.ge (h : Hid (St w0 cs ks w)) (n : Nat) {x : Cb} (hx : cs[n]? = some x := by rfl) : w0.heap.size ≤ x.g := (h.out.c x (List.mem_of_getElem? hx)).1
theorem St.vv (h : Hid (St w0 cs ks w)) (n : Nat) : (ks.getD n (undef, .any)).2.holds (ks.getD n (undef, .any)).1 w := by
 rw [List.getD_eq_getElem?_getD];cases e : ks[n]? with
 | none => trivial
 | some p => exact h.out.k p (List.mem_of_getElem? e)
theorem St.v (h : Hid (St w0 cs ks w)) (n : Nat) {p : Value × Vs} (hx : ks[n]? = some p := by rfl) : p.2.holds p.1 w := h.out.k p (List.mem_of_getElem? hx)
end
theorem St.o3 {w0 w : World} {cs : List Cb} {ks : List (Value × Vs)} (h : Hid (St w0 cs ks w)) (n : Nat) {x : Cb} (hx : cs[n]? = some x := by rfl) (h3 : (x.ck.length == 3) = true := by kernel_rfl) : ∃ r0 r1 r2, Bx w x.g x.t [r0, r1, r2] ∧ x.s.holds (.agg #[r0, r1, r2]) w := by
 obtain ⟨-, ⟨row, e, hs, hb⟩, hn⟩ := h.out.c x (List.mem_of_getElem? hx);obtain ⟨x0, x1, x2, rfl⟩ := aIJ (hs.length.trans (beq_iff_eq.1 h3));rw [e] at hn;exact ⟨_, _, _, hb, hn⟩
abbrev eP (g o : Nat) : Vs := .eq (.pointer (some ⟨g, o, none⟩))
abbrev eB (b : Bool) : Vs := .eq (.bool b)
abbrev eI (z : Int) : Vs := .eq (.int .i64 z)
abbrev gN (q : Rat) : Vs := .gen (wY q)
end Go.Proofs.YtcplpghmbahjdaaGreatDoor.K
namespace Go.Proofs.YtcplpghmbahjdaaGreatDoor
open Go.RowKit
open Ma Me
theorem aHs (p q : Rat) : sz (kE p q) ≤ sz p + sz q := by rcases aHg p q with h | h <;> rw [h] <;> omega
end Go.Proofs.YtcplpghmbahjdaaGreatDoor
namespace Go.Proofs.YtcplpghmbahjdaaGreatDoor.K
open Go.RowKit
open Ma Me
section
variable {a b c d e f : Prop}
theorem ha1 (h1 : Hid a) (h : a → d) : d := h h1.out
theorem ha2 (h1 : Hid a) (h2 : Hid b) (h : a → b → d) : d := h h1.out h2.out
end
section
variable {p q r s : Rat} {a b c d k e : Nat}
theorem aIK {n : Nat} (h : Nat.ble n 1099511627776 = true) : n ≤ LIM := Nat.le_of_ble_eq_true h
theorem bb2 (h1 : Hid (sz p ≤ a)) (h2 : Hid (sz q ≤ b)) (h : Nat.ble (k * (a + b) + e) 1099511627776 = true := by rfl) : k * (sz p + sz q) + e ≤ LIM :=
 Nat.le_trans (Nat.add_le_add_right (Nat.mul_le_mul_left _ (Nat.add_le_add h1.out h2.out)) _) (aIK h)
end
end Go.Proofs.YtcplpghmbahjdaaGreatDoor.K
