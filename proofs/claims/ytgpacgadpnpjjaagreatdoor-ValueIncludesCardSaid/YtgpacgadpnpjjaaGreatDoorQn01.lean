/- ValueIncludes (a part of the proof): results of numbers are in the results of their spans. No condition. -/

namespace Go.Proofs.YtgpacgadpnpjjaaGreatDoor.Ma
def vl (b : Nat) : List Nat → Nat
 | [] => 0
 | d :: r => d + b * vl b r
theorem aEH (b : Nat) : vl b [] = 0 := rfl
theorem bX (b d : Nat) (r : List Nat) : vl b (d :: r) = d + b * vl b r := rfl
theorem fD (b : Nat) (xs ys : List Nat) : vl b (xs ++ ys) = vl b xs + b ^ xs.length * vl b ys := by
 induction xs with
 | nil => simp [vl]
 | cons x xs ih =>
   simp only [List.cons_append, bX, ih, List.length_cons, Nat.pow_succ];grind
theorem jA (b : Nat) (xs : List Nat) (d : Nat) : vl b (xs ++ [d]) = vl b xs + b ^ xs.length * d := by
 rw [fD]; simp [vl]
theorem bV {b : Nat} {xs : List Nat} (h : ∀ d ∈ xs, d < b) : vl b xs < b ^ xs.length := by
 induction xs with
 | nil => simp [vl]
 | cons x xs ih =>
   have h1 := h x (by simp);have h2 := ih (fun d hd => h d (by simp [hd]));simp only [bX, List.length_cons, Nat.pow_succ];have h3 : b * (vl b xs + 1) ≤ b * b ^ xs.length := Nat.mul_le_mul_left _ h2;rw [Nat.mul_add] at h3;rw [Nat.mul_comm (b ^ xs.length) b];omega
theorem iD (b n : Nat) : vl b (List.replicate n 0) = 0 := by
 induction n with
 | zero => rfl
 | succ n ih => rw [List.replicate_succ, bX, ih]; simp
theorem bI (b n : Nat) (xs : List Nat) (h : n ≤ xs.length) : vl b xs = vl b (xs.take n) + b ^ n * vl b (xs.drop n) := by
 have e := fD b (xs.take n) (xs.drop n);rw [List.take_append_drop, List.length_take, Nat.min_eq_left h] at e;exact e
theorem aI {n : Nat} {xs : List Nat} {b : Nat} (h : ∀ d ∈ xs, d < b) : ∀ d ∈ xs.take n, d < b :=
 fun d hd => h d (List.mem_of_mem_take hd)
theorem fA {n : Nat} {xs : List Nat} {b : Nat} (h : ∀ d ∈ xs, d < b) : ∀ d ∈ xs.drop n, d < b :=
 fun d hd => h d (List.mem_of_mem_drop hd)
theorem gB {b : Nat} (hb : 0 < b) {n : Nat} {xs : List Nat} (hn : n ≤ xs.length) (h : ∀ d ∈ xs, d < b) : vl b (xs.drop n) = vl b xs / b ^ n := by
 rw [bI b n xs hn];have h1 := bV (aI (n := n) h);rw [List.length_take, Nat.min_eq_left hn] at h1;rw [Nat.add_mul_div_left _ _ (Nat.pow_pos hb), Nat.div_eq_of_lt h1]; omega
theorem iR {b : Nat} {n : Nat} {xs : List Nat} (hn : n ≤ xs.length) (h : ∀ d ∈ xs, d < b) : vl b (xs.take n) = vl b xs % b ^ n := by
 rw [bI b n xs hn];have h1 := bV (aI (n := n) h);rw [List.length_take, Nat.min_eq_left hn] at h1;rw [Nat.add_mul_mod_self_left, Nat.mod_eq_of_lt h1]
def Nz (xs : List Nat) : Prop := xs.getLast? ≠ some 0
theorem Nz.nil : Nz [] := by simp [Nz]
def Wf (b : Nat) (xs : List Nat) : Prop := (∀ d ∈ xs, d < b) ∧ Nz xs
theorem Wf.nil {b : Nat} : Wf b [] := ⟨by simp, Nz.nil⟩
theorem Nz.ge {b : Nat} {xs : List Nat} (h : Nz xs) (hx : xs ≠ []) : b ^ (xs.length - 1) ≤ vl b xs := by
 obtain ⟨ys, y, rfl⟩ : ∃ ys y, xs = ys ++ [y] := ⟨xs.dropLast, xs.getLast hx, (List.dropLast_concat_getLast hx).symm⟩
 have hy : y ≠ 0 := by
  intro e; subst e; simp [Nz] at h
 rw [jA];simp only [List.length_append, List.length_cons, List.length_nil, Nat.add_sub_cancel];have : b ^ ys.length * 1 ≤ b ^ ys.length * y := Nat.mul_le_mul_left _ (by omega);omega
theorem Nz.zero {b : Nat} (hb : 0 < b) {xs : List Nat} (h : Nz xs) (h0 : vl b xs = 0) : xs = [] := by
 by_cases hx : xs = []
 ·exact hx
 ·have := h.ge (b := b) hx;have := Nat.pow_pos (n := xs.length - 1) hb;omega
theorem Wf.len_lt {b : Nat} (hb : 0 < b) {xs ys : List Nat} (hx : ∀ d ∈ xs, d < b) (hy : Nz ys) (h : xs.length < ys.length) : vl b xs < vl b ys := by
 have h1 := bV hx;have h2 := hy.ge (b := b) (by intro e; subst e; simp at h);have h3 : b ^ xs.length ≤ b ^ (ys.length - 1) := Nat.pow_le_pow_right hb (by omega);omega
theorem kE {b : Nat} {xs ys : List Nat} {j x y : Nat} (hx : ∀ d ∈ xs, d < b) (hd : xs.drop (j + 1) = ys.drop (j + 1))
  (ex : xs[j]? = some x) (ey : ys[j]? = some y) (hlt : x < y) : vl b xs < vl b ys := by
 obtain ⟨hjx, rfl⟩ := List.getElem?_eq_some_iff.1 ex;obtain ⟨hjy, rfl⟩ := List.getElem?_eq_some_iff.1 ey;rw [bI b j xs (by omega), bI b j ys (by omega), List.drop_eq_getElem_cons hjx, List.drop_eq_getElem_cons hjy, bX, bX, hd];have h1 := bV (aI (n := j) hx);rw [List.length_take, Nat.min_eq_left (by omega)] at h1;have h2 : b ^ j * (xs[j] + b * vl b (ys.drop (j + 1)) + 1) ≤ b ^ j * (ys[j] + b * vl b (ys.drop (j + 1))) := Nat.mul_le_mul_left _ (by omega);rw [Nat.mul_add _ _ 1] at h2;omega
theorem Wf.inj {b : Nat} (hb : 0 < b) {xs ys : List Nat} (hx : Wf b xs) (hy : Wf b ys) (h : vl b xs = vl b ys) : xs = ys := by
 induction xs generalizing ys with
 | nil => exact (hy.2.zero hb h.symm).symm
 | cons x xs ih =>
   cases ys with
   | nil => exact (hx.2.zero hb h)
   | cons y ys =>
     rw [bX, bX] at h;have hx0 := hx.1 x (by simp);have hy0 := hy.1 y (by simp);have e1 : x = y := by
      have := congrArg (· % b) h;simpa [Nat.add_mul_mod_self_left, Nat.mod_eq_of_lt hx0, Nat.mod_eq_of_lt hy0] using this
     subst e1;have e2 : vl b xs = vl b ys := Nat.eq_of_mul_eq_mul_left hb (by omega);have nzt : ∀ zs : List Nat, Nz (x :: zs) → Nz zs := by
      intro zs hz;cases zs with
      | nil => exact Nz.nil
      | cons z zs => simpa [Nz] using hz
     rw [ih ⟨fun d hd => hx.1 d (by simp [hd]), nzt _ hx.2⟩ ⟨fun d hd => hy.1 d (by simp [hd]), nzt _ hy.2⟩ e2]
def dg (b N : Nat) : Nat := if h : N = 0 ∨ b ≤ 1 then 0 else dg b (N / b) + 1
termination_by N
decreasing_by exact Nat.div_lt_self (by omega) (by omega)
theorem aQ (b : Nat) : dg b 0 = 0 := by rw [dg]; simp
theorem lG {b N : Nat} (hb : 1 < b) (h : 0 < N) : dg b N = dg b (N / b) + 1 := by rw [dg]; simp; omega
theorem aD {b : Nat} (hb : 1 < b) (N k : Nat) : dg b N ≤ k ↔ N < b ^ k := by
 induction k generalizing N with
 | zero =>
   rcases Nat.eq_zero_or_pos N with h | h
   ·subst h; simp [aQ]
   ·rw [lG hb h]; simp; omega
 | succ k ih =>
   rcases Nat.eq_zero_or_pos N with h | h
   ·subst h; simp [aQ, Nat.pow_pos (show 0 < b by omega)]
   ·rw [lG hb h, Nat.add_le_add_iff_right, ih, Nat.pow_succ, Nat.div_lt_iff_lt_mul (by omega)]
theorem aM {b : Nat} (hb : 1 < b) (N : Nat) : N < b ^ dg b N := (aD hb N _).1 (Nat.le_refl _)
theorem aR {b : Nat} (hb : 1 < b) {M N : Nat} (h : M ≤ N) : dg b M ≤ dg b N :=
 (aD hb M _).2 (Nat.lt_of_le_of_lt h (aM hb N))
theorem Wf.len {b : Nat} (hb : 1 < b) {xs : List Nat} (h : Wf b xs) : xs.length = dg b (vl b xs) := by
 apply Nat.le_antisymm
 ·rcases Nat.lt_or_ge (dg b (vl b xs)) xs.length with hlt | hge
  ·have hx : xs ≠ [] := (by intro e; subst e; simp at hlt);have h1 := h.2.ge (b := b) hx;have h2 := (aD hb (vl b xs) (xs.length - 1)).1 (by omega);omega
  ·exact hge
 ·exact (aD hb _ _).2 (bV h.1)
theorem lH {b : Nat} (hb : 1 < b) (M N : Nat) : dg b (M + N) ≤ max (dg b M) (dg b N) + 1 := by
 rw [aD hb, Nat.pow_succ];have h1 := aM hb M;have h2 := aM hb N;have h3 : b ^ dg b M ≤ b ^ max (dg b M) (dg b N) := Nat.pow_le_pow_right (by omega) (by omega);have h4 : b ^ dg b N ≤ b ^ max (dg b M) (dg b N) := Nat.pow_le_pow_right (by omega) (by omega);have h5 : b ^ max (dg b M) (dg b N) * 2 ≤ b ^ max (dg b M) (dg b N) * b := Nat.mul_le_mul_left _ hb;omega
theorem dY {b : Nat} (hb : 1 < b) (M N : Nat) : dg b (M * N) ≤ dg b M + dg b N := by
 rw [aD hb, Nat.pow_add];have h1 := aM hb M;have h2 := aM hb N;rcases Nat.eq_zero_or_pos N with h | h
 ·subst h; simp; exact Nat.mul_pos (Nat.pow_pos (by omega)) (Nat.pow_pos (by omega))
 ·exact Nat.lt_of_lt_of_le (Nat.mul_lt_mul_of_pos_right h1 h) (Nat.mul_le_mul_left _ (Nat.le_of_lt h2))
theorem dZ (b : Nat) {ds : List Nat} {j : Nat} (hj : j < ds.length) : vl b (ds.take (j + 1)) = vl b (ds.take j) + b ^ j * ds[j] := by
 rw [List.take_succ_eq_append_getElem hj, jA, List.length_take, Nat.min_eq_left (by omega)]
theorem aX (b : Nat) {ds : List Nat} {j d : Nat} (h : ds[j]? = some d) : vl b (ds.take (j + 1)) = vl b (ds.take j) + b ^ j * d := by
 obtain ⟨hj, rfl⟩ := List.getElem?_eq_some_iff.1 h;exact dZ b hj
theorem jU (b : Nat) {ds : List Nat} {j : Nat} (h : ds.length ≤ j) : vl b (ds.take (j + 1)) = vl b (ds.take j) + b ^ j * 0 := by
 rw [List.take_of_length_le h, List.take_of_length_le (by omega)]; simp
theorem uZ {ds : List Nat} {j : Nat} (hj : j < ds.length) (h : ds[j] ≠ 0) : Nz (ds.take (j + 1)) := by
 rw [Nz, List.take_succ_eq_append_getElem hj, List.getLast?_concat];simpa using h
theorem xK {ds : List Nat} : Nz (ds.take 0) := by simp [Nz]
theorem take_set {ds : List Nat} {k d : Nat} (hk : k < ds.length) : (ds.set k d).take (k + 1) = ds.take k ++ [d] := by
 rw [List.take_succ_eq_append_getElem (by simpa using hk), List.take_set_of_le (Nat.le_refl _)];simp
theorem bK (b : Nat) {ds : List Nat} {k d : Nat} (hk : k < ds.length) : vl b ((ds.set k d).take (k + 1)) = vl b (ds.take k) + b ^ k * d := by
 rw [take_set hk, jA, List.length_take, Nat.min_eq_left (by omega)]
theorem bY {ds : List Nat} {k d b : Nat} (h : ∀ x ∈ ds, x < b) (hd : d < b) : ∀ x ∈ ds.set k d, x < b := by
 intro x hx;rcases List.mem_or_eq_of_mem_set hx with hx | rfl
 ·exact h x hx
 ·exact hd
theorem cZ {n b : Nat} (hb : 0 < b) : ∀ x ∈ List.replicate n 0, x < b := by
 intro x hx; rw [List.eq_of_mem_replicate hx]; exact hb
theorem tO {b k V X Y c x y s d c' : Nat} (h : V + b ^ k * c = X + Y) (hs : s = c + x + y) (hd : s = d + b * c') :
  (V + b ^ k * d) + b ^ (k + 1) * c' = (X + b ^ k * x) + (Y + b ^ k * y) := by
 have : b ^ k * s = b ^ k * d + b ^ (k + 1) * c' := by rw [hd, Nat.pow_succ]; grind
 have : b ^ k * s = b ^ k * c + b ^ k * x + b ^ k * y := by rw [hs]; grind
 omega
theorem jV {b k V X Y l x y d l' : Nat} (h : X + b ^ k * l = V + Y) (hd : x + b * l' = d + y + l) :
  (X + b ^ k * x) + b ^ (k + 1) * l' = (V + b ^ k * d) + (Y + b ^ k * y) := by
 have : b ^ k * (x + b * l') = b ^ k * (d + y + l) := by rw [hd]
 have e1 : b ^ k * (x + b * l') = b ^ k * x + b ^ (k + 1) * l' := by rw [Nat.pow_succ]; grind
 have e2 : b ^ k * (d + y + l) = b ^ k * d + b ^ k * y + b ^ k * l := by grind
 omega
theorem tQ {b : Nat} {xs ys out : List Nat} {l : Nat} (ho : ∀ d ∈ out, d < b) (hl : out.length = xs.length) (hle : vl b ys ≤ vl b xs)
  (h : vl b xs + b ^ xs.length * l = vl b out + vl b ys) : vl b out = vl b xs - vl b ys := by
 have h1 := bV ho;rw [hl] at h1;rcases Nat.eq_zero_or_pos l with h0 | h0
 ·subst h0; omega
 ·have : b ^ xs.length * 1 ≤ b ^ xs.length * l := Nat.mul_le_mul_left _ h0;omega
theorem Wf.len_le {b : Nat} (hb : 0 < b) {xs ys : List Nat} (hx : Wf b xs) (hy : Wf b ys) (h : vl b ys ≤ vl b xs) : ys.length ≤ xs.length := by
 rcases Nat.lt_or_ge xs.length ys.length with hlt | hge
 ·have := Wf.len_lt hb hx.1 hy.2 hlt; omega
 ·exact hge
theorem aCQ {b i k V X Y c x y o s d c' : Nat} (h : V + b ^ (i + k) * c = X + b ^ i * (x * Y)) (hs : s = c + x * y + o) (hd : s = d + b * c') :
  (V + b ^ (i + k) * d) + b ^ (i + (k + 1)) * c' = (X + b ^ (i + k) * o) + b ^ i * (x * (Y + b ^ k * y)) := by
 have e1 : b ^ (i + k) * s = b ^ (i + k) * d + b ^ (i + (k + 1)) * c' := by rw [hd, ← Nat.add_assoc, Nat.pow_succ]; grind
 have e2 : b ^ (i + k) * s = b ^ (i + k) * c + b ^ (i + k) * (x * y) + b ^ (i + k) * o := by rw [hs]; grind
 have e3 : b ^ i * (x * (Y + b ^ k * y)) = b ^ i * (x * Y) + b ^ (i + k) * (x * y) := by rw [Nat.pow_add]; grind
 omega
theorem drop_set {ds : List Nat} {k d j : Nat} (h : k < j) : (ds.set k d).drop j = ds.drop j := by
 rw [List.drop_set, if_pos h]
theorem xL {xs ys : List Nat} {k : Nat} (h : xs.drop k = ys.drop k) : xs.drop (k + 1) = ys.drop (k + 1) := by
 rw [← List.drop_drop, ← List.drop_drop, h]
theorem aAb {xs ys : List Nat} {k : Nat} (h : xs.drop k = ys.drop k) : xs[k]? = ys[k]? := by
 have := congrArg (·[0]?) h;simpa [List.getElem?_drop] using this
theorem aA5 {b q i V X c x f s d c' : Nat} (h : V + b ^ (q + i) * c = b ^ q * (X * f)) (hs : s = c + x * f) (hd : s = d + b * c') :
  (V + b ^ (q + i) * d) + b ^ (q + (i + 1)) * c' = b ^ q * ((X + b ^ i * x) * f) := by
 have e1 : b ^ (q + i) * s = b ^ (q + i) * d + b ^ (q + (i + 1)) * c' := by rw [hd, ← Nat.add_assoc, Nat.pow_succ]; grind
 have e2 : b ^ (q + i) * s = b ^ (q + i) * c + b ^ (q + i) * (x * f) := by rw [hs]; grind
 have e3 : b ^ q * ((X + b ^ i * x) * f) = b ^ q * (X * f) + b ^ (q + i) * (x * f) := by rw [Nat.pow_add]; grind
 omega
def cmp (a b : Nat) : Int := if a < b then -1 else if b < a then 1 else 0
theorem fQ {a b : Nat} (h : a < b) : cmp a b = -1 := by simp [cmp, h]
theorem gT {a b : Nat} (h : b < a) : cmp a b = 1 := by simp [cmp, h, Nat.not_lt.2 (Nat.le_of_lt h)]
theorem cmp_eq (a : Nat) : cmp a a = 0 := by simp [cmp]
theorem pK (b : Nat) (ds : List Nat) (j : Nat) : vl b (ds.take (j + 1)) = vl b (ds.take j) + b ^ j * ds.getD j 0 := by
 rcases Nat.lt_or_ge j ds.length with h | h
 ·rw [dZ b h, List.getD_eq_getElem?_getD, List.getElem?_eq_getElem h]; rfl
 ·rw [jU b h, List.getD_eq_getElem?_getD, List.getElem?_eq_none h]; rfl
theorem bZ {b : Nat} (hb : 1 < b) : dg b 1 = 1 := by
 rw [lG hb (by decide), Nat.div_eq_of_lt hb, aQ]
theorem aW {b N : Nat} (hb : 1 < b) (h : dg b N = 0) : N = 0 := by
 have := (aD hb N 0).1 (by omega);simpa using this
theorem bS (b : Nat) {ds : List Nat} {j : Nat} (hj : j < ds.length) : vl b (ds.drop j) = ds[j] + b * vl b (ds.drop (j + 1)) := by
 rw [List.drop_eq_getElem_cons hj, bX]
theorem aA6 {b : Nat} {ds : List Nat} (j : Nat) (h : ∀ d ∈ ds, d < b) : vl b (ds.drop j) < b ^ (ds.length - j) := by
 have := bV (fA (n := j) h)
 rwa [List.length_drop] at this
theorem tT {b f g i O X z y o r0 : Nat} (hb : b = f * g) (h : f * O + r0 = X + b ^ i * (z % f)) (ho : o = z / f + (y % f) * g) :
  f * (O + b ^ i * o) + r0 = (X + b ^ i * z) + b ^ (i + 1) * (y % f) := by
 have e0 : f * (z / f) + z % f = z := Nat.div_add_mod _ _;have e1 : b ^ i * (f * (z / f) + z % f) = b ^ i * z := by rw [e0]
 have e2 : f * (O + b ^ i * o) = f * O + b ^ i * (f * (z / f)) + b ^ i * ((f * g) * (y % f)) := by rw [ho]; grind
 rw [e2, Nat.pow_succ, hb];rw [hb] at h e1;rw [Nat.mul_add] at e1;have e3 : (f * g) ^ i * ((f * g) * (y % f)) = (f * g) ^ i * (f * g) * (y % f) := by grind
 omega
def bl (N : Nat) : Nat := dg 2 N
theorem lC : bl 0 = 0 := aQ 2
theorem iE {N : Nat} (h : 0 < N) : bl N = bl (N / 2) + 1 := lG (by decide) h
theorem aT (N k : Nat) : bl N ≤ k ↔ N < 2 ^ k := aD (by decide) N k
theorem fT (N k : Nat) : k < bl N ↔ 2 ^ k ≤ N := by
 have := aT N k;omega
theorem aFx {N k : Nat} (h1 : 2 ^ k ≤ N) (h2 : N < 2 ^ (k + 1)) : bl N = k + 1 := by
 have := (fT N k).2 h1;have := (aT N (k + 1)).2 h2;omega
theorem aEI {V t m : Nat} (hV : V < 2 ^ m) (ht : 0 < t) : bl (V + 2 ^ m * t) = m + bl t := by
 have hp : 0 < bl t := by rw [iE ht]; omega
 obtain ⟨j, hj⟩ : ∃ j, bl t = j + 1 := ⟨bl t - 1, by omega⟩
 rw [hj];have h1 : 2 ^ j ≤ t := (fT t j).1 (by omega);have h2 : t < 2 ^ (j + 1) := (aT t (j + 1)).1 (by omega);refine aFx (k := m + j) ?_ ?_
 ·rw [Nat.pow_add];exact Nat.le_trans (Nat.mul_le_mul_left _ h1) (Nat.le_add_left _ _)
 ·rw [show m + j + 1 = m + (j + 1) from rfl, Nat.pow_add];have : 2 ^ m * (t + 1) ≤ 2 ^ m * 2 ^ (j + 1) := Nat.mul_le_mul_left _ h2;rw [Nat.mul_add] at this;omega
theorem vY {p : Nat} {ds : List Nat} (h : ∀ d ∈ ds, d < 2 ^ p) {n t : Nat} (hn : ds.length = n + 1) (ht : ds[n]? = some t) (h0 : 0 < t) :
  bl (vl (2 ^ p) ds) = p * n + bl t := by
 have e := aX (2 ^ p) ht;rw [List.take_of_length_le (by omega)] at e;rw [e, ← Nat.pow_mul];refine aEI ?_ h0;have := bV (aI (n := n) h);rw [List.length_take, Nat.min_eq_left (by omega), ← Nat.pow_mul] at this;exact this
def tz (N : Nat) : Nat := if h : N = 0 ∨ N % 2 = 1 then 0 else tz (N / 2) + 1
termination_by N
decreasing_by exact Nat.div_lt_self (by omega) (by omega)
theorem nI {N : Nat} (h : N % 2 = 1) : tz N = 0 := by rw [tz]; simp [h]
theorem jJ {N : Nat} (h0 : 0 < N) (h : N % 2 = 0) : tz N = tz (N / 2) + 1 := by rw [tz]; simp; omega
theorem aEJ {N m : Nat} (h : 0 < N) : tz (2 ^ m * N) = m + tz N := by
 induction m with
 | zero => simp
 | succ m ih =>
   have e : 2 ^ (m + 1) * N = 2 * (2 ^ m * N) := (by rw [Nat.pow_succ]; grind);have hp : 0 < 2 ^ m * N := Nat.mul_pos (Nat.pow_pos (by decide)) h;rw [e, jJ (by omega) (by omega), Nat.mul_div_cancel_left _ (by decide), ih]; omega
theorem eQ {N : Nat} (h : 0 < N) : N = 2 ^ tz N * (N / 2 ^ tz N) ∧ (N / 2 ^ tz N) % 2 = 1 := by
 induction N using Nat.strongRecOn with
 | _ N ih =>
   by_cases ho : N % 2 = 1
   ·rw [nI ho]; simp [ho]
   ·have he : N % 2 = 0 := (by omega);have := ih (N / 2) (by omega) (by omega);rw [jJ h he, Nat.pow_succ, Nat.mul_comm (2 ^ tz (N / 2)) 2, ← Nat.div_div_eq_div_mul];refine ⟨?_, this.2⟩;have h2 : N = 2 * (N / 2) := (by omega);rw [Nat.mul_assoc, ← this.1]; exact h2
theorem vZ {p : Nat} {ds : List Nat} {q t : Nat} (hz : ∀ j, j < q → ds[j]? = some 0) (ht : ds[q]? = some t) (h0 : 0 < t) (hp : t < 2 ^ p) :
  tz (vl (2 ^ p) ds) = p * q + tz t := by
 have hq : q < ds.length := (List.getElem?_eq_some_iff.1 ht).1;have e0 : ds.take q = List.replicate q 0 := by
  apply List.ext_getElem?;intro i;rcases Nat.lt_or_ge i q with hi | hi
  ·rw [List.getElem?_take_of_lt hi, hz i hi]; simp [hi]
  ·rw [List.getElem?_eq_none (by rw [List.length_take]; omega), List.getElem?_eq_none (by simpa using hi)]
 have e1 : vl (2 ^ p) ds = 2 ^ (p * q) * (t + 2 ^ p * vl (2 ^ p) (ds.drop (q + 1))) := by
  rw [bI (2 ^ p) q ds (by omega), e0, iD, ← Nat.pow_mul, List.drop_eq_getElem_cons hq, bX];rw [(List.getElem?_eq_some_iff.1 ht).2]; omega
 rw [e1, aEJ (by omega)];congr 1
 -- halving a sum whose second part has more zeros
 generalize vl (2 ^ p) (ds.drop (q + 1)) = R;clear e1 e0 hq ht hz
 induction p generalizing t with
 | zero => omega
 | succ p ih =>
   by_cases ho : t % 2 = 1
   ·rw [nI ho, nI];rw [Nat.pow_succ];have : 2 ^ p * 2 * R = 2 * (2 ^ p * R) := (by grind);omega
   ·have e : t + 2 ^ (p + 1) * R = 2 * (t / 2 + 2 ^ p * R) := by
     rw [Nat.pow_succ];have : 2 ^ p * 2 * R = 2 * (2 ^ p * R) := (by grind);omega
    rw [jJ h0 (by omega), e, jJ (by omega) (by omega), Nat.mul_div_cancel_left _ (by decide)];rw [ih (by omega) (by rw [Nat.pow_succ] at hp; omega)]
theorem aCR {P R V : Nat} (hP : 0 < P) : ((R / P) / (V / P + 1)) * V ≤ R := by
 have h1 : V ≤ (V / P + 1) * P := by
  have h := Nat.div_add_mod V P;have h2 := Nat.mod_lt V hP;rw [Nat.add_mul, Nat.one_mul, Nat.mul_comm]; omega
 have h2 : (R / P) / (V / P + 1) * (V / P + 1) ≤ R / P := Nat.div_mul_le_self _ _;have h3 : R / P * P ≤ R := Nat.div_mul_le_self _ _
 calc (R / P) / (V / P + 1) * V ≤ (R / P) / (V / P + 1) * ((V / P + 1) * P) := Nat.mul_le_mul_left _ h1
  _ = (R / P) / (V / P + 1) * (V / P + 1) * P := by rw [Nat.mul_assoc]
  _ ≤ R / P * P := Nat.mul_le_mul_right _ h2
  _ ≤ R := h3
theorem eD {b N k : Nat} (hb : 1 < b) (h : N < b ^ k) : dg b N ≤ k := (aD hb N k).2 h
theorem lI {M N Qt R : Nat} (h : M = Qt * N + R) (hR : R < N) : M / N = Qt ∧ M % N = R := by
 subst h;have hN : 0 < N := by omega
 constructor
 ·rw [Nat.mul_comm, Nat.mul_add_div hN, Nat.div_eq_of_lt hR, Nat.add_zero]
 ·rw [Nat.mul_comm, Nat.mul_add_mod, Nat.mod_eq_of_lt hR]
theorem drop_one {b : Nat} {ds : List Nat} {n : Nat} (h : ds.length = n + 1) : vl b (ds.drop n) = ds[n]'(by omega) := by
 rw [bS b (by omega), List.drop_of_length_le (by omega)]; simp [vl]
theorem oC {b : Nat} {ds : List Nat} {n : Nat} (h : ds.length = n + 2) : vl b (ds.drop n) = ds[n]'(by omega) + b * ds[n + 1]'(by omega) := by
 rw [bS b (by omega), bS b (by omega), List.drop_of_length_le (by omega)]; simp [vl]
theorem sK {b V T R a o g : Nat} (h : o * V + g = a + b * R) : a + b * (T * V + R) = (o + b * T) * V + g := by
 have e : (o + b * T) * V = o * V + b * (T * V) := by grind
 rw [e, Nat.mul_add]; omega
theorem wB {b V R a o g : Nat} (hs : o * V + g = a + b * R) (hR : a + b * R < V * b) : o < b := by
 rcases Nat.lt_or_ge o b with h2 | h2
 ·exact h2
 ·have h3 := Nat.mul_le_mul_right V h2;rw [Nat.mul_comm b] at h3;omega
theorem aBB {b V R a : Nat} (ha : a < b) (hR : R < V) : a + b * R < V * b := by
 have h1 : b * (R + 1) ≤ b * V := Nat.mul_le_mul_left _ hR;rw [Nat.mul_add, Nat.mul_one] at h1;rw [Nat.mul_comm V b];omega
theorem aDY {b V n o g S : Nat} (hb : 1 < b) (hs : o * V + g = S) (hS : S < V * b) (hV : n = dg b V) : dg b g ≤ n + 1 := by
 refine eD hb ?_;have h2 := aM hb V;rw [← hV] at h2;have h3 : V * b ≤ b ^ n * b := Nat.mul_le_mul_right _ (Nat.le_of_lt h2);rw [Nat.pow_succ];omega
theorem aA7 {M N Qt R f : Nat} (hf : 0 < f) (h : M * f = Qt * (N * f) + R) (hR : R < N * f) : M / N = Qt ∧ M % N = R / f ∧ R = M % N * f := by
 have e : R % f = 0 := by
  have h1 : (M * f) % f = 0 := Nat.mul_mod_left _ _;rw [h, ← Nat.mul_assoc, Nat.add_comm, Nat.add_mul_mod_self_right] at h1;exact h1
 obtain ⟨r, rfl⟩ := Nat.dvd_of_mod_eq_zero e;have h2 : M = Qt * N + r := by
  apply Nat.eq_of_mul_eq_mul_right hf;rw [h]; grind
 have h3 : r < N := by
  rw [Nat.mul_comm f r] at hR;exact Nat.lt_of_mul_lt_mul_right hR
 obtain ⟨h4, h5⟩ := lI h2 h3;exact ⟨h4, by rw [h5, Nat.mul_div_cancel_left _ hf], by rw [h5, Nat.mul_comm]⟩
def aC (g : Nat → Nat → Nat → Nat × Nat) : List Nat → List Nat → Nat → List Nat × Nat
 | x :: xs, y :: ys, c => ((g x y c).1 :: (aC g xs ys (g x y c).2).1, (aC g xs ys (g x y c).2).2)
 | _, _, c => ([], c)
theorem bU (g) (ys c) : aC g [] ys c = ([], c) := rfl
theorem jB (g) (x y xs ys c) : aC g (x :: xs) (y :: ys) c = ((g x y c).1 :: (aC g xs ys (g x y c).2).1, (aC g xs ys (g x y c).2).2) := rfl
theorem aP (g) (xs ys c) (h : xs.length = ys.length) : (aC g xs ys c).1.length = xs.length := by
 induction xs generalizing ys c with
 | nil => rfl
 | cons x xs ih =>
   cases ys with
   | nil => simp at h
   | cons y ys => simp only [jB, List.length_cons]; rw [ih]; simpa using h
theorem aBC (g) (xs ys : List Nat) (x y c) (h : xs.length = ys.length) :
  aC g (xs ++ [x]) (ys ++ [y]) c = ((aC g xs ys c).1 ++ [(g x y (aC g xs ys c).2).1], (g x y (aC g xs ys c).2).2) := by
 induction xs generalizing ys c with
 | nil =>
   cases ys with
   | nil => rfl
   | cons y ys => simp at h
 | cons a xs ih =>
   cases ys with
   | nil => simp at h
   | cons b ys =>
     simp only [List.cons_append, jB];rw [ih _ _ (by simpa using h)]
theorem fE (g) {xs ys : List Nat} {k : Nat} (c) (hx : k < xs.length) (hy : k < ys.length) : aC g (xs.take (k + 1)) (ys.take (k + 1)) c =
   ((aC g (xs.take k) (ys.take k) c).1 ++ [(g xs[k] ys[k] (aC g (xs.take k) (ys.take k) c).2).1], (g xs[k] ys[k] (aC g (xs.take k) (ys.take k) c).2).2) := by
 rw [List.take_succ_eq_append_getElem hx, List.take_succ_eq_append_getElem hy, aBC];rw [List.length_take, List.length_take]; omega
theorem dS {cs o : List Nat} {off k d : Nat} (ho : o.length = k) (h : off + k < cs.length) :
  (cs.take off ++ o ++ cs.drop (off + k)).set (off + k) d = cs.take off ++ (o ++ [d]) ++ cs.drop (off + (k + 1)) := by
 have e : (cs.take off ++ o).length = off + k := by rw [List.length_append, List.length_take, ho]; omega
 rw [List.set_append, if_neg (by omega), e, Nat.sub_self, List.drop_eq_getElem_cons h, List.set_cons_zero];simp [Nat.add_assoc]
theorem oD {cs o : List Nat} {off k j : Nat} (ho : o.length = k) (h : off + k ≤ cs.length) (hj : off + k ≤ j) :
  (cs.take off ++ o ++ cs.drop (off + k))[j]? = cs[j]? := by
 have e : (cs.take off ++ o).length = off + k := by rw [List.length_append, List.length_take, ho]; omega
 rw [List.getElem?_append_right (by omega), e, List.getElem?_drop];congr 1; omega
theorem aO {cs o : List Nat} {off k : Nat} (ho : o.length = k) (h : off + k ≤ cs.length) : (cs.take off ++ o ++ cs.drop (off + k)).length = cs.length := by
 rw [List.length_append, List.length_append, List.length_take, List.length_drop, ho]; omega
theorem bL (cs : List Nat) (off : Nat) : cs.take off ++ [] ++ cs.drop (off + 0) = cs := by simp
theorem mul_lt {x f : Nat} (hx : x < 18446744073709551616) (hf : f < 18446744073709551616) : x * f ≤ 340282366920938463426481119284349108225 := by
 have := Nat.mul_le_mul (show x ≤ 18446744073709551615 by omega) (show f ≤ 18446744073709551615 by omega);exact this
theorem xM {x f c hi lo s o : Nat} (hx : x < 18446744073709551616) (hf : f < 18446744073709551616) (hc : c < 18446744073709551616) (h1 : x * f / 18446744073709551616 = hi) (h2 : x * f % 18446744073709551616 = lo) (h3 : (lo + c) % 18446744073709551616 = s) (h4 : (lo + c) / 18446744073709551616 = o) :
  s = (x * f + c) % 18446744073709551616 ∧ hi + o = (x * f + c) / 18446744073709551616 ∧ hi + o < 18446744073709551616 := by
 have h := mul_lt hx hf;generalize x * f = P at *
 omega
theorem pM {x y f c hi lo s o s2 o2 : Nat} (hx : x < 18446744073709551616) (hy : y < 18446744073709551616) (hf : f < 18446744073709551616) (hc : c < 18446744073709551616) (h1 : y * f / 18446744073709551616 = hi) (h2 : y * f % 18446744073709551616 = lo) (h3 : (lo + c) % 18446744073709551616 = s) (h4 : (lo + c) / 18446744073709551616 = o) (h5 : (s + x) % 18446744073709551616 = s2) (h6 : (s + x) / 18446744073709551616 = o2) :
  s2 = (y * f + c + x) % 18446744073709551616 ∧ hi + o + o2 = (y * f + c + x) / 18446744073709551616 ∧ hi + o + o2 < 18446744073709551616 ∧ hi + o < 18446744073709551616 := by
 have h := mul_lt hy hf;generalize y * f = P at *
 omega
def iO (f x y c : Nat) : Nat × Nat := ((x + 18446744073709551616 - (y * f + c) % 18446744073709551616) % 18446744073709551616, (y * f + c) / 18446744073709551616 + if x < (y * f + c) % 18446744073709551616 then 1 else 0)
theorem pO {x y f c hi lo s o s2 o2 : Nat} (hy : y < 18446744073709551616) (hf : f < 18446744073709551616) (hc : c < 18446744073709551616) (h1 : y * f / 18446744073709551616 = hi) (h2 : y * f % 18446744073709551616 = lo) (h3 : (lo + c) % 18446744073709551616 = s) (h4 : (lo + c) / 18446744073709551616 = o)
  (h5 : (x + 18446744073709551616 - s) % 18446744073709551616 = s2) (h6 : (if x < s then 1 else 0) = o2) :
  s2 = (iO f x y c).1 ∧ hi + o + o2 = (iO f x y c).2 ∧ hi + o + o2 < 18446744073709551616 ∧ hi + o < 18446744073709551616 := by
 have h := mul_lt hy hf;unfold iO;generalize y * f = P at *
 have e1 : s = (P + c) % 18446744073709551616 := by omega
 have e2 : hi + o = (P + c) / 18446744073709551616 := by omega
 simp only;rw [← e1, ← e2, h6];have e3 : P + c ≤ 340282366920938463444927863358058659840 := by omega
 have e4 : s = 0 → o2 = 0 := by intro h; subst h; simp at h6; exact h6.symm
 have e5 : o2 ≤ 1 := by rw [← h6]; split <;> omega
 refine ⟨h5.symm, rfl, ?_, ?_⟩
 ·rcases Nat.eq_zero_or_pos o2 with h0 | h0
  ·omega
  ·have : s ≠ 0 := fun h => (by have := e4 h; omega);omega
 ·omega
theorem aCS {f x y c : Nat} (hx : x < 18446744073709551616) : x + 18446744073709551616 * (iO f x y c).2 = (iO f x y c).1 + (y * f + c) := by
 unfold iO;simp only;generalize y * f + c = P;split <;> omega
theorem aDZ (f x y c : Nat) : (iO f x y c).1 < 18446744073709551616 := by
 unfold iO; simp only; omega
def sg (c : Nat) : Int := if c < 9223372036854775808 then c else (c : Int) - 18446744073709551616
def dK (f h x y c : Nat) : Nat × Nat := ((((x * f : Nat) - (y * h : Nat) + sg c : Int) % 18446744073709551616).toNat, (((x * f : Nat) - (y * h : Nat) + sg c : Int) / 18446744073709551616 % 18446744073709551616).toNat)
theorem aD0 (c : Nat) (hc : c < 18446744073709551616) : ∃ k : Int, sg c = c - 18446744073709551616 * k ∧ (((c : Int) + 9223372036854775808) % 18446744073709551616 - 9223372036854775808) / 9223372036854775808 = -k := by
 unfold sg;rcases Nat.lt_or_ge c 9223372036854775808 with hlt | hge
 ·exact ⟨0, by rw [if_pos hlt]; omega, by omega⟩
 ·exact ⟨1, by rw [if_neg (by omega)]; omega, by omega⟩
theorem aD1 {x y f h c hix lox hiy loy s o s2 o2 : Nat} (hc : c < 18446744073709551616) (h1 : x * f / 18446744073709551616 = hix) (h2 : x * f % 18446744073709551616 = lox) (h3 : y * h / 18446744073709551616 = hiy) (h4 : y * h % 18446744073709551616 = loy)
  (h5 : (lox + 18446744073709551616 - loy) % 18446744073709551616 = s) (h6 : (if lox < loy then 1 else 0) = o) (h7 : (s + c) % 18446744073709551616 = s2) (h8 : (s + c) / 18446744073709551616 = o2) :
  s2 = (dK f h x y c).1 ∧ ((((((hix : Int) - hiy) % 18446744073709551616 - o) % 18446744073709551616 + o2) % 18446744073709551616 +
   ((((c : Int) + 9223372036854775808) % 18446744073709551616 - 9223372036854775808) / 9223372036854775808) % 18446744073709551616) % 18446744073709551616) = ((dK f h x y c).2 : Int) := by
 have e5 : (lox : Int) - loy = s - 18446744073709551616 * o := by
  have hl1 : lox < 18446744073709551616 := (by rw [← h2]; exact Nat.mod_lt _ (by decide));have hl2 : loy < 18446744073709551616 := (by rw [← h4]; exact Nat.mod_lt _ (by decide));clear h1 h2 h3 h4 h7 h8;rcases Nat.lt_or_ge lox loy with hlt | hge
  ·rw [if_pos hlt] at h6; omega
  ·rw [if_neg (by omega)] at h6; omega
 have e6 : (s : Int) + c = s2 + 18446744073709551616 * o2 := by clear h1 h2 h3 h4 h5 h6 e5; omega
 have e7 : s2 < 18446744073709551616 := by rw [← h7]; exact Nat.mod_lt _ (by decide)
 have eP : ((x * f : Nat) : Int) = 18446744073709551616 * hix + lox := by
  have := Nat.div_add_mod (x * f) 18446744073709551616;rw [h1, h2] at this;rw [← this, Int.natCast_add, Int.natCast_mul]; rfl
 have eR : ((y * h : Nat) : Int) = 18446744073709551616 * hiy + loy := by
  have := Nat.div_add_mod (y * h) 18446744073709551616;rw [h3, h4] at this;rw [← this, Int.natCast_add, Int.natCast_mul]; rfl
 obtain ⟨k, hk, hk2⟩ := aD0 c hc;have eT : ((x * f : Nat) : Int) - (y * h : Nat) + sg c = s2 + 18446744073709551616 * ((hix : Int) - hiy - o + o2 + -k) := by
  rw [eP, eR, hk];clear h1 h2 h3 h4 h5 h6 h7 h8 eP eR hk hk2 hc;omega
 unfold dK;rw [eT, hk2];clear h1 h2 h3 h4 h5 h6 h7 h8 e5 e6 eP eR hk hk2 eT;constructor
 ·simp only; omega
 ·simp only [Int.emod_sub_emod, Int.emod_add_emod, Int.add_emod_emod];generalize (hix : Int) - hiy - o + o2 + -k = z;omega
theorem rA (f h x y c : Nat) : (dK f h x y c).1 < 18446744073709551616 ∧ (dK f h x y c).2 < 18446744073709551616 := by
 unfold dK; simp only;constructor <;> omega
def shL (p x c : Nat) : Nat × Nat := (x * 2 ^ p % 18446744073709551616 + c, x / 2 ^ (64 - p))
theorem tV {p x c : Nat} (hp : p < 64) (hx : x < 18446744073709551616) (hc : c < 2 ^ p) : ((x * 2 ^ p % 18446744073709551616) ||| c) = (shL p x c).1 ∧ (shL p x c).1 < 18446744073709551616 ∧ (shL p x c).2 < 2 ^ p ∧ x * 2 ^ p + c = (shL p x c).1 + 18446744073709551616 * (shL p x c).2 := by
 have e : 18446744073709551616 = 2 ^ p * 2 ^ (64 - p) := by rw [← Nat.pow_add, show p + (64 - p) = 64 by omega]
 have h0 : 0 < 2 ^ p := Nat.pow_pos (by decide);have h1 : 0 < 2 ^ (64 - p) := Nat.pow_pos (by decide);have e1 : x * 2 ^ p % 18446744073709551616 = 2 ^ p * (x % 2 ^ (64 - p)) := by
  rw [e, Nat.mul_comm x, Nat.mul_mod_mul_left]
 have h2 : x % 2 ^ (64 - p) + 1 ≤ 2 ^ (64 - p) := Nat.mod_lt _ h1;have h3 : 2 ^ p * (x % 2 ^ (64 - p) + 1) ≤ 2 ^ p * 2 ^ (64 - p) := Nat.mul_le_mul_left _ h2;rw [Nat.mul_add, ← e] at h3;have h4 : x / 2 ^ (64 - p) < 2 ^ p := by
  rw [Nat.div_lt_iff_lt_mul h1, ← e]; exact hx
 unfold shL;simp only;rw [e1];refine ⟨(Nat.two_pow_add_eq_or_of_lt hc _).symm, by omega, h4, ?_⟩;have h5 := Nat.div_add_mod x (2 ^ (64 - p));have h6 : 2 ^ p * x = 2 ^ p * (2 ^ (64 - p) * (x / 2 ^ (64 - p))) + 2 ^ p * (x % 2 ^ (64 - p)) := by rw [← Nat.mul_add, h5]
 rw [← Nat.mul_assoc, ← e] at h6;rw [Nat.mul_comm x]; omega
def shR (p above y : Nat) : Nat := y / 2 ^ p + above * 2 ^ (64 - p) % 18446744073709551616
theorem tX {p a y : Nat} (hp : p < 64) (hy : y < 18446744073709551616) : ((y / 2 ^ p) ||| (a * 2 ^ (64 - p) % 18446744073709551616)) = shR p a y ∧ shR p a y < 18446744073709551616 ∧ shR p a y = y / 2 ^ p + (a % 2 ^ p) * 2 ^ (64 - p) := by
 have e : 18446744073709551616 = 2 ^ (64 - p) * 2 ^ p := by rw [← Nat.pow_add, show 64 - p + p = 64 by omega]
 have h0 : 0 < 2 ^ p := Nat.pow_pos (by decide);have h1 : 0 < 2 ^ (64 - p) := Nat.pow_pos (by decide);have e1 : a * 2 ^ (64 - p) % 18446744073709551616 = 2 ^ (64 - p) * (a % 2 ^ p) := by
  rw [e, Nat.mul_comm a, Nat.mul_mod_mul_left]
 have h4 : y / 2 ^ p < 2 ^ (64 - p) := by
  rw [Nat.div_lt_iff_lt_mul h0, ← e]; exact hy
 have h2 : a % 2 ^ p + 1 ≤ 2 ^ p := Nat.mod_lt _ h0;have h3 : 2 ^ (64 - p) * (a % 2 ^ p + 1) ≤ 2 ^ (64 - p) * 2 ^ p := Nat.mul_le_mul_left _ h2;rw [Nat.mul_add, ← e] at h3;unfold shR;rw [e1];refine ⟨?_, by omega, by rw [Nat.mul_comm (a % 2 ^ p)]⟩;rw [Nat.or_comm, ← Nat.two_pow_add_eq_or_of_lt h4, Nat.add_comm]
theorem gV {b : Nat} {g : Nat → Nat → Nat → Nat × Nat} {P : Nat → Prop} (hg : ∀ x y c, x < b → y < b → P c → (g x y c).1 < b ∧ P (g x y c).2) {xs ys : List Nat} {c : Nat}
  (h : xs.length = ys.length) (hx : ∀ d ∈ xs, d < b) (hy : ∀ d ∈ ys, d < b) (hc : P c) : (∀ d ∈ (aC g xs ys c).1, d < b) ∧ P (aC g xs ys c).2 := by
 induction xs generalizing ys c with
 | nil => exact ⟨by simp [bU], hc⟩
 | cons x xs ih =>
   cases ys with
   | nil => simp at h
   | cons y ys =>
     have h1 := hg x y c (hx x (by simp)) (hy y (by simp)) hc;have h2 := ih (ys := ys) (c := (g x y c).2) (by simpa using h) (fun d hd => hx d (by simp [hd])) (fun d hd => hy d (by simp [hd])) h1.2;rw [jB];refine ⟨fun d hd => ?_, h2.2⟩;simp only [List.mem_cons] at hd;rcases hd with rfl | hd
     ·exact h1.1
     ·exact h2.1 d hd
theorem lJ {b p q : Nat} {g : Nat → Nat → Nat → Nat × Nat} {P : Nat → Prop} (hg : ∀ x y c, x < b → y < b → P c → (g x y c).1 < b ∧ P (g x y c).2) (hv : ∀ x y c, x < b → y < b → P c → (g x y c).1 + b * (g x y c).2 = p * x + q * y + c) {xs ys : List Nat} {c : Nat} (h : xs.length = ys.length) (hx : ∀ d ∈ xs, d < b) (hy : ∀ d ∈ ys, d < b) (hc : P c) :
  vl b (aC g xs ys c).1 + b ^ xs.length * (aC g xs ys c).2 = p * vl b xs + q * vl b ys + c := by
 induction xs generalizing ys c with
 | nil =>
   cases ys with
   | nil => simp [bU, vl]
   | cons y ys => simp at h
 | cons x xs ih =>
   cases ys with
   | nil => simp at h
   | cons y ys =>
     have hx0 := hx x (by simp);have hy0 := hy y (by simp);have h1 := hg x y c hx0 hy0 hc;have h3 := hv x y c hx0 hy0 hc;have h2 := ih (ys := ys) (c := (g x y c).2) (by simpa using h) (fun d hd => hx d (by simp [hd])) (fun d hd => hy d (by simp [hd])) h1.2;rw [jB];simp only [bX, List.length_cons, Nat.pow_succ];generalize (aC g xs ys (g x y c).2).1 = r at *
     generalize (aC g xs ys (g x y c).2).2 = e at *
     generalize (g x y c).1 = s at *
     generalize (g x y c).2 = t at *
     have h4 : b * (vl b r + b ^ xs.length * e) = b * (p * vl b xs + q * vl b ys + t) := (by rw [h2]);grind
theorem pQ {b q : Nat} {g : Nat → Nat → Nat → Nat × Nat} {P : Nat → Prop} (hg : ∀ x y c, x < b → y < b → P c → (g x y c).1 < b ∧ P (g x y c).2) (hv : ∀ x y c, x < b → y < b → P c → x + b * (g x y c).2 = (g x y c).1 + (q * y + c)) {xs ys : List Nat} {c : Nat} (h : xs.length = ys.length) (hx : ∀ d ∈ xs, d < b) (hy : ∀ d ∈ ys, d < b) (hc : P c) :
  vl b xs + b ^ xs.length * (aC g xs ys c).2 = vl b (aC g xs ys c).1 + (q * vl b ys + c) := by
 induction xs generalizing ys c with
 | nil =>
   cases ys with
   | nil => simp [bU, vl]
   | cons y ys => simp at h
 | cons x xs ih =>
   cases ys with
   | nil => simp at h
   | cons y ys =>
     have hx0 := hx x (by simp);have hy0 := hy y (by simp);have h1 := hg x y c hx0 hy0 hc;have h3 := hv x y c hx0 hy0 hc;have h2 := ih (ys := ys) (c := (g x y c).2) (by simpa using h) (fun d hd => hx d (by simp [hd])) (fun d hd => hy d (by simp [hd])) h1.2;rw [jB];simp only [bX, List.length_cons, Nat.pow_succ];generalize (aC g xs ys (g x y c).2).1 = r at *
     generalize (aC g xs ys (g x y c).2).2 = e at *
     generalize (g x y c).1 = s at *
     generalize (g x y c).2 = t at *
     have h4 : b * (vl b xs + b ^ xs.length * e) = b * (vl b r + (q * vl b ys + t)) := (by rw [h2]);grind
theorem pI {cs o1 o2 : List Nat} {off k m : Nat} (h1 : o1.length = k) (h2 : o2.length = m) (h : off + (k + m) ≤ cs.length) :
  (cs.take off ++ o1 ++ cs.drop (off + k)).take (off + k) ++ o2 ++ (cs.take off ++ o1 ++ cs.drop (off + k)).drop (off + k + m) = cs.take off ++ (o1 ++ o2) ++ cs.drop (off + (k + m)) := by
 have e : (cs.take off ++ o1).length = off + k := by rw [List.length_append, List.length_take, h1]; omega
 rw [List.take_append_of_le_length (by omega), List.take_of_length_le (by omega), List.drop_append, List.drop_of_length_le (by omega), e, List.drop_drop];simp only [List.nil_append, List.append_assoc];rw [show off + k + m - (off + k) = m by omega, show off + k + m = off + (k + m) by omega]
theorem aBD {b m n v1 c1 v2 c2 X1 X2 Y : Nat} (hmn : m ≤ n) (h1 : v1 + b ^ m * c1 = 1 * X1 + 1 * Y + 0) (h2 : v2 + b ^ (n - m) * c2 = 1 * X2 + 0 * X2 + c1) :
  v1 + b ^ m * v2 + b ^ n * c2 = X1 + b ^ m * X2 + Y := by
 have e : b ^ n = b ^ m * b ^ (n - m) := by rw [← Nat.pow_add, show m + (n - m) = n by omega]
 have h3 : b ^ m * (v2 + b ^ (n - m) * c2) = b ^ m * (X2 + c1) := by rw [h2]; congr 1; omega
 rw [Nat.mul_add, Nat.mul_add, ← Nat.mul_assoc, ← e] at h3;omega
theorem aBE {b m n v1 c1 v2 c2 X1 X2 Y : Nat} (hmn : m ≤ n) (h1 : X1 + b ^ m * c1 = v1 + (1 * Y + 0)) (h2 : X2 + b ^ (n - m) * c2 = v2 + (0 * X2 + c1)) :
  X1 + b ^ m * X2 + b ^ n * c2 = v1 + b ^ m * v2 + Y := by
 have e : b ^ n = b ^ m * b ^ (n - m) := by rw [← Nat.pow_add, show m + (n - m) = n by omega]
 have h3 : b ^ m * (X2 + b ^ (n - m) * c2) = b ^ m * (v2 + c1) := by rw [h2]; congr 1; omega
 rw [Nat.mul_add, Nat.mul_add, ← Nat.mul_assoc, ← e] at h3;omega
theorem xN {x f : Nat} (hx : x < 18446744073709551616) (hf : f < 9223372036854775808) : x * f ≤ 170141183460469231704017187605319778305 := by
 have := Nat.mul_le_mul (show x ≤ 18446744073709551615 by omega) (show f ≤ 9223372036854775807 by omega);exact this
theorem aBF {c : Nat} (hc : c < 18446744073709551616) : -9223372036854775808 ≤ sg c ∧ sg c ≤ 9223372036854775807 := by
 unfold sg; split <;> omega
theorem aCT {z : Int} (h1 : -9223372036854775808 ≤ z) (h2 : z ≤ 9223372036854775807) : sg (z % 18446744073709551616).toNat = z := by
 unfold sg; split <;> omega
theorem aCU {f h x y c : Nat} (hx : x < 18446744073709551616) (hy : y < 18446744073709551616) (hc : c < 18446744073709551616) (hf : f < 9223372036854775808) (hh : h < 9223372036854775808) :
  ((dK f h x y c).1 : Int) + 18446744073709551616 * sg (dK f h x y c).2 = (x * f : Nat) - (y * h : Nat) + sg c := by
 have h1 := xN hx hf;have h2 := xN hy hh;have h3 := aBF hc;unfold dK;generalize sg c = k at *
 generalize x * f = P at *
 generalize y * h = R at *
 simp only;have e : (P : Int) - R + k = 18446744073709551616 * (((P : Int) - R + k) / 18446744073709551616) + ((P : Int) - R + k) % 18446744073709551616 := by omega
 have b1 : -9223372036854775808 ≤ ((P : Int) - R + k) / 18446744073709551616 := by omega
 have b2 : ((P : Int) - R + k) / 18446744073709551616 ≤ 9223372036854775807 := by omega
 rw [aCT b1 b2];have b3 : 0 ≤ ((P : Int) - R + k) % 18446744073709551616 := by omega
 omega
theorem aD2 : sg 0 = 0 := rfl
theorem aBG {f h : Nat} (hf : f < 9223372036854775808) (hh : h < 9223372036854775808) {xs ys : List Nat} {c : Nat} (hl : xs.length = ys.length) (hx : ∀ d ∈ xs, d < 18446744073709551616) (hy : ∀ d ∈ ys, d < 18446744073709551616) (hc : c < 18446744073709551616) :
  (vl 18446744073709551616 (aC (dK f h) xs ys c).1 : Int) + 18446744073709551616 ^ xs.length * sg (aC (dK f h) xs ys c).2 = f * vl 18446744073709551616 xs - h * vl 18446744073709551616 ys + sg c := by
 induction xs generalizing ys c with
 | nil =>
   cases ys with
   | nil => simp [bU, vl]
   | cons y ys => simp at hl
 | cons x xs ih =>
   cases ys with
   | nil => simp at hl
   | cons y ys =>
     have hx0 := hx x (by simp);have hy0 := hy y (by simp);have h1 := (rA f h x y c).2;have h3 := aCU hx0 hy0 hc hf hh;have h2 := ih (ys := ys) (c := (dK f h x y c).2) (by simpa using hl) (fun d hd => hx d (by simp [hd])) (fun d hd => hy d (by simp [hd])) h1;rw [jB];simp only [bX, List.length_cons];generalize (aC (dK f h) xs ys (dK f h x y c).2).1 = r at *
     generalize (aC (dK f h) xs ys (dK f h x y c).2).2 = e at *
     generalize (dK f h x y c).1 = s at *
     generalize (dK f h x y c).2 = t at *
     rw [Int.pow_succ, Int.natCast_add, Int.natCast_add, Int.natCast_add, Int.natCast_mul, Int.natCast_mul, Int.natCast_mul];rw [Int.natCast_mul, Int.natCast_mul] at h3;generalize sg e = se at *
     generalize sg t = st at *
     generalize sg c = sc at *
     generalize (18446744073709551616 : Int) ^ xs.length = p at *
     generalize (vl 18446744073709551616 r : Int) = vr at *
     generalize (vl 18446744073709551616 xs : Int) = vx at *
     generalize (vl 18446744073709551616 ys : Int) = vy at *
     generalize hb : (18446744073709551616 : Int) = b at *
     have hb2 : ((18446744073709551616 : Nat) : Int) = b := hb;rw [hb2];grind
theorem wX {f h : Nat} (hf : f < 9223372036854775808) (hh : h < 9223372036854775808) {xs ys : List Nat} (hl : xs.length = ys.length) (hx : ∀ d ∈ xs, d < 18446744073709551616) (hy : ∀ d ∈ ys, d < 18446744073709551616) (hle : h * vl 18446744073709551616 ys ≤ f * vl 18446744073709551616 xs) (hlt : f * vl 18446744073709551616 xs - h * vl 18446744073709551616 ys < 18446744073709551616 ^ xs.length) :
  vl 18446744073709551616 (aC (dK f h) xs ys 0).1 = f * vl 18446744073709551616 xs - h * vl 18446744073709551616 ys := by
 have h1 := aBG hf hh hl hx hy (c := 0) (by decide);have h2 := (gV (b := 18446744073709551616) (P := (· < 18446744073709551616)) (g := dK f h) (fun x y c _ _ _ => rA f h x y c) hl hx hy (c := 0) (by decide)).1;have h3 := bV h2;rw [aP _ _ _ _ hl] at h3;rw [aD2] at h1;generalize vl 18446744073709551616 (aC (dK f h) xs ys 0).1 = o at *
 generalize sg (aC (dK f h) xs ys 0).2 = s at *
 have e1 : ((f * vl 18446744073709551616 xs : Nat) : Int) = f * vl 18446744073709551616 xs := Int.natCast_mul _ _;have e2 : ((h * vl 18446744073709551616 ys : Nat) : Int) = h * vl 18446744073709551616 ys := Int.natCast_mul _ _;rw [← e1, ← e2] at h1;generalize f * vl 18446744073709551616 xs = F at *
 generalize h * vl 18446744073709551616 ys = H at *
 have e3 : ((18446744073709551616 ^ xs.length : Nat) : Int) = 18446744073709551616 ^ xs.length := Int.natCast_pow _ _;rw [← e3] at h1;generalize 18446744073709551616 ^ xs.length = p at *
 have h4 : s = 0 := by
  rcases Int.lt_trichotomy s 0 with h | h | h
  ·exfalso;have : (p : Int) * s ≤ p * (-1) := Int.mul_le_mul_of_nonneg_left (by omega) (by omega);omega
  ·exact h
  ·exfalso;have : (p : Int) * 1 ≤ p * s := Int.mul_le_mul_of_nonneg_left (by omega) (by omega);omega
 rw [h4, Int.mul_zero] at h1;omega
theorem aD3 {b n K L H c : Nat} {cs o : List Nat} (hb : 2 ≤ b) (lc : cs.length = K + 1) (hn : n ≤ K + 1) (hL : vl b cs = L)
  (hv : vl b o + b ^ (K + 1 - n) * c = vl b (cs.drop n) + H) (h1 : L < b ^ K) (h2 : b ^ n * H < b ^ K) : vl b (cs.take n ++ o) = L + b ^ n * H := by
 have e1 : vl b (cs.take n ++ o) = vl b (cs.take n) + b ^ n * vl b o := by
  rw [fD, List.length_take, Nat.min_eq_left (by omega)]
 have e2 := bI b n cs (by omega);have e3 : b ^ n * vl b o + b ^ (K + 1) * c = b ^ n * vl b (cs.drop n) + b ^ n * H := by
  rw [show b ^ (K + 1) = b ^ n * b ^ (K + 1 - n) by rw [← Nat.pow_add]; congr 1; omega, Nat.mul_assoc, ← Nat.mul_add, hv, Nat.mul_add]
 rcases Nat.eq_zero_or_pos c with rfl | hc
 ·rw [e1]; omega
 ·exfalso;have h3 : b ^ (K + 1) ≤ b ^ (K + 1) * c := Nat.le_mul_of_pos_right _ hc;have h4 : 2 * b ^ K ≤ b ^ (K + 1) := (by rw [Nat.pow_succ, Nat.mul_comm]; exact Nat.mul_le_mul_left _ hb);omega
theorem aA8 {b n m K H : Nat} (hb : 0 < b) (h : H < b ^ m) (hk : n + m ≤ K) : b ^ n * H < b ^ K := by
 have h1 : b ^ n * H < b ^ n * b ^ m := (Nat.mul_lt_mul_left (Nat.pow_pos hb)).2 h;rw [← Nat.pow_add] at h1;exact Nat.lt_of_lt_of_le h1 (Nat.pow_le_pow_right hb hk)
theorem nJ (b : Nat) (xs : List Nat) (n : Nat) : vl b (xs ++ List.replicate n 0) = vl b xs := by rw [fD, iD]; simp
theorem rC {b n : Nat} {xs : List Nat} (hb : 0 < b) (h : ∀ d ∈ xs, d < b) : ∀ d ∈ xs ++ List.replicate n 0, d < b := by
 intro d hd;rcases List.mem_append.1 hd with hd | hd
 ·exact h d hd
 ·exact cZ hb d hd
theorem gW {b : Nat} {xs ys : List Nat} (h : ∀ d ∈ xs, d < b) (h2 : ∀ d ∈ ys, d < b) : ∀ d ∈ xs ++ ys, d < b := by
 intro d hd;rcases List.mem_append.1 hd with hd | hd
 ·exact h d hd
 ·exact h2 d hd
theorem aA9 {m n c : Nat} {o : List Nat} (lo : o.length = n) :
  ((List.replicate (m + n + 1) 0).take m ++ o ++ (List.replicate (m + n + 1) 0).drop (m + n)).set (m + n) c = List.replicate m 0 ++ (o ++ [c]) := by
 have e1 : (List.replicate (m + n + 1) 0).take m = List.replicate m 0 := by rw [List.take_replicate, Nat.min_eq_left (by omega)]
 have e2 : (List.replicate (m + n + 1) (0 : Nat)).drop (m + n) = [0] := by rw [List.drop_replicate]; rw [show m + n + 1 - (m + n) = 1 by omega]; rfl
 rw [e1, e2, List.set_append, if_neg (by rw [List.length_append, List.length_replicate]; omega), List.length_append, List.length_replicate, lo, Nat.sub_self, List.append_assoc];rfl
theorem aCV {b m n c p X k : Nat} {o : List Nat} (lo : o.length = n) (hv : vl b o + b ^ n * c = p * X) (hk : b ^ m * p = k) :
  vl b (List.replicate m 0 ++ (o ++ [c])) = X * k := by
 rw [fD, iD, List.length_replicate, jA, lo, hv, ← hk, ← Nat.mul_assoc, Nat.mul_comm X];simp
theorem wC (k : Nat) : 18446744073709551616 ^ (k / 64) * 2 ^ (k % 64) = 2 ^ k := by
 rw [show (18446744073709551616 : Nat) = 2 ^ 64 from rfl, ← Nat.pow_mul, ← Nat.pow_add, Nat.div_add_mod]
theorem xO (p : Nat) (hp : p < 64) (x y c : Nat) (hx : x < 18446744073709551616) (_ : y < 18446744073709551616) (hc : c < 2 ^ p) : (shL p x c).1 < 18446744073709551616 ∧ (shL p x c).2 < 2 ^ p :=
 ⟨(tV hp hx hc).2.1, (tV hp hx hc).2.2.1⟩
theorem aD4 (p : Nat) (hp : p < 64) (x y c : Nat) (hx : x < 18446744073709551616) (_ : y < 18446744073709551616) (hc : c < 2 ^ p) : (shL p x c).1 + 18446744073709551616 * (shL p x c).2 = 2 ^ p * x + 0 * y + c := by
 rw [← (tV hp hx hc).2.2.2, Nat.mul_comm x]; omega
def iF (p : Nat) : List Nat → List Nat
 | [] => []
 | [x] => [x / 2 ^ p]
 | x :: y :: r => shR p y x :: iF p (y :: r)
theorem rZ (p : Nat) : ∀ xs : List Nat, (iF p xs).length = xs.length
 | [] => rfl
 | [_] => rfl
 | x :: y :: r => by rw [iF, List.length_cons, rZ p (y :: r)]; rfl
theorem aAv {p : Nat} (hp : p < 64) : ∀ {xs : List Nat}, (∀ d ∈ xs, d < 18446744073709551616) → ∀ d ∈ iF p xs, d < 18446744073709551616
 | [], _ => by simp [iF]
 | [x], h => by
   intro d hd;simp only [iF, List.mem_singleton] at hd;subst hd;exact Nat.lt_of_le_of_lt (Nat.div_le_self _ _) (h x (by simp))
 | x :: y :: r, h => by
   intro d hd;rw [iF, List.mem_cons] at hd;rcases hd with rfl | hd
   ·exact (tX hp (h x (by simp))).2.1
   ·exact aAv hp (fun e he => h e (by simp at he ⊢; exact Or.inr he)) d hd
theorem xP {p : Nat} (hp : p < 64) : ∀ {xs : List Nat}, (∀ d ∈ xs, d < 18446744073709551616) → vl 18446744073709551616 (iF p xs) = vl 18446744073709551616 xs / 2 ^ p
 | [], _ => by simp [iF, vl]
 | [x], _ => by simp [iF, vl]
 | x :: y :: r, h => by
   rw [iF, bX, xP hp (xs := y :: r) (fun e he => h e (by simp at he ⊢; exact Or.inr he)), (tX hp (h x (by simp))).2.2, bX 18446744073709551616 x];have hW : (18446744073709551616 : Nat) = 2 ^ p * 2 ^ (64 - p) := (by rw [← Nat.pow_add, show p + (64 - p) = 64 by omega]);have hV : vl 18446744073709551616 (y :: r) % 2 ^ p = y % 2 ^ p := by
    rw [bX];generalize vl 18446744073709551616 r = s;rw [hW, Nat.mul_assoc, Nat.add_mul_mod_self_left]
   generalize vl 18446744073709551616 (y :: r) = V at *
   rw [← hV, hW, Nat.mul_assoc _ _ V, Nat.add_mul_div_left _ _ (Nat.pow_pos (by decide)), Nat.add_assoc];congr 1;have h1 := Nat.div_add_mod V (2 ^ p);generalize 2 ^ p = f at *
   generalize 2 ^ (64 - p) = g at *
   generalize V / f = q at *
   generalize V % f = e at *
   subst h1;rw [Nat.mul_add, Nat.mul_comm e, Nat.mul_comm f g, Nat.mul_assoc];omega
theorem xQ (p : Nat) : ∀ (xs : List Nat) (n : Nat) (h : xs.length = n + 1), (aC (fun x y _ => (shR p x y, 0)) (xs.drop 1) (xs.take n) 0).1 ++ [xs[n] / 2 ^ p] = iF p xs
 | [], n, h => by simp at h
 | [x], n, h => by
   obtain rfl : n = 0 := (by simpa using h.symm);rfl
 | x :: y :: r, n, h => by
   obtain ⟨m, rfl⟩ : ∃ m, n = m + 1 := ⟨n - 1, by simp at h; omega⟩
   have ih := xQ p (y :: r) m (by simpa using h);rw [iF, ← ih];rfl
theorem aEK (p : Nat) (hp : p < 64) (x y c : Nat) (_ : x < 18446744073709551616) (hy : y < 18446744073709551616) (_ : True) : ((fun x y (_ : Nat) => (shR p x y, 0)) x y c).1 < 18446744073709551616 ∧ True :=
 ⟨(tX hp hy).2.1, trivial⟩
theorem aD5 {b nx ny i y c X V : Nat} {cs o : List Nat} (lc : cs.length = nx + ny) (hi : i < ny) (lo : o.length = nx) (hz : cs.drop (nx + i) = List.replicate (ny - i) 0) (hv : vl b o + b ^ nx * c = vl b ((cs.drop i).take nx) + y * X) (hV : vl b cs = V) : ∃ cs', (cs.take i ++ o ++ cs.drop (i + nx)).set (nx + i) c = cs' ∧ cs'.length = nx + ny ∧ cs'.drop (nx + (i + 1)) = List.replicate (ny - (i + 1)) 0 ∧ vl b cs' = V + b ^ i * (y * X) ∧
   cs' = cs.take i ++ (o ++ [c]) ++ List.replicate (ny - (i + 1)) 0 := by
 have hz2 : cs.drop (i + nx) = 0 :: List.replicate (ny - (i + 1)) 0 := by
  rw [Nat.add_comm i nx, hz, show ny - i = (ny - (i + 1)) + 1 by omega, List.replicate_succ]
 have lt : (cs.take i).length = i := by rw [List.length_take]; omega
 have e : (cs.take i ++ o ++ cs.drop (i + nx)).set (nx + i) c = cs.take i ++ (o ++ [c]) ++ List.replicate (ny - (i + 1)) 0 := by
  rw [hz2, List.set_append, if_neg (by rw [List.length_append]; omega), List.length_append, lt, lo, show nx + i - (i + nx) = 0 by omega, List.set_cons_zero];simp [List.append_assoc]
 refine ⟨_, e, ?_, ?_, ?_, rfl⟩
 ·simp only [List.length_append, lt, lo, List.length_replicate, List.length_cons, List.length_nil]; omega
 ·rw [List.drop_append, List.drop_of_length_le (by simp only [List.length_append, lt, lo, List.length_cons, List.length_nil]; omega), List.nil_append];simp only [List.length_append, lt, lo, List.length_cons, List.length_nil];rw [show nx + (i + 1) - (i + (nx + (0 + 1))) = 0 by omega, List.drop_zero]
 ·have h1 : cs = cs.take i ++ ((cs.drop i).take nx ++ List.replicate (ny - i) 0) := by
   conv => lhs; rw [← List.take_append_drop i cs, ← List.take_append_drop nx (cs.drop i), List.drop_drop, Nat.add_comm i nx, hz]
  have h2 : vl b cs = vl b (cs.take i) + b ^ i * vl b ((cs.drop i).take nx) := by
   conv => lhs; rw [h1, fD, lt, nJ]
  rw [nJ, fD, lt, jA, lo, hv, ← hV, h2, Nat.mul_add, Nat.add_assoc]
theorem aFM {x0 x1 y0 y1 p : Nat} : (x0 + x1 * p) * (y0 + y1 * p) = x0 * y0 + x1 * y1 * (p * p) + ((x0 + x1) * (y0 + y1) - x0 * y0 - x1 * y1) * p := by
 have h : (x0 + x1) * (y0 + y1) = x0 * y0 + x0 * y1 + x1 * y0 + x1 * y1 := by rw [Nat.add_mul, Nat.mul_add, Nat.mul_add]; omega
 rw [h, show x0 * y0 + x0 * y1 + x1 * y0 + x1 * y1 - x0 * y0 - x1 * y1 = x0 * y1 + x1 * y0 by omega];grind
theorem aD6 {x0 x1 y0 y1 : Nat} : x0 * y0 ≤ (x0 + x1) * (y0 + y1) ∧ x1 * y1 ≤ (x0 + x1) * (y0 + y1) - x0 * y0 := by
 have h : (x0 + x1) * (y0 + y1) = x0 * y0 + x0 * y1 + x1 * y0 + x1 * y1 := by rw [Nat.add_mul, Nat.mul_add, Nat.mul_add]; omega
 omega
theorem xR {b N n : Nat} (hb : 1 < b) : dg b (N % b ^ n) ≤ n := (aD hb _ _).2 (Nat.mod_lt _ (Nat.pow_pos (by omega)))
theorem nK {b N n : Nat} (hb : 1 < b) : dg b (N / b ^ n) ≤ dg b N - n := by
 refine (aD hb _ _).2 ?_;by_cases h : dg b N ≤ n
 ·have h1 : N < b ^ n := (aD hb _ _).1 h;rw [Nat.div_eq_of_lt h1]; exact Nat.pow_pos (by omega)
 ·rw [Nat.div_lt_iff_lt_mul (Nat.pow_pos (by omega)), ← Nat.pow_add, show dg b N - n + n = dg b N by omega];exact aM hb N
theorem aBH {b M N : Nat} (hb : 1 < b) : dg b (M - N) ≤ dg b M := aR hb (Nat.sub_le _ _)
theorem kU {b N n : Nat} (hb : 1 < b) : dg b (N * b ^ n) ≤ dg b N + n := by
 refine (aD hb _ _).2 ?_;rw [Nat.pow_add];exact (Nat.mul_lt_mul_right (Nat.pow_pos (by omega))).2 (aM hb N)
theorem xS {b N n : Nat} (hb : 1 < b) : dg b (N ^ n) ≤ n * dg b N + (if n = 0 then 1 else 0) := by
 split
 ·rename_i h; subst h; rw [Nat.pow_zero, bZ hb]; omega
 ·refine (aD hb _ _).2 ?_;rw [Nat.add_zero, Nat.mul_comm, Nat.pow_mul];exact Nat.pow_lt_pow_left (aM hb N) (by assumption)
theorem aBI {a k e n D : Nat} (h : a + k * e = n) (hk : 0 < k) : a * D + e * D ≤ n * D := by
 rw [← Nat.add_mul];refine Nat.mul_le_mul_right _ ?_;have : e ≤ k * e := Nat.le_mul_of_pos_left _ hk;omega
theorem aBJ {a k e n D : Nat} (h : a + k * e = n) (hk : 0 < k / 2) : e * D + e * D ≤ n * D := by
 rw [← Nat.add_mul];refine Nat.mul_le_mul_right _ ?_;have : 2 * e ≤ k * e := Nat.mul_le_mul_right _ (by omega);omega
theorem aBK {a k e n : Nat} (h : a + k * e = n) (hk : k % 2 = 1) : (a + e) + (k / 2) * (2 * e) = n := by
 have h1 : k * e = (2 * (k / 2) + 1) * e := by congr 1; omega
 rw [← h, h1, Nat.add_mul, Nat.one_mul, Nat.mul_left_comm, ← Nat.mul_assoc]; omega
theorem aBa {a k e n : Nat} (h : a + k * e = n) (hk : k % 2 = 0) : a + (k / 2) * (2 * e) = n := by
 have h1 : k * e = (2 * (k / 2)) * e := by congr 1; omega
 rw [← h, h1, Nat.mul_left_comm, ← Nat.mul_assoc]
structure Gs (u u1 y1 y0 q r : Nat) : Prop where
 eq : q * y1 + r = u
 rl : r < 4294967296
 ge : (u * 4294967296 + u1) / (y1 * 4294967296 + y0) ≤ q
 le : q ≤ 4294967297
theorem Gs.init {u u1 y1 y0 : Nat} (h1 : 2147483648 ≤ y1) (h2 : y1 < 4294967296) (h0 : y0 < 4294967296) (hu1 : u1 < 4294967296) (hu : u < y1 * 4294967296 + y0) : Gs u u1 y1 y0 (u / y1) (u % y1) := by
 have hm := Nat.mod_lt u (show 0 < y1 by omega);refine ⟨by rw [Nat.mul_comm]; exact Nat.div_add_mod u y1, by omega, ?_, ?_⟩
 ·rw [Nat.le_div_iff_mul_le (by omega)];have h3 := Nat.div_mul_le_self (u * 4294967296 + u1) (y1 * 4294967296 + y0);generalize (u * 4294967296 + u1) / (y1 * 4294967296 + y0) = t at *
  have h4 : t * (y1 * 4294967296) ≤ t * (y1 * 4294967296 + y0) := Nat.mul_le_mul_left _ (by omega);rw [← Nat.mul_assoc] at h4;omega
 ·have h3 : u < (4294967297 + 1) * y1 := (by omega);have h4 := (Nat.div_lt_iff_lt_mul (show 0 < y1 by omega)).2 h3;omega
theorem Gs.stop {u u1 y1 y0 q r : Nat} (h : Gs u u1 y1 y0 q r) (h1 : 0 < y1) (hq : q * y0 ≤ 4294967296 * r + u1) : q = (u * 4294967296 + u1) / (y1 * 4294967296 + y0) := by
 refine Nat.le_antisymm ?_ h.ge;rw [Nat.le_div_iff_mul_le (by omega), Nat.mul_add, ← Nat.mul_assoc];have := h.eq;omega
theorem Gs.over {u u1 y1 y0 q r : Nat} (h : Gs u u1 y1 y0 q r) (hu1 : u1 < 4294967296) (hu : u < y1 * 4294967296 + y0) (hq : 4294967296 ≤ q ∨ 4294967296 * r + u1 < q * y0) :
  ∃ p, q = p + 1 ∧ p * y1 + (r + y1) = u ∧ (u * 4294967296 + u1) / (y1 * 4294967296 + y0) ≤ p ∧ p ≤ 4294967296 := by
 have hle := h.le;have hlt : (u * 4294967296 + u1) / (y1 * 4294967296 + y0) < q := by
  rcases hq with hq | hq
  ·refine Nat.lt_of_lt_of_le ?_ hq;rw [Nat.div_lt_iff_lt_mul (by omega)];omega
  ·rw [Nat.div_lt_iff_lt_mul (by omega), Nat.mul_add, ← Nat.mul_assoc];have := h.eq;omega
 generalize (u * 4294967296 + u1) / (y1 * 4294967296 + y0) = t at *
 obtain ⟨p, rfl⟩ : ∃ p, q = p + 1 := ⟨q - 1, by omega⟩
 refine ⟨p, rfl, ?_, by omega, by omega⟩;have := h.eq;rw [Nat.add_mul] at this;omega
theorem Gs.next {u u1 y1 y0 p r : Nat} (hr : r < 4294967296) (he : p * y1 + r = u) (hge : (u * 4294967296 + u1) / (y1 * 4294967296 + y0) ≤ p) (hle : p ≤ 4294967296) : Gs u u1 y1 y0 p r := ⟨he, hr, hge, by omega⟩
theorem Gs.brk {u u1 y1 y0 p r : Nat} (h1 : 2147483648 ≤ y1) (h0 : y0 < 4294967296) (hr : 4294967296 ≤ r) (he : p * y1 + r = u) (hge : (u * 4294967296 + u1) / (y1 * 4294967296 + y0) ≤ p) (hle : p ≤ 4294967296) :
  p = (u * 4294967296 + u1) / (y1 * 4294967296 + y0) := by
 refine Nat.le_antisymm ?_ hge;rw [Nat.le_div_iff_mul_le (by omega), Nat.mul_add, ← Nat.mul_assoc];have h2 : p * y0 ≤ 4294967296 * 4294967295 := Nat.mul_le_mul hle (by omega);omega
theorem aBL {c u u1 u0 y q1 r1 q0 r0 : Nat} (hq1 : (u * c + u1) / y = q1) (hr1 : (u * c + u1) % y = r1) (hq0 : (r1 * c + u0) / y = q0) (hr0 : (r1 * c + u0) % y = r0) (hy : 0 < y) :
  q1 * c + q0 = (u * (c * c) + (u1 * c + u0)) / y ∧ r0 = (u * (c * c) + (u1 * c + u0)) % y := by
 have h1 := Nat.div_add_mod (u * c + u1) y;have h2 := Nat.div_add_mod (r1 * c + u0) y;have h3 := Nat.mod_lt (r1 * c + u0) hy;rw [hq1, hr1] at h1;rw [hq0, hr0] at h2;rw [hr0] at h3;have h4 : u * (c * c) + (u1 * c + u0) = (q1 * c + q0) * y + r0 := by grind
 have h5 := lI h4 h3;exact ⟨h5.1.symm, h5.2.symm⟩
theorem aAw {u u1 y : Nat} (hu : u < y) (h1 : u1 < 4294967296) : (u * 4294967296 + u1) / y < 4294967296 := by
 rw [Nat.div_lt_iff_lt_mul (by omega)]; omega
theorem aBM {hi lo y s : Nat} (hs : s ≤ 64) (hlo : lo < 18446744073709551616) (hy : y * 2 ^ s < 18446744073709551616) (hh : hi < y) : hi * 2 ^ s < 18446744073709551616 ∧ (hi * 2 ^ s) ||| (lo / 2 ^ (64 - s)) = hi * 2 ^ s + lo / 2 ^ (64 - s) ∧ hi * 2 ^ s + lo / 2 ^ (64 - s) < y * 2 ^ s ∧
   (hi * 2 ^ s + lo / 2 ^ (64 - s)) * 18446744073709551616 + lo * 2 ^ s % 18446744073709551616 = (hi * 18446744073709551616 + lo) * 2 ^ s := by
 have hW : (18446744073709551616 : Nat) = 2 ^ s * 2 ^ (64 - s) := by rw [← Nat.pow_add, show s + (64 - s) = 64 by omega]
 have hor : ∀ b, b < 2 ^ s → hi * 2 ^ s ||| b = hi * 2 ^ s + b := fun b hb => by rw [Nat.mul_comm, ← Nat.two_pow_add_eq_or_of_lt hb]
 have hf : 0 < 2 ^ s := Nat.pow_pos (by decide);have hg : 0 < 2 ^ (64 - s) := Nat.pow_pos (by decide);generalize 2 ^ s = f at *
 generalize 2 ^ (64 - s) = g at *
 have h1 : lo / g < f := by rw [Nat.div_lt_iff_lt_mul hg, ← hW]; exact hlo
 have h2 : hi * f + f ≤ y * f := by
  have : (hi + 1) * f ≤ y * f := Nat.mul_le_mul_right _ hh
  rwa [Nat.add_mul, Nat.one_mul] at this
 refine ⟨by omega, hor _ h1, by omega, ?_⟩;have h3 : lo * f = lo / g * 18446744073709551616 + lo * f % 18446744073709551616 := by
  have h4 : lo * f / 18446744073709551616 = lo / g := by
   rw [hW, Nat.mul_comm f, Nat.mul_div_mul_right _ _ hf]
  have h5 := Nat.div_add_mod (lo * f) 18446744073709551616;rw [h4] at h5;omega
 generalize lo * f % 18446744073709551616 = m at *
 rw [Nat.add_mul, Nat.add_mul, Nat.mul_right_comm, h3];omega
theorem vB {y : Nat} (hy : 0 < y) (h : bl y ≤ 64) : 2147483648 * 4294967296 ≤ y * 2 ^ (64 - bl y) ∧ y * 2 ^ (64 - bl y) < 18446744073709551616 := by
 have h1 : y < 2 ^ bl y := (aT _ _).1 (Nat.le_refl _);have h0 : 0 < bl y := by rw [iE hy]; omega
 have h2 : 2 ^ (bl y - 1) ≤ y := (fT _ _).1 (by omega);have e1 : (18446744073709551616 : Nat) = 2 ^ bl y * 2 ^ (64 - bl y) := by rw [← Nat.pow_add, show bl y + (64 - bl y) = 64 by omega]
 have e2 : (2147483648 * 4294967296 : Nat) = 2 ^ (bl y - 1) * 2 ^ (64 - bl y) := by rw [← Nat.pow_add, show bl y - 1 + (64 - bl y) = 63 by omega]
 rw [e1, e2];exact ⟨Nat.mul_le_mul_right _ h2, (Nat.mul_lt_mul_right (Nat.pow_pos (by decide))).2 h1⟩
end Go.Proofs.YtgpacgadpnpjjaaGreatDoor.Ma
