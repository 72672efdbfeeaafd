/- FilterKnown holds. No condition. -/
import Derived.Test.YtamnpcdkcdfgaaaGreatDoorQe18
namespace Go.Proofs.YtamnpcdkcdfgaaaGreatDoor.E
open Go Go.RowKit
open Ma Me K
theorem zD {α : Type} (x : Rat) (k : List SV → α) : aIh x k = k (bS x) := by
 obtain ⟨n, d, h1, h2⟩ := x;show cb (Nat.beq d 1) _ _ = k [.b (decide (n < 0)), .m n.natAbs, .m (bt d)];unfold bt;by_cases hd : d = 1
 ·rw [aI.2 hd, if_pos hd, aL, if_pos rfl];cases n with
  | ofNat m => exact aM (n := m) (f := fun m => k [.b false, .m m, .m 0])
  | negSucc m => rw [show decide (Int.negSucc m < 0) = true from decide_eq_true (Int.negSucc_lt_zero m)]; exact aM (n := m) (f := fun m => k [.b true, .m (Nat.succ m), .m 0])
 ·rw [show Nat.beq d 1 = false from Bool.eq_false_iff.2 fun h => hd (aI.1 h), if_neg hd, aL, if_neg (by decide), aM];cases n with
  | ofNat m => exact aM (n := m) (f := fun m => k [.b false, .m m, .m d])
  | negSucc m => rw [show decide (Int.negSucc m < 0) = true from decide_eq_true (Int.negSucc_lt_zero m)]; exact aM (n := m) (f := fun m => k [.b true, .m (Nat.succ m), .m d])
theorem iT {c : Cx} {q : Rat} {u : Value} : VR c (.c true (bS q)) u ↔ Nq c.w u q := by
 constructor
 ·rintro ⟨cs, rfl, h⟩
  match cs, h with
  | [x, y, z], h =>
    obtain ⟨h1, h2, h3, -⟩ := h;cases h1;exact ⟨y, z, rfl, h2, h3⟩
 ·rintro ⟨t, b, rfl, h2, h3⟩;exact ⟨[_, t, b], rfl, rfl, h2, h3, trivial⟩
theorem wM {n : Nat} (h : small n = true) : dg W64 n ≤ 1024 := by
 unfold small at h;have h1 := aR.1 h;rw [big.eq_1] at h1;exact (aK aD n aMt).2 h1
theorem aIl {α : Type} {c : Bool} {f : c = false → Option α} {g : c = true → Option α} {y : α} (h : Bool.rec (motive := fun b => c = b → Option α) f g c rfl = some y) : (∃ e, f e = some y) ∨ ∃ e, g e = some y := by
 cases c with
 | false => exact .inl ⟨rfl, h⟩
 | true => exact .inr ⟨rfl, h⟩
theorem aKu {s : Bool} {n m : Nat} {q : Rat} (h : aMv s n m = some q) : bS q = [.b s, .m n, .m m] ∧ Ma.sz q ≤ 2048 := by
 obtain ⟨h1, h2⟩ := cbn.1 h;obtain ⟨h3, h4⟩ := aC.1 h2;obtain ⟨h5, h6⟩ := aC.1 h4;obtain ⟨d, hd⟩ : ∃ d, d = cb (Nat.beq m 0) 1 m := ⟨_, rfl⟩
 rw [← hd] at h6;have hm1 : m ≠ 1 := fun e => by rw [e] at h1; cases h1
 have hdm : bt d = m := by
  rw [hd, aL];unfold bt;by_cases hm : m = 0
  ·rw [if_pos (aI.2 hm), if_pos rfl, hm]
  ·rw [if_neg (fun e => hm (aI.1 e)), if_neg hm1]
 have hds : dg W64 d ≤ 1024 := by
  rw [hd, aL];split
  ·rw [gT aD]; decide
  ·exact wM h5
 have hns := wM h3;have key : q.num.natAbs = n ∧ q.den = d ∧ decide (q.num < 0) = s := by
  rcases aIl h6 with ⟨e1, h7⟩ | ⟨e1, h7⟩
  ·rcases aIl h7 with ⟨e2, h8⟩ | ⟨e2, h8⟩
   ·cases h8
   ·cases s with
    | false =>
      injection h8 with h8;subst h8;exact ⟨rfl, rfl, decide_eq_false (Int.not_lt.2 (Int.natCast_nonneg n))⟩
    | true =>
      rcases aIl (show aMu n d e1 e2 = some q from h8) with ⟨e3, h9⟩ | ⟨e3, h9⟩
      ·injection h9 with h9;subst h9;refine ⟨?_, rfl, decide_eq_true (Int.negSucc_lt_zero _)⟩;show (Int.negSucc (Nat.pred n)).natAbs = n;cases n with
       | zero => cases e3
       | succ n => rfl
      ·cases h9
  ·cases h7
 obtain ⟨k1, k2, k3⟩ := key;refine ⟨by unfold bS; rw [k1, k2, k3, hdm], ?_⟩;have := fU q;rw [k1, k2] at this;omega
theorem nT {α : Type} {v : AV} {k : Rat → Option α} {y : α} (h : num v k = some y) : ∃ q, v = .c true (bS q) ∧ Ma.sz q ≤ 2048 ∧ k q = some y := by
 unfold num at h;split at h
 ·rename_i s n m;obtain ⟨q, h1, h2⟩ := aA.1 h;obtain ⟨h3, h4⟩ := aKu h1;exact ⟨q, by rw [h3], h4, h2⟩
 ·cases h
def iC (fn : Nat) (g : List AV → Option AV) : Prop := ∀ (args : List AV) (v : AV), g args = some v → ∀ (c : Cx) (vs : List Value), Tb c.w → Px c.w → VL c args vs →
 Calls Tryz.prog fn vs.toArray c.w fun e w' => ∃ u, e = .returned u ∧ Q c.w w' ∧ VR ⟨c.n, c.k, c.r, w', c.z⟩ v u
theorem aIm {x : Rat} {v : AV} (h : enc x = some v) : v = .c true (bS x) := by
 unfold enc at h;rw [zD] at h;injection h with h;exact h.symm
theorem aKv {r : Int × Rat} {v : AV} (h : er r = some v) : v = .t [(true, bS r.2), (false, [.i .i64 r.1])] := by
 unfold er at h;rw [zD] at h;injection h with h;exact h.symm
theorem aNE {c : Cx} {r : Int × Rat} {u : Value} (h : Nq c.w u r.2) : VR c (.t [(true, bS r.2), (false, [.i .i64 r.1])]) (.tuple #[u, .int .i64 r.1]) :=
 ⟨[u, .int .i64 r.1], rfl, iT.2 h, ⟨_, rfl, rfl⟩, trivial⟩
theorem pr1 {fn : Nat} {f : Rat → Option AV} (h : ∀ (x : Value) (p : Rat) (v : AV) (c : Cx), f p = some v → Tb c.w → Px c.w → Nq c.w x p → Ma.sz p ≤ 2048 → Calls Tryz.prog fn #[x] c.w fun e w' => ∃ u, e = .returned u ∧ Q c.w w' ∧ VR ⟨c.n, c.k, c.r, w', c.z⟩ v u) : iC fn (p1 f) := by
 intro args v hx c vs hT hP hv
 match args, vs, hx, hv with
 | [x], [u], hx, hv =>
   obtain ⟨q, rfl, h1, h2⟩ := nT (show num x f = some v from hx);exact h u q v c h2 hT hP (iT.1 hv.1) h1
theorem pr2 {fn : Nat} {f : Rat → Rat → Option AV} (h : ∀ (x y : Value) (p q : Rat) (v : AV) (c : Cx), f p q = some v → Tb c.w → Px c.w → Nq c.w x p → Nq c.w y q → Ma.sz p ≤ 2048 → Ma.sz q ≤ 2048 → Calls Tryz.prog fn #[x, y] c.w fun e w' => ∃ u, e = .returned u ∧ Q c.w w' ∧ VR ⟨c.n, c.k, c.r, w', c.z⟩ v u) : iC fn (p2 f) := by
 intro args v hx c vs hT hP hv
 match args, vs, hx, hv with
 | [x, y], [u, u2], hx, hv =>
   obtain ⟨p, rfl, h1, h2⟩ := nT (show num x (fun p => num y fun q => f p q) = some v from hx);obtain ⟨q, rfl, h3, h4⟩ := nT h2;exact h u u2 p q v c h4 hT hP (iT.1 hv.1) (iT.1 hv.2.1) h1 h3
theorem fC {fn : Nat} {args : Array Value} {c : Cx} {q : Rat} {v : AV} (hv : enc q = some v) (h : Calls Tryz.prog fn args c.w fun e w' => ∃ r, e = .returned r ∧ Nq w' r q ∧ Q c.w w') : Calls Tryz.prog fn args c.w fun e w' => ∃ u, e = .returned u ∧ Q c.w w' ∧ VR ⟨c.n, c.k, c.r, w', c.z⟩ v u := by
 refine h.mono ?_;rintro e w' ⟨r, h1, h2, h3⟩;rw [aIm hv];exact ⟨r, h1, h3, iT.2 h2⟩
theorem aAD {fn : Nat} {args : Array Value} {c : Cx} {q : Int × Rat} {v : AV} (hv : er q = some v) (h : Calls Tryz.prog fn args c.w fun e w' => ∃ r, e = .returned (.tuple #[r, .int .i64 q.1]) ∧ Nq w' r q.2 ∧ Q c.w w') : Calls Tryz.prog fn args c.w fun e w' => ∃ u, e = .returned u ∧ Q c.w w' ∧ VR ⟨c.n, c.k, c.r, w', c.z⟩ v u := by
 refine h.mono ?_;rintro e w' ⟨r, h1, h2, h3⟩;rw [aKv hv];exact ⟨_, h1, h3, aNE (c := ⟨c.n, c.k, c.r, w', c.z⟩) h2⟩
theorem aCd {fn : Nat} {args : Array Value} {c : Cx} {s : SV} {u : Value} {v : AV} (hv : some (sc s) = some v) (hs : ∀ w', SR ⟨c.n, c.k, c.r, w', c.z⟩ s u) (h : Calls Tryz.prog fn args c.w fun e w' => e = .returned u ∧ Q c.w w') : Calls Tryz.prog fn args c.w fun e w' => ∃ u, e = .returned u ∧ Q c.w w' ∧ VR ⟨c.n, c.k, c.r, w', c.z⟩ v u := by
 refine h.mono ?_;rintro e w' ⟨h1, h2⟩;injection hv with hv;subst hv;exact ⟨u, h1, h2, aF.2 (hs w')⟩
theorem jH {s : ByteArray} {l : List Nat} (h : bytes s = l) : by8 l = s.data.toList ∧ len l = s.size := by
 subst h;refine ⟨?_, (bF _).trans (by unfold bytes; rw [List.length_map, Array.length_toList]; rfl)⟩;unfold by8 bytes;rw [List.map_map];exact (List.map_congr_left fun x _ => (UInt8.ofNat_toNat : UInt8.ofNat x.toNat = x)).trans (List.map_id _)
theorem uD {t : ByteArray} {l : List UInt8} (h : t.data.toList = l) : bytes t = un8 l := by
 subst h; rfl
theorem wN {α : Type} {v : AV} {k : Int → Option α} {y : α} (h : int v k = some y) : ∃ n, v = sc (.i .i64 n) ∧ k n = some y := by
 unfold int at h;split at h
 ·exact ⟨_, rfl, h⟩
 ·cases h
theorem aMz : iC 17 aMw := by
 intro args v hx c vs hT hP hv
 match args, vs, hx, hv with
 | [x], [u], hx, hv =>
   obtain ⟨n, rfl, h0⟩ := wN (show int x (fun n => cb (decide (-9223372036854775808 ≤ n) && decide (n ≤ 9223372036854775807)) (enc (n : Rat)) none) = some v from hx);obtain ⟨h1, h2⟩ := aC.1 h0;obtain ⟨h3, h4⟩ := (Bool.and_eq_true _ _).mp h1;have hu : u = .int .i64 n := aF.1 hv.1;subst hu;exact fC h2 (aNj n c.w (of_decide_eq_true h3) (of_decide_eq_true h4))
theorem aKw : iC 60 aEF := by
 intro args v hx c vs hT hP hv;unfold aEF at hx;split at hx
 ·rename_i n
  match vs, hv with
  | [u], hv =>
    have hu : u = .int .u64 (Int.ofNat n) := aF.1 (show VR c (sc (.i .u64 (.ofNat n))) u from hv.1);subst hu;obtain ⟨h1, h2⟩ := aC.1 hx;injection h2 with h2;subst h2;refine (fB (Int.ofNat n) n c.w rfl (aR.1 h1)).mono ?_;rintro e w' ⟨r, h3, h4, h5, -⟩;exact ⟨r, h3, h5, aF.2 h4⟩
 ·cases hx
theorem aCE : iC 136 uC := by
 intro args v hx c vs hT hP hv;unfold uC at hx;split at hx
 ·rename_i s n m
  match vs, hv with
  | [u1, u2, u3], hv =>
    have h1 : u1 = .bool s := aF.1 (show VR c (sc (.b s)) u1 from hv.1);have h2 : Nm c.w u2 n := aF.1 (show VR c (sc (.m n)) u2 from hv.2.1);have h3 : Nm c.w u3 m := aF.1 (show VR c (sc (.m m)) u3 from hv.2.2.1);subst h1;injection hx with hx;refine (jW s u2 u3 n m c.w h2 h3).mono ?_;rintro e w' ⟨r, h4, ⟨t, b, h5, h6, h7⟩, h8⟩;refine ⟨r, h4, h8, ?_⟩;rw [← hx, aL];by_cases hn : n = 0
    ·rw [if_pos (aI.2 hn)];subst hn;rw [if_pos rfl] at h7;exact ⟨[.bool false, t, b], h5, rfl, h6, h7, trivial⟩
    ·rw [if_neg (fun h => hn (aI.1 h))];rw [if_neg hn] at h7;have h9 : (decide (0 < n) && s) = s := (by rw [decide_eq_true (Nat.pos_of_ne_zero hn)]; rfl);rw [h9] at h5;exact ⟨[.bool s, t, b], h5, rfl, h6, h7, trivial⟩
 ·cases hx
theorem aMA : iC 156 aMx := by
 intro args v hx c vs hT hP hv
 match args, vs, hx, hv with
 | [x, y], [u, u2], hx, hv =>
   obtain ⟨q, rfl, h1, h2⟩ := nT (show num x (fun p => int y fun n => er (nR p n)) = some v from hx);obtain ⟨n, rfl, h3⟩ := wN h2;have hu : u2 = .int .i64 n := aF.1 hv.2.1;subst hu;exact aAD h3 (aNA u q n c.w (iT.1 hv.1) (by rw [aB]; omega))
theorem aIn : iC 237 aGx := by
 intro args v hx c vs hT hP hv
 match args, vs, hx, hv with
 | [x, y], [u, u2], hx, hv =>
   obtain ⟨q, rfl, h1, h2⟩ := nT (show num x (fun p => int y fun n => cb (decide (0 ≤ n) && decide (n ≤ 64)) (enc (p ^ n.toNat)) none) = some v from hx);obtain ⟨n, rfl, h3⟩ := wN h2;obtain ⟨h4, h5⟩ := aC.1 h3;obtain ⟨h6, h7⟩ := (Bool.and_eq_true _ _).mp h4;have h6 := of_decide_eq_true h6;have h7 := of_decide_eq_true h7;obtain ⟨m, rfl⟩ : ∃ m : Nat, n = m := ⟨n.toNat, by omega⟩
   have hu : u2 = .int .i64 (m : Int) := aF.1 hv.2.1;subst hu;exact fC h5 (aIc u q m c.w (iT.1 hv.1) (by omega) (by rw [aB]; omega))
theorem aKx : iC 387 aEE := by
 intro args v hx c vs hT hP hv;unfold aEE at hx;split at hx
 ·rename_i l
  match vs, hv with
  | [u], hv =>
    obtain ⟨s, rfl, hs⟩ := aF.1 (show VR c (sc (.s l)) u from hv.1);obtain ⟨h1, h2⟩ := aC.1 hx;have h1 := aR.1 h1;obtain ⟨k1, k2⟩ := jH hs;rw [k1] at h2;exact aAD h2 (aMs s c.w hT hP (by omega))
 ·cases hx
theorem aIo : iC 143 aCc := by
 intro args v hx c vs hT hP hv;unfold aCc at hx;split at hx
 ·rename_i l
  match vs, hv with
  | [u], hv =>
    obtain ⟨s, rfl, hs⟩ := aF.1 (show VR c (sc (.s l)) u from hv.1);obtain ⟨h1, h2⟩ := aC.1 hx;have h1 := aR.1 h1;obtain ⟨k1, k2⟩ := jH hs;rw [k1] at h2;exact aAD h2 (aDp s c.w hT (by omega))
 ·cases hx
theorem aGy : iC 410 zB := by
 intro args v hx c vs hT hP hv;unfold zB at hx;split at hx
 ·rename_i l ch
  match vs, hv with
  | [u, u2], hv =>
    obtain ⟨s, rfl, hs⟩ := aF.1 (show VR c (sc (.s l)) u from hv.1);have hu2 : u2 = .int .u8 (Int.ofNat ch) := aF.1 (show VR c (sc (.i .u8 (.ofNat ch))) u2 from hv.2.1);subst hu2;obtain ⟨h1, h2⟩ := aC.1 hx;injection h2 with h2;subst h2;obtain ⟨k1, k2⟩ := jH hs;rw [k1];refine (Tryz.stringslite_IndexByte s (Int.ofNat ch) c.w).mono ?_;rintro e w' ⟨rfl, rfl⟩;exact ⟨_, rfl, Q.refl _, aF.2 rfl⟩
 ·cases hx
theorem aMB : iC 219 aIi := by
 intro args v hx c vs hT hP hv;unfold aIi at hx;split at hx
 ·rename_i l ch
  match vs, hv with
  | [u, u2], hv =>
    obtain ⟨s, rfl, hs⟩ := aF.1 (show VR c (sc (.s l)) u from hv.1);obtain ⟨s2, rfl, hs2⟩ := aF.1 (show VR c (sc (.s [ch])) u2 from hv.2.1);obtain ⟨h1, h2⟩ := aC.1 hx;injection h2 with h2;have h1 := aR.1 h1;obtain ⟨k1, k2⟩ := jH hs;obtain ⟨k3, -⟩ := jH hs2;have e2 : s2 = ⟨#[UInt8.ofNat ch]⟩ := by
     obtain ⟨a⟩ := s2;congr 1;apply Array.toList_inj.1;exact k3.symm
    subst e2;rw [k1] at h2;refine (aEA s (UInt8.ofNat ch) c.w (by omega)).mono ?_;rintro e w' ⟨a, b, h3, h4, h5, h6⟩;subst h2;exact ⟨_, h3, h6, [.string a, .string b, .bool (decide (UInt8.ofNat ch ∈ s.data.toList))], rfl, ⟨_, rfl, a, rfl, uD h4⟩, ⟨_, rfl, b, rfl, uD h5⟩, ⟨_, rfl, rfl⟩, trivial⟩
 ·cases hx
theorem aGz : iC 388 zC := by
 intro args v hx c vs hT hP hv;unfold zC at hx;split at hx
 ·rename_i l n
  match vs, hv with
  | [u, u2], hv =>
    obtain ⟨s, rfl, hs⟩ := aF.1 (show VR c (sc (.s l)) u from hv.1);have hu2 : u2 = .int .i64 (Int.ofNat n) := aF.1 (show VR c (sc (.i .i64 (.ofNat n))) u2 from hv.2.1);subst hu2;obtain ⟨h1, h2⟩ := aC.1 hx;simp only [Bool.and_eq_true, decide_eq_true_eq] at h1;obtain ⟨⟨⟨h3, h4⟩, h5⟩, h6⟩ := h1;have h3 := aR.1 h3;obtain ⟨k1, k2⟩ := jH hs;injection h2 with h2;rw [k1] at h2;have hm : s.size * n ≤ 1000000 * 1000000 := Nat.mul_le_mul (by omega) h6;refine (Tryz.strings_Repeat_main s n c.w h5 (by omega) (by omega) (by omega)).mono ?_;rintro e w' ⟨h7, h8⟩;subst h2;exact ⟨_, h7, h8, aF.2 ⟨_, rfl, rfl⟩⟩
 ·cases hx
def sg (s : Bool) (n : Nat) : Int := if s = true then -(n : Int) else n
theorem encZ (z : Int) : bS (z : Rat) = [.b (decide (z < 0)), .m z.natAbs, .m 0] := by
 unfold bS;rw [Rat.num_intCast, Rat.den_intCast];rfl
theorem aMC {k : ZF} {fb : Option AV} {s : Bool} {n m : Nat} : zz6 k fb s n m = cb (Nat.beq m 0) (cb (small n) (cb s (cb (Nat.beq n 0) fb (k true n)) (k false n)) fb) fb := by
 unfold zz6 zz7;generalize small n = b;cases b <;> rfl
theorem aNF {v : AV} {k : ZF} {fb : Option AV} : zz v k fb = fb ∨ ∃ s n m, v = .c true [.b s, .m n, .m m] ∧ zz v k fb = cb (Nat.beq m 0) (cb (small n) (cb s (cb (Nat.beq n 0) fb (k true n)) (k false n)) fb) fb := by
 cases v with
 | t l => exact .inl rfl
 | c g l =>
   cases g with
   | false => exact .inl rfl
   | true =>
     match l with
     | [] => exact .inl rfl
     | x :: l =>
       cases x with
       | b s =>
         match l with
         | [] => exact .inl rfl
         | y :: l =>
           cases y with
           | m n =>
             match l with
             | [] => exact .inl rfl
             | z :: l =>
               cases z with
               | m m =>
                 cases l with
                 | nil =>
                   refine .inr ⟨s, n, m, rfl, ?_⟩;simp only [zz, zzg, zzl, zz0, zz1, zz2, zz3, zz4, zz5];exact aMC
                 | cons _ _ => exact .inl rfl
               | _ => exact .inl rfl
           | _ => exact .inl rfl
       | _ => exact .inl rfl
theorem aEI {v : AV} {k : ZF} {fb : Option AV} {y : AV} (h : zz v k fb = some y) : (∃ s n, v = .c true (bS ((sg s n : Int) : Rat)) ∧ Ma.sz ((sg s n : Int) : Rat) ≤ 2048 ∧ (s = true → n ≠ 0) ∧ k s n = some y) ∨ fb = some y := by
 rcases aNF (v := v) (k := k) (fb := fb) with h1 | ⟨s, n, m, hv, h1⟩
 rotate_left
 ·subst hv;rw [h1, aL] at h;split at h
  ·rename_i hm;rw [aL] at h;split at h
   ·rename_i hn;have hd := wM hn;have hsz : ∀ t, Ma.sz ((sg t n : Int) : Rat) ≤ 2048 := fun t => by
     have h1 := fU ((sg t n : Int) : Rat);rw [Rat.num_intCast, Rat.den_intCast, gT aD] at h1;have h2 : (sg t n).natAbs = n := by unfold sg; split <;> simp
     rw [h2] at h1;omega
    have hm := aI.1 hm;subst hm;rw [aL] at h;split at h
    ·rename_i hs;subst hs;rw [aL] at h;split at h
     ·exact .inr h
     ·rename_i h0;have h0 : n ≠ 0 := fun e => h0 (aI.2 e);refine .inl ⟨true, n, ?_, hsz _, fun _ => h0, h⟩;rw [encZ];have e1 : sg true n = -(n : Int) := rfl;rw [e1, Int.natAbs_neg, decide_eq_true (by omega)];rfl
    ·rename_i hs;have hs : s = false := (by simpa using hs);subst hs;refine .inl ⟨false, n, ?_, hsz _, fun e => (by cases e), h⟩;rw [encZ];have e1 : sg false n = (n : Int) := rfl;rw [e1, decide_eq_false (by omega)];rfl
   ·exact .inr h
  ·exact .inr h
 ·exact .inr (h1 ▸ h)
theorem iK {s : Bool} {n : Nat} {v : AV} (h : nS s n = some v) {z : Int} (hs : decide (z < 0) = s) (hn : z.natAbs = n) : v = .c true (bS (z : Rat)) := by
 unfold nS at h;rw [aM] at h;injection h with h;rw [encZ, hs, hn, h]
theorem aDt {s t : Bool} {n m : Nat} {v : AV} (hs : s = true → n ≠ 0) (ht : t = true → m ≠ 0) (h : aIj s n t m = some v) : v = .c true (bS ((sg s n + sg t m : Int) : Rat)) := by
 have dif : ∀ s t : Bool, aEG s t n m = some v → (s = true ∧ t = false ∨ s = false ∧ t = true) → v = .c true (bS ((sg s n + sg t m : Int) : Rat)) := by
  intro s t h hst;unfold aEG at h;rw [aL] at h;split at h
  ·rename_i e;have e := aI.1 e;rcases hst with ⟨rfl, rfl⟩ | ⟨rfl, rfl⟩ <;> exact iK h (by simp only [sg]; exact decide_eq_false (by simp; omega)) (by simp [sg]; omega)
  ·rename_i e;have e : n ≠ m := fun q => e (aI.2 q);rw [aL] at h;split at h
   ·rename_i hb;have hb := aR.1 hb;have e1 : Nat.sub m n = m - n := rfl;rcases hst with ⟨rfl, rfl⟩ | ⟨rfl, rfl⟩
    ·exact iK h (decide_eq_false (by simp [sg]; omega)) (by simp [sg]; omega)
    ·exact iK h (decide_eq_true (by simp [sg]; omega)) (by simp [sg]; omega)
   ·rename_i hb;have hb : ¬ n < m := fun q => hb (aR.2 q);have e1 : Nat.sub n m = n - m := rfl;rcases hst with ⟨rfl, rfl⟩ | ⟨rfl, rfl⟩
    ·exact iK h (decide_eq_true (by simp [sg]; omega)) (by simp [sg]; omega)
    ·exact iK h (decide_eq_false (by simp [sg]; omega)) (by simp [sg]; omega)
 have e1 : Nat.add n m = n + m := rfl;cases s <;> cases t
 ·exact iK (show nS false (Nat.add n m) = some v from h) (decide_eq_false (by simp [sg]; omega)) (by simp [sg]; omega)
 ·exact dif false true h (.inr ⟨rfl, rfl⟩)
 ·exact dif true false h (.inl ⟨rfl, rfl⟩)
 ·have := hs rfl;exact iK (show nS true (Nat.add n m) = some v from h) (decide_eq_true (by simp [sg]; omega)) (by simp [sg]; omega)
theorem aDu {t : Bool} {m : Nat} (ht : t = true → m ≠ 0) : (aEH t m = true → m ≠ 0) ∧ sg (aEH t m) m = -sg t m := by
 cases t with
 | true => exact ⟨fun e => (by cases e), (by show sg false m = -sg true m; simp [sg])⟩
 | false =>
   by_cases h : m = 0
   ·subst h; exact ⟨fun e => (by cases e), rfl⟩
   ·have e : aEH false m = true := by
     show cb (Nat.beq m 0) false true = true;rw [aL, if_neg (fun q => h (aI.1 q))]
    exact ⟨fun _ => h, by rw [e]; simp [sg]⟩
theorem aKy {s t : Bool} {n m : Nat} {v : AV} (h : aIk s n t m = some v) : v = .c true (bS ((sg s n * sg t m : Int) : Rat)) := by
 have hz : ∀ {s t : Bool}, (sg s n * sg t m).natAbs = n * m := fun {s t} => by
  rw [Int.natAbs_mul];congr 1 <;> (unfold sg; split <;> simp)
 unfold aIk aIY at h;rw [aL] at h;have e1 : Nat.mul n m = n * m := rfl;rw [e1] at h;split at h
 ·rename_i h0;have h0 := aI.1 h0;have h2 := hz (s := s) (t := t);rw [h0] at h2;have h3 : sg s n * sg t m = 0 := Int.natAbs_eq_zero.1 h2;rw [h3];exact iK h rfl rfl
 ·rename_i h0;have h0 : n * m ≠ 0 := fun e => h0 (aI.2 e);have hp : (0 : Int) < (n : Int) * (m : Int) := by
   rw [← Int.natCast_mul];omega
  refine iK h ?_ hz;cases s <;> cases t
  ·exact decide_eq_false (by show ¬ ((n : Int) * (m : Int) < 0); omega)
  ·exact decide_eq_true (by show (n : Int) * -(m : Int) < 0; rw [Int.mul_neg]; omega)
  ·exact decide_eq_true (by show -(n : Int) * (m : Int) < 0; rw [Int.neg_mul]; omega)
  ·exact decide_eq_false (by show ¬ (-(n : Int) * -(m : Int) < 0); rw [Int.neg_mul_neg]; omega)
theorem aMD (a b : Int) : rc (a : Rat) (b : Rat) = if a < b then -1 else if b < a then 1 else 0 := by
 unfold rc;simp only [Rat.intCast_lt_intCast]
theorem aME (a : Int) : sn (a : Rat) = if a < 0 then -1 else if a = 0 then 0 else 1 := by
 unfold sn;have e1 : ((a : Rat) < 0) ↔ a < 0 := by rw [← Rat.intCast_zero, Rat.intCast_lt_intCast]
 have e2 : ((a : Rat) = 0) ↔ a = 0 := by rw [← Rat.intCast_zero, Rat.intCast_inj]
 simp only [e1, e2]
theorem aGA {n m : Nat} {v : AV} (h : zLt n m = some v) : v = sc (.i .i64 (if n < m then -1 else if m < n then 1 else 0)) := by
 unfold zLt at h;rw [aL] at h;split at h
 ·rename_i e;have e := aI.1 e;injection h with h;rw [← h, if_neg (by omega), if_neg (by omega)]
 ·rename_i e;have e : n ≠ m := fun q => e (aI.2 q);rw [aL] at h;split at h <;> rename_i hb <;> injection h with h <;> rw [← h]
  ·have hb := aR.1 hb;rw [if_pos hb]; rfl
  ·have hb : ¬ n < m := fun q => hb (aR.2 q);rw [if_neg hb, if_pos (by omega)]
theorem aKz {s t : Bool} {n m : Nat} {v : AV} (hs : s = true → n ≠ 0) (ht : t = true → m ≠ 0) (h : aMy s n t m = some v) : some (sc (.i .i64 (rc ((sg s n : Int) : Rat) ((sg t m : Int) : Rat)))) = some v := by
 rw [aMD];cases s <;> cases t
 ·rw [aGA (show zLt n m = some v from h)];simp only [sg, Bool.false_eq_true, if_false, Int.ofNat_lt]
 ·have := ht rfl;injection (show some (sc (.i .i64 1)) = some v from h) with h;rw [← h, if_neg (by show ¬ ((n : Int) < -(m : Int)); omega), if_pos (by show -(m : Int) < (n : Int); omega)]
 ·have := hs rfl;injection (show some (sc (.i .i64 (.negSucc 0))) = some v from h) with h;rw [← h, if_pos (by show -(n : Int) < (m : Int); omega)];rfl
 ·rw [aGA (show zLt m n = some v from h)];have e1 : (sg true n < sg true m) ↔ m < n := (by show -(n : Int) < -(m : Int) ↔ m < n; omega);have e2 : (sg true m < sg true n) ↔ n < m := (by show -(m : Int) < -(n : Int) ↔ n < m; omega);simp only [e1, e2]
theorem aIp {s : Bool} {n : Nat} {v : AV} (hs : s = true → n ≠ 0) (h : aIZ s n = some v) : some (sc (.i .i64 (sn ((sg s n : Int) : Rat)))) = some v := by
 rw [aME];cases s
 ·have h : cb (Nat.beq n 0) (some (sc (.i .i64 0))) (some (sc (.i .i64 1))) = some v := h;rw [aL] at h;have e1 : sg false n = (n : Int) := rfl;rw [e1, if_neg (by omega)];split at h <;> rename_i h0 <;> injection h with h <;> rw [← h]
  ·rw [if_pos (by have := aI.1 h0; omega)]
  ·have h0 : n ≠ 0 := fun e => h0 (aI.2 e);rw [if_neg (by omega)]
 ·have := hs rfl;injection (show some (sc (.i .i64 (.negSucc 0))) = some v from h) with h;rw [← h, if_pos (by simp [sg]; omega)];rfl
theorem aAE {fn : Nat} {f : Bool → Nat → Bool → Nat → Option AV} {g : Rat → Rat → Option AV} (hg : iC fn (p2 g)) (hf : ∀ s n t m v, (s = true → n ≠ 0) → (t = true → m ≠ 0) → f s n t m = some v → g ((sg s n : Int) : Rat) ((sg t m : Int) : Rat) = some v)
  (h : ∀ (x y : Value) (p q : Rat) (v : AV) (c : Cx), g p q = some v → Tb c.w → Px c.w → Nq c.w x p → Nq c.w y q → Ma.sz p ≤ 2048 → Ma.sz q ≤ 2048 → Calls Tryz.prog fn #[x, y] c.w fun e w' => ∃ u, e = .returned u ∧ Q c.w w' ∧ VR ⟨c.n, c.k, c.r, w', c.z⟩ v u) : iC fn (z2 f g) := by
 intro args v hx c vs hT hP hv
 match args, vs, hx, hv with
 | [x, y], [u, u2], hx, hv =>
   rcases aEI (show zz x (fun s n => zz y (fun t m => f s n t m) (p2 g [x, y])) (p2 g [x, y]) = some v from hx) with ⟨s, n, h1, h2, h3, h4⟩ | h1
   ·rcases aEI h4 with ⟨t, m, h5, h6, h7, h8⟩ | h5
    ·subst h1; subst h5;exact h u u2 _ _ v c (hf s n t m v h3 h7 h8) hT hP (iT.1 hv.1) (iT.1 hv.2.1) h2 h6
    ·exact hg [x, y] v h5 c [u, u2] hT hP hv
   ·exact hg [x, y] v h1 c [u, u2] hT hP hv
theorem aNG {fn : Nat} {f : Bool → Nat → Option AV} {g : Rat → Option AV} (hg : iC fn (p1 g)) (hf : ∀ s n v, (s = true → n ≠ 0) → f s n = some v → g ((sg s n : Int) : Rat) = some v)
  (h : ∀ (x : Value) (p : Rat) (v : AV) (c : Cx), g p = some v → Tb c.w → Px c.w → Nq c.w x p → Ma.sz p ≤ 2048 → Calls Tryz.prog fn #[x] c.w fun e w' => ∃ u, e = .returned u ∧ Q c.w w' ∧ VR ⟨c.n, c.k, c.r, w', c.z⟩ v u) : iC fn (z1 f g) := by
 intro args v hx c vs hT hP hv
 match args, vs, hx, hv with
 | [x], [u], hx, hv =>
   rcases aEI (show zz x f (p1 g [x]) = some v from hx) with ⟨s, n, h1, h2, h3, h4⟩ | h1
   ·subst h1;exact h u _ v c (hf s n v h3 h4) hT hP (iT.1 hv.1) h2
   ·exact hg [x] v h1 c [u] hT hP hv
theorem aCe (q : Rat) : enc q = some (.c true (bS q)) := by unfold enc; rw [zD]
theorem aIq : ∀ p ∈ aAC, iC p.1 p.2 := by
 unfold aAC;simp only [List.forall_mem_cons];have b1 : (1099511627776 : Nat) = LIM := aB.symm;refine ⟨pr1 fun x p v c hf hT hP hx hs => fC hf (aIa x p c.w hx (by rw [aB]; omega)), ?_⟩;refine ⟨pr1 fun x p v c hf hT hP hx hs => fC hf (aMm x p c.w hx), ?_⟩;refine ⟨pr1 fun x p v c hf hT hP hx hs => fC hf (aEv x p c.w hx), ?_⟩;refine ⟨aKw, ?_⟩;refine ⟨aCE, ?_⟩;refine ⟨pr2 fun x y p q v c hf hT hP hx hy hs ht => fC hf (aIb x y p q c.w hx hy (by rw [aB]; omega)), ?_⟩;refine ⟨pr2 fun x y p q v c hf hT hP hx hy hs ht => fC hf (aGm x y p q c.w hx hy (by rw [aB]; omega)), ?_⟩;refine ⟨aMz, ?_⟩;have kAdd := fun (x y : Value) (p q : Rat) (v : AV) (c : Cx) (hf : enc (p + q) = some v) (hT : Tb c.w) (_ : Px c.w) (hx : Nq c.w x p) (hy : Nq c.w y q) (_ : Ma.sz p ≤ 2048) (_ : Ma.sz q ≤ 2048) => (fC hf (aNt x y p q c.w hT hx hy (by rw [aB]; omega)))
 refine ⟨aAE (pr2 kAdd) (fun s n t m v h1 h2 h3 => by rw [aCe, ← Rat.intCast_add, aDt h1 h2 h3]) kAdd, ?_⟩;have kSub := fun (x y : Value) (p q : Rat) (v : AV) (c : Cx) (hf : enc (p - q) = some v) (hT : Tb c.w) (_ : Px c.w) (hx : Nq c.w x p) (hy : Nq c.w y q) (_ : Ma.sz p ≤ 2048) (_ : Ma.sz q ≤ 2048) => (fC hf (aNu x y p q c.w hT hx hy (by rw [aB]; omega)))
 refine ⟨aAE (pr2 kSub) (fun s n t m v h1 h2 h3 => by rw [aCe, ← Rat.intCast_sub, aDt h1 (aDu h2).1 h3, (aDu h2).2, ← Int.sub_eq_add_neg]) kSub, ?_⟩;have kMul := fun (x y : Value) (p q : Rat) (v : AV) (c : Cx) (hf : enc (p * q) = some v) (hT : Tb c.w) (_ : Px c.w) (hx : Nq c.w x p) (hy : Nq c.w y q) (_ : Ma.sz p ≤ 2048) (_ : Ma.sz q ≤ 2048) => (fC hf (aEz x y p q c.w hT hx hy (by rw [aB]; omega)))
 refine ⟨aAE (pr2 kMul) (fun s n t m v h1 h2 h3 => by rw [aCe, ← Rat.intCast_mul, aKy h3]) kMul, ?_⟩;refine ⟨pr2 fun x y p q v c hf hT hP hx hy hs ht => aAD hf (aNz x y p q c.w hT hx hy (by rw [aB]; omega)), ?_⟩;refine ⟨pr1 fun x p v c hf hT hP hx hs => fC hf (aNw x p c.w hx (by rw [aB]; omega)), ?_⟩;refine ⟨pr1 fun x p v c hf hT hP hx hs => fC hf (aNx x p c.w hx (by rw [aB]; omega)), ?_⟩;refine ⟨pr2 fun x y p q v c hf hT hP hx hy hs ht => fC hf (aNv x y p q c.w hx hy (by rw [aB]; omega)), ?_⟩;refine ⟨pr1 fun x p v c hf hT hP hx hs => fC hf (aKo x p c.w hT hx (by rw [aB]; omega)), ?_⟩;have kSign := fun (x : Value) (p : Rat) (v : AV) (c : Cx) (hf : some (sc (.i .i64 (sn p))) = some v) (_ : Tb c.w) (_ : Px c.w) (hx : Nq c.w x p) (_ : Ma.sz p ≤ 2048) => aCd hf (fun _ => rfl) (aMn x p c.w hx);refine ⟨aNG (pr1 kSign) (fun s n v h1 h3 => aIp h1 h3) kSign, ?_⟩;have kCmp := fun (x y : Value) (p q : Rat) (v : AV) (c : Cx) (hf : some (sc (.i .i64 (rc p q))) = some v) (_ : Tb c.w) (_ : Px c.w) (hx : Nq c.w x p) (hy : Nq c.w y q) (_ : Ma.sz p ≤ 2048) (_ : Ma.sz q ≤ 2048) => aCd hf (fun _ => rfl) (aNy x y p q c.w hx hy (by rw [aB]; omega));refine ⟨aAE (pr2 kCmp) (fun s n t m v h1 h2 h3 => aKz h1 h2 h3) kCmp, ?_⟩;refine ⟨aMA, ?_⟩;refine ⟨aIn, ?_⟩;refine ⟨pr1 fun x p v c hf hT hP hx hs => ?_, ?_⟩
 ·injection hf with hf;refine (aMq x p c.w hx (by omega)).mono ?_;rintro e w' ⟨t, h1, h2, h3⟩;subst hf;exact ⟨_, h1, h3, aF.2 ⟨t, rfl, uD h2⟩⟩
 refine ⟨aKx, ?_⟩;refine ⟨aMB, ?_⟩;refine ⟨aGz, ?_⟩;refine ⟨aIo, ?_⟩;refine ⟨pr1 fun x p v c hf hT hP hx hs => aCd hf (fun _ => rfl) (aId x p c.w hx (by rw [aB]; omega)), ?_⟩;refine ⟨aGy, ?_⟩;exact fun x hx => by cases hx
theorem aNH (hng : ∀ (f : Nat) (G : Func), Tryz.prog.funcs[f]? = some G → (G.name == "runtime.NumGoroutine") = false) : FOk F0 := by
 refine ⟨hng, fun _ _ hq h => ⟨h.1.q hq, h.2.q hq⟩, fun fn g args v hg hx c vs hb hv => ?_, fun _ _ _ h => (by cases h), fun _ _ => ⟨fun h => (by cases h), fun h => (by cases h)⟩, fun _ _ _ _ _ h => (by cases h), fun _ _ _ _ _ _ _ h => (by cases h)⟩;exact aIq _ (qD (show (T.ofL aAC : T 3 _).get fn = some g from hg)) args v hx c vs hb.1 hb.2 hv
theorem f0 : FOk F0 := aNH fun f G h => by
 have := aDa aF1 h;unfold ngB at this;simpa using this
theorem mixed : F0.P.follows .mixedOrders = true := by decide +kernel
theorem aDv {F : Cf} (hF : FOk F) (hm : F.P.follows .mixedOrders = true) {m fn : Nat} {v : AV} {h' : H} (hx : aAo F m fn [] = some (v, h')) (w : World) (hb : F.tb w) :
  Calls F.P fn #[] w fun e w' => ∃ u d, e = .returned u ∧ d.w = w' ∧ Q w w' ∧ VR d v u := by
 have hx2 : bQ F (exec F m) fn [] ⟨.lf, 0, 0, .lf⟩ = some (v, h') := hx;obtain ⟨-, hcr⟩ := fP (vs := []) hF (qZ hF hm m) hx2 (aBE F.P.cellsOf w) (fun _ => rfl) hb trivial;refine Calls.mono hcr ?_;rintro e w' ⟨u, d, h1, h2, h3, h4, h5⟩;exact ⟨u, d, h1, h2, h2 ▸ h4.q, h5⟩
theorem closed {m fn : Nat} {v : AV} {h' : H} (hx : aAo F0 m fn [] = some (v, h')) (w : World) (hT : Tb w) (hP : Px w) :
  Calls Tryz.prog fn #[] w fun e w' => ∃ u d, e = .returned u ∧ d.w = w' ∧ Q w w' ∧ VR d v u :=
 aDv f0 mixed hx w ⟨hT, hP⟩
def okB (r : Option VH) : Bool := match r with | some (.c false [.b true], _) => true | _ => false
def pl1 (x : SV) : Bool := match x with
 | .b _ => true
 | .i _ _ => true
 | .s _ => true
 | .np => true
 | .ns => true
 | .m _ => true
 | .nf => true
 | _ => false
def plL (l : List SV) : Bool := match l with | [] => true | x :: l => pl1 x && plL l
def plT (l : List (Bool × List SV)) : Bool := match l with | [] => true | p :: l => plL p.2 && plT l
def plA (v : AV) : Bool := match v with | .c _ l => plL l | .t l => plT l
section
variable {c d : Cx}
theorem aEJ (hw : d.w = c.w) {x : SV} {u : Value} (hp : pl1 x = true) (h : SR c x u) : SR d x u := by
 cases x with
 | m n => show Nm d.w u n; rw [hw]; exact h
 | b x => exact h
 | i k n => exact h
 | s l => exact h
 | np => exact h
 | ns => exact h
 | nf => exact h
 | _ => cases hp
theorem aEK (hw : d.w = c.w) : ∀ {l : List SV} {r : List Value}, plL l = true → CL c l r → CL d l r
 | [], [], _, _ => trivial
 | x :: l, v :: r, hp, h => by
   obtain ⟨h1, h2⟩ := (Bool.and_eq_true _ _).mp (show (pl1 x && plL l) = true from hp);exact ⟨aEJ hw h1 h.1, aEK hw h2 h.2⟩
theorem aI0 (hw : d.w = c.w) {g : Bool} {l : List SV} {v : Value} (hp : plL l = true) (h : VC c g l v) : VC d g l v := by
 cases g with
 | true => obtain ⟨cs, h1, h2⟩ := h; exact ⟨cs, h1, aEK hw hp h2⟩
 | false =>
   obtain ⟨x, h1, h2⟩ := h;subst h1;obtain ⟨h3, -⟩ := (Bool.and_eq_true _ _).mp (show (pl1 x && plL []) = true from hp);exact ⟨x, rfl, aEJ hw h3 h2⟩
theorem aI1 (hw : d.w = c.w) : ∀ {l : List (Bool × List SV)} {r : List Value}, plT l = true → TL c l r → TL d l r
 | [], [], _, _ => trivial
 | p :: l, v :: r, hp, h => by
   obtain ⟨h1, h2⟩ := (Bool.and_eq_true _ _).mp (show (plL p.2 && plT l) = true from hp);exact ⟨aI0 hw h1 h.1, aI1 hw h2 h.2⟩
theorem aI2 (hw : d.w = c.w) {v : AV} {u : Value} (hp : plA v = true) (h : VR c v u) : VR d v u := by
 cases v with
 | c g l => exact aI0 hw hp h
 | t l => obtain ⟨vs, h1, h2⟩ := h; exact ⟨vs, h1, aI1 hw hp h2⟩
end
noncomputable def mkH (bs : List B) : H := ⟨T.ofL ((List.range bs.length).zip bs), bs.length, bs.length, .lf⟩
theorem jI {bs : List B} {id : Nat} {b : B} (h : (mkH bs).h.get id = some b) : bs[id]? = some b := by
 have h2 := qD h;obtain ⟨k, hk, h3⟩ := List.getElem_of_mem h2;rw [List.getElem_zip, List.getElem_range] at h3;injection h3 with h3 h4;subst h3;rw [List.getElem?_eq_getElem (by simp at hk; omega), h4]
theorem known {F : Cf} (hF : FOk F) (hm : F.P.follows .mixedOrders = true) {m fn : Nat} {bs : List B} {args : List AV} {v : AV} {h' : H} (hp : ∀ b ∈ bs, plL b.c = true) (hd : (bs.map B.ty).Nodup) (hv : plA v = true) (hx : bQ F (exec F m) fn args (mkH bs) = some (v, h')) {c : Cx} {wb : World} {h : H} {ρ : Nat → Nat} (R : Rl c wb h) (hz : ∀ t, c.z t = F.P.cellsOf t) (hb : F.tb c.w) (hg : ∀ i b, bs[i]? = some b → h.h.get (ρ i) = some b ∧ c.k (ρ i))
  {vs : List Value} (ha : VL ⟨bs.length, fun i => i < bs.length, fun i => c.r (ρ i), c.w, c.z⟩ args vs) :
  Calls F.P fn vs.toArray c.w fun e w' => ∃ u, e = .returned u ∧ Q c.w w' ∧ VR ⟨c.n, c.k, c.r, w', c.z⟩ v u := by
 obtain ⟨c0, h0⟩ : ∃ c0 : Cx, c0 = ⟨bs.length, fun i => i < bs.length, fun i => c.r (ρ i), c.w, c.z⟩ := ⟨_, rfl⟩
 rw [← h0] at ha;have e1 : c0.w = c.w := by rw [h0]
 have e2 : ∀ i, c0.r i = c.r (ρ i) := fun i => by rw [h0]
 have e4 : c0.z = c.z := by rw [h0]
 have hlp : ∀ l p, (mkH bs).l.get l = some p → False := fun l p hg => by
  have : (T.lf : T 5 Lp).get l = some p := hg;rw [T.get_lf] at this;cases this
 have hlt : ∀ {i b}, bs[i]? = some b → i < bs.length := fun h => (List.getElem?_eq_some_iff.1 h).1;have R0 : Rl c0 c.w (mkH bs) := by
  refine ⟨by rw [h0]; rfl, fun id q => ?_, by rw [e1]; exact Q.refl _, fun id b hi => ?_, fun i j b d hi hj hb' hd' hij => ?_, fun id b hi _ hbar => ?_, fun l p hl => (hlp l p hl).elim, fun i j p d hi => (hlp i p hi).elim⟩
  ·rw [h0] at q ⊢; exact q
  ·have hi := jI hi;obtain ⟨h1, h2⟩ := hg id b hi;refine ⟨hlt hi, fun hl => ?_⟩;obtain ⟨row, tail, b1, b2, b3⟩ := (R.blk (ρ id) b h1).2 ⟨h2, hl.2⟩;exact ⟨row, tail, by rw [e1, e2]; exact b1, aEK e1 (hp b (List.mem_of_getElem? hi)) b2, b3⟩
  ·have hi := jI hi;have hj := jI hj;obtain ⟨h1, h2⟩ := hg i b hi;obtain ⟨h3, h4⟩ := hg j d hj;rw [e2, e2];refine R.inj _ _ b d h1 h3 ⟨h2, hb'.2⟩ ⟨h4, hd'.2⟩ fun e => ?_;rw [e, h3] at h1;injection h1 with h1;subst h1;have k1 : (bs.map B.ty)[i]? = some d.ty := (by rw [List.getElem?_map, hi]; rfl);have k2 : (bs.map B.ty)[j]? = some d.ty := (by rw [List.getElem?_map, hj]; rfl);obtain ⟨k3, k4⟩ := List.getElem?_eq_some_iff.1 k1;obtain ⟨k5, k6⟩ := List.getElem?_eq_some_iff.1 k2;exact hij ((List.getElem_inj hd).1 (k4.trans k6.symm))
  ·have h1 := hlt (jI hi);have hbar : bs.length ≤ id := hbar;omega
 obtain ⟨-, hcr⟩ := fP hF (qZ hF hm m) hx R0 (fun t => by rw [e4]; exact hz t) hb ha;have hcr : Calls F.P fn vs.toArray c.w fun e w' => ∃ u d, e = .returned u ∧ d.w = w' ∧ Xt c0 d ∧ Rl d c.w h' ∧ VR d v u := by
  rw [← e1];rw [← e1] at hcr;exact hcr
 refine hcr.mono ?_;rintro e w' ⟨u, d, q1, q2, q3, q4, q5⟩;exact ⟨u, q1, q2 ▸ q4.q, aI2 (c := d) (d := ⟨c.n, c.k, c.r, w', c.z⟩) q2.symm hv q5⟩
noncomputable def tpE (l : List (Bool × List SV)) : List (Bool × List SV) → Bool := List.rec (motive := fun _ => List (Bool × List SV) → Bool) (fun m => List.rec (motive := fun _ => Bool) true (fun _ _ _ => false) m) (fun a _ r m => List.rec (motive := fun _ => Bool) false (fun b m _ => cb (cb a.1 b.1 (cO b.1)) (cb (svL a.2 b.2) (r m) false) false) m) l
noncomputable def avE (x y : AV) : Bool := match x, y with
 | .c g l, .c k m => cb (cb g k (cO k)) (svL l m) false
 | .t l, .t m => tpE l m
 | _, _ => false
theorem aGB : ∀ {l m : List (Bool × List SV)}, tpE l m = true → l = m
 | [], [], _ => rfl
 | [], _ :: _, h => by cases h
 | _ :: _, [], h => by cases h
 | (g, x) :: l, (k, y) :: m, h => by
   obtain ⟨h1, h2⟩ := aO.1 (show cb (cb g k (cO k)) (cb (svL x y) (tpE l m) false) false = true from h);obtain ⟨h3, h4⟩ := aO.1 h2;rw [uY h1, qC h3, aGB h4]
theorem aGC {x y : AV} (h : avE x y = true) : x = y := by
 unfold avE at h;split at h
 ·obtain ⟨h1, h2⟩ := aO.1 h;rw [uY h1, qC h2]
 ·rw [aGB h]
 ·cases h
noncomputable def okW (v : AV) (r : Option VH) : Bool := Option.rec (motive := fun _ => Bool) false (fun p => avE p.1 v) r
theorem aNI {v : AV} {r : Option VH} (h : okW v r = true) : ∃ h', r = some (v, h') := by
 cases r with
 | none => cases h
 | some p => exact ⟨p.2, by rw [← aGC (show avE p.1 v = true from h)]⟩
end Go.Proofs.YtamnpcdkcdfgaaaGreatDoor.E
namespace Go.Proofs.YtamnpcdkcdfgaaaGreatDoor.E
open Go Go.RowKit
open Ma Me K
noncomputable section
def aEL (r : Nat → Nat) (x : SV) : SV := match x with
 | .p i o => .p (r i) o
 | .sl i o n c => .sl (r i) o n c
 | x => x
def iN (r : Nat → Nat) (l : List SV) : List SV := List.rec (motive := fun _ => List SV) [] (fun x _ l => aEL r x :: l) l
def aOl (r : Nat → Nat) (l : List (Bool × List SV)) : List (Bool × List SV) := List.rec (motive := fun _ => List (Bool × List SV)) [] (fun x _ l => (x.1, iN r x.2) :: l) l
def aOm (r : Nat → Nat) (v : AV) : AV := match v with | .c g l => .c g (iN r l) | .t l => .t (aOl r l)
def aIr (r : Nat → Nat) (l : List AV) : List AV := List.rec (motive := fun _ => List AV) [] (fun x _ l => aOm r x :: l) l
def rf1 (x : SV) (k : List Nat) : List Nat := match x with | .p i _ => i :: k | .sl i _ _ _ => i :: k | _ => k
def rfs (l : List SV) (k : List Nat) : List Nat := List.rec (motive := fun _ => List Nat) k (fun x _ r => rf1 x r) l
def rk1 (n : Nat) (x : SV) : Bool := match x with | .p i _ => Nat.blt i n | .sl i _ _ _ => Nat.blt i n | x => pl1 x
def rks (n : Nat) (l : List SV) : Bool := List.rec (motive := fun _ => Bool) true (fun x _ r => cb (rk1 n x) r false) l
def rkA (n : Nat) (v : AV) : Bool := match v with | .c _ l => rks n l | .t _ => false
def rkV (n : Nat) (l : List AV) : Bool := List.rec (motive := fun _ => Bool) true (fun x _ r => cb (rkA n x) r false) l
def rfA (v : AV) (k : List Nat) : List Nat := match v with | .c _ l => rfs l k | .t _ => k
def rfV (l : List AV) : List Nat := List.rec (motive := fun _ => List Nat) [] (fun x _ r => rfA x r) l
def uE (n : Nat) (l : List Nat) : Bool := List.rec (motive := fun _ => Bool) false (fun x _ r => cb (Nat.beq n x) true r) l
structure Kc where
 args : List AV
 bs : List B
 v : AV
def aIs (n : Nat) : List B → Nat → List Nat → Bool := fun l => List.rec (motive := fun _ => Nat → List Nat → Bool) (fun _ _ => true) (fun b _ r k s => cb (uE k s) (cb (rks n b.c) (r (Nat.succ k) (rfs b.c s)) false) false) l
def okK (p : Kc) : Bool := cb (rkV (len p.bs) p.args) (aIs (len p.bs) p.bs 0 (rfV p.args)) false
def mt1 (x y : SV) (t : T 3 Nat) : T 3 Nat := match x, y with | .p i _, .p a _ => t.set a i | .sl i _ _ _, .sl a _ _ _ => t.set a i | _, _ => t
def mtL (l : List SV) : List SV → T 3 Nat → T 3 Nat := List.rec (motive := fun _ => List SV → T 3 Nat → T 3 Nat) (fun _ t => t) (fun x _ r m t => match m with | [] => t | y :: m => r m (mt1 x y t)) l
def mtA (v u : AV) (t : T 3 Nat) : T 3 Nat := match v, u with | .c _ l, .c _ m => mtL l m t | _, _ => t
def mtV (l : List AV) : List AV → T 3 Nat → T 3 Nat := List.rec (motive := fun _ => List AV → T 3 Nat → T 3 Nat) (fun _ t => t) (fun x _ r m t => match m with | [] => t | y :: m => r m (mtA x y t)) l
def mtB (h : H) (l : List B) : Nat → T 3 Nat → T 3 Nat := List.rec (motive := fun _ => Nat → T 3 Nat → T 3 Nat) (fun _ t => t) (fun b _ r k t => r (Nat.succ k) (match t.get k with | some a => (match h.h.get a with | some d => mtL b.c d.c t | none => t) | none => t)) l
def rho (p : Kc) (h : H) (args : List AV) : List Nat := match mtB h p.bs 0 (mtV p.args args .lf) with
 | t => List.rec (motive := fun _ => Nat → List Nat) (fun _ => []) (fun _ _ r k => Option.rec (motive := fun _ => List Nat) [] (fun a => a :: r (Nat.succ k)) (t.get k)) p.bs 0
def ndN (l : List Nat) : Bool := List.rec (motive := fun _ => Bool) true (fun x l r => cb (uE x l) false r) l
def ixN (l : List Nat) (i : Nat) : Nat := Option.rec (motive := fun _ => Nat) 0 (fun x => x) (drp i l).head?
def aIt (l : List AV) : List AV → Bool := List.rec (motive := fun _ => List AV → Bool) (fun m => List.rec (motive := fun _ => Bool) true (fun _ _ _ => false) m) (fun a _ r m => List.rec (motive := fun _ => Bool) false (fun b m _ => cb (avE a b) (r m) false) m) l
def aEM (h : H) (id : Nat) (b : B) : Bool := isS (h.h.get id) fun x => cb (Nat.beq x.ty b.ty) (svL x.c b.c) false
def bkK (h : H) (r : Nat → Nat) (l : List B) : Nat → Bool := List.rec (motive := fun _ => Nat → Bool) (fun _ => true) (fun b _ q k => cb (aEM h (r k) ⟨b.ty, iN r b.c⟩) (q (Nat.succ k)) false) l
def aIu (p : Kc) (l : List Nat) (h : H) (args : List AV) : Bool := cb (Nat.beq (len l) (len p.bs)) (cb (ndN l) (cb (aIt args (aIr (ixN l) p.args)) (bkK h (ixN l) p.bs 0) false) false) false
def gKs (l : List Kc) (h : H) (args : List AV) : Option AV := List.rec (motive := fun _ => Option AV) none (fun p _ r => cb (aIu p (rho p h args) h args) (some p.v) r) l
end
theorem aDw {n : Nat} : ∀ {l : List Nat}, uE n l = true → n ∈ l
 | [], h => by cases h
 | x :: l, h => by
   have h : cb (Nat.beq n x) true (uE n l) = true := h;rw [aL] at h;split at h
   ·rename_i h1;rw [aI.1 h1];exact List.mem_cons_self
   ·exact List.mem_cons_of_mem _ (aDw h)
theorem aDx {n : Nat} : ∀ {l : List Nat}, uE n l = false → n ∉ l
 | [], _ => List.not_mem_nil
 | x :: l, h => by
   have h : cb (Nat.beq n x) true (uE n l) = false := h;rw [aL] at h;split at h
   ·cases h
   ·rename_i h1;intro hm;rcases List.mem_cons.1 hm with rfl | hm
    ·exact h1 (Nat.beq_refl n)
    ·exact aDx h hm
theorem aGD : ∀ {l : List Nat}, ndN l = true → l.Nodup
 | [], _ => List.nodup_nil
 | x :: l, h => by
   have h : cb (uE x l) false (ndN l) = true := h;rw [aL] at h;split at h
   ·cases h
   ·rename_i h1;exact List.nodup_cons.2 ⟨aDx (by simpa using h1), aGD h⟩
theorem aDy : ∀ {l m : List AV}, aIt l m = true → l = m
 | [], [], _ => rfl
 | [], _ :: _, h => by cases h
 | _ :: _, [], h => by cases h
 | x :: l, y :: m, h => by
   obtain ⟨h1, h2⟩ := aO.1 (show cb (avE x y) (aIt l m) false = true from h);rw [aGC h1, aDy h2]
theorem aMF {h : H} {id : Nat} {b : B} (hx : aEM h id b = true) : h.h.get id = some b := by
 unfold aEM isS at hx;cases hg : h.h.get id with
 | none => rw [hg] at hx; cases hx
 | some x =>
   rw [hg] at hx;obtain ⟨h1, h2⟩ := aO.1 (show cb (Nat.beq x.ty b.ty) (svL x.c b.c) false = true from hx);obtain ⟨t1, c1⟩ := x;obtain ⟨t2, c2⟩ := b;have h1 : t1 = t2 := aI.1 h1;have h2 : c1 = c2 := qC h2;rw [h1, h2]
theorem aGE {h : H} {r : Nat → Nat} : ∀ {l : List B} {k : Nat}, bkK h r l k = true → ∀ i b, l[i]? = some b → h.h.get (r (k + i)) = some ⟨b.ty, iN r b.c⟩
 | [], _, _, _, _, hi => by simp at hi
 | x :: l, k, hx, i, b, hi => by
   obtain ⟨h1, h2⟩ := aO.1 (show cb (aEM h (r k) ⟨x.ty, iN r x.c⟩) (bkK h r l (Nat.succ k)) false = true from hx);cases i with
   | zero => simp at hi; subst hi; exact aMF h1
   | succ i =>
     have := aGE h2 i b (by simpa using hi);rw [show k + (i + 1) = Nat.succ k + i from by omega];exact this
theorem aGF {l : List Nat} {i : Nat} (hi : i < l.length) : ixN l i = l[i] := by
 unfold ixN;rw [jR, List.head?_drop, List.getElem?_eq_getElem hi]
section
variable {c : Cx} {r : Nat → Nat} {n : Nat}
theorem aDz {x : SV} {k : List Nat} {i : Nat} (h : i ∈ rf1 x k) : (∃ o, x = .p i o) ∨ (∃ o m cp, x = .sl i o m cp) ∨ i ∈ k := by
 unfold rf1 at h;split at h
 ·rcases List.mem_cons.1 h with rfl | h
  ·exact .inl ⟨_, rfl⟩
  ·exact .inr (.inr h)
 ·rcases List.mem_cons.1 h with rfl | h
  ·exact .inr (.inl ⟨_, _, _, rfl⟩)
  ·exact .inr (.inr h)
 ·exact .inr (.inr h)
theorem aCf : ∀ {l : List SV} {vs : List Value} {k : List Nat} {i : Nat}, CL c (iN r l) vs → i ∈ rfs l k → i ∈ k ∨ c.k (r i)
 | [], [], _, _, _, h => .inl h
 | x :: l, v :: vs, k, i, hc, h => by
   rcases aDz (show i ∈ rf1 x (rfs l k) from h) with ⟨o, rfl⟩ | ⟨o, m, cp, rfl⟩ | h
   ·exact .inr hc.1.1
   ·cases cp with
    | none => exact .inr hc.1.1
    | some cp => exact .inr hc.1.1
   ·exact aCf hc.2 h
theorem aGG : ∀ {l : List AV} {vs : List Value} {i : Nat}, rkV n l = true → VL c (aIr r l) vs → i ∈ rfV l → c.k (r i)
 | [], [], _, _, _, h => by cases h
 | x :: l, v :: vs, i, hk, hc, h => by
   obtain ⟨k1, k2⟩ := aO.1 (show cb (rkA n x) (rkV n l) false = true from hk);cases x with
   | t l2 => cases k1
   | c g l2 =>
     obtain ⟨row, hrow⟩ : ∃ row, CL c (iN r l2) row := by
      have h1 : VC c g (iN r l2) v := hc.1;exact ⟨_, cells_ok (show VR c (.c g (iN r l2)) v from h1)⟩
     rcases aCf hrow (show i ∈ rfs l2 (rfV l) from h) with h | h
     ·exact aGG k2 hc.2 h
     ·exact h
theorem aGH {d : Cx} (hw : d.w = c.w) (hz : d.z = c.z) (hk : ∀ i, i < n → d.k i ∧ d.r i = c.r (r i)) {x : SV} {v : Value} (hp : rk1 n x = true) (h : SR c (aEL r x) v) : SR d x v := by
 cases x with
 | p i o =>
   obtain ⟨k1, k2⟩ := hk i (aR.1 hp);exact ⟨k1, by rw [k2]; exact h.2⟩
 | sl i o m cp =>
   obtain ⟨k1, k2⟩ := hk i (aR.1 hp);cases cp with
   | some cp => exact ⟨k1, by rw [k2]; exact h.2⟩
   | none =>
     obtain ⟨-, cap, o2, h2, h3, h4, t, cs, fr, h5, h6⟩ := h;exact ⟨k1, cap, o2, h2, by rw [k2]; exact h3, h4, t, cs, fr, by rw [k2, hw]; exact h5, by rw [hz]; exact h6⟩
 | _ => exact aEJ hw hp h
theorem aCg {d : Cx} (hw : d.w = c.w) (hz : d.z = c.z) (hk : ∀ i, i < n → d.k i ∧ d.r i = c.r (r i)) : ∀ {l : List SV} {vs : List Value}, rks n l = true → CL c (iN r l) vs → CL d l vs
 | [], [], _, _ => trivial
 | x :: l, v :: vs, hp, h => by
   obtain ⟨h1, h2⟩ := aO.1 (show cb (rk1 n x) (rks n l) false = true from hp);exact ⟨aGH hw hz hk h1 h.1, aCg hw hz hk h2 h.2⟩
theorem aGI {d : Cx} (hw : d.w = c.w) (hz : d.z = c.z) (hk : ∀ i, i < n → d.k i ∧ d.r i = c.r (r i)) : ∀ {l : List AV} {vs : List Value}, rkV n l = true → VL c (aIr r l) vs → VL d l vs
 | [], [], _, _ => trivial
 | x :: l, v :: vs, hp, h => by
   obtain ⟨h1, h2⟩ := aO.1 (show cb (rkA n x) (rkV n l) false = true from hp);refine ⟨?_, aGI hw hz hk h2 h.2⟩;cases x with
   | t l2 => cases h1
   | c g l2 =>
     have h3 : VC c g (iN r l2) v := h.1;cases g with
     | true => obtain ⟨cs, e, h4⟩ := h3; exact ⟨cs, e, aCg hw hz hk h1 h4⟩
     | false =>
       obtain ⟨y, e, h4⟩ := h3
       match l2, e, h1 with
       | [z], e, h1 =>
         injection e with e _;subst e;obtain ⟨h5, -⟩ := aO.1 (show cb (rk1 n z) (rks n []) false = true from h1);exact ⟨z, rfl, aGH hw hz hk h5 h4⟩
end
theorem aDA {n : Nat} : ∀ {l : List B} {k : Nat} {s : List Nat}, aIs n l k s = true → ∀ i b, l[i]? = some b → rks n b.c = true ∧ (k + i ∈ s ∨ ∃ j d, j < i ∧ l[j]? = some d ∧ k + i ∈ rfs d.c [])
 | [], _, _, _, _, _, hi => by simp at hi
 | x :: l, k, s, h, i, b, hi => by
   obtain ⟨h1, h2⟩ := aO.1 (show cb (uE k s) (cb (rks n x.c) (aIs n l (Nat.succ k) (rfs x.c s)) false) false = true from h);obtain ⟨h3, h4⟩ := aO.1 h2;cases i with
   | zero => simp at hi; subst hi; exact ⟨h3, .inl (aDw h1)⟩
   | succ i =>
     obtain ⟨h5, h6⟩ := aDA h4 i b (by simpa using hi);refine ⟨h5, ?_⟩;rw [show k + (i + 1) = Nat.succ k + i from by omega];have split : ∀ {m : List SV} {y : Nat}, y ∈ rfs m s → y ∈ s ∨ y ∈ rfs m [] := fun {m} => by
      induction m with
      | nil => intro y hy; exact .inl hy
      | cons z m ih =>
        intro y hy;rcases aDz (show y ∈ rf1 z (rfs m s) from hy) with ⟨o, rfl⟩ | ⟨o, m2, cp, rfl⟩ | hy2
        ·exact .inr List.mem_cons_self
        ·exact .inr List.mem_cons_self
        ·clear hy;rcases ih hy2 with hy3 | hy3
         ·exact .inl hy3
         ·refine .inr ?_;show y ∈ rf1 z (rfs m []);unfold rf1;split
          ·exact List.mem_cons_of_mem _ hy3
          ·exact List.mem_cons_of_mem _ hy3
          ·exact hy3
     rcases h6 with h6 | ⟨j, d, hj, hd, h6⟩
     ·rcases split h6 with h6 | h6
      ·exact .inl h6
      ·exact .inr ⟨0, x, by omega, rfl, h6⟩
     ·exact .inr ⟨j + 1, d, by omega, by simpa using hd, h6⟩
theorem aMG {F : Cf} (hF : FOk F) (hm : F.P.follows .mixedOrders = true) {m fn : Nat} {p : Kc} {h' : H} (hs : okK p = true) (hv : plA p.v = true) (hx : bQ F (exec F m) fn p.args (mkH p.bs) = some (p.v, h')) {h : H} {l : List Nat} {args : List AV} (hck : aIu p l h args = true) {c : Cx} {wb : World} (R : Rl c wb h) (hz : ∀ t, c.z t = F.P.cellsOf t) (hb : F.tb c.w) {vs : List Value} (ha : VL c args vs) :
  Calls F.P fn vs.toArray c.w fun e w' => ∃ u, e = .returned u ∧ Q c.w w' ∧ VR ⟨c.n, c.k, c.r, w', c.z⟩ p.v u := by
 obtain ⟨k1, hck⟩ := aO.1 hck;obtain ⟨k2, hck⟩ := aO.1 hck;obtain ⟨k3, k4⟩ := aO.1 hck;have k1 := aI.1 k1;rw [bF, bF] at k1;have k2 := aGD k2;have k3 := aDy k3;have k4 := aGE k4;obtain ⟨ρ, hρ⟩ : ∃ ρ, ρ = ixN l := ⟨_, rfl⟩
 rw [← hρ] at k3 k4;subst k3;have hblk : ∀ i b, p.bs[i]? = some b → h.h.get (ρ i) = some ⟨b.ty, iN ρ b.c⟩ := fun i b hi => by
  have := k4 i b hi
  rwa [Nat.zero_add] at this
 have hne : ∀ i j, i < p.bs.length → j < p.bs.length → i ≠ j → ρ i ≠ ρ j := fun i j hi hj hij e => by
  rw [hρ, aGF (by omega), aGF (by omega)] at e;exact hij ((List.getElem_inj k2).1 e)
 obtain ⟨s1, s2⟩ := aO.1 hs;rw [bF] at s1 s2;have s3 := aDA s2;have hk : ∀ n i, i < n → i < p.bs.length → c.k (ρ i) := fun n => by
  induction n with
  | zero => intro i hi; omega
  | succ n ih =>
    intro i hi hl;obtain ⟨-, h6⟩ := s3 i p.bs[i] (List.getElem?_eq_getElem hl);rw [Nat.zero_add] at h6;rcases h6 with h6 | ⟨j, d, hj, hd, h6⟩
    ·exact aGG s1 ha h6
    ·have hjl := (List.getElem?_eq_some_iff.1 hd).1;have hkj := ih j (by omega) hjl;have hdc : d.c ≠ [] := fun e => (by rw [e] at h6; cases h6);have hrc : iN ρ d.c ≠ [] := by
      cases hdd : d.c with
      | nil => exact absurd hdd hdc
      | cons x t => intro e; cases e
     obtain ⟨row, tail, -, hcl, -⟩ := (R.blk _ _ (hblk j d hd)).2 ⟨hkj, hrc⟩;rcases aCf hcl h6 with h7 | h7
     ·cases h7
     ·exact h7
 have hk : ∀ i, i < p.bs.length → c.k (ρ i) := fun i hi => hk (i + 1) i (Nat.lt_succ_self i) hi;obtain ⟨c0, h0⟩ : ∃ c0 : Cx, c0 = ⟨p.bs.length, fun i => i < p.bs.length, fun i => c.r (ρ i), c.w, c.z⟩ := ⟨_, rfl⟩
 have e1 : c0.w = c.w := by rw [h0]
 have e2 : ∀ i, c0.r i = c.r (ρ i) := fun i => by rw [h0]
 have e4 : c0.z = c.z := by rw [h0]
 have e5 : ∀ i, i < p.bs.length → c0.k i ∧ c0.r i = c.r (ρ i) := fun i hi => by rw [h0]; exact ⟨hi, rfl⟩
 have hlp : ∀ l q, (mkH p.bs).l.get l = some q → False := fun l q hg => by
  have : (T.lf : T 5 Lp).get l = some q := hg;rw [T.get_lf] at this;cases this
 have hlt : ∀ {i b}, p.bs[i]? = some b → i < p.bs.length := fun h => (List.getElem?_eq_some_iff.1 h).1;have hrne : ∀ {b : B}, b.c ≠ [] → iN ρ b.c ≠ [] := fun {b} hb e => by
  cases hdd : b.c with
  | nil => exact hb hdd
  | cons x t => rw [hdd] at e; cases e
 have R0 : Rl c0 c.w (mkH p.bs) := by
  refine ⟨by rw [h0]; rfl, fun id q => ?_, by rw [e1]; exact Q.refl _, fun id b hi => ?_, fun i j b d hi hj hb' hd' hij => ?_, fun id b hi _ hbar => ?_, fun l q hl => (hlp l q hl).elim, fun i j q d hi => (hlp i q hi).elim⟩
  ·rw [h0] at q ⊢; exact q
  ·have hi := jI hi;refine ⟨hlt hi, fun hl => ?_⟩;obtain ⟨row, tail, b1, b2, b3⟩ := (R.blk (ρ id) _ (hblk id b hi)).2 ⟨hk id (hlt hi), hrne hl.2⟩;refine ⟨row, tail, by rw [e1, e2]; exact b1, aCg e1 e4 e5 (s3 id b hi).1 b2, fun hc => b3 ?_⟩;have key : ∀ m : List SV, E.calm m = true → E.calm (iN ρ m) = true := fun m => by
    induction m with
    | nil => intro _; rfl
    | cons x m ih =>
      intro h;obtain ⟨h1, h2⟩ := aO.1 (show cb (uL x) (E.calm m) false = true from h);show cb (uL (aEL ρ x)) (E.calm (iN ρ m)) false = true;rw [ih h2];have : uL (aEL ρ x) = uL x := by cases x <;> rfl
      rw [this, h1];rfl
   exact key _ hc
  ·have hi := jI hi;have hj := jI hj;rw [e2, e2];exact R.inj _ _ _ _ (hblk i b hi) (hblk j d hj) ⟨hk i (hlt hi), hrne hb'.2⟩ ⟨hk j (hlt hj), hrne hd'.2⟩ (hne i j (hlt hi) (hlt hj) hij)
  ·have h1 := hlt (jI hi);have hbar : p.bs.length ≤ id := hbar;omega
 have ha0 : VL c0 p.args vs := aGI e1 e4 e5 s1 ha;obtain ⟨-, hcr⟩ := fP hF (qZ hF hm m) hx R0 (fun t => by rw [e4]; exact hz t) (by first | exact hb | (rw [← e1] at hb; exact hb)) ha0;have hcr : Calls F.P fn vs.toArray c.w fun e w' => ∃ u d, e = .returned u ∧ d.w = w' ∧ Xt c0 d ∧ Rl d c.w h' ∧ VR d p.v u := by
  rw [← e1];rw [← e1] at hcr;exact hcr
 refine hcr.mono ?_;rintro e w' ⟨u, d, q1, q2, q3, q4, q5⟩;exact ⟨u, q1, q2 ▸ q4.q, aI2 (c := d) (d := ⟨c.n, c.k, c.r, w', c.z⟩) q2.symm hv q5⟩
theorem aGJ {F : Cf} (hF : FOk F) (hm : F.P.follows .mixedOrders = true) {m fn : Nat} {L : List Kc} (hL : ∀ p ∈ L, okK p = true ∧ plA p.v = true ∧ okW p.v (bQ F (exec F m) fn p.args (mkH p.bs)) = true) {h : H} {args : List AV} {v : AV} (hg : gKs L h args = some v) {c : Cx} {wb : World} (R : Rl c wb h) (hz : ∀ t, c.z t = F.P.cellsOf t) (hb : F.tb c.w) {vs : List Value} (ha : VL c args vs) :
  Calls F.P fn vs.toArray c.w fun e w' => ∃ u, e = .returned u ∧ Q c.w w' ∧ VR ⟨c.n, c.k, c.r, w', c.z⟩ v u := by
 induction L with
 | nil => cases hg
 | cons p L ih =>
   have hg : cb (aIu p (rho p h args) h args) (some p.v) (gKs L h args) = some v := hg;rw [aL] at hg;split at hg
   ·rename_i hck;injection hg with hg;subst hg;obtain ⟨h1, h2, h3⟩ := hL p List.mem_cons_self;obtain ⟨h', h4⟩ := aNI h3;exact aMG hF hm h1 h2 h4 hck R hz hb ha
   ·exact ih (fun q hq => hL q (List.mem_cons_of_mem _ hq)) hg
end Go.Proofs.YtamnpcdkcdfgaaaGreatDoor.E
