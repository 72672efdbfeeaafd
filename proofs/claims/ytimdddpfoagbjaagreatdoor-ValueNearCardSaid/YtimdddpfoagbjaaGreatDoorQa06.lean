/- Laws of values (P1.7, P1.8), each for every three strings; no condition. Part of the proof: texts Me1 Me2 Me3 Wa3 Wa4 Me4 Me5. -/
import Derived.Below
import Derived.BigQuiet
import Derived.Deep.DeepMust
import Derived.Deep.Draws
import Derived.Deep.OwnRows
import Derived.Deep.QuietTactic
import Derived.IntWalk
import Derived.Laws.AppendOwn
import Derived.Laws.BitsAllLaws
import Derived.Laws.CopyOwn
import Derived.Laws.OwnMore
import Derived.Laws.Rows
import Derived.Lib.Hide
import Derived.Maps.AppendAt
import Derived.OwnWalk
import Derived.Shelf.Spec.TrailingZeros
import Derived.WalkKit
import Derived.WalkLawsBesides
import Derived.WalkSpells
import Derived.Test.YtimdddpfoagbjaaGreatDoorQa01
import Derived.Test.YtimdddpfoagbjaaGreatDoorQa04
import Derived.Test.YtimdddpfoagbjaaGreatDoorQa05
namespace Go.Proofs.YtimdddpfoagbjaaGreatDoor.Me
open Go.RowKit
open Go.Proofs.YtimdddpfoagbjaaGreatDoor.Ma
theorem block_of_add (a : Addr) (n : Nat) : (a.add n).block = a.block := by unfold Addr.add; split <;> rfl
theorem add_of_add (a : Addr) (i j : Nat) : (a.add i).add j = a.add (i + j) := by
  unfold Addr.add
  by_cases hi : i = 0 <;> by_cases hj : j = 0 <;> simp [hi, hj, Nat.add_assoc]
theorem add_mk (g o k : Nat) : (⟨g, o, none⟩ : Addr).add k = ⟨g, o + k, none⟩ := by
  unfold Addr.add; split <;> simp_all
def nums (κ : IntKind) (ds : List Nat) : List Value := ds.map fun (d : Nat) => .int κ (d : Int)
theorem nums_get (κ : IntKind) (ds : List Nat) (j : Nat) : (nums κ ds)[j]? = ds[j]?.map (fun (d : Nat) => .int κ (d : Int)) := by simp [nums]
theorem nums_length (κ : IntKind) (ds : List Nat) : (nums κ ds).length = ds.length := by simp [nums]
theorem nums_set (κ : IntKind) (ds : List Nat) (j d : Nat) : (nums κ ds).set j (.int κ (d : Int)) = nums κ (ds.set j d) := by simp [nums]
def Rd (κ : IntKind) (w : World) (B : Nat) (A : Option Addr) (ds : List Nat) : Prop :=
  0 < ds.length → ∃ ad, A = some ad ∧ ad.block < B ∧ ∀ (j d : Nat), ds[j]? = some d → w.cell? (ad.add j) = some (.int κ (d : Int))
section
variable {κ : IntKind} {w w' : World} {B B' : Nat} {A : Option Addr} {ds : List Nat}
theorem Rd.nil : Rd κ w B A [] := fun h => absurd h (by simp)
theorem Rd.at_ {k : Nat} (h : Rd κ w B A ds) (hk : k < ds.length) : ∃ ad, A = some ad ∧ ad.block < B ∧ w.cell? (ad.add k) = some (.int κ (ds[k] : Int)) := by
  obtain ⟨ad, e, hb, hc⟩ := h (by omega)
  exact ⟨ad, e, hb, hc k _ (List.getElem?_eq_getElem hk)⟩
theorem Rd.head (h : Rd κ w B A ds) (hk : 0 < ds.length) : ∃ ad, A = some ad ∧ ad.block < B ∧ w.cell? ad = some (.int κ (ds[0] : Int)) := by
  obtain ⟨ad, e, hb, hc⟩ := h.at_ hk
  exact ⟨ad, e, hb, by simpa [Addr.add] using hc⟩
theorem Rd.keep (h : Rd κ w B A ds) (hk : ∀ p : Addr, p.block < B → w'.cell? p = w.cell? p) : Rd κ w' B A ds :=
  fun hn => by
    obtain ⟨ad, e, hb, hc⟩ := h hn
    exact ⟨ad, e, hb, fun j u hu => (hk _ (by rw [block_of_add]; exact hb)).trans (hc j u hu)⟩
theorem Rd.more (h : Rd κ w B A ds) (hB : B ≤ B') : Rd κ w B' A ds :=
  fun hn => by
    obtain ⟨ad, e, hb, hc⟩ := h hn
    exact ⟨ad, e, by omega, hc⟩
theorem Rd.below (h : Rd κ w B A ds) (hb : Below B w w') : Rd κ w' B A ds := h.keep fun _ hp => hb.cell hp
theorem Rd.drew (h : Rd κ w B A ds) : Rd κ w.drew B A ds := h
theorem Rd.drewN (h : Rd κ w B A ds) (k : Nat) : Rd κ (w.drewN k) B A ds := h
theorem Rd.alloc (h : Rd κ w B A ds) (hB : B ≤ w.heap.size) (o : Obj) : Rd κ (w.alloc o) B A ds := h.keep fun p hp => World.cell?_alloc_lt w o p (by omega)
theorem Rd.setCell (h : Rd κ w B A ds) {p : Addr} (hB : B ≤ p.block) (u : Value) : Rd κ (w.setCell p u) B A ds :=
  h.keep fun q hq => World.cell?_setCell_other w p q u (fun e => by subst e; omega)
theorem Rd.drop (h : Rd κ w B A ds) {k cap : Nat} (hc : ds.length ≤ cap) :
    Rd κ w B (if cap = k then A else A.map (·.add k)) (ds.drop k) := by
  intro hn
  rw [List.length_drop] at hn
  obtain ⟨ad, rfl, hb, hcell⟩ := h (by omega)
  rw [if_neg (by omega)]
  refine ⟨ad.add k, rfl, by rw [block_of_add]; exact hb, fun j u hu => ?_⟩
  rw [add_of_add]
  exact hcell _ u (by rw [← hu, List.getElem?_drop])
theorem Rd.take (h : Rd κ w B A ds) (k : Nat) : Rd κ w B A (ds.take k) := by
  intro hn
  rw [List.length_take] at hn
  obtain ⟨ad, rfl, hb, hcell⟩ := h (by omega)
  refine ⟨ad, rfl, hb, fun j u hu => hcell _ u ?_⟩
  rw [List.getElem?_take] at hu
  split at hu
  · exact hu
  · cases hu
end
def Blk (κ : IntKind) (w : World) (g : Nat) (t : TypeId) (ds : List Nat) : Prop := w.heap[g]? = some (.cells (nums κ ds).toArray t (0, 0))
section
variable {κ : IntKind} {w w' : World} {g : Nat} {t : TypeId} {ds : List Nat}
theorem Blk.lt (h : Blk κ w g t ds) : g < w.heap.size := by
  rcases Nat.lt_or_ge g w.heap.size with hlt | hge
  · exact hlt
  · unfold Blk at h; rw [Array.getElem?_eq_none hge] at h; cases h
theorem Blk.cell (h : Blk κ w g t ds) {i : Nat} (hi : i < ds.length) : w.cell? ⟨g, i, none⟩ = some (.int κ (ds[i] : Int)) := by
  rw [cell_of_row w g i _ t (0, 0) h]
  simp [nums, hi]
theorem Blk.frozen (h : Blk κ w g t ds) (i : Nat) : w.frozen? ⟨g, i, none⟩ = false := by
  unfold Blk at h
  simp [World.frozen?, h]
theorem Blk.new (w : World) (t : TypeId) (ds : List Nat) : Blk κ (w.alloc (.cells (nums κ ds).toArray t)) w.heap.size t ds := heap_alloc_new w _
theorem Blk.drew (h : Blk κ w g t ds) : Blk κ w.drew g t ds := h
theorem Blk.drewN (h : Blk κ w g t ds) (n : Nat) : Blk κ (w.drewN n) g t ds := h
theorem Blk.alloc (h : Blk κ w g t ds) (o : Obj) : Blk κ (w.alloc o) g t ds := (Below.heap_alloc w o g h.lt).trans h
theorem Blk.set_ (h : Blk κ w g t ds) (i d : Nat) : Blk κ (w.setCell ⟨g, i, none⟩ (.int κ (d : Int))) g t (ds.set i d) := by
  unfold Blk at h ⊢
  simp [World.setCell, Array.getElem?_modify, h, ← nums_set]
theorem Blk.put (h : Blk κ w g t ds) (i d : Nat) {e : Int} (he : e = (d : Int)) : Blk κ (w.setCell ⟨g, i, none⟩ (.int κ e)) g t (ds.set i d) := by
  subst he; exact h.set_ i d
theorem Blk.far (h : Blk κ w g t ds) {p : Addr} (hp : g ≠ p.block) (u : Value) : Blk κ (w.setCell p u) g t ds := (Below.heap_setCell w p u g hp).trans h
theorem Blk.below {B : Nat} (h : Blk κ w g t ds) (hb : Below B w w') (hg : g < B) : Blk κ w' g t ds := (hb.block g hg).trans h
theorem Blk.rd (h : Blk κ w g t ds) {B : Nat} (hB : g < B) : Rd κ w B (some ⟨g, 0, none⟩) ds := fun _ =>
  ⟨_, rfl, hB, fun j d hd => by
    obtain ⟨hj, rfl⟩ := List.getElem?_eq_some_iff.1 hd
    rw [add_mk, Nat.zero_add]
    exact h.cell hj⟩
end
def zs (κ : IntKind) (n : Nat) : Array Value := (nums κ (List.replicate n 0)).toArray
theorem made_zs (κ : IntKind) (n : Nat) : madeCells #[Value.int κ 0] n = zs κ n := by
  apply Array.ext_getElem?
  intro i
  by_cases hi : i < n
  · simp [madeCells, zs, nums, hi, Nat.mod_one]
  · simp [madeCells, zs, nums, hi]
theorem Blk.made {κ : IntKind} (w : World) (t : TypeId) (n : Nat) : Blk κ (w.alloc (.cells (zs κ n) t)) w.heap.size t (List.replicate n 0) := heap_alloc_new w _
def Q (w w' : World) : Prop := Below w.heap.size w w'
section
variable {a b c w w' : World}
theorem Q.refl (w : World) : Q w w := Below.refl _ _
theorem Q.size (h : Q a b) : a.heap.size ≤ b.heap.size := Below.size h
theorem Q.trans (h : Q a b) (k : Q b c) : Q a c := Below.trans h (Below.mono k (Below.size h))
theorem Q.drew (h : Q a b) : Q a b.drew := Below.drew h
theorem Q.drewN (h : Q a b) (n : Nat) : Q a (b.drewN n) := ⟨h.os, h.tape, h.output, h.size, h.block⟩
theorem Q.alloc (h : Q a b) (o : Obj) : Q a (b.alloc o) := Below.alloc h (Below.size h) o
theorem Q.setCell (h : Q a b) {p : Addr} (hp : a.heap.size ≤ p.block) (u : Value) : Q a (b.setCell p u) := Below.setCell h hp u
theorem Q.cell (h : Q w w') {p : Addr} (hp : p.block < w.heap.size) : w'.cell? p = w.cell? p := Below.cell h hp
theorem Q.frozen (h : Q w w') {p : Addr} (hp : p.block < w.heap.size) : w'.frozen? p = w.frozen? p := Below.frozen h hp
theorem Q.heap (h : Q w w') {g : Nat} (hg : g < w.heap.size) : w'.heap[g]? = w.heap[g]? := h.block g hg
end
theorem Rd.q {κ : IntKind} {w w' : World} {A : Option Addr} {ds : List Nat} (h : Rd κ w w.heap.size A ds) (hq : Q w w') : Rd κ w' w'.heap.size A ds :=
  (h.below hq).more hq.size
theorem Blk.q {κ : IntKind} {w w' : World} {g : Nat} {t : TypeId} {ds : List Nat} (h : Blk κ w g t ds) (hq : Q w w') : Blk κ w' g t ds := h.below hq h.lt
def Nn (κ : IntKind) (b : Nat) (w : World) (v : Value) (N : Nat) : Prop :=
  ∃ A c ds, v = .slice A ds.length c ∧ ds.length ≤ c ∧ Rd κ w w.heap.size A ds ∧ Wf b ds ∧ vl b ds = N
theorem Nn.q {κ : IntKind} {b : Nat} {w w' : World} {v : Value} {N : Nat} (h : Nn κ b w v N) (hq : Q w w') : Nn κ b w' v N := by
  obtain ⟨A, c, ds, h1, h2, h3, h4, h5⟩ := h
  exact ⟨A, c, ds, h1, h2, h3.q hq, h4, h5⟩
theorem Nn.zero {κ : IntKind} {b : Nat} {w : World} (A : Option Addr) (c : Nat) : Nn κ b w (.slice A 0 c) 0 := ⟨A, c, [], rfl, by simp, Rd.nil, Wf.nil, rfl⟩
theorem Nn.of_blk {κ : IntKind} {b : Nat} {w : World} {g k c N : Nat} {t : TypeId} {ds : List Nat} (h : Blk κ w g t ds) (hk : k ≤ ds.length) (hc : k ≤ c) (hz : Nz (ds.take k))
    (hd : ∀ d ∈ ds, d < b) (hv : vl b (ds.take k) = N) : Nn κ b w (.slice (some ⟨g, 0, none⟩) k c) N := by
  have hl : (ds.take k).length = k := by rw [List.length_take, Nat.min_eq_left hk]
  exact ⟨some ⟨g, 0, none⟩, c, ds.take k, by rw [hl], by rw [hl]; exact hc, (h.rd h.lt).take k, ⟨mem_take hd, hz⟩, hv⟩
def Nw (B : Nat) (v : Value) : Prop := ∀ ad n c, v = .slice (some ad) n c → B ≤ ad.block
theorem Nw.at_ {B g o n c : Nat} (h : B ≤ g) : Nw B (.slice (some ⟨g, o, none⟩) n c) := fun _ _ _ e => by cases e; exact h
theorem Nw.nil {B n c : Nat} : Nw B (.slice none n c) := fun _ _ _ e => by cases e
theorem Nw.more {B B' : Nat} {v : Value} (h : Nw B v) (hB : B' ≤ B) : Nw B' v := fun _ _ _ e => Nat.le_trans hB (h _ _ _ e)
def B30 : Nat := 1073741824
def W64 : Nat := 18446744073709551616
theorem W64_eq : W64 = 18446744073709551616 := rfl
theorem W64_gt : 1 < W64 := by decide
def LIM : Nat := 1099511627776
theorem LIM_eq : LIM = 1099511627776 := rfl
end Go.Proofs.YtimdddpfoagbjaaGreatDoor.Me
namespace Go.Proofs.YtimdddpfoagbjaaGreatDoor.Me
open Go.RowKit
open Go.Proofs.YtimdddpfoagbjaaGreatDoor.Ma
theorem ret_int {k : IntKind} {a b : Int} (h : a = b) : Ending.returned (.int k a) = .returned (.int k b) := by rw [h]
theorem ret_bool {a b : Bool} (h : a = b) : Ending.returned (.bool a) = .returned (.bool b) := by rw [h]
theorem cell_new (w : World) (v : Value) (t : TypeId) : (w.alloc (.cells #[v] t)).cell? ⟨w.heap.size, 0, none⟩ = some v := by
  rw [cell_of_row _ _ 0 _ t (0, 0) (heap_alloc_new w _)]; rfl
theorem run_app_nil {P : Program} (w : World) (base : Nat) (t ty e : TypeId) (i : TypeInfo) (size : Nat) (ht : P.underlying t = some (.slice e)) (hi : P.info? e = some i)
    (v : Value) (n : Nat) (xs : List Value) (hown : w.ownsRow base e size v n xs) (c : Nat) : (Builtin.append_ #[t, t] ty #[v, .slice none 0 c]).run P w = .ok v w := by
  rcases hown.2 with ⟨rfl, rfl⟩ | ⟨g, cap, cur, rfl, _, _, hnc, _⟩
  · simp [Builtin.append_, run_underlying ht, sizeOf, typeInfo, hi, Builtin.lenOf, Builtin.firstCells]
  · simp [Builtin.append_, run_underlying ht, sizeOf, typeInfo, hi, Builtin.lenOf, Builtin.firstCells, hnc, storeCells]
theorem run_app {P : Program} {κ : IntKind} {w : World} (base : Nat) (t ty e : TypeId) (i : TypeInfo) (z : Value) (bytes : Nat) (ht : P.underlying t = some (.slice e)) (hi : P.info? e = some i) (hz : i.zero = some z)
    (hsize : i.size = 1) (hby : i.bytes = bytes) (hzs : z.cells.size = 1)
    (v : Value) (n : Nat) (xs : List Nat) (hown : w.ownsRow base e 1 v n (nums κ xs))
    (B : Nat) (A : Option Addr) (m c : Nat) (ds : List Nat) (hm : ds.length = m) (hr : Rd κ w B A ds)
    (h63 : n + m ≤ maxLen) (hbytes : (n + m) * bytes ≤ 140737488355328) (hbase : base ≤ w.heap.size) :
    ∃ v' w', (Builtin.append_ #[t, t] ty #[v, .slice A m c]).run P w = .ok v' w' ∧ w'.ownsRow base e 1 v' (n + m) (nums κ (xs ++ ds)) ∧ w.grownBy w' v.ownBlock ∧
      (v'.ownBlock = v.ownBlock ∨ v'.ownBlock = some w.heap.size) := by
  subst hm
  rcases Nat.eq_zero_or_pos ds.length with h0 | h0
  · have hn : ds = [] := List.eq_nil_of_length_eq_zero h0
    subst hn
    rcases A with _ | ad
    · exact ⟨v, w, run_app_nil w base t ty e i 1 ht hi v n _ hown c, by simpa using hown, World.grownBy.refl w _, .inl rfl⟩
    · obtain ⟨v', w', hrun, h2, h3, _, h5⟩ := run_append_own_at (P := P) w base t ty e i z 1 bytes ht hi hz hsize hby hzs (by decide) v n _ hown ad 0 c [] rfl (by simp) (by simp) h63 hbytes hbase
      exact ⟨v', w', hrun, by simpa using h2, h3, h5⟩
  · obtain ⟨ad, rfl, _, hc⟩ := hr h0
    obtain ⟨v', w', hrun, h2, h3, _, h5⟩ := run_append_own_at (P := P) w base t ty e i z 1 bytes ht hi hz hsize hby hzs (by decide) v n _ hown ad ds.length c (nums κ ds) (by simp [nums])
      (by intro j u hu
          rw [nums_get] at hu
          obtain ⟨d, hd, rfl⟩ := Option.map_eq_some_iff.1 hu
          exact hc j d hd)
      (by intro u hu
          simp only [nums, List.mem_map] at hu
          obtain ⟨d, _, rfl⟩ := hu
          rfl) h63 hbytes hbase
    exact ⟨v', w', hrun, by simpa [nums] using h2, h3, h5⟩
theorem wpList_app {P : Program} {κ : IntKind} {w : World} {ops : Array Oper} {rest : List Oper} {o : Oper} {a : Act} {Q : Exit → Act → World → Prop}
    (hg : o.guard = none) (s x : Operand) (t : TypeId) (hop : o.op = Op.call { callee := Callee.builtin Builtin.append, args := #[s, x], argTypes := #[t, t] })
    (base : Nat) (e : TypeId) (i : TypeInfo) (z : Value) (bytes : Nat) (ht : P.underlying t = some (.slice e)) (hi : P.info? e = some i) (hz : i.zero = some z)
    (hsize : i.size = 1) (hby : i.bytes = bytes) (hzs : z.cells.size = 1)
    (v : Value) (n : Nat) (xs : List Nat) (hs : a.eval s = v) (hown : w.ownsRow base e 1 v n (nums κ xs))
    (B : Nat) (A : Option Addr) (m c : Nat) (ds : List Nat) (hx : a.eval x = .slice A m c) (hm : ds.length = m) (hr : Rd κ w B A ds)
    (h63 : n + m ≤ maxLen) (hbytes : (n + m) * bytes ≤ 140737488355328) (hbase : base ≤ w.heap.size)
    (hK : ∀ v' w', w'.ownsRow base e 1 v' (n + m) (nums κ (xs ++ ds)) → w.grownBy w' v.ownBlock → (v'.ownBlock = v.ownBlock ∨ v'.ownBlock = some w.heap.size) → wpList P ops Q rest (a.put o.dst v') w') :
    wpList P ops Q (o :: rest) a w := by
  refine wpList_plain hg fun K hK' => ?_
  obtain ⟨v', w', hrun, r1, r2, r3⟩ := run_app (P := P) base t o.type e i z bytes ht hi hz hsize hby hzs v n xs hown B A m c ds hm hr h63 hbytes hbase
  unfold Oper.wp
  simp [execOp, hop, resolve, invoke, builtin, hs, hx, hrun, Result.andThen]
  exact hK' _ _ (hK v' w' r1 r2 r3)
theorem owns_rd {κ : IntKind} {w : World} {base : Nat} {e : TypeId} {v : Value} {n : Nat} {ds : List Nat} (h : w.ownsRow base e 1 v n (nums κ ds)) (hn : 0 < n) :
    ∃ g cap, v = .slice (some ⟨g, 0, none⟩) n cap ∧ base ≤ g ∧ g < w.heap.size ∧ n ≤ cap ∧ cap ≤ maxLen ∧ ds.length = n ∧ Rd κ w w.heap.size (some ⟨g, 0, none⟩) ds := by
  rcases h.2 with ⟨_, rfl⟩ | ⟨g, cap, cur, rfl, hb, hh, hnc, hcm, hcs, htake⟩
  · omega
  · have hlt : g < w.heap.size := by
      rcases Nat.lt_or_ge g w.heap.size with hlt | hge
      · exact hlt
      · rw [Array.getElem?_eq_none hge] at hh; cases hh
    refine ⟨g, cap, rfl, hb, hlt, hnc, hcm, by have := h.1; simpa [nums] using this, fun _ => ⟨_, rfl, hlt, fun j d hd => ?_⟩⟩
    have := h.cells (g := g) rfl j (.int κ (d : Int)) (by rw [nums_get, hd]; rfl)
    exact this
theorem Q.grown {a w w' : World} {row : Option Nat} (h : Q a w) (hg : w.grownBy w' row) (hr : ∀ k, row = some k → a.heap.size ≤ k) : Q a w' := Below.grown h hg (Below.size h) hr
end Go.Proofs.YtimdddpfoagbjaaGreatDoor.Me
namespace Go.Proofs.YtimdddpfoagbjaaGreatDoor.Me
open Go.RowKit
open Go.Proofs.YtimdddpfoagbjaaGreatDoor.Ma
section
variable {a b c w w' : World} {g : Nat}
theorem Gr.refl (w : World) (g : Nat) : w.grownBy w (some g) := World.grownBy.refl w _
theorem Gr.trans (h : a.grownBy b (some g)) (k : b.grownBy c (some g)) : a.grownBy c (some g) := World.grownBy.trans h k
theorem Gr.q (h : a.grownBy b (some g)) (k : Q b c) : a.grownBy c (some g) :=
  ⟨k.os.trans h.os, k.tape.trans h.tape, k.output.trans h.output, Nat.le_trans h.size k.size, fun i hi hn => (k.block i (Nat.lt_of_lt_of_le hi h.size)).trans (h.block i hi hn)⟩
theorem Gr.drewN (h : a.grownBy b (some g)) (n : Nat) : a.grownBy (b.drewN n) (some g) := ⟨h.os, h.tape, h.output, h.size, h.block⟩
theorem Gr.drew (h : a.grownBy b (some g)) : a.grownBy b.drew (some g) := ⟨h.os, h.tape, h.output, h.size, h.block⟩
theorem Gr.alloc (h : a.grownBy b (some g)) (o : Obj) : a.grownBy (b.alloc o) (some g) := Gr.q h ((Q.refl _).alloc o)
theorem Gr.setCell (h : a.grownBy b (some g)) (o : Nat) (u : Value) : a.grownBy (b.setCell ⟨g, o, none⟩ u) (some g) :=
  ⟨h.os, h.tape, h.output, by simpa [World.setCell] using h.size, fun i hi hn => (Below.heap_setCell b _ u i (fun e => hn (by rw [e]))).trans (h.block i hi hn)⟩
theorem Gr.cell (h : a.grownBy b (some g)) {p : Addr} (hp : p.block < a.heap.size) (hg : p.block ≠ g) : b.cell? p = a.cell? p :=
  World.cell?_of_block (h.block _ hp (fun e => hg (by injection e)))
theorem Gr.frozen (h : a.grownBy b (some g)) {p : Addr} (hp : p.block < a.heap.size) (hg : p.block ≠ g) : b.frozen? p = a.frozen? p :=
  World.frozen?_of_block (h.block _ hp (fun e => hg (by injection e)))
theorem Gr.heap (h : a.grownBy b (some g)) {i : Nat} (hp : i < a.heap.size) (hg : i ≠ g) : b.heap[i]? = a.heap[i]? := h.block _ hp (fun e => hg (by injection e))
theorem Q.gr (h : Q a b) (k : b.grownBy c (some g)) (hg : a.heap.size ≤ g) : Q a c := Q.grown h k (fun i e => by injection e with e; omega)
end
def Src (w : World) (g off : Nat) (A : Option Addr) (xs : List Nat) : Prop :=
  0 < xs.length → ∃ b o, A = some ⟨b, o, none⟩ ∧ b < w.heap.size ∧ (b ≠ g ∨ b = g ∧ o = off) ∧ ∀ (j d : Nat), xs[j]? = some d → w.cell? ⟨b, o + j, none⟩ = some (.int .u64 (d : Int))
structure Part (w w' : World) (g t off k : Nat) (cs o : List Nat) : Prop where
  blk : Blk .u64 w' g t (cs.take off ++ o ++ cs.drop (off + k))
  gr : w.grownBy w' (some g)
theorem Src.at_ {w w' : World} {g t off k n : Nat} {A : Option Addr} {xs cs o : List Nat} (h : Src w g off A xs) (hb : Blk .u64 w g t cs) (hp : Part w w' g t off k cs o) (ho : o.length = k) (hn : off + n ≤ cs.length) (hx : xs.length = n) (hk : k < n) :
    ∃ b q, A = some ⟨b, q, none⟩ ∧ w'.cell? ⟨b, q + k, none⟩ = some (.int .u64 ((xs[k]'(by omega) : Nat) : Int)) := by
  obtain ⟨b, q, rfl, hlt, hcase, hc⟩ := h (by omega)
  refine ⟨b, q, rfl, ?_⟩
  have h0 := hc k _ (List.getElem?_eq_getElem (by omega))
  rcases hcase with hne | ⟨rfl, rfl⟩
  · rw [Gr.cell hp.gr (p := ⟨b, q + k, none⟩) hlt hne]; exact h0
  · rw [← h0, cell_of_row w' b (q + k) _ t (0, 0) hp.blk, cell_of_row w b (q + k) _ t (0, 0) hb]
    simp only [nums, List.getElem?_toArray, List.getElem?_map]
    rw [splice_get ho (by omega) (by omega)]
theorem Src.nil {w : World} {g off : Nat} {A : Option Addr} : Src w g off A [] := fun h => absurd h (by simp)
end Go.Proofs.YtimdddpfoagbjaaGreatDoor.Me
namespace Go.Proofs.YtimdddpfoagbjaaGreatDoor
open Go.RowKit
open Ma Me
def g_add (x y c : Nat) : Nat × Nat := ((x + y + c) % W64, (x + y + c) / W64)
theorem g_add_ok (x y c : Nat) (hx : x < W64) (hy : y < W64) (hc : c ≤ 1) : (g_add x y c).1 < W64 ∧ (g_add x y c).2 ≤ 1 := by
  unfold g_add
  refine ⟨Nat.mod_lt _ (by decide), ?_⟩
  rw [W64_eq] at *
  show (x + y + c) / _ ≤ 1
  omega
theorem run_add (x y c : Nat) (hc : c ≤ 1) (w : World) : (callFunc 202 #[.int .u64 (x : Int), .int .u64 (y : Int), .int .u64 (c : Int)]).run Tryz.prog w =
    .ok (.value (.tuple #[.int .u64 ((g_add x y c).1 : Int), .int .u64 ((g_add x y c).2 : Int)])) w := by
  unfold g_add W64
  exact Any7.bits_Add64 Tryz.lays7n25 x y c hc w
set_option maxRecDepth 100000 in
set_option maxHeartbeats 1000000 in
theorem carried_add (Az Ax Ay : Option Addr) (nz cz nx cx n cy gz t off c0 : Nat) (xs ys cs : List Nat) (w : World) (hc0 : c0 ≤ 1)
    (hb : Blk .u64 w gz t cs) (hoff : off + n ≤ cs.length) (hz : 0 < n → Az = some ⟨gz, off, none⟩) (hnz : n ≤ cz) (hnx : n ≤ cx) (hny : n ≤ cy) (hn : n ≤ 1099511627776)
    (lx : xs.length = n) (ly : ys.length = n) (sx : Src w gz off Ax xs) (sy : Src w gz off Ay ys) (hx : ∀ d ∈ xs, d < W64) (hy : ∀ d ∈ ys, d < W64) :
    Calls Tryz.prog 200 #[.slice Az nz cz, .slice Ax nx cx, .slice Ay n cy, .int .u64 (c0 : Int), .func (.func 202) #[] #[]] w
      fun e w' => e = .returned (.int .u64 ((runC g_add xs ys c0).2 : Int)) ∧ Blk .u64 w' gz t (cs.take off ++ (runC g_add xs ys c0).1 ++ cs.drop (off + n)) ∧ w.grownBy w' (some gz) := by
  have LX := Lib.hid lx; have LY := Lib.hid ly; clear lx ly
  go_enter Tryz.func200, Tryz.ntmps200
  go_wp2_with fail
  go_quiet (fail)
  go_wp2_with fail
  go_loopw [3, 23] (fun cv iv w1 => ∃ k : Nat, k ≤ n ∧ iv = .int .i64 (k : Int) ∧ cv = .int .u64 ((runC g_add (xs.take k) (ys.take k) c0).2 : Int) ∧ (runC g_add (xs.take k) (ys.take k) c0).2 ≤ 1 ∧
      Part w w1 gz t off k cs (runC g_add (xs.take k) (ys.take k) c0).1) (fun _ iv _ => n - (intOf iv).toNat)
  case atStart => exact ⟨0, by omega, rfl, rfl, hc0, ⟨by rw [List.take_zero, List.take_zero, runC_nil, splice_zero]; exact hb, Gr.drewN (Gr.refl _ _) _⟩⟩
  case round =>
    obtain ⟨k, hk, rfl, rfl, hpc, hp⟩ := hrel
    by_cases hlt : k < n
    · have hol : (runC g_add (xs.take k) (ys.take k) c0).1.length = k := by
        rw [runC_length _ _ _ _ (by rw [List.length_take, List.length_take, LX.out, LY.out]), List.length_take, LX.out]; omega
      obtain ⟨bx, qx, rfl, hcx⟩ := sx.at_ hb hp hol hoff LX.out hlt
      obtain ⟨by_, qy, rfl, hcy⟩ := sy.at_ hb hp hol hoff LY.out hlt
      obtain rfl := hz (by omega)
      have hkx : k < xs.length := by rw [LX.out]; exact hlt
      have hky : k < ys.length := by rw [LY.out]; exact hlt
      have hst := runC_take g_add c0 hkx hky
      have bx' : xs[k] < W64 := hx _ (List.getElem_mem _)
      have by' : ys[k] < W64 := hy _ (List.getElem_mem _)
      generalize xs[k] = x at *
      generalize ys[k] = y at *
      have HST := Lib.hid hst; clear hst
      have HOL := Lib.hid hol; clear hol
      have hcb := hp.blk
      have hkc : off + k < (cs.take off ++ (runC g_add (xs.take k) (ys.take k) c0).1 ++ cs.drop (off + k)).length := by
        rw [splice_length HOL.out (by omega)]; omega
      have HP := Lib.hid hp; clear hp hcb
      have HKC := Lib.hid hkc; clear hkc
      have hgs := g_add_ok x y _ bx' by' hpc
      generalize hcc : (runC g_add (xs.take k) (ys.take k) c0).2 = cc at *
      have HCC := Lib.hid hcc; clear hcc
      have hb2 := HP.out.blk
      have hE := fun w1 : World => run_add x y cc hpc w1
      have hcell := hb2.cell HKC.out
      have hfz := hb2.frozen (off + k)
      generalize (cs.take off ++ (runC g_add (xs.take k) (ys.take k) c0).1 ++ cs.drop (off + k))[off + k]'HKC.out = old at *
      go_wp2_with fail
      have hb3 := hb2.set_ (off + k) (g_add x y cc).1
      rw [splice_set HOL.out (by omega)] at hb3
      refine ⟨⟨k + 1, by omega, by go_num, ?_, ?_, ⟨?_, ?_⟩⟩, by simp [intOf]; omega⟩
      · rw [HST.out]
      · rw [HST.out]; exact hgs.2
      · rw [HST.out]; exact hb3
      · exact Gr.setCell HP.out.gr _ _
    · obtain rfl : k = n := by omega
      go_wp2_with fail
      go_ret
      rw [List.take_of_length_le (by rw [LX.out]; omega), List.take_of_length_le (by rw [LY.out]; omega)] at *
      exact ⟨rfl, hp.blk, hp.gr⟩
def g_sub (x y c : Nat) : Nat × Nat := ((x + W64 - y - c) % W64, if x < y + c then 1 else 0)
theorem g_sub_ok (x y c : Nat) (_ : x < W64) (_ : y < W64) (_ : c ≤ 1) : (g_sub x y c).1 < W64 ∧ (g_sub x y c).2 ≤ 1 := by
  unfold g_sub
  refine ⟨Nat.mod_lt _ (by decide), ?_⟩
  show (if x < y + c then 1 else 0) ≤ 1
  split <;> omega
theorem run_sub (x y c : Nat) (hc : c ≤ 1) (w : World) : (callFunc 248 #[.int .u64 (x : Int), .int .u64 (y : Int), .int .u64 (c : Int)]).run Tryz.prog w =
    .ok (.value (.tuple #[.int .u64 ((g_sub x y c).1 : Int), .int .u64 ((g_sub x y c).2 : Int)])) w := by
  unfold g_sub W64
  exact Any7.bits_Sub64 Tryz.lays7n26 x y c hc w
set_option maxRecDepth 100000 in
set_option maxHeartbeats 1000000 in
theorem carried_sub (Az Ax Ay : Option Addr) (nz cz nx cx n cy gz t off c0 : Nat) (xs ys cs : List Nat) (w : World) (hc0 : c0 ≤ 1)
    (hb : Blk .u64 w gz t cs) (hoff : off + n ≤ cs.length) (hz : 0 < n → Az = some ⟨gz, off, none⟩) (hnz : n ≤ cz) (hnx : n ≤ cx) (hny : n ≤ cy) (hn : n ≤ 1099511627776)
    (lx : xs.length = n) (ly : ys.length = n) (sx : Src w gz off Ax xs) (sy : Src w gz off Ay ys) (hx : ∀ d ∈ xs, d < W64) (hy : ∀ d ∈ ys, d < W64) :
    Calls Tryz.prog 200 #[.slice Az nz cz, .slice Ax nx cx, .slice Ay n cy, .int .u64 (c0 : Int), .func (.func 248) #[] #[]] w
      fun e w' => e = .returned (.int .u64 ((runC g_sub xs ys c0).2 : Int)) ∧ Blk .u64 w' gz t (cs.take off ++ (runC g_sub xs ys c0).1 ++ cs.drop (off + n)) ∧ w.grownBy w' (some gz) := by
  have LX := Lib.hid lx; have LY := Lib.hid ly; clear lx ly
  go_enter Tryz.func200, Tryz.ntmps200
  go_wp2_with fail
  go_quiet (fail)
  go_wp2_with fail
  go_loopw [3, 23] (fun cv iv w1 => ∃ k : Nat, k ≤ n ∧ iv = .int .i64 (k : Int) ∧ cv = .int .u64 ((runC g_sub (xs.take k) (ys.take k) c0).2 : Int) ∧ (runC g_sub (xs.take k) (ys.take k) c0).2 ≤ 1 ∧
      Part w w1 gz t off k cs (runC g_sub (xs.take k) (ys.take k) c0).1) (fun _ iv _ => n - (intOf iv).toNat)
  case atStart => exact ⟨0, by omega, rfl, rfl, hc0, ⟨by rw [List.take_zero, List.take_zero, runC_nil, splice_zero]; exact hb, Gr.drewN (Gr.refl _ _) _⟩⟩
  case round =>
    obtain ⟨k, hk, rfl, rfl, hpc, hp⟩ := hrel
    by_cases hlt : k < n
    · have hol : (runC g_sub (xs.take k) (ys.take k) c0).1.length = k := by
        rw [runC_length _ _ _ _ (by rw [List.length_take, List.length_take, LX.out, LY.out]), List.length_take, LX.out]; omega
      obtain ⟨bx, qx, rfl, hcx⟩ := sx.at_ hb hp hol hoff LX.out hlt
      obtain ⟨by_, qy, rfl, hcy⟩ := sy.at_ hb hp hol hoff LY.out hlt
      obtain rfl := hz (by omega)
      have hkx : k < xs.length := by rw [LX.out]; exact hlt
      have hky : k < ys.length := by rw [LY.out]; exact hlt
      have hst := runC_take g_sub c0 hkx hky
      have bx' : xs[k] < W64 := hx _ (List.getElem_mem _)
      have by' : ys[k] < W64 := hy _ (List.getElem_mem _)
      generalize xs[k] = x at *
      generalize ys[k] = y at *
      have HST := Lib.hid hst; clear hst
      have HOL := Lib.hid hol; clear hol
      have hcb := hp.blk
      have hkc : off + k < (cs.take off ++ (runC g_sub (xs.take k) (ys.take k) c0).1 ++ cs.drop (off + k)).length := by
        rw [splice_length HOL.out (by omega)]; omega
      have HP := Lib.hid hp; clear hp hcb
      have HKC := Lib.hid hkc; clear hkc
      have hgs := g_sub_ok x y _ bx' by' hpc
      generalize hcc : (runC g_sub (xs.take k) (ys.take k) c0).2 = cc at *
      have HCC := Lib.hid hcc; clear hcc
      have hb2 := HP.out.blk
      have hE := fun w1 : World => run_sub x y cc hpc w1
      have hcell := hb2.cell HKC.out
      have hfz := hb2.frozen (off + k)
      generalize (cs.take off ++ (runC g_sub (xs.take k) (ys.take k) c0).1 ++ cs.drop (off + k))[off + k]'HKC.out = old at *
      go_wp2_with fail
      have hb3 := hb2.set_ (off + k) (g_sub x y cc).1
      rw [splice_set HOL.out (by omega)] at hb3
      refine ⟨⟨k + 1, by omega, by go_num, ?_, ?_, ⟨?_, ?_⟩⟩, by simp [intOf]; omega⟩
      · rw [HST.out]
      · rw [HST.out]; exact hgs.2
      · rw [HST.out]; exact hb3
      · exact Gr.setCell HP.out.gr _ _
    · obtain rfl : k = n := by omega
      go_wp2_with fail
      go_ret
      rw [List.take_of_length_le (by rw [LX.out]; omega), List.take_of_length_le (by rw [LY.out]; omega)] at *
      exact ⟨rfl, hp.blk, hp.gr⟩
end Go.Proofs.YtimdddpfoagbjaaGreatDoor
namespace Go.Proofs.YtimdddpfoagbjaaGreatDoor
open Go.RowKit
open Ma Me
theorem mul64 (x f hi lo : Nat) (hx : x < W64) (hf : f < W64) (hh : x * f / 18446744073709551616 = hi) (hl : x * f % 18446744073709551616 = lo) (w : World) :
    Calls Tryz.prog 179 #[.int .u64 (x : Int), .int .u64 (f : Int)] w fun e w' => e = .returned (.tuple #[.int .u64 (hi : Int), .int .u64 (lo : Int)]) ∧ w = w' := by
  subst hh hl
  exact (Tryz.bits_Mul64 x f hx hf w).mono fun _ _ ⟨h1, h2⟩ => ⟨h1, h2.symm⟩
theorem add0 (x y s o : Nat) (hs : (x + y) % 18446744073709551616 = s) (ho : (x + y) / 18446744073709551616 = o) (w : World) :
    (callFunc 202 #[.int .u64 (x : Int), .int .u64 (y : Int), .int .u64 0]).run Tryz.prog w = .ok (.value (.tuple #[.int .u64 (s : Int), .int .u64 (o : Int)])) w := by
  subst hs ho
  exact run_add x y 0 (by omega) w
theorem sub0 (x y s o : Nat) (hs : (x + 18446744073709551616 - y) % 18446744073709551616 = s) (ho : (if x < y then 1 else 0) = o) (w : World) :
    (callFunc 248 #[.int .u64 (x : Int), .int .u64 (y : Int), .int .u64 0]).run Tryz.prog w = .ok (.value (.tuple #[.int .u64 (s : Int), .int .u64 (o : Int)])) w := by
  subst hs ho
  exact run_sub x y 0 (by omega) w
theorem wrap_nat {n : Nat} (h : n < 18446744073709551616) : IntKind.u64.wrap (n : Int) = (n : Int) := by
  rw [IntKind.wrap_u64]; omega
theorem tup2 {k l : IntKind} {a b c d : Int} (h1 : a = c) (h2 : b = d) : Ending.returned (.tuple #[.int k a, .int l b]) = .returned (.tuple #[.int k c, .int l d]) := by rw [h1, h2]
def g_scale (f x _y c : Nat) : Nat × Nat := ((x * f + c) % W64, (x * f + c) / W64)
def g_addScaled (f x y c : Nat) : Nat × Nat := ((y * f + c + x) % W64, (y * f + c + x) / W64)
def g_addTail (x _y c : Nat) : Nat × Nat := ((x + c) % W64, (x + c) / W64)
def g_subTail (x _y c : Nat) : Nat × Nat := ((x + W64 - c) % W64, if x < c then 1 else 0)
set_option maxRecDepth 100000 in
set_option maxHeartbeats 400000 in
theorem cl_scale (f x y c : Nat) (b : Addr) (w : World) (hx : x < W64) (hc : c < W64) (hf : f < W64) (hb : w.cell? b = some (.int .u64 (f : Int))) :
    Calls Tryz.prog 201 #[.int .u64 (x : Int), .int .u64 (y : Int), .int .u64 (c : Int), .pointer (some b)] w fun e w' => e = .returned (.tuple #[.int .u64 ((g_scale f x y c).1 : Int), .int .u64 ((g_scale f x y c).2 : Int)]) ∧ Q w w' := by
  go_enter Tryz.func201, Tryz.ntmps201
  obtain ⟨hi, hh⟩ : ∃ hi, x * f / 18446744073709551616 = hi := ⟨_, rfl⟩
  obtain ⟨lo, hl⟩ : ∃ lo, x * f % 18446744073709551616 = lo := ⟨_, rfl⟩
  obtain ⟨s, hs⟩ : ∃ s, (lo + c) % 18446744073709551616 = s := ⟨_, rfl⟩
  obtain ⟨o, ho⟩ : ∃ o, (lo + c) / 18446744073709551616 = o := ⟨_, rfl⟩
  have hE := add0 lo c s o hs ho
  have H := Lib.hid (scale_ok hx hf hc hh hl hs ho)
  have H1 := Lib.hid hh; have H2 := Lib.hid hl
  clear hh hl hs ho
  go_wp2_with fail
  refine (mul64 x f hi lo hx hf H1.out H2.out _).mono ?_
  rintro e w' ⟨rfl, rfl⟩
  go_wp2_with fail
  go_ret2
  obtain ⟨h1, h2, h3⟩ := H.out
  refine ⟨tup2 (by rw [h1]; rfl) ?_, Q.refl _⟩
  rw [← Int.natCast_add, wrap_nat h3, h2]; rfl
set_option maxRecDepth 100000 in
set_option maxHeartbeats 400000 in
theorem cl_addScaled (f x y c : Nat) (b : Addr) (w : World) (hx : x < W64) (hy : y < W64) (hc : c < W64) (hf : f < W64) (hb : w.cell? b = some (.int .u64 (f : Int))) :
    Calls Tryz.prog 246 #[.int .u64 (x : Int), .int .u64 (y : Int), .int .u64 (c : Int), .pointer (some b)] w fun e w' => e = .returned (.tuple #[.int .u64 ((g_addScaled f x y c).1 : Int), .int .u64 ((g_addScaled f x y c).2 : Int)]) ∧ Q w w' := by
  go_enter Tryz.func246, Tryz.ntmps246
  obtain ⟨hi, hh⟩ : ∃ hi, y * f / 18446744073709551616 = hi := ⟨_, rfl⟩
  obtain ⟨lo, hl⟩ : ∃ lo, y * f % 18446744073709551616 = lo := ⟨_, rfl⟩
  obtain ⟨s, hs⟩ : ∃ s, (lo + c) % 18446744073709551616 = s := ⟨_, rfl⟩
  obtain ⟨o, ho⟩ : ∃ o, (lo + c) / 18446744073709551616 = o := ⟨_, rfl⟩
  obtain ⟨s2, hs2⟩ : ∃ s2, (s + x) % 18446744073709551616 = s2 := ⟨_, rfl⟩
  obtain ⟨o2, ho2⟩ : ∃ o2, (s + x) / 18446744073709551616 = o2 := ⟨_, rfl⟩
  have hE := add0 lo c s o hs ho
  have hE2 := add0 s x s2 o2 hs2 ho2
  have H := Lib.hid (addScaled_ok hx hy hf hc hh hl hs ho hs2 ho2)
  have H1 := Lib.hid hh; have H2 := Lib.hid hl
  clear hh hl hs ho hs2 ho2
  go_wp2_with fail
  refine (mul64 y f hi lo hy hf H1.out H2.out _).mono ?_
  rintro e w' ⟨rfl, rfl⟩
  go_wp2_with fail
  go_ret2
  obtain ⟨h1, h2, h3, h4⟩ := H.out
  refine ⟨tup2 (by rw [h1]; rfl) ?_, Q.refl _⟩
  rw [← Int.natCast_add, wrap_nat h4, ← Int.natCast_add, wrap_nat h3, h2]; rfl
set_option maxRecDepth 100000 in
set_option maxHeartbeats 400000 in
theorem cl_subScaled (f x y c : Nat) (b : Addr) (w : World) (hy : y < W64) (hc : c < W64) (hf : f < W64) (hb : w.cell? b = some (.int .u64 (f : Int))) :
    Calls Tryz.prog 266 #[.int .u64 (x : Int), .int .u64 (y : Int), .int .u64 (c : Int), .pointer (some b)] w fun e w' => e = .returned (.tuple #[.int .u64 ((subS f x y c).1 : Int), .int .u64 ((subS f x y c).2 : Int)]) ∧ Q w w' := by
  go_enter Tryz.func266, Tryz.ntmps266
  obtain ⟨hi, hh⟩ : ∃ hi, y * f / 18446744073709551616 = hi := ⟨_, rfl⟩
  obtain ⟨lo, hl⟩ : ∃ lo, y * f % 18446744073709551616 = lo := ⟨_, rfl⟩
  obtain ⟨s, hs⟩ : ∃ s, (lo + c) % 18446744073709551616 = s := ⟨_, rfl⟩
  obtain ⟨o, ho⟩ : ∃ o, (lo + c) / 18446744073709551616 = o := ⟨_, rfl⟩
  obtain ⟨s2, hs2⟩ : ∃ s2, (x + 18446744073709551616 - s) % 18446744073709551616 = s2 := ⟨_, rfl⟩
  obtain ⟨o2, ho2⟩ : ∃ o2, (if x < s then 1 else 0) = o2 := ⟨_, rfl⟩
  have hE := add0 lo c s o hs ho
  have hE2 := sub0 x s s2 o2 hs2 ho2
  have H := Lib.hid (subScaled_ok hy hf hc hh hl hs ho hs2 ho2)
  have H1 := Lib.hid hh; have H2 := Lib.hid hl
  clear hh hl hs ho hs2 ho2
  go_wp2_with fail
  refine (mul64 y f hi lo hy hf H1.out H2.out _).mono ?_
  rintro e w' ⟨rfl, rfl⟩
  go_wp2_with fail
  go_ret2
  obtain ⟨h1, h2, h3, h4⟩ := H.out
  refine ⟨tup2 (by rw [← h1]) ?_, Q.refl _⟩
  rw [← Int.natCast_add, wrap_nat h4, ← Int.natCast_add, wrap_nat h3, h2]
set_option maxRecDepth 100000 in
set_option maxHeartbeats 400000 in
theorem cl_combine (f h x y c : Nat) (b d : Addr) (w : World) (hx : x < W64) (hy : y < W64) (hc : c < W64) (hf : f < W64) (hh : h < W64) (hb : w.cell? b = some (.int .u64 (f : Int))) (hd : w.cell? d = some (.int .u64 (h : Int))) :
    Calls Tryz.prog 255 #[.int .u64 (x : Int), .int .u64 (y : Int), .int .u64 (c : Int), .pointer (some b), .pointer (some d)] w fun e w' => e = .returned (.tuple #[.int .u64 ((comb f h x y c).1 : Int), .int .u64 ((comb f h x y c).2 : Int)]) ∧ Q w w' := by
  go_enter Tryz.func255, Tryz.ntmps255
  obtain ⟨hix, hhx⟩ : ∃ hi, x * f / 18446744073709551616 = hi := ⟨_, rfl⟩
  obtain ⟨lox, hlx⟩ : ∃ lo, x * f % 18446744073709551616 = lo := ⟨_, rfl⟩
  obtain ⟨hiy, hhy⟩ : ∃ hi, y * h / 18446744073709551616 = hi := ⟨_, rfl⟩
  obtain ⟨loy, hly⟩ : ∃ lo, y * h % 18446744073709551616 = lo := ⟨_, rfl⟩
  obtain ⟨s, hs⟩ : ∃ s, (lox + 18446744073709551616 - loy) % 18446744073709551616 = s := ⟨_, rfl⟩
  obtain ⟨o, ho⟩ : ∃ o, (if lox < loy then 1 else 0) = o := ⟨_, rfl⟩
  obtain ⟨s2, hs2⟩ : ∃ s2, (s + c) % 18446744073709551616 = s2 := ⟨_, rfl⟩
  obtain ⟨o2, ho2⟩ : ∃ o2, (s + c) / 18446744073709551616 = o2 := ⟨_, rfl⟩
  have hE := sub0 lox loy s o hs ho
  have hE2 := add0 s c s2 o2 hs2 ho2
  have H := Lib.hid (comb_ok hc hhx hlx hhy hly hs ho hs2 ho2)
  have H1 := Lib.hid hhx; have H2 := Lib.hid hlx; have H3 := Lib.hid hhy; have H4 := Lib.hid hly
  clear hhx hlx hs ho hhy hly hs2 ho2
  go_wp2_with fail
  refine (mul64 x f hix lox hx hf H1.out H2.out _).mono ?_
  rintro e w' ⟨rfl, rfl⟩
  go_wp2_with fail
  refine (mul64 y h hiy loy hy hh H3.out H4.out _).mono ?_
  rintro e w' ⟨rfl, rfl⟩
  go_wp2_with fail
  go_ret2
  obtain ⟨h1, h2⟩ := H.out
  refine ⟨tup2 (by rw [← h1]) ?_, Q.refl _⟩
  simp only [IntKind.wrap_u64, wrap64]
  exact h2
set_option maxRecDepth 100000 in
set_option maxHeartbeats 400000 in
theorem cl_addTail (x y c : Nat) (w : World) (hc : c ≤ 1) :
    Calls Tryz.prog 247 #[.int .u64 (x : Int), .int .u64 (y : Int), .int .u64 (c : Int)] w fun e w' => e = .returned (.tuple #[.int .u64 ((g_addTail x y c).1 : Int), .int .u64 ((g_addTail x y c).2 : Int)]) ∧ Q w w' := by
  have hE := fun w1 : World => run_add x 0 c hc w1
  have e0 : ((0 : Nat) : Int) = 0 := rfl
  rw [e0] at hE
  obtain ⟨s, hs⟩ : ∃ s, g_add x 0 c = s := ⟨_, rfl⟩
  rw [hs] at hE
  have HS := Lib.hid hs; clear hs e0
  go_enter Tryz.func247, Tryz.ntmps247
  go_wp2_with fail
  go_ret2
  refine ⟨?_, Q.refl _⟩
  rw [← HS.out]; rfl
set_option maxRecDepth 100000 in
set_option maxHeartbeats 400000 in
theorem cl_subTail (x y c : Nat) (w : World) (hc : c ≤ 1) :
    Calls Tryz.prog 249 #[.int .u64 (x : Int), .int .u64 (y : Int), .int .u64 (c : Int)] w fun e w' => e = .returned (.tuple #[.int .u64 ((g_subTail x y c).1 : Int), .int .u64 ((g_subTail x y c).2 : Int)]) ∧ Q w w' := by
  have hE := fun w1 : World => run_sub x 0 c hc w1
  have e0 : ((0 : Nat) : Int) = 0 := rfl
  rw [e0] at hE
  obtain ⟨s, hs⟩ : ∃ s, g_sub x 0 c = s := ⟨_, rfl⟩
  rw [hs] at hE
  have HS := Lib.hid hs; clear hs e0
  go_enter Tryz.func249, Tryz.ntmps249
  go_wp2_with fail
  go_ret2
  refine ⟨?_, Q.refl _⟩
  rw [← HS.out]
  unfold g_sub g_subTail
  simp
set_option maxRecDepth 100000 in
set_option maxHeartbeats 400000 in
theorem cl_left (p x y c : Nat) (b : Addr) (w : World) (hx : x < W64) (hc : c < 2 ^ p) (hp : p < 64) (hb : w.cell? b = some (.int .u64 (p : Int))) :
    Calls Tryz.prog 204 #[.int .u64 (x : Int), .int .u64 (y : Int), .int .u64 (c : Int), .pointer (some b)] w fun e w' => e = .returned (.tuple #[.int .u64 ((shL p x c).1 : Int), .int .u64 ((shL p x c).2 : Int)]) ∧ Q w w' := by
  obtain ⟨h1, h2, h3, _⟩ := shL_ok hp hx hc
  have H1 := Lib.hid h1; clear h1
  rw [W64_eq] at hx
  go_enter Tryz.func204, Tryz.ntmps204
  go_wp2_with fail
  go_quiet (fail)
  go_wp2_with fail
  go_ret2
  refine ⟨tup2 ?_ ?_, (Q.refl _).drewN _⟩
  · have e : IntKind.u64.wrap ((x : Int) * 2 ^ p) = ((x * 2 ^ p % 18446744073709551616 : Nat) : Int) := by
      rw [IntKind.wrap_u64, Int.natCast_emod, Int.natCast_mul, Int.natCast_pow]; rfl
    show bits BinOp.or IntKind.u64 (IntKind.u64.wrap ((x : Int) * 2 ^ p)) (c : Int) = _
    have h5 : 2 ^ p ≤ 2 ^ 63 := Nat.pow_le_pow_right (by decide) (by omega)
    have h6 : (2 : Nat) ^ 63 = 9223372036854775808 := rfl
    rw [e, u64_or_nat _ _ (Nat.mod_lt _ (by decide)) (by omega), H1.out]
  · show (x : Int) / 2 ^ (64 - p) = _
    unfold shL
    rw [Int.natCast_ediv, Int.natCast_pow]; rfl
set_option maxRecDepth 100000 in
set_option maxHeartbeats 400000 in
theorem cl_right (p x y c : Nat) (b : Addr) (w : World) (_ : x < W64) (hy : y < W64) (hp : p < 64) (hb : w.cell? b = some (.int .u64 (p : Int))) :
    Calls Tryz.prog 206 #[.int .u64 (x : Int), .int .u64 (y : Int), .int .u64 (c : Int), .pointer (some b)] w fun e w' => e = .returned (.tuple #[.int .u64 ((shR p x y : Nat) : Int), .int .u64 ((0 : Nat) : Int)]) ∧ Q w w' := by
  have H1 := Lib.hid (shR_ok (a := x) hp hy).1
  have H2 := Lib.hid hy
  rw [W64_eq] at hy
  go_enter Tryz.func206, Tryz.ntmps206
  go_wp2_with fail
  go_ret2
  refine ⟨tup2 ?_ rfl, Q.refl _⟩
  have e : IntKind.u64.wrap ((x : Int) * 2 ^ (64 - p)) = ((x * 2 ^ (64 - p) % 18446744073709551616 : Nat) : Int) := by
    rw [IntKind.wrap_u64, Int.natCast_emod, Int.natCast_mul, Int.natCast_pow]; rfl
  have e2 : (y : Int) / 2 ^ p = ((y / 2 ^ p : Nat) : Int) := by
    rw [Int.natCast_ediv, Int.natCast_pow]; rfl
  show bits BinOp.or IntKind.u64 ((y : Int) / 2 ^ p) (IntKind.u64.wrap ((x : Int) * 2 ^ (64 - p))) = _
  rw [e, e2, u64_or_nat _ _ (Nat.lt_of_le_of_lt (Nat.div_le_self _ _) hy) (Nat.mod_lt _ (by decide)), H1.out]
end Go.Proofs.YtimdddpfoagbjaaGreatDoor
namespace Go.Proofs.YtimdddpfoagbjaaGreatDoor.Me
open Go.RowKit
open Go.Proofs.YtimdddpfoagbjaaGreatDoor.Ma
theorem Src.after {w w1 : World} {g t off k cap : Nat} {A : Option Addr} {xs cs o : List Nat} (h : Src w g off A xs) (hb : Blk .u64 w g t cs)
    (hp1 : Blk .u64 w1 g t (cs.take off ++ o ++ cs.drop (off + k))) (hp2 : w.grownBy w1 (some g)) (ho : o.length = k) (hk : k ≤ xs.length) (hoff : off + xs.length ≤ cs.length) (hc : xs.length ≤ cap) :
    Src w1 g (off + k) (if cap = k then A else A.map (·.add k)) (xs.drop k) := by
  intro hn
  rw [List.length_drop] at hn
  obtain ⟨b, q, rfl, hlt, hcase, hcell⟩ := h (by omega)
  rw [if_neg (by omega)]
  refine ⟨b, q + k, by simp [add_mk], Nat.lt_of_lt_of_le hlt hp2.size, ?_, fun j d hd => ?_⟩
  · rcases hcase with h1 | ⟨rfl, rfl⟩
    · exact Or.inl h1
    · exact Or.inr ⟨rfl, rfl⟩
  · rw [List.getElem?_drop] at hd
    have h0 := hcell (k + j) d hd
    have hkj : k + j < xs.length := (List.getElem?_eq_some_iff.1 hd).1
    rw [Nat.add_assoc]
    rcases hcase with hne | ⟨rfl, rfl⟩
    · rw [Gr.cell hp2 (p := ⟨b, q + (k + j), none⟩) hlt hne]; exact h0
    · rw [← h0, cell_of_row w1 b (q + (k + j)) _ t (0, 0) hp1, cell_of_row w b (q + (k + j)) _ t (0, 0) hb]
      simp only [nums, List.getElem?_toArray, List.getElem?_map]
      rw [splice_get ho (by omega) (by omega)]
theorem Src.q {w w' : World} {g off : Nat} {A : Option Addr} {xs : List Nat} (h : Src w g off A xs) (hq : Q w w') : Src w' g off A xs := fun hn => by
  obtain ⟨b, o, e, hlt, hcase, hc⟩ := h hn
  exact ⟨b, o, e, Nat.lt_of_lt_of_le hlt hq.size, hcase, fun j d hd => (hq.cell hlt).trans (hc j d hd)⟩
def Rw (w : World) (A : Option Addr) (xs : List Nat) : Prop :=
  0 < xs.length → ∃ b o, A = some ⟨b, o, none⟩ ∧ b < w.heap.size ∧ ∀ (j d : Nat), xs[j]? = some d → w.cell? ⟨b, o + j, none⟩ = some (.int .u64 (d : Int))
section
variable {w w' : World} {A : Option Addr} {xs : List Nat}
theorem Rw.nil : Rw w A [] := fun h => absurd h (by simp)
theorem Rw.at_ {k : Nat} (h : Rw w A xs) (hk : k < xs.length) : ∃ b o, A = some ⟨b, o, none⟩ ∧ b < w.heap.size ∧ w.cell? ⟨b, o + k, none⟩ = some (.int .u64 (xs[k] : Int)) := by
  obtain ⟨b, o, e, hb, hc⟩ := h (by omega)
  exact ⟨b, o, e, hb, hc k _ (List.getElem?_eq_getElem hk)⟩
theorem Rw.head (h : Rw w A xs) (hk : 0 < xs.length) : ∃ b o, A = some ⟨b, o, none⟩ ∧ b < w.heap.size ∧ w.cell? ⟨b, o, none⟩ = some (.int .u64 (xs[0] : Int)) := h.at_ hk
theorem Rw.q (h : Rw w A xs) (hq : Q w w') : Rw w' A xs := fun hn => by
  obtain ⟨b, o, e, hb, hc⟩ := h hn
  exact ⟨b, o, e, Nat.lt_of_lt_of_le hb hq.size, fun j d hd => (hq.cell hb).trans (hc j d hd)⟩
theorem Rw.drop (h : Rw w A xs) {k cap : Nat} (hc : xs.length ≤ cap) : Rw w (if cap = k then A else A.map (·.add k)) (xs.drop k) := by
  intro hn
  rw [List.length_drop] at hn
  obtain ⟨b, o, rfl, hb, hcell⟩ := h (by omega)
  rw [if_neg (by omega)]
  refine ⟨b, o + k, by simp [add_mk], hb, fun j d hd => ?_⟩
  rw [List.getElem?_drop] at hd
  rw [Nat.add_assoc]
  exact hcell _ d hd
theorem Rw.take (h : Rw w A xs) (k : Nat) : Rw w A (xs.take k) := by
  intro hn
  rw [List.length_take] at hn
  obtain ⟨b, o, rfl, hb, hcell⟩ := h (by omega)
  refine ⟨b, o, rfl, hb, fun j d hd => hcell j d ?_⟩
  rw [List.getElem?_take] at hd
  split at hd
  · exact hd
  · cases hd
theorem Rw.of_blk {g t : Nat} (h : Blk .u64 w g t xs) : Rw w (some ⟨g, 0, none⟩) xs := fun _ =>
  ⟨g, 0, rfl, h.lt, fun j d hd => by
    obtain ⟨hj, rfl⟩ := List.getElem?_eq_some_iff.1 hd
    rw [Nat.zero_add]
    exact h.cell hj⟩
theorem Rw.gr {g : Nat} (h : Rw w A xs) (hg : w.grownBy w' (some g)) (hne : ∀ b o, A = some ⟨b, o, none⟩ → b ≠ g) : Rw w' A xs := fun hn => by
  obtain ⟨b, o, rfl, hb, hc⟩ := h hn
  exact ⟨b, o, rfl, Nat.lt_of_lt_of_le hb hg.size, fun j d hd => (Gr.cell hg (p := ⟨b, o + j, none⟩) hb (hne b o rfl)).trans (hc j d hd)⟩
theorem Src.of_rw {g off : Nat} (h : Rw w A xs) (hne : ∀ b o, A = some ⟨b, o, none⟩ → b ≠ g) : Src w g off A xs := fun hn => by
  obtain ⟨b, o, rfl, hb, hc⟩ := h hn
  exact ⟨b, o, rfl, hb, Or.inl (hne b o rfl), hc⟩
theorem Src.old {g off : Nat} (h : Rw w A xs) (hq : Q w w') (hg : w.heap.size ≤ g) : Src w' g off A xs := fun hn => by
  obtain ⟨b, o, rfl, hb, hc⟩ := h hn
  exact ⟨b, o, rfl, Nat.lt_of_lt_of_le hb hq.size, Or.inl (by omega), fun j d hd => (hq.cell hb).trans (hc j d hd)⟩
end
def Nm (w : World) (v : Value) (N : Nat) : Prop :=
  ∃ A c ws, v = .slice A ws.length c ∧ ws.length ≤ c ∧ Rw w A ws ∧ Wf W64 ws ∧ vl W64 ws = N
theorem Nm.q {w w' : World} {v : Value} {N : Nat} (h : Nm w v N) (hq : Q w w') : Nm w' v N := by
  obtain ⟨A, c, ws, h1, h2, h3, h4, h5⟩ := h
  exact ⟨A, c, ws, h1, h2, h3.q hq, h4, h5⟩
theorem Nm.zero {w : World} (A : Option Addr) (c : Nat) : Nm w (.slice A 0 c) 0 := ⟨A, c, [], rfl, by simp, Rw.nil, Wf.nil, rfl⟩
theorem Nm.of_rw {w : World} {A : Option Addr} {k c N : Nat} {ds : List Nat} (h : Rw w A ds) (hk : k ≤ ds.length) (hc : k ≤ c) (hz : Nz (ds.take k))
    (hd : ∀ d ∈ ds, d < W64) (hv : vl W64 (ds.take k) = N) : Nm w (.slice A k c) N := by
  have hl : (ds.take k).length = k := by rw [List.length_take, Nat.min_eq_left hk]
  exact ⟨A, c, ds.take k, by rw [hl], by rw [hl]; exact hc, h.take k, ⟨mem_take hd, hz⟩, hv⟩
def NmRes (N : Nat) (w : World) (e : Ending) (w' : World) : Prop := ∃ v, e = .returned v ∧ Nm w' v N ∧ Q w w' ∧ Nw w.heap.size v
theorem Src.take {w : World} {g off : Nat} {A : Option Addr} {xs : List Nat} (h : Src w g off A xs) (k : Nat) : Src w g off A (xs.take k) := by
  intro hn
  rw [List.length_take] at hn
  obtain ⟨b, o, rfl, hlt, hcase, hc⟩ := h (by omega)
  refine ⟨b, o, rfl, hlt, hcase, fun j d hd => hc j d ?_⟩
  rw [List.getElem?_take] at hd
  split at hd
  · exact hd
  · cases hd
theorem Src.own {w : World} {g t off n : Nat} {cs : List Nat} (hb : Blk .u64 w g t cs) : Src w g off (some ⟨g, off, none⟩) ((cs.drop off).take n) := by
  intro _
  refine ⟨g, off, rfl, hb.lt, Or.inr ⟨rfl, rfl⟩, fun j d hd => ?_⟩
  rw [List.getElem?_take] at hd
  split at hd
  · rw [List.getElem?_drop] at hd
    obtain ⟨hj, rfl⟩ := List.getElem?_eq_some_iff.1 hd
    exact hb.cell hj
  · cases hd
end Go.Proofs.YtimdddpfoagbjaaGreatDoor.Me
namespace Go.Proofs.YtimdddpfoagbjaaGreatDoor.Me
open Go.RowKit
open Go.Proofs.YtimdddpfoagbjaaGreatDoor.Ma
theorem wpList_copyw {P : Program} {w : World} {ops : Array Oper} {rest : List Oper} {o : Oper} {a : Act} {Q : Exit → Act → World → Prop} (hgd : o.guard = none) (d s : Operand) (dT sT : TypeId)
    (ho : o.op = .call { callee := .builtin .copy, args := #[d, s], argTypes := #[dT, sT] }) (elem : TypeId) (hu : P.underlying dT = some (.slice elem)) (hsz : (P.info? elem).map (·.size) = some 1)
    (Ad As : Option Addr) (dLen dCap sLen sCap : Nat) (hd : a.eval d = .slice Ad dLen dCap) (hs : a.eval s = .slice As sLen sCap)
    (g off t : Nat) (cs xs : List Nat) (m : Nat) (hb : Blk .u64 w g t cs) (hx : Rw w As xs) (hl : xs.length = sLen) (hm : m = min sLen dLen) (hA : 0 < m → Ad = some ⟨g, off, none⟩) (hfit : off + m ≤ cs.length)
    (h : ∀ w', Blk .u64 w' g t (cs.take off ++ xs.take m ++ cs.drop (off + m)) → w.grownBy w' (some g) → wpList P ops Q rest (a.put o.dst (goInt m)) w') : wpList P ops Q (o :: rest) a w := by
  rcases Nat.eq_zero_or_pos m with h0 | h0
  · subst h0
    refine wpList_copy_nothing hgd d s dT sT ho elem hu hsz Ad As dLen dCap sLen sCap hd hs (by rw [hm]) ?_
    exact h w (by rw [List.take_zero, splice_zero]; exact hb) (Gr.refl _ _)
  · obtain ⟨b, q, rfl, hlt, hc⟩ := hx (by omega)
    obtain rfl := hA h0
    have hlen : (nums .u64 (xs.take m)).length = m := by rw [nums_length, List.length_take]; omega
    refine wpList_copy_own hgd d s dT sT ho elem hu hsz g off dLen dCap ⟨b, q, none⟩ sLen sCap hd hs (nums .u64 cs).toArray t hb (nums .u64 (xs.take m)) (by rw [hlen, hm]) ?_ ?_ ?_ ?_
    · intro j v hv
      rw [nums_get] at hv
      obtain ⟨e, he, rfl⟩ := Option.map_eq_some_iff.1 hv
      rw [add_mk]
      refine hc j e ?_
      rw [List.getElem?_take] at he
      split at he
      · exact he
      · cases he
    · rw [hlen]; simp [nums]; omega
    · intro u hu
      simp only [nums, List.mem_map] at hu
      obtain ⟨d, _, rfl⟩ := hu
      rfl
    · rw [hlen]
      refine h _ ?_ ⟨rfl, rfl, rfl, by simp [World.setRow], fun k _ hk => setRow_other w g k _ (fun e => hk (by simp [e]))⟩
      refine (setRow_heap w g (nums .u64 cs).toArray _ t (0, 0) hb).trans ?_
      congr 3
      simp [nums, List.append_assoc]
theorem Blk.ex {κ : IntKind} {w : World} {g : Nat} {t : TypeId} {ds : List Nat} (h : Blk κ w g t ds) {i : Nat} (hi : i < ds.length) : ∃ d : Nat, w.cell? ⟨g, i, none⟩ = some (.int κ (d : Int)) := ⟨_, h.cell hi⟩
def Tb (w : World) : Prop := TabAt 2 Lib.deBruijn64tab w
theorem Tb.q {w w' : World} (h : Tb w) (hq : Q w w') : Tb w' := fun j hj => by
  have h1 := h j hj
  exact (hq.cell (World.block_lt_of_cell? w _ h1)).trans h1
theorem Tb.gr {w w' : World} {g : Nat} (h : Tb w) (hq : w.grownBy w' (some g)) (hg : g ≠ 2) : Tb w' := fun j hj => by
  have h1 := h j hj
  exact (Gr.cell hq (World.block_lt_of_cell? w _ h1) (fun e => hg e.symm)).trans h1
end Go.Proofs.YtimdddpfoagbjaaGreatDoor.Me
