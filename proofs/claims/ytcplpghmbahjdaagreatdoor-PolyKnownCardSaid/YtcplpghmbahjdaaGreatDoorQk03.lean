/- The examples of the document about polynomials. No condition. Part of the proof: texts Ja1 Ex1 Ey0 Me2 Me3 Me4. -/
import Derived.Deep.RegionHeld
import Derived.IntWalk
import Derived.Laws.AppendOwn
import Derived.Maps.AppendAt
import Derived.OwnWalk
import Derived.Test.YtcplpghmbahjdaaGreatDoorProg
import Derived.Test.YtcplpghmbahjdaaGreatDoorQk01
namespace Go.Proofs.YtcplpghmbahjdaaGreatDoor
namespace Ja
open Go
section
variable {P : Program} {ops : Array Oper} {Q : Exit → Act → World → Prop}
def cO (ops : Array Oper) (j : Nat) : Option Tmp := (ops[j]?).bind (·.dst)
def fillGo (ops : Array Oper) (L : Nat → Bool) (vals : Nat → Value) : Nat → Act → Act
 | 0, a => a
 | n + 1, a => if L n = true then (fillGo ops L vals n a).put (cO ops n) (vals n) else fillGo ops L vals n a
def upd {α : Type} (f : Nat → α) (i : Nat) (v : α) : Nat → α := fun j => if j = i then v else f j
def fillL (vals : Nat → Value) : List Oper → Nat → Act → Act
 | [], _, a => a
 | o :: os, k, a => fillL vals os (k + 1) (a.put o.dst (vals k))
theorem aAp {vals : Nat → Value} {a : Act} : ∀ (m k : Nat), k + m = ops.size → fillL vals (ops.toList.drop k) k (fillGo ops (fun _ => true) vals k a) = fillGo ops (fun _ => true) vals ops.size a
 | 0, k, h => by
   have : k = ops.size := (by omega);subst this;rw [List.drop_eq_nil_of_le (by simp)];rfl
 | m + 1, k, h => by
   have hk : k < ops.size := (by omega);have hd : ops.toList.drop k = ops[k] :: ops.toList.drop (k + 1) := by
    rw [List.drop_eq_getElem_cons (by simpa using hk)]; simp
   rw [hd];unfold fillL;have := aAp (vals := vals) (a := a) m (k + 1) (by omega);have h2 : fillGo ops (fun _ => true) vals (k + 1) a = (fillGo ops (fun _ => true) vals k a).put ops[k].dst (vals k) := by
    conv => lhs; unfold fillGo
    rw [if_pos rfl];simp [cO, hk]
   rw [h2] at this;exact this
theorem fillL_full (vals : Nat → Value) (a : Act) : fillL vals ops.toList 0 a = fillGo ops (fun _ => true) vals ops.size a := by
 have := aAp (ops := ops) (vals := vals) (a := a) ops.size 0 (by omega);simpa [fillGo] using this
theorem jQ {L L' : Nat → Bool} {vals vals' : Nat → Value} {a : Act} : ∀ n, (∀ j, j < n → L j = L' j) → (∀ j, j < n → L j = true → vals j = vals' j) → fillGo ops L vals n a = fillGo ops L' vals' n a
 | 0, _, _ => rfl
 | n + 1, h, h2 => by
   unfold fillGo;rw [jQ n (fun j hj => h j (by omega)) (fun j hj => h2 j (by omega)), h n (by omega)];split
   ·rename_i hl;rw [h2 n (by omega) ((h n (by omega)).trans hl)]
   ·rfl
theorem pE {L : Nat → Bool} {vals : Nat → Value} {a : Act} {i : Nat} {v : Value} (hi : L i = false) (hd : ∀ j, j ≠ i → ∀ d, cO ops j = some d → cO ops i ≠ some d) : ∀ n, i < n → (fillGo ops L vals n a).put (cO ops i) v = fillGo ops (upd L i true) (upd vals i v) n a
 | 0, h => absurd h (by omega)
 | n + 1, h => by
   by_cases hin : i = n
   ·subst hin;unfold fillGo;rw [if_neg (by simp [hi]), if_pos (by simp [upd])];rw [jQ (L := upd L i true) (L' := L) (vals := upd vals i v) (vals' := vals) i (fun j hj => by simp [upd, Nat.ne_of_lt hj]) (fun j hj _ => by simp [upd, Nat.ne_of_lt hj])];simp [upd]
   ·have ih := pE (vals := vals) (a := a) (v := v) hi hd n (by omega);unfold fillGo;have hn : n ≠ i := fun e => hin e.symm;have h1 : upd L i true n = L n := (by simp [upd, hn]);have h2 : upd vals i v n = vals n := (by simp [upd, hn]);rw [h1, h2];split
    ·rw [← ih];exact Act.put_comm _ _ _ (fun d hd' => hd n hn d hd')
    ·exact ih
theorem kH (a : Act) (d t : Tmp) (v : Value) : (a.put (some d) v).tmps[t]? = if d = t then (if t < a.tmps.size then some v else none) else a.tmps[t]? := by
 simp only [Act.put, Array.getElem?_setIfInBounds];split
 ·rename_i h; subst h; rfl
 ·rfl
theorem aFq (a : Act) (d : Option Tmp) (v : Value) : (a.put d v).tmps.size = a.tmps.size := by
 cases d <;> simp [Act.put]
theorem dY {L : Nat → Bool} {vals : Nat → Value} {a : Act} : ∀ n, (fillGo ops L vals n a).tmps.size = a.tmps.size
 | 0 => rfl
 | n + 1 => by unfold fillGo; split <;> simp [aFq, dY n]
theorem wV {L : Nat → Bool} {vals : Nat → Value} {a : Act} {t : Tmp} : ∀ n, (∀ j, j < n → cO ops j = some t → L j = true) →
  (fillGo ops L vals n a).tmps[t]? = (fillGo ops (fun _ => true) vals n a).tmps[t]?
 | 0, _ => rfl
 | n + 1, h => by
   have ih := wV (vals := vals) (a := a) (t := t) n (fun j hj => h j (by omega));unfold fillGo;rw [if_pos rfl];split
   ·cases hd : cO ops n with
    | none => simpa [Act.put] using ih
    | some d => rw [kH, kH, dY, dY, ih]
   ·rename_i hl;cases hd : cO ops n with
    | none => simpa [Act.put] using ih
    | some d =>
      have hne : d ≠ t := fun e => hl (h n (by omega) (by rw [hd, e]));rw [kH, if_neg hne, ih]
def shape (ops : Array Oper) : Bool :=
 (List.range ops.size).all fun i => match ops[i]? with
  | none => false
  | some o => (List.range ops.size).all (fun j => j == i || (match cO ops j with | some d => !(o.dst == some d) | none => true)) &&
     (o.looksAt ops).all (fun t => (List.range ops.size).all fun j => !(cO ops j == some t) || o.after.any fun e => Region.binds .any e && e.on == j) &&
     o.after.all (fun e => !Region.binds .any e || e.on < i)
theorem shape_spec (h : shape ops = true) {i : Nat} {o : Oper} (ho : ops[i]? = some o) : (∀ j, j ≠ i → ∀ d, cO ops j = some d → cO ops i ≠ some d) ∧ (∀ t ∈ o.looksAt ops, ∀ j, cO ops j = some t → ∃ e ∈ o.after, Region.binds .any e = true ∧ e.on = j) ∧
  (∀ e ∈ o.after, Region.binds .any e = true → e.on < i) := by
 have hi : i < ops.size := (Array.getElem?_eq_some_iff.1 ho).1;have h1 := List.all_eq_true.1 h i (List.mem_range.2 hi);simp only [ho, Bool.and_eq_true, List.all_eq_true, Array.all_eq_true_iff_forall_mem] at h1;obtain ⟨⟨ha, hb⟩, hc⟩ := h1;have hlt : ∀ j d, cO ops j = some d → j < ops.size := fun j d hd => by
  unfold cO at hd;cases hj : ops[j]? with
  | none => simp [hj] at hd
  | some o => exact (Array.getElem?_eq_some_iff.1 hj).1
 refine ⟨fun j hne d hd he => ?_, fun t ht j hd => ?_, fun e he hbi => ?_⟩
 ·have := ha j (List.mem_range.2 (hlt j d hd));simp only [hd, Bool.or_eq_true, beq_iff_eq, hne, false_or, Bool.not_eq_true'] at this;have he2 : o.dst = some d := (by simpa [cO, ho] using he);simp [he2] at this
 ·have := hb t ht j (List.mem_range.2 (hlt j t hd));simp only [hd, Bool.or_eq_true, Bool.not_eq_true', beq_self_eq_true, Bool.true_eq_false, false_or] at this;obtain ⟨e, he, hbo⟩ := Array.any_eq_true'.1 this;simp only [Bool.and_eq_true, beq_iff_eq] at hbo;exact ⟨e, he, hbo.1, hbo.2⟩
 ·have := hc e he;simp only [Bool.or_eq_true, Bool.not_eq_true', decide_eq_true_eq] at this;rcases this with h2 | h2
  ·rw [hbi] at h2; cases h2
  ·exact h2
def left (L : Nat → Bool) : Nat → Nat
 | 0 => 0
 | n + 1 => left L n + if L n = true then 0 else 1
theorem uT {L L' : Nat → Bool} : ∀ n, (∀ j, j < n → L j = L' j) → left L n = left L' n
 | 0, _ => rfl
 | n + 1, h => by unfold left; rw [uT n (fun j hj => h j (by omega)), h n (by omega)]
theorem left_upd {L : Nat → Bool} {i : Nat} (hi : L i = false) : ∀ n, i < n → left (upd L i true) n + 1 = left L n
 | 0, h => absurd h (by omega)
 | n + 1, h => by
   unfold left;by_cases hin : i = n
   ·subst hin;rw [uT (L := upd L i true) (L' := L) i (fun j hj => by simp [upd, Nat.ne_of_lt hj])];simp [upd, hi]
   ·have ih := left_upd hi n (by omega);have hn : n ≠ i := fun e => hin e.symm;have h1 : upd L i true n = L n := (by simp [upd, hn]);rw [h1]; omega
theorem left_zero {L : Nat → Bool} : ∀ n, left L n = 0 → ∀ j, j < n → L j = true
 | 0, _, j, hj => absurd hj (by omega)
 | n + 1, h, j, hj => by
   unfold left at h;by_cases hL : L n = true
   ·by_cases hjn : j = n
    ·subst hjn; exact hL
    ·exact left_zero n (by omega) j (by omega)
   ·rw [if_neg hL] at h; omega
theorem left_le {L : Nat → Bool} : ∀ n, left L n ≤ n
 | 0 => Nat.le_refl _
 | n + 1 => by unfold left; have := left_le (L := L) n; split <;> omega
theorem uU {L : Nat → Bool} : ∀ n, (∃ j, j < n ∧ L j = false) → ∃ i, i < n ∧ L i = false ∧ ∀ j, j < i → L j = true
 | 0, ⟨j, hj, _⟩ => absurd hj (by omega)
 | n + 1, ⟨j, hj, hL⟩ => by
   by_cases hex : ∃ j, j < n ∧ L j = false
   ·obtain ⟨i, h1, h2, h3⟩ := uU n hex;exact ⟨i, by omega, h2, h3⟩
   ·have hjn : j = n := by
     rcases Nat.lt_or_ge j n with h | h
     ·exact absurd ⟨j, h, hL⟩ hex
     ·omega
    subst hjn;refine ⟨j, by omega, hL, fun k hk => ?_⟩;cases hk2 : L k with
    | true => rfl
    | false => exact absurd ⟨k, hk, hk2⟩ hex
def Step (P : Program) (ops : Array Oper) (J : (Nat → Bool) → (Nat → Value) → World → Prop) (F : (Nat → Value) → Act) (i : Nat) (o : Oper) : Prop :=
 ∀ (L : Nat → Bool) (vals : Nat → Value) (w : World), L i = false → (∀ e ∈ o.after, Region.binds .any e = true → L e.on = true) → J L vals w →
  if Region.wanted o (yielded ops (F vals).tmps) = true then
   (∀ K : Act → World → Prop, (∀ v w' a', a' = (F vals).put o.dst v → J (upd L i true) (upd vals i v) w' → K a' w') → o.wp P (F vals) w K (fun _ _ _ => False))
  else J (upd L i true) (upd vals i undef) w
theorem aAq {o : Oper} {a f : Act} {w : World} {K : Act → World → Prop} {R : Value → World → Prop} (he : execOp a.eval o = execOp f.eval o)
  (h : o.wp P f w (fun a' w' => ∃ v, a' = f.put o.dst v ∧ R v w') (fun _ _ _ => False)) (hf : f.tmps.size = a.tmps.size) (hin : ∀ d, o.dst = some d → d < a.tmps.size)
  (hK : ∀ v w', R v w' → K (a.put o.dst v) w') : o.wp P a w K Q := by
 have key : ∀ v w', (∃ u, f.put o.dst v = f.put o.dst u ∧ R u w') → K (a.put o.dst v) w' := by
  rintro v w' ⟨u, e, r⟩;have e2 : a.put o.dst v = a.put o.dst u := by
   cases hd : o.dst with
   | none => rfl
   | some d =>
     have hlt := hin d hd;have h1 := congrArg (fun x : Act => x.tmps[d]?) e;simp only [hd, kH, hf, hlt, if_true, Option.some.injEq] at h1;rw [h1]
  rw [e2];exact hK u w' r
 unfold Oper.wp at *
 rw [he];generalize (execOp f.eval o).run P w = r at *
 cases r with
 | ok n w' =>
   cases n <;> simp only [Oper.upon] at h ⊢
   case value u => exact key _ _ h
   case skip => exact key _ _ h
   case defer d =>
    obtain ⟨v, e, _⟩ := h;have := congrArg (fun x : Act => x.defers.length) e;cases hd : o.dst <;> simp [hd, Act.put] at this
   case enter g args =>
    refine Calls.mono h fun e w'' hh => ?_;cases e with
    | returned u => exact key _ _ hh
    | panicked c => exact hh.elim
    | outgrown =>
      obtain ⟨_, _, x⟩ := hh;exact x.elim
   case row row args => exact Rows.mono h fun u w'' hh => key _ _ hh
 | halt x w' => cases x <;> simp only [Oper.upon] at h
theorem uV {a f : Act} {x : Operand} (h : ∀ t, x = .tmp t → a.tmps[t]? = f.tmps[t]?) : a.eval x = f.eval x := by
 cases x with
 | tmp t => simp only [Act.eval, Array.getD_eq_getD_getElem?, h t rfl]
 | _ => rfl
theorem aHm {J : (Nat → Bool) → (Nat → Value) → World → Prop} {a : Act} {F : (Nat → Value) → Act} (hsh : shape ops = true) (hns : Region.noSelect ops = true) (hin : ∀ (i : Nat) (o : Oper) (d : Tmp), ops[i]? = some o → o.dst = some d → d < a.tmps.size)
  (hF : ∀ vals, F vals = fillGo ops (fun _ => true) vals ops.size a)
  (hstep : ∀ (i : Nat) (o : Oper), ops[i]? = some o → Step P ops J F i o) (hend : ∀ L vals w, (∀ j, j < ops.size → L j = true) → J L vals w → Q .normal (F vals) w) :
  ∀ (fuel : Nat) (listed : Array Bool) (L : Nat → Bool) (vals : Nat → Value) (w : World), L = (fun j => listed.getD j false) → listed.size = ops.size → left L ops.size ≤ fuel → J L vals w →
   wpAny P .any ops Q fuel listed (fillGo ops L vals ops.size a) w := by
 have done : ∀ (listed : Array Bool) (L : Nat → Bool) (vals : Nat → Value) (w : World), L = (fun j => listed.getD j false) → listed.size = ops.size → J L vals w → (∀ j, j < ops.size → L j = true) →
     Q .normal (fillGo ops L vals ops.size a) w := fun listed L vals w hL hs hJ hall => by
  have := hend L vals w hall hJ;rw [hF, jQ (L := fun _ => true) (L' := L) (vals' := vals) ops.size (fun j hj => (hall j hj).symm) (fun _ _ _ => rfl)] at this;exact this
 have none_ready : ∀ (listed : Array Bool) (L : Nat → Bool), L = (fun j => listed.getD j false) → listed.size = ops.size → Region.ready .any ops listed = [] → ∀ j, j < ops.size → L j = true := by
  intro listed L hL hs hr j hj;cases hLj : L j with
  | true => rfl
  | false =>
    obtain ⟨i, hi, hLi, hbelow⟩ := uU ops.size ⟨j, hj, hLj⟩;obtain ⟨o, ho⟩ : ∃ o, ops[i]? = some o := ⟨_, Array.getElem?_eq_getElem hi⟩
    obtain ⟨-, -, hc⟩ := shape_spec hsh ho;have : i ∈ Region.ready .any ops listed := mem_ready.2 ⟨by
     have h1 : listed.getD i false = false := (by rw [hL] at hLi; exact hLi);have h2 : i < listed.size := (by omega);simp [h2] at h1 ⊢;exact h1, o, ho, fun e he hb => by
      have := hbelow e.on (hc e he hb);rw [hL] at this; exact this⟩
    rw [hr] at this;cases this
 intro fuel
 induction fuel with
 | zero =>
   intro listed L vals w hL hs hle hJ;have hall := left_zero ops.size (by omega : left L ops.size = 0);refine ⟨?_, done listed L vals w hL hs hJ hall⟩;cases hr : Region.ready .any ops listed with
   | nil => rfl
   | cons i rest =>
     have hm : i ∈ Region.ready .any ops listed := (by rw [hr]; exact List.mem_cons_self);obtain ⟨h0, o, ho, -⟩ := mem_ready.1 hm;have hi : i < ops.size := (Array.getElem?_eq_some_iff.1 ho).1;have h1 := hall i hi;rw [hL] at h1;have h2 : i < listed.size := (by omega);simp [h2] at h0 h1;rw [h0] at h1;cases h1
 | succ fuel ih =>
   intro listed L vals w hL hs hle hJ;refine ⟨fun hr => done listed L vals w hL hs hJ (none_ready listed L hL hs hr), fun i hir => ?_⟩;obtain ⟨h0, o, ho, hall⟩ := mem_ready.1 hir;have hi : i < ops.size := (Array.getElem?_eq_some_iff.1 ho).1;have hil : i < listed.size := (by omega);obtain ⟨hd, hlook, -⟩ := shape_spec hsh ho;have hLi : L i = false := (by rw [hL]; simp [hil] at h0 ⊢; exact h0);have hdep : ∀ e ∈ o.after, Region.binds .any e = true → L e.on = true := fun e he hb => (by rw [hL]; exact hall e he hb);have hst := hstep i o ho L vals w hLi hdep hJ
   -- the act at hand agrees with the full one on all that the operation looks at
   have hat : ∀ t ∈ o.looksAt ops, (fillGo ops L vals ops.size a).tmps[t]? = (F vals).tmps[t]? := fun t ht => by
    rw [hF];exact wV ops.size (fun j _ hj => by
     obtain ⟨e, he, hb, rfl⟩ := hlook t ht j hj;exact hdep e he hb)
   have hex : execOp (fillGo ops L vals ops.size a).eval o = execOp (F vals).eval o :=
    execOp_congr o (fun cs b => Region.noSelect_spec hns i o cs b ho) fun x hx => uV fun t ht => hat t (by
     subst ht;exact List.mem_append_left _ (List.mem_filterMap.2 ⟨.tmp t, by simpa using hx, rfl⟩))
   have hwa : Region.wanted o (yielded ops (fillGo ops L vals ops.size a).tmps) = Region.wanted o (yielded ops (F vals).tmps) := by
    unfold Region.wanted;cases hg : o.guard with
    | none => rfl
    | some gw =>
      obtain ⟨g, want⟩ := gw;have hy : yielded ops (fillGo ops L vals ops.size a).tmps g = yielded ops (F vals).tmps g := by
       unfold yielded;cases ht : (ops[g]?).bind (·.dst) with
       | none => rfl
       | some t =>
         have := hat t (by simp [Oper.looksAt, hg, ht]);simp only [Option.bind_some, this]
      simp only [hy]
   have hdst : o.dst = cO ops i := (by simp [cO, ho]);have hL2 : upd L i true = fun j => (listed.setIfInBounds i true).getD j false := by
    funext j;unfold upd;by_cases hji : j = i
    ·subst hji; simp [hil]
    ·rw [if_neg hji, hL, getD_set_ne false (Ne.symm hji)]
   have hle2 : left (upd L i true) ops.size ≤ fuel := by
    have := left_upd hLi ops.size hi;omega
   have next : ∀ v w', J (upd L i true) (upd vals i v) w' → wpAny P .any ops Q fuel (listed.setIfInBounds i true) ((fillGo ops L vals ops.size a).put o.dst v) w' := fun v w' hJ' => by
    rw [hdst, pE hLi hd ops.size hi];exact ih (listed.setIfInBounds i true) (upd L i true) (upd vals i v) w' hL2 (by simp [hs]) hle2 hJ'
   unfold wpOp;simp only [ho];rw [hwa];split
   ·rename_i hw;rw [if_pos hw] at hst;refine .inl (aAq hex (R := fun v w' => J (upd L i true) (upd vals i v) w') (hst _ (fun v w' a' e hJ' => ⟨v, e, hJ'⟩)) ?_ ?_ next)
    ·rw [hF, dY, dY]
    ·intro d hd';rw [dY];exact hin i o d ho hd'
   ·rename_i hw;rw [if_neg hw] at hst;exact next undef w hst
theorem aHn {J : (Nat → Bool) → (Nat → Value) → World → Prop} {a : Act} {F : (Nat → Value) → Act} (hsh : shape ops = true) (hns : Region.noSelect ops = true) (hin : ∀ (i : Nat) (o : Oper) (d : Tmp), ops[i]? = some o → o.dst = some d → d < a.tmps.size)
  (hF : ∀ vals, F vals = fillGo ops (fun _ => true) vals ops.size a)
  (hstep : ∀ (i : Nat) (o : Oper), ops[i]? = some o → Step P ops J F i o) (hend : ∀ L vals w, (∀ j, j < ops.size → L j = true) → J L vals w → Q .normal (F vals) w) :
  ∀ (m k : Nat) (L : Nat → Bool) (vals : Nat → Value) (w : World), k + m = ops.size → L = (fun j => decide (j < k)) → J L vals w →
   wpOps P ops Q (List.range' k m) (fillGo ops L vals ops.size a) w := by
 intro m
 induction m with
 | zero =>
   intro k L vals w hk hL hJ;have hall : ∀ j, j < ops.size → L j = true := fun j hj => (by rw [hL]; simp; omega);have := hend L vals w hall hJ;rw [hF, jQ (L := fun _ => true) (L' := L) (vals' := vals) ops.size (fun j hj => (hall j hj).symm) (fun _ _ _ => rfl)] at this;exact this
 | succ m ih =>
   intro k L vals w hk hL hJ;have hi : k < ops.size := (by omega);obtain ⟨o, ho⟩ : ∃ o, ops[k]? = some o := ⟨_, Array.getElem?_eq_getElem hi⟩
   obtain ⟨hd, hlook, hlow⟩ := shape_spec hsh ho;have hLi : L k = false := (by rw [hL]; simp);have hdep : ∀ e ∈ o.after, Region.binds .any e = true → L e.on = true := fun e he hb => by
    have := hlow e he hb;rw [hL]; simpa using this
   have hst := hstep k o ho L vals w hLi hdep hJ;have hat : ∀ t ∈ o.looksAt ops, (fillGo ops L vals ops.size a).tmps[t]? = (F vals).tmps[t]? := fun t ht => by
    rw [hF];exact wV ops.size (fun j _ hj => by
     obtain ⟨e, he, hb, rfl⟩ := hlook t ht j hj;exact hdep e he hb)
   have hex : execOp (fillGo ops L vals ops.size a).eval o = execOp (F vals).eval o :=
    execOp_congr o (fun cs b => Region.noSelect_spec hns k o cs b ho) fun x hx => uV fun t ht => hat t (by
     subst ht;exact List.mem_append_left _ (List.mem_filterMap.2 ⟨.tmp t, by simpa using hx, rfl⟩))
   have hwa : Region.wanted o (yielded ops (fillGo ops L vals ops.size a).tmps) = Region.wanted o (yielded ops (F vals).tmps) := by
    unfold Region.wanted;cases hg : o.guard with
    | none => rfl
    | some gw =>
      obtain ⟨g, want⟩ := gw;have hy : yielded ops (fillGo ops L vals ops.size a).tmps g = yielded ops (F vals).tmps g := by
       unfold yielded;cases ht : (ops[g]?).bind (·.dst) with
       | none => rfl
       | some t =>
         have := hat t (by simp [Oper.looksAt, hg, ht]);simp only [Option.bind_some, this]
      simp only [hy]
   have hdst : o.dst = cO ops k := (by simp [cO, ho]);have hL2 : upd L k true = fun j => decide (j < k + 1) := by
    funext j;unfold upd;by_cases hjk : j = k
    ·subst hjk; simp
    ·rw [if_neg hjk, hL];have : (j < k) ↔ (j < k + 1) := (by omega);simp [this]
   have next : ∀ v w', J (upd L k true) (upd vals k v) w' → wpOps P ops Q (List.range' (k + 1) m) ((fillGo ops L vals ops.size a).put o.dst v) w' := fun v w' hJ' => by
    rw [hdst, pE hLi hd ops.size hi];exact ih (k + 1) (upd L k true) (upd vals k v) w' (by omega) hL2 hJ'
   rw [List.range'_succ];simp only [wpOps, ho];rw [hwa];split
   ·rename_i hw;rw [if_pos hw] at hst;refine .inl (aAq hex (R := fun v w' => J (upd L k true) (upd vals k v) w') (hst _ (fun v w' a' e hJ' => ⟨v, e, hJ'⟩)) ?_ ?_ next)
    ·rw [hF, dY, dY]
    ·intro d hd';rw [dY];exact hin k o d ho hd'
   ·rename_i hw;rw [if_neg hw] at hst;exact next undef w hst
def Steps (P : Program) (ops : Array Oper) (J : (Nat → Bool) → (Nat → Value) → World → Prop) (F : (Nat → Value) → Act) : Nat → List Oper → Prop
 | _, [] => True
 | i, o :: os => Step P ops J F i o ∧ Steps P ops J F (i + 1) os
theorem Steps.cons {J : (Nat → Bool) → (Nat → Value) → World → Prop} {F : (Nat → Value) → Act} {i : Nat} {o : Oper} {os : List Oper} (h : Step P ops J F i o) (hs : Steps P ops J F (i + 1) os) : Steps P ops J F i (o :: os) := ⟨h, hs⟩
theorem Steps.nil {J : (Nat → Bool) → (Nat → Value) → World → Prop} {F : (Nat → Value) → Act} {i : Nat} : Steps P ops J F i [] := trivial
theorem Steps.at {J : (Nat → Bool) → (Nat → Value) → World → Prop} {F : (Nat → Value) → Act} : ∀ (os : List Oper) (k i : Nat) (o : Oper), Steps P ops J F k os → os[i]? = some o → Step P ops J F (k + i) o
 | [], _, _, _, _, h => by simp at h
 | x :: xs, k, 0, o, hs, h => by
   simp at h; subst h; exact hs.1
 | x :: xs, k, i + 1, o, hs, h => by
   have := Steps.at xs (k + 1) i o hs.2 (by simpa using h)
   rwa [Nat.add_assoc, Nat.add_comm 1 i] at this
def inBounds (ops : Array Oper) (n : Nat) : Bool := ops.all fun o => match o.dst with | some d => d < n | none => true
theorem wp_region_inv {id : Nat} {a : Act} {w : World} {J : (Nat → Bool) → (Nat → Value) → World → Prop} {F : (Nat → Value) → Act} (hm : P.follows .mixedOrders = true) (hsh : (shape ops && Region.noSelect ops && inBounds ops a.tmps.size) = true)
  (hF : ∀ vals, F vals = fillGo ops (fun _ => true) vals ops.size a)
  (h0 : J (fun _ => false) (fun _ => undef) w.drew)
  (hstep : Steps P ops J F 0 ops.toList)
  (hend : ∀ L vals w, (∀ j, j < ops.size → L j = true) → J L vals w → Q .normal (F vals) w) : (Code.region id ops true).wp P Q a w := by
 simp only [Bool.and_eq_true] at hsh;obtain ⟨⟨h1, h2⟩, h3⟩ := hsh;refine wp_region_any hm ?_;have e : fillGo ops (fun _ => false) (fun _ => undef) ops.size a = a := by
  have : ∀ n, fillGo ops (fun _ => false) (fun _ => undef) n a = a := fun n => by
   induction n with
   | zero => rfl
   | succ n ih => unfold fillGo; simp [ih]
  exact this _
 have hL : (fun _ => false : Nat → Bool) = fun j => (Array.replicate ops.size false).getD j false := by
  funext j;simp only [Array.getD_eq_getD_getElem?, Array.getElem?_replicate];split <;> rfl
 have := aHm (P := P) (Q := Q) (J := J) (a := a) (F := F) h1 h2 (fun i o d ho hd => by
  have := Array.all_eq_true_iff_forall_mem.1 h3 o (Array.mem_of_getElem? ho);simpa [hd] using this) hF (fun i o ho => by
  have := Steps.at ops.toList 0 i o hstep (by simpa using ho);simpa using this) hend ops.size (Array.replicate ops.size false) (fun _ => false) (fun _ => undef) w.drew hL (by simp) (left_le _) h0
 rw [e] at this;exact this
theorem wp_region_text {id : Nat} {a : Act} {w : World} {J : (Nat → Bool) → (Nat → Value) → World → Prop} {F : (Nat → Value) → Act} (hsh : (shape ops && Region.noSelect ops && inBounds ops a.tmps.size) = true)
  (hF : ∀ vals, F vals = fillGo ops (fun _ => true) vals ops.size a)
  (h0 : J (fun _ => false) (fun _ => undef) w)
  (hstep : Steps P ops J F 0 ops.toList)
  (hend : ∀ L vals w, (∀ j, j < ops.size → L j = true) → J L vals w → Q .normal (F vals) w) : (Code.region id ops false).wp P Q a w := by
 simp only [Bool.and_eq_true] at hsh;obtain ⟨⟨h1, h2⟩, h3⟩ := hsh;refine wp_region ?_;have e : fillGo ops (fun _ => false) (fun _ => undef) ops.size a = a := by
  have : ∀ n, fillGo ops (fun _ => false) (fun _ => undef) n a = a := fun n => by
   induction n with
   | zero => rfl
   | succ n ih => unfold fillGo; simp [ih]
  exact this _
 have := aHn (P := P) (Q := Q) (J := J) (a := a) (F := F) h1 h2 (fun i o d ho hd => by
  have := Array.all_eq_true_iff_forall_mem.1 h3 o (Array.mem_of_getElem? ho);simpa [hd] using this) hF (fun i o ho => by
  have := Steps.at ops.toList 0 i o hstep (by simpa using ho);simpa using this) hend ops.size 0 (fun _ => false) (fun _ => undef) w (by omega) (by funext j; simp) h0
 rw [e, ← List.range_eq_range'] at this;exact this
theorem fill_get {vals : Nat → Value} {a : Act} {i : Nat} {d : Tmp} (hi : cO ops i = some d) (hb : d < a.tmps.size)
  (hd : ∀ j, j ≠ i → ∀ e, cO ops j = some e → cO ops i ≠ some e) : ∀ n, i < n → (fillGo ops (fun _ => true) vals n a).tmps[d]? = some (vals i)
 | 0, h => absurd h (by omega)
 | n + 1, h => by
   unfold fillGo;rw [if_pos rfl];by_cases hin : n = i
   ·subst hin;rw [hi, kH, if_pos rfl, dY, if_pos hb]
   ·have ih := fill_get (vals := vals) hi hb hd n (by omega);cases he : cO ops n with
    | none => simpa [Act.put] using ih
    | some e =>
      have hne : e ≠ d := fun x => hd n hin e he (by rw [hi, x]);rw [kH, if_neg hne]; exact ih
section
variable {M : World → World → Prop} {S : Nat → Value → World → Prop} {F : (Nat → Value) → Act} {w1 : World}
def JS (M : World → World → Prop) (S : Nat → Value → World → Prop) (w1 : World) : (Nat → Bool) → (Nat → Value) → World → Prop := fun L vals w => M w1 w ∧ ∀ j, L j = true → S j (vals j) w
theorem JS.step {i : Nat} {o : Oper} (hMt : ∀ a b c, M a b → M b c → M a c) (hS : ∀ j v w w', M w w' → S j v w → S j v w') (h : ∀ (vals : Nat → Value) (w : World), M w1 w → (∀ e ∈ o.after, Region.binds .any e = true → S e.on (vals e.on) w) →
   if Region.wanted o (yielded ops (F vals).tmps) = true then
    (∀ K : Act → World → Prop, (∀ v w' a', a' = (F vals).put o.dst v → S i v w' → M w w' → K a' w') → o.wp P (F vals) w K (fun _ _ _ => False))
   else S i undef w) : Step P ops (JS M S w1) F i o := by
 intro L vals w hL hdep hJ;have h1 := h vals w hJ.1 (fun e he hb => hJ.2 _ (hdep e he hb));have nxt : ∀ v w', S i v w' → (∀ j v, S j v w → S j v w') → ∀ j, upd L i true j = true → S j (upd vals i v j) w' := fun v w' hv hk j hj => by
  unfold upd at *
  by_cases hji : j = i
  ·subst hji; simpa using hv
  ·rw [if_neg hji] at hj ⊢; exact hk j _ (hJ.2 j hj)
 split at h1
 ·rename_i hw;rw [if_pos hw];intro K hK;refine h1 K fun v w' a' e hv hm => hK v w' a' e ⟨hMt _ _ _ hJ.1 hm, nxt v w' hv (fun j u hu => hS j u w w' hm hu)⟩
 ·rename_i hw;rw [if_neg hw];exact ⟨hJ.1, nxt undef w h1 (fun _ _ h => h)⟩
theorem wanted_of {a : Act} {vals : Nat → Value} {o : Oper} {g : Nat} {want b : Bool} (hsh : (shape ops && Region.noSelect ops && inBounds ops a.tmps.size) = true) (hg : o.guard = some (g, want)) (hlt : g < ops.size) (hd : ((ops[g]?).bind (·.dst)).isSome = true) (hv : vals g = .bool b) :
  Region.wanted o (yielded ops (fillGo ops (fun _ => true) vals ops.size a).tmps) = (b == want) := by
 simp only [Bool.and_eq_true] at hsh;obtain ⟨⟨h1, h2⟩, h3⟩ := hsh;obtain ⟨og, hog⟩ : ∃ o, ops[g]? = some o := ⟨_, Array.getElem?_eq_getElem hlt⟩
 obtain ⟨d, hd2⟩ := Option.isSome_iff_exists.1 hd;have hin : d < a.tmps.size := by
  have := Array.all_eq_true_iff_forall_mem.1 h3 og (Array.mem_of_getElem? hog);simp only [hog, Option.bind_some] at hd2;simpa [hd2] using this
 have := fill_get (ops := ops) (vals := vals) (a := a) (i := g) (d := d) hd2 hin (shape_spec h1 hog).1 ops.size hlt;unfold Region.wanted yielded;simp only [hg, hd2, Option.bind_some, this, hv];cases b <;> cases want <;> rfl
end
end
end Ja
end Go.Proofs.YtcplpghmbahjdaaGreatDoor
namespace Go.Proofs.YtcplpghmbahjdaaGreatDoor.E
open Go
noncomputable section
inductive SV where
 | u
 | b (x : Bool)
 | i (k : IntKind) (n : Int)
 | s (l : List Nat)
 | np
 | p (id off : Nat)
 | ns
 | sl (id off len : Nat) (cap : Option Nat)
 | m (n : Nat)
 | nf
 | f (fn : Nat) (bQ : List (Nat × Nat))
 | y (l : Nat)
inductive AV where
 | c (g : Bool) (l : List SV)
 | t (l : List (Bool × List SV))
instance : Inhabited AV := ⟨.t []⟩
def sc (x : SV) : AV := .c false [x]
def un : AV := .t []
def cb {α : Type} (c : Bool) (x y : α) : α := Bool.rec (motive := fun _ => α) y x c
def ob {α β : Type} (r : Option α) (f : α → Option β) : Option β := Option.rec (motive := fun _ => Option β) none f r
structure N (α : Type) where
 a : α
 b : α
 c : α
 d : α
 e : α
 f : α
 g : α
 h : α
structure Ls (X Y : Type) where
 g : X → Y
 u : (Y → Y) → X → X
section
variable {X : Type}
def sA (k : X → X) (x : N X) : N X := N.rec (motive := fun _ => N X) (fun a b c d e f g h => ⟨k a, b, c, d, e, f, g, h⟩) x
def sB (k : X → X) (x : N X) : N X := N.rec (motive := fun _ => N X) (fun a b c d e f g h => ⟨a, k b, c, d, e, f, g, h⟩) x
def sC (k : X → X) (x : N X) : N X := N.rec (motive := fun _ => N X) (fun a b c d e f g h => ⟨a, b, k c, d, e, f, g, h⟩) x
def sD (k : X → X) (x : N X) : N X := N.rec (motive := fun _ => N X) (fun a b c d e f g h => ⟨a, b, c, k d, e, f, g, h⟩) x
def sE (k : X → X) (x : N X) : N X := N.rec (motive := fun _ => N X) (fun a b c d e f g h => ⟨a, b, c, d, k e, f, g, h⟩) x
def sF (k : X → X) (x : N X) : N X := N.rec (motive := fun _ => N X) (fun a b c d e f g h => ⟨a, b, c, d, e, k f, g, h⟩) x
def sG (k : X → X) (x : N X) : N X := N.rec (motive := fun _ => N X) (fun a b c d e f g h => ⟨a, b, c, d, e, f, k g, h⟩) x
def sH (k : X → X) (x : N X) : N X := N.rec (motive := fun _ => N X) (fun a b c d e f g h => ⟨a, b, c, d, e, f, g, k h⟩) x
def ls1 (d : Nat) : Ls (N X) X := Nat.rec (motive := fun _ => Ls (N X) X) ⟨N.a, sA⟩ (fun d _ => Nat.rec (motive := fun _ => Ls (N X) X) ⟨N.b, sB⟩ (fun d _ => Nat.rec (motive := fun _ => Ls (N X) X) ⟨N.c, sC⟩ (fun d _ => Nat.rec (motive := fun _ => Ls (N X) X) ⟨N.d, sD⟩ (fun d _ => Nat.rec (motive := fun _ => Ls (N X) X) ⟨N.e, sE⟩ (fun d _ => Nat.rec (motive := fun _ => Ls (N X) X) ⟨N.f, sF⟩ (fun d _ => Nat.rec (motive := fun _ => Ls (N X) X) ⟨N.g, sG⟩ (fun _ _ => ⟨N.h, sH⟩) d) d) d) d) d) d) d
def Ls.cmp {Y Z : Type} (l : Ls X Y) (m : Ls Y Z) : Ls X Z := Ls.rec (motive := fun _ => Ls X Z) (fun g u => Ls.rec (motive := fun _ => Ls X Z) (fun g2 u2 => ⟨fun x => g2 (g x), fun k x => u (u2 k) x⟩) m) l
end
def T (n : Nat) (α : Type) : Type := Nat.rec (motive := fun _ => Type) (Option α) (fun _ X => N X) n
def T.ls (α : Type) (n : Nat) : Nat → Ls (T n α) (Option α) :=
 Nat.rec (motive := fun n => Nat → Ls (T n α) (Option α)) (fun k => cb (Nat.beq k 0) ⟨fun x => x, fun f x => f x⟩ ⟨fun _ => none, fun _ x => x⟩) (fun n ih k => Ls.cmp (Y := T n α) (ls1 (X := T n α) (Nat.mod k 8)) (ih (Nat.div k 8))) n
def T.get {n : Nat} {α : Type} (t : T n α) (k : Nat) : Option α := Ls.rec (motive := fun _ => Option α) (fun g _ => g t) (T.ls α n k)
def T.set {n : Nat} {α : Type} (x : α) (t : T n α) (k : Nat) : T n α := Ls.rec (motive := fun _ => T n α) (fun _ u => u (fun _ => some x) t) (T.ls α n k)
def T.lf {n : Nat} {α : Type} : T n α := Nat.rec (motive := fun n => T n α) (none : Option α) (fun _ t => (⟨t, t, t, t, t, t, t, t⟩ : N _)) n
def T.ofL {n : Nat} {α : Type} (l : List (Nat × α)) : T n α := List.rec (motive := fun _ => T n α) .lf (fun p _ t => T.set p.2 t p.1) l
def fV {α : Type} (n : Nat) (f : Nat → α) : α := Nat.rec (motive := fun _ => α) (f 0) (fun m _ => f (Nat.succ m)) n
def aAr {α : Type} (n : Int) (f : Int → α) : α := Int.rec (motive := fun _ => α) (fun m => fV m fun m => f (.ofNat m)) (fun m => fV m fun m => f (.negSucc m)) n
inductive Dk where
 | int (k : IntKind)
 | str
 | bool
 | sl (e : Nat)
 | st (fs : List (Nat × Nat))
 | ar (n e : Nat)
 | pt
 | fn
 | no
structure TI where
 d : Dk
 sz : Nat
 by_ : Nat
 ze : List SV
structure B where
 ty : Nat
 c : List SV
abbrev Env := T 3 AV
structure Lp where
 fn : Nat
 nt : Nat
 e : Env
 ps : List Nat
 cs : Code
 bd : Code
 st : Bool
 pd : Option Code
 dd : Bool
structure H where
 h : T 5 B
 n : Nat
 bar : Nat
 l : T 5 Lp
structure Cf where
 P : Program
 /-- what is known of the start -/
 tb : World → Prop
 /-- the type of a natural number of package value -/
 nat : Nat
 pr : Nat → Option (List AV → Option AV)
 /-- the order in which a region that draws is computed: first what makes and reads, then what writes (with the loads that are read again) -/
 pl : Nat → Nat → Option (List Nat × List (Nat × List Nat))
 /-- calls that read lists: their results are known -/
 ph : Nat → Option (H → List AV → Option AV)
def dk (d : TypeDesc) : Dk := match d with
 | .int k => .int k
 | .string => .str
 | .bool => .bool
 | .slice e => .sl e
 | .struct fs => .st (fs.toList.map fun f => (f.offset, f.type))
 | .array n e => .ar n e
 | .pointer _ => .pt
 | .func _ _ _ => .fn
 | _ => .no
def zer (F : Cf) (d : Nat) : Nat → List SV :=
 Nat.rec (motive := fun _ => Nat → List SV) (fun _ => []) (fun _ r t => match F.P.underlying t with
  | none => []
  | some d => match dk d with
    | .int k => [.i k 0]
    | .str => [.s []]
    | .bool => [.b false]
    | .sl _ => cb (Nat.beq t F.nat) [.m 0] [.ns]
    | .st fs => (fs.map fun p => r p.2).flatten
    | .ar n e => (List.replicate n (r e)).flatten
    | .pt => [.np]
    | .fn => [.nf]
    | .no => []) d
def aCH (x : SV) (v : Value) : Bool := match x, v with
 | .i k (.ofNat 0), .int j (.ofNat 0) => decide (k = j)
 | .s [], .string s => decide (s.data.toList = [])
 | .b false, .bool false => true
 | .m 0, .slice none 0 0 => true
 | .ns, .slice none 0 0 => true
 | .np, .pointer none => true
 | .nf, .nilFunc => true
 | _, _ => false
def zok : List SV → List Value → Bool
 | [], [] => true
 | x :: l, v :: r => aCH x v && zok l r
 | _, _ => false
def Cf.ti (F : Cf) (t : Nat) : Option TI := match F.P.info? t, F.P.underlying t with
 | some i, some d => match i.zero with
   | some z => cb (zok (zer F 8 t) z.cells.toList && Nat.beq z.cells.toList.length i.size) (some ⟨dk d, i.size, i.bytes, zer F 8 t⟩) none
   | none => none
 | _, _ => none
def H.nw {α : Type} (h : H) (x : B) (f : Nat → H → α) : α := fV h.n fun n => f n ⟨h.h.set x n, Nat.succ n, h.bar, h.l⟩
def H.put (h : H) (k : Nat) (x : B) : H := ⟨h.h.set x k, h.n, h.bar, h.l⟩
def bytes (s : ByteArray) : List Nat := s.data.toList.map UInt8.toNat
def isF (v : Value) : Bool := match v with | .bool false => true | _ => false
def isZ (v : Value) : Bool := match v with | .slice none 0 0 => true | _ => false
def ofA (l : List Value) : Option AV := match l with | [x, y, z] => cb (isF x) (cb (isZ y) (cb (isZ z) (some (.c true [.b false, .m 0, .m 0])) none) none) none | _ => none
def ofV (v : Value) : Option AV := match v with
 | .int k n => some (sc (.i k n))
 | .bool x => some (sc (.b x))
 | .string s => some (sc (.s (bytes s)))
 | .pointer none => some (sc .np)
 | .slice none 0 0 => some (sc .ns)
 | .nilFunc => some (sc .nf)
 | .agg cs => ofA cs.toList
 | .tuple vs => (match vs.toList with | [] => some un | _ => none)
 | _ => none
def ev (e : Env) (x : Operand) : Option AV := Operand.rec (motive := fun _ => Option AV) (fun t => e.get t) ofV (fun _ => none) (fun f => some (sc (.f f []))) x
def evL (e : Env) (l : List Operand) : Option (List AV) := List.rec (motive := fun _ => Option (List AV)) (some []) (fun x _ r => ob (ev e x) fun v => ob r fun r => some (v :: r)) l
def cells {α : Type} (v : AV) (k : List SV → Option α) : Option α := AV.rec (motive := fun _ => Option α) (fun _ l => k l) (fun _ => none) v
def hd1 {α : Type} (l : List SV) (k : SV → Option α) : Option α := List.rec (motive := fun _ => Option α) none (fun x r _ => List.rec (motive := fun _ => Option α) (k x) (fun _ _ _ => none) r) l
def one {α : Type} (v : AV) (k : SV → Option α) : Option α := AV.rec (motive := fun _ => Option α) (fun g l => cb g none (hd1 l k)) (fun _ => none) v
def agg {α : Type} (v : AV) (k : List SV → Option α) : Option α := AV.rec (motive := fun _ => Option α) (fun g l => cb g (k l) none) (fun _ => none) v
def app {α : Type} (l m : List α) : List α := List.rec (motive := fun _ => List α) m (fun x _ r => x :: r) l
def len {α : Type} (l : List α) : Nat := List.rec (motive := fun _ => Nat) 0 (fun _ _ r => Nat.succ r) l
def iY {α : Type} (n : Nat) : List α → Option (List α) :=
 Nat.rec (motive := fun _ => List α → Option (List α)) (fun _ => some []) (fun _ r l => List.rec (motive := fun _ => Option (List α)) none (fun x l _ => ob (r l) fun m => some (x :: m)) l) n
def drp {α : Type} (n : Nat) : List α → List α :=
 Nat.rec (motive := fun _ => List α → List α) (fun l => l) (fun _ r l => List.rec (motive := fun _ => List α) [] (fun _ l _ => r l) l) n
def ovr {α : Type} (xs : List α) : List α → Option (List α) :=
 List.rec (motive := fun _ => List α → Option (List α)) some (fun x _ r l => List.rec (motive := fun _ => Option (List α)) none (fun _ l _ => ob (r l) fun m => some (x :: m)) l) xs
def lG {α : Type} (off : Nat) (xs : List α) : List α → Option (List α) :=
 Nat.rec (motive := fun _ => List α → Option (List α)) (ovr xs) (fun _ r l => List.rec (motive := fun _ => Option (List α)) none (fun y l _ => ob (r l) fun m => some (y :: m)) l) off
def rd (h : H) (id off n : Nat) : Option (List SV) := ob (h.h.get id) fun b => iY n (drp off b.c)
def aCI (x : SV) : Bool := match x with | .i .u64 _ => false | .u => false | _ => true
def calm (l : List SV) : Bool := List.rec (motive := fun _ => Bool) true (fun x _ r => cb (aCI x) r false) l
def wr (h : H) (id off : Nat) (l : List SV) : Option H := cb (Nat.ble h.bar id) (ob (h.h.get id) fun b => ob (lG off l b.c) fun c => cb (calm b.c) (some (h.put id ⟨b.ty, c⟩)) none) none
def lim (k : IntKind) : Nat := IntKind.rec (motive := fun _ => Nat) 128 32768 2147483648 9223372036854775808 256 65536 4294967296 18446744073709551616 k
def mkI (k : IntKind) (n : Nat) : Option SV := fV n fun n => cb (Nat.blt n (lim k)) (some (.i k (.ofNat n))) (aAr (k.wrap (.ofNat n)) fun n => some (.i k n))
def mkZ (k : IntKind) (n : Int) : Option SV := aAr (k.wrap n) fun n => some (.i k n)
def two {α : Type} (a c : Int) (f : Nat → Nat → α) (g : α) : α := Int.rec (motive := fun _ => α) (fun a => Int.rec (motive := fun _ => α) (fun c => f a c) (fun _ => g) c) (fun _ => g) a
def aIz (k : IntKind) (a c : Int) : Option SV := two a c (fun a c => mkI k (Nat.add a c)) (mkZ k (a + c))
def aIA (k : IntKind) (a c : Int) : Option SV := two a c (fun x y => cb (Nat.ble y x) (mkI k (Nat.sub x y)) (mkZ k (a - c))) (mkZ k (a - c))
def aKT (k : IntKind) (a c : Int) : Option SV := two a c (fun a c => mkI k (Nat.mul a c)) (mkZ k (a * c))
def aIB (k : IntKind) (a c : Int) : Option SV := cb (decide (c = 0)) none (mkZ k (a.tdiv c))
def aIC (k : IntKind) (a c : Int) : Option SV := cb (decide (c = 0)) none (aAr (a.tmod c) fun n => some (.i k n))
def iEq (a c : Int) : Bool := two a c Nat.beq (decide (a = c))
def iLt (a c : Int) : Bool := two a c Nat.blt (decide (a < c))
def jD (b : Bool) : Bool := cb b false true
def bo (b : Bool) : Option SV := some (.b b)
def iop (op : BinOp) (k : IntKind) (a c : Int) : Option SV :=
 match op with
 | .add => aIz k a c
 | .sub => aIA k a c
 | .mul => aKT k a c
 | .quo => aIB k a c
 | .rem => aIC k a c
 | .eql => bo (iEq a c)
 | .neq => bo (jD (iEq a c))
 | .lss => bo (iLt a c)
 | .leq => bo (jD (iLt c a))
 | .gtr => bo (iLt c a)
 | .geq => bo (jD (iLt a c))
 | _ => none
def eqL (l : List Nat) : List Nat → Bool :=
 List.rec (motive := fun _ => List Nat → Bool) (fun m => List.rec (motive := fun _ => Bool) true (fun _ _ _ => false) m) (fun a _ r m => List.rec (motive := fun _ => Bool) false (fun c m _ => cb (Nat.beq a c) (r m) false) m) l
def eqv (op : BinOp) (r : Bool) : Option SV := match op with | .eql => bo r | .neq => bo (jD r) | _ => none
def aID (op : BinOp) (a : List Nat) (y : SV) : Option SV := match y with | .s c => (match op with | .add => cb (Nat.blt (Nat.add (len a) (len c)) 9223372036854775808) (some (.s (app a c))) none | op => eqv op (eqL a c)) | _ => none
def aIE (op : BinOp) (k : IntKind) (a : Int) (y : SV) : Option SV := match y with | .i j c => cb (decide (k = j)) (iop op k a c) none | _ => none
def aIF (op : BinOp) (a : Bool) (y : SV) : Option SV := match y with | .b c => eqv op (a == c) | _ => none
def aCJ (d : Dk) (op : BinOp) (x y : SV) : Option SV := match d, x, y with
 | .pt, .np, .np => eqv op true
 | .pt, .np, .p _ _ => eqv op false
 | .pt, .p _ _, .np => eqv op false
 | .sl _, .ns, .ns => eqv op true
 | .sl _, .ns, .sl _ _ _ _ => eqv op false
 | .sl _, .sl _ _ _ _, .ns => eqv op false
 | _, _, _ => none
def bop (d : Dk) (op : BinOp) (x y : SV) : Option SV :=
 match x with
 | .i k a => aIE op k a y
 | .b a => (match d with | .bool => aIF op a y | _ => none)
 | .s a => aID op a y
 | x => aCJ d op x y
def natOf {α : Type} (x : SV) (k : Nat → Option α) : Option α := match x with | .i _ n => Int.rec (motive := fun _ => Option α) k (fun _ => none) n | _ => none
def qW (z : List SV) (n : Nat) : List SV := Nat.rec (motive := fun _ => List SV) [] (fun _ r => app z r) n
def parts (pl : Nat → Option (Nat × Nat)) (e : Env) (l : List (Nat × Operand)) : List SV → Option (List SV) :=
 List.rec (motive := fun _ => List SV → Option (List SV)) some (fun p _ r acc => ob (pl p.1) fun q => ob (ev e p.2) fun v => cells v fun c => cb (Nat.beq (len c) q.2) (ob (lG q.1 c acc) r) none) l
abbrev VH := AV × H
def vh (x : SV) (h : H) : Option VH := some (sc x, h)
def av (g : Bool) (l : List SV) : Option AV := cb g (some (.c true l)) (hd1 l fun x => some (sc x))
def Dk.ag (d : Dk) : Bool := match d with | .st _ => true | .ar _ _ => true | _ => false
def fields (d : Dk) (f : Nat) : Option (Nat × Nat) := match d with | .st fs => (drp f fs).head? | _ => none
def elem (d : Dk) : Option Nat := match d with | .sl e => some e | _ => none
variable (F : Cf)
def sz (t : Nat) : Option Nat := ob (F.ti t) fun i => some i.sz
def szs (fs : List (Nat × Nat)) : Option (List (Nat × Nat)) := List.rec (motive := fun _ => Option (List (Nat × Nat))) (some []) (fun p _ r => ob (sz F p.2) fun s => ob r fun r => some ((p.1, s) :: r)) fs
def sP (e : Env) (h : H) (c a d : Operand) : Option VH := ob (ev e c) fun v => one v fun s => match s with | .b x => ob (ev e (cb x a d)) fun v => some (v, h) | _ => none
def uW (h : H) (t : Nat) : Option VH := ob (F.ti t) fun i => h.nw ⟨t, i.ze⟩ fun a h => vh (.p a 0) h
def aAs (e : Env) (h : H) (t : Nat) (x : Operand) : Option VH := ob (ev e x) fun v => cells v fun c => h.nw ⟨t, c⟩ fun a h => vh (.p a 0) h
def oD (e : Env) (h : H) (t : Nat) (ps : List (Nat × Operand)) : Option VH := ob (F.ti t) fun i => match i.d with
 | .st fs => ob (szs F fs) fun pl => ob (parts (fun f => (drp f pl).head?) e ps i.ze) fun c => some (.c true c, h)
 | .ar _ el => ob (sz F el) fun s => ob (parts (fun f => some (Nat.mul f s, s)) e ps i.ze) fun c => some (.c true c, h)
 | _ => none
def iV (e : Env) (h : H) (t n : Nat) (ps : List (Nat × Operand)) : Option VH :=
 ob (F.ti t) fun i => ob (elem i.d) fun el => ob (F.ti el) fun j => cb (Nat.blt (Nat.mul n j.sz) 16777216) (ob (parts (fun f => some (Nat.mul f j.sz, j.sz)) e ps (qW j.ze n)) fun c => h.nw ⟨el, c⟩ fun a h => vh (.sl a 0 n (some n)) h) none
def uX (e : Env) (h : H) (t : Nat) (a : Operand) : Option VH := ob (F.ti t) fun i => ob (ev e a) fun v => one v fun s => match s with | .p id off => ob (rd h id off i.sz) fun l => ob (av i.d.ag l) fun v => some (v, h) | _ => none
def qX (e : Env) (h : H) (t : Nat) (a x : Operand) : Option VH := ob (sz F t) fun z => ob (ev e a) fun v => one v fun s => match s with | .p id off => ob (ev e x) fun u => cells u fun c => cb (Nat.beq (len c) z) (ob (wr h id off c) fun h => some (un, h)) none | _ => none
def wW (e : Env) (h : H) (x : Operand) : Option VH := ob (ev e x) fun v => one v fun s => match s with | .p _ _ => some (v, h) | .f _ _ => some (v, h) | .y _ => some (v, h) | _ => none
def aFr (x y : SV) (r : Option Bool) : Option Bool := match x, y with | .i k a, .i j c => cb (decide (k = j)) (cb (iEq a c) r (some false)) none | _, _ => none
def eqI (l : List SV) : List SV → Option Bool := List.rec (motive := fun _ => List SV → Option Bool) (fun m => List.rec (motive := fun _ => Option Bool) (some true) (fun _ _ _ => none) m)
 (fun x _ r m => List.rec (motive := fun _ => Option Bool) none (fun y m _ => aFr x y (r m)) m) l
def arq (op : BinOp) (d : Dk) (l m : List SV) : Option SV := match d with
 | .ar n el => ob (F.ti el) fun j => match j.d with
   | .int _ => cb (Nat.beq j.sz 1) (cb (Nat.beq (len l) n) (cb (Nat.beq (len m) n) (ob (eqI l m) (eqv op)) none) none) none
   | _ => none
 | _ => none
def gW (e : Env) (h : H) (op : BinOp) (t : Nat) (x y : Operand) : Option VH := ob (F.ti t) fun i => ob (ev e x) fun v => ob (ev e y) fun u => cb i.d.ag (cb (F.P.eqGuardType F.P.depth t) none (agg v fun l => agg u fun m => ob (arq F op i.d l m) fun r => vh r h)) (one v fun a => one u fun c => ob (bop i.d op a c) fun r => vh r h)
def oUn (e : Env) (h : H) (op : UnOp) (x : Operand) : Option VH := ob (ev e x) fun v => one v fun s => match op, s with
  | .neg, .i k n => ob (mkZ k (0 - n)) fun r => vh r h
  | .not, .b x => vh (.b (jD x)) h
  | _, _ => none
def sQ (e : Env) (h : H) (src dst : Nat) (x : Operand) : Option VH := ob (F.ti src) fun i => ob (F.ti dst) fun j => ob (ev e x) fun v => one v fun s => match i.d, j.d, s with
  | .int _, .int k, .i _ n => ob (Int.rec (motive := fun _ => Option SV) (fun m => mkI k m) (fun _ => mkZ k n) n) fun r => vh r h
  | .str, .str, .s l => vh (.s l) h
  | _, _, _ => none
def bQ (l : List AV) : Option (List (Nat × Nat)) := List.rec (motive := fun _ => Option (List (Nat × Nat))) (some []) (fun v _ r => one v fun s => match s with | .p id off => ob r fun r => some ((id, off) :: r) | _ => none) l
def pF (e : Env) (h : H) (fn : Fn) (a c : List Operand) : Option VH := match fn, a with | .func f, [] => ob (evL e c) fun l => ob (bQ l) fun l => vh (.f f l) h | _, _ => none
def uY (e : Env) (h : H) (t : Nat) (l c : Operand) : Option VH := ob (F.ti t) fun i => ob (elem i.d) fun el => ob (F.ti el) fun j => ob (ev e l) fun v => one v fun s => natOf s fun n => ob (ev e c) fun u => one u fun s => natOf s fun m =>
 cb (Nat.ble n m) (cb (Nat.ble (Nat.mul m j.by_) 1099511627776) (cb (Nat.blt m 1099511627776) (h.nw ⟨el, qW j.ze m⟩ fun a h => vh (.sl a 0 n (some m)) h) none) none) none
def bound {α : Type} (e : Env) (x : Option Operand) (d : Nat) (k : Nat → Option α) : Option α := Option.rec (motive := fun _ => Option α) (k d) (fun x => ob (ev e x) fun v => one v fun s => natOf s k) x
def chk {α : Type} (l h c : Nat) (k : Option α) : Option α := cb (Nat.ble l h) (cb (Nat.ble h c) k none) none
def oF (e : Env) (h : H) (t : Nat) (x : Operand) (lo hi mx : Option Operand) : Option VH := Option.rec (motive := fun _ => Option VH) (ob (F.ti t) fun i => ob (ev e x) fun v => one v fun s => match i.d, s with
  | .str, .s l => bound e lo 0 fun a => bound e hi (len l) fun c => chk a c (len l) (ob (iY (Nat.sub c a) (drp a l)) fun l => vh (.s l) h)
  | .sl el, .ns => ob (sz F el) fun _ => bound e lo 0 fun a => bound e hi 0 fun c => chk a c 0 (vh .ns h)
  | .sl el, .sl id off n c => ob (sz F el) fun z => bound e lo 0 fun a => bound e hi n fun d =>
    Option.rec (motive := fun _ => Option VH) (cb (Nat.beq a 0) (chk a d n (vh (.sl id off (Nat.sub d a) none) h)) none)
     (fun c => cb (Nat.blt a c) (chk a d c (vh (.sl id (Nat.add off (Nat.mul a z)) (Nat.sub d a) (some (Nat.sub c a))) h)) (cb (Nat.beq a 0) (chk a d c (vh (.sl id off (Nat.sub d a) (some c)) h)) none)) c
  | _, _ => none) (fun _ => none) mx
def oFA (e : Env) (h : H) (s : Nat) (x : Operand) (f : Nat) : Option VH := ob (F.ti s) fun i => ob (fields i.d f) fun q => ob (sz F q.2) fun z => cb (Nat.blt 0 z) (ob (ev e x) fun v => one v fun s => match s with | .p id off => vh (.p id (Nat.add off q.1)) h | _ => none) none
def oG (e : Env) (h : H) (s : Nat) (x : Operand) (f : Nat) : Option VH := ob (F.ti s) fun i => ob (fields i.d f) fun q => ob (F.ti q.2) fun j => ob (ev e x) fun v => agg v fun l => ob (iY j.sz (drp q.1 l)) fun l => ob (av j.d.ag l) fun v => some (v, h)
def oIA (e : Env) (h : H) (t : Nat) (x ix : Operand) : Option VH := ob (F.ti t) fun i => ob (ev e ix) fun v => one v fun s => natOf s fun j => ob (ev e x) fun v => one v fun s => match i.d, s with
  | .sl el, .sl id off n _ => ob (sz F el) fun z => cb (Nat.blt j n) (vh (.p id (Nat.add off (Nat.mul j z))) h) none
  | .ar n el, .p id off => ob (sz F el) fun z => cb (Nat.blt j n) (vh (.p id (Nat.add off (Nat.mul j z))) h) none
  | _, _ => none
def oIx (e : Env) (h : H) (t : Nat) (x ix : Operand) : Option VH := ob (F.ti t) fun i => ob (ev e ix) fun v => one v fun s => natOf s fun j => match i.d with
  | .ar n el => ob (F.ti el) fun g => cb (Nat.blt j n) (ob (ev e x) fun v => agg v fun l => ob (iY g.sz (drp (Nat.mul j g.sz) l)) fun l => ob (av g.d.ag l) fun v => some (v, h)) none
  | _ => none
def wX (e : Env) (h : H) (x : Operand) (ix : Nat) : Option VH := ob (ev e x) fun v => AV.rec (motive := fun _ => Option VH) (fun _ _ => none) (fun l => ob (drp ix l).head? fun p => some (.c p.1 p.2, h)) v
def mm (mn : Bool) (v w : AV) : Option AV := one v fun x => one w fun y => match x, y with
 | .i a x, .i b y => cb (decide (a = b)) (some (sc (.i a (cb mn (cb (iLt y x) y x) (cb (iLt x y) y x))))) none
 | _, _ => none
def oH (mn : Bool) (l : List AV) : Option AV := match l with
 | [x, y] => mm mn x y
 | [x, y, z] => ob (mm mn x y) fun m => mm mn m z
 | _ => none
def lenOf {α : Type} (x : SV) (k : Nat → Option α) : Option α := match x with
 | .s l => k (len l)
 | .ns => k 0
 | .sl _ _ n _ => k n
 | _ => none
def aAt (h : H) (z n : Nat) (x : SV) : Option (List SV) := match x with
 | .ns => some []
 | .sl id off _ _ => rd h id off (Nat.mul n z)
 | _ => none
def H.cut (h : H) (k el : Nat) (x : List SV) (f : Nat → H → Option VH) : Option VH :=
 ob (h.h.get k) fun b => cb (Nat.beq b.ty el) (cb (Nat.beq (len b.c) 0) none (cb (calm b.c) (cb (Nat.ble h.bar k) (fV h.n fun n => f n ⟨(h.h.set ⟨0, []⟩ k).set ⟨el, x⟩ n, Nat.succ n, h.bar, h.l⟩) none) none)) none
def aCK (h : H) (el : Nat) (j : TI) (s x : SV) : Option VH :=
 lenOf s fun n => lenOf x fun m => ob (aAt h j.sz m x) fun nw => ob (aAt h j.sz n s) fun old => cb (calm j.ze) (cb (calm nw) (cb (Nat.blt (Nat.mul (Nat.add n m) j.by_) 1099511627776) (cb (Nat.blt 0 m) (cb (Nat.blt (Nat.add n m) 1099511627776) (cb (Nat.blt 0 j.sz) (match s with
  | .sl id off _ (some c) => cb (Nat.ble (Nat.add n m) c) (cb (Nat.beq off 0) (ob (h.h.get id) fun b => cb (Nat.beq b.ty el) (ob (wr h id (Nat.mul n j.sz) nw) fun h => vh (.sl id 0 (Nat.add n m) (some c)) h) none) none) (h.nw ⟨el, app old nw⟩ fun a h => vh (.sl a 0 (Nat.add n m) none) h)
  | .sl id off _ none => cb (Nat.beq off 0) (h.cut id el (app old nw) fun a h => vh (.sl a 0 (Nat.add n m) none) h) none
  | .ns => h.nw ⟨el, app old nw⟩ fun a h => vh (.sl a 0 (Nat.add n m) none) h
  | _ => none) none) none) none) none) none) none
def bi (h : H) (b : Builtin) (at_ : List Nat) (args : List AV) : Option VH :=
 match b with
 | .len => (match at_, args with | [t], [x] => ob (F.ti t) fun i => one x fun s => (match i.d, s with | .str, .s l => vh (.i .i64 (.ofNat (len l))) h | .sl _, .ns => vh (.i .i64 0) h | .sl _, .sl _ _ n _ => vh (.i .i64 (.ofNat n)) h | _, _ => none) | _, _ => none)
 | .min => ob (oH true args) fun v => some (v, h)
 | .max => ob (oH false args) fun v => some (v, h)
 | .append => (match at_, args with | [t, t'], [s, x] => ob (F.ti t) fun i => ob (elem i.d) fun el => cb (Nat.beq t t') (ob (F.ti el) fun j => one s fun s => one x fun x => aCK h el j s x) none | _, _ => none)
 | _ => none
abbrev aG := AV → List AV → H → Option VH
def aHo (call : aG) (e : Env) (h : H) (args : List Operand) (at_ : List Nat) (c : Callee) : Option VH :=
 Callee.rec (motive := fun _ => Option VH) (fun f => ob (ev e f) fun f => ob (evL e args) fun l => call f l h) (fun _ _ => none) (fun b => ob (evL e args) fun l => bi F h b at_ l) c
structure Wo where
 f : aG → Env → H → Option VH
def eZ (o : Op) : Wo :=
 match o with
 | .move x => ⟨fun _ e h => ob (ev e x) fun v => some (v, h)⟩
 | .assign x => ⟨fun _ e h => ob (ev e x) fun v => some (v, h)⟩
 | .pick c a d => ⟨fun _ e h => sP e h c a d⟩
 | .alloc t => ⟨fun _ _ h => uW F h t⟩
 | .box t x => ⟨fun _ e h => aAs e h t x⟩
 | .build t ps => ⟨fun _ e h => oD F e h t ps.toList⟩
 | .buildSlice t n ps => ⟨fun _ e h => iV F e h t n ps.toList⟩
 | .load t a => ⟨fun _ e h => uX F e h t a⟩
 | .store t a x => ⟨fun _ e h => qX F e h t a x⟩
 | .nilCheck x => ⟨fun _ e h => wW e h x⟩
 | .binOp op t x y _ => ⟨fun _ e h => gW F e h op t x y⟩
 | .unOp op _ x => ⟨fun _ e h => oUn e h op x⟩
 | .convert s d x => ⟨fun _ e h => sQ F e h s d x⟩
 | .makeFunc f a c => ⟨fun _ e h => pF e h f a.toList c.toList⟩
 | .makeSlice t l c => ⟨fun _ e h => uY F e h t l c⟩
 | .slice t x lo hi mx => ⟨fun _ e h => oF F e h t x lo hi mx⟩
 | .fieldAddr s x f => ⟨fun _ e h => oFA F e h s x f⟩
 | .field s x f => ⟨fun _ e h => oG F e h s x f⟩
 | .indexAddr t x ix => ⟨fun _ e h => oIA F e h t x ix⟩
 | .index t x ix => ⟨fun _ e h => oIx F e h t x ix⟩
 | .extract x ix => ⟨fun _ e h => wX e h x ix⟩
 | .call c => ⟨fun call e h => aHo F call e h c.args.toList c.argTypes.toList c.callee⟩
 | _ => ⟨fun _ _ _ => none⟩
def op1 (call : aG) (o : Op) (e : Env) (h : H) : Option VH := Wo.rec (motive := fun _ => Option VH) (fun f => f call e h) (eZ F o)
def put {α : Type} (nt : Nat) (e : Env) (d : Option Nat) (v : AV) (k : Env → Option α) : Option α := Option.rec (motive := fun _ => Option α) (k e) (fun d => cb (Nat.blt d nt) (k (e.set v d)) none) d
inductive Ex where
 | n
 | x (id : Nat)
 | r
structure R where
 x : Ex
 e : Env
 h : H
def isB (v : Option AV) (w : Bool) : Option Bool := ob v fun v => match v with
 | .c false [.b x] => some (cb w x (jD x))
 | .t [] => some false
 | _ => none
def wanted (ops : List Oper) (e : Env) (g : Option (Nat × Bool)) : Option Bool := Option.rec (motive := fun _ => Option Bool) (some true) (fun p => ob (drp p.1 ops).head? fun o => ob o.dst fun d => isB (e.get d) p.2) g
def dS (nt : Nat) (call : aG) (ops : List Oper) (rest : Env → H → Option R) (o : Oper) (e : Env) (h : H) : Option R :=
 ob (wanted ops e o.guard) fun w => cb w (ob (op1 F call o.op e h) fun r => put nt e o.dst r.1 fun e => rest e r.2) (put nt e o.dst un fun e => rest e h)
def iD (nt : Nat) (call : aG) (ops l : List Oper) : Env → H → Option R :=
 List.rec (motive := fun _ => Env → H → Option R) (fun e h => some ⟨.n, e, h⟩) (fun o _ r e h => dS F nt call ops r o e h) l
inductive Mk where | p | l | c | n | w
def mkC (c : Callee) : Mk := match c with
 | .value (.func f) => Option.rec (motive := fun _ => Mk) .c (fun _ => .p) (F.pr f)
 | .value _ => .c
 | .builtin .append => .w
 | .builtin _ => .p
 | _ => .w
def mkO (o : Op) : Mk := match o with
 | .move _ => .p
 | .assign _ => .p
 | .pick .. => .p
 | .build .. => .p
 | .nilCheck _ => .p
 | .binOp .. => .p
 | .unOp .. => .p
 | .convert .. => .p
 | .makeFunc .. => .p
 | .slice .. => .p
 | .fieldAddr .. => .p
 | .field .. => .p
 | .indexAddr .. => .p
 | .index .. => .p
 | .extract .. => .p
 | .load .. => .l
 | .alloc _ => .n
 | .box .. => .n
 | .buildSlice .. => .n
 | .makeSlice .. => .n
 | .call c => mkC F c.callee
 | _ => .w
def edg (e : Edge) : Bool := match e.ground with | .textOnly _ => false | .gcOnly _ => false | _ => true
def bit (i : Nat) : Nat := Nat.shiftLeft 1 i
def sub (a c : Nat) : Bool := Nat.beq (Nat.land a c) a
def msk (f : Nat → Nat) (l : List Edge) : Nat := List.rec (motive := fun _ => Nat) 0 (fun e _ r => cb (edg e) (Nat.lor (f e.on) r) r) l
def msN (l : List Nat) : Nat := List.rec (motive := fun _ => Nat) 0 (fun i _ r => Nat.lor (bit i) r) l
structure Sc where
 d : Nat
 an : T 3 Nat
def anc (s : Sc) (j : Nat) : Nat := Option.rec (motive := fun _ => Nat) (bit j) (fun a => Nat.lor (bit j) a) (s.an.get j)
def scK (ph : Bool) (k : Mk) (s : Sc) (am rm : Nat) : Bool := match k with
 | .w => cb ph false (sub s.d (Nat.lor am rm))
 | _ => cb ph true (sub s.d (Nat.lor am rm))
def scP (s : Sc) (i am : Nat) : Sc := fV (Nat.lor s.d (bit i)) fun d => ⟨d, s.an.set am i⟩
def sc1 (ops : List Oper) (ph : Bool) (i : Nat) (rm : Nat) (s : Sc) : Option Sc :=
 ob (drp i ops).head? fun o => cb (Nat.beq (Nat.land s.d (bit i)) 0) (cb (sub (msk bit o.after.toList) s.d) (fV (msk (anc s) o.after.toList) fun am => cb (scK ph (mkO F o.op) s am rm) (some (scP s i am)) none) none) none
def scA (ops : List Oper) (l : List Nat) : Sc → Option Sc := List.rec (motive := fun _ => Sc → Option Sc) some (fun i _ r s => ob (sc1 F ops true i 0 s) r) l
def scB (ops : List Oper) (l : List (Nat × List Nat)) : Sc → Option Sc := List.rec (motive := fun _ => Sc → Option Sc) some (fun p _ r s => ob (sc1 F ops false p.1 (msN p.2) s) r) l
def wtL (ops : List Oper) : Nat → T 3 Nat → Option (T 3 Nat) := List.rec (motive := fun _ => Nat → T 3 Nat → Option (T 3 Nat)) (fun _ t => some t)
 (fun o _ r k t => Option.rec (motive := fun _ => Option (T 3 Nat)) (r (Nat.succ k) t) (fun d => Option.rec (motive := fun _ => Option (T 3 Nat)) (r (Nat.succ k) (t.set k d)) (fun _ => none) (t.get d)) o.dst) ops
def has (an : T 3 Nat) (i j : Nat) : Bool := Option.rec (motive := fun _ => Bool) false (sub (bit j)) (an.get i)
def shT (wt an : T 3 Nat) (i : Nat) (l : List Tmp) : Bool := List.rec (motive := fun _ => Bool) true (fun t _ r => cb (Option.rec (motive := fun _ => Bool) true (fun j => cb (Nat.beq j i) true (cb (has an i j) true (has an j i))) (wt.get t)) r false) l
def shQ (wt : T 3 Nat) (i : Nat) (d : Option Nat) : Bool := Option.rec (motive := fun _ => Bool) true (fun d => Option.rec (motive := fun _ => Bool) false (Nat.beq i) (wt.get d)) d
def shL (opsA : Array Oper) (wt an : T 3 Nat) (l : List Oper) : Nat → Bool := List.rec (motive := fun _ => Nat → Bool) (fun _ => true) (fun o _ r i => cb (shQ wt i o.dst) (cb (shT wt an i (o.looksAt opsA)) (r (Nat.succ i)) false) false) l
def shU (wt an : T 3 Nat) (i : Nat) (l : List Tmp) : Bool := List.rec (motive := fun _ => Bool) true (fun t _ r => cb (Option.rec (motive := fun _ => Bool) true (has an i) (wt.get t)) r false) l
def shV (opsA : Array Oper) (wt an : T 3 Nat) (l : List Nat) : Bool := List.rec (motive := fun _ => Bool) true (fun i _ r => cb (Option.rec (motive := fun _ => Bool) false (fun o => shU wt an i (o.looksAt opsA)) (drp i opsA.toList).head?) r false) l
def shW (opsA : Array Oper) (wt an : T 3 Nat) (l : List (Nat × List Nat)) : Bool := List.rec (motive := fun _ => Bool) true (fun p _ r => cb (shV opsA wt an p.2) r false) l
def fsN (l : List (Nat × List Nat)) : Nat := List.rec (motive := fun _ => Nat) 0 (fun p _ r => Nat.lor (bit p.1) r) l
def rmL (m : Nat) (l : List (Nat × List Nat)) : Bool := List.rec (motive := fun _ => Bool) true (fun p _ r => cb (Nat.beq (Nat.land (msN p.2) m) 0) r false) l
def isS {α : Type} (x : Option α) (f : α → Bool) : Bool := Option.rec (motive := fun _ => Bool) false f x
def kY (ops : Array Oper) (p : List Nat × List (Nat × List Nat)) : Bool :=
 isS (ob (scA F ops.toList p.1 ⟨0, .lf⟩) (scB F ops.toList p.2)) fun s => cb (Nat.beq (Nat.succ s.d) (bit (len ops.toList))) (cb (isS (wtL ops.toList 0 .lf) fun wt => cb (shL ops wt s.an ops.toList 0) (shW ops wt s.an p.2) false) (cb (rmL (fsN p.2) p.2) (Region.noSelect ops) false) false) false
def svb (x y : SV) : Bool := match x, y with
 | .b x, .b y => cb x y (jD y)
 | .i k n, .i j m => cb (decide (k = j)) (iEq n m) false
 | .s l, .s m => eqL l m
 | .np, .np => true
 | .p a c, .p b d => cb (Nat.beq a b) (Nat.beq c d) false
 | .ns, .ns => true
 | .sl a c n (some m), .sl a' c' n' (some m') => cb (Nat.beq a a') (cb (Nat.beq c c') (cb (Nat.beq n n') (Nat.beq m m') false) false) false
 | .sl a c n none, .sl a' c' n' none => cb (Nat.beq a a') (cb (Nat.beq c c') (Nat.beq n n') false) false
 | .m n, .m m => Nat.beq n m
 | .nf, .nf => true
 | _, _ => false
def svL (l : List SV) : List SV → Bool := List.rec (motive := fun _ => List SV → Bool) (fun m => List.rec (motive := fun _ => Bool) true (fun _ _ _ => false) m) (fun a _ r m => List.rec (motive := fun _ => Bool) false (fun c m _ => cb (svb a c) (r m) false) m) l
def avb (x y : AV) : Bool := match x, y with
 | .c g l, .c k m => cb (cb g k (jD k)) (svL l m) false
 | _, _ => false
def isN {α : Type} (x : Option α) : Bool := Option.rec (motive := fun _ => Bool) true (fun _ => false) x
def again (ops : List Oper) (e : Env) (h : H) (k : Option R) (l : List Nat) : Option R := List.rec (motive := fun _ => Option R) k
 (fun j _ r => ob (drp j ops).head? fun o => match mkO F o.op with
  | .p => r
  | .l => ob o.dst fun d => ob (e.get d) fun v => ob (op1 F (fun _ _ _ => none) o.op e h) fun u => cb (isN o.guard) (cb (avb v u.1) r none) none
  | _ => none) l
def H.lift (h : H) : H := ⟨h.h, h.n, h.n, h.l⟩
def H.back (h : H) (b : Nat) : H := ⟨h.h, h.n, b, h.l⟩
def qY (nt : Nat) (call : aG) (ops : List Oper) (l : List (Nat × List Nat)) : Env → H → Option R :=
 List.rec (motive := fun _ => Env → H → Option R) (fun e h => some ⟨.n, e, h⟩) (fun p _ r e h => ob (drp p.1 ops).head? fun o => dS F nt call ops (fun e h => again F ops e h (r e h) p.2) o e h) l
def nM (nt : Nat) (call : aG) (ops : List Oper) (b : Nat) (k : Env → H → Option R) (l : List Nat) : Env → H → Option R :=
 List.rec (motive := fun _ => Env → H → Option R) (fun e h => k e (h.back b)) (fun i _ r e h => ob (drp i ops).head? fun o => dS F nt call ops r o e h.lift) l
def qZ (nt : Nat) (call : aG) (ops : Array Oper) (p : List Nat × List (Nat × List Nat)) (e : Env) (h : H) : Option R :=
 cb (kY F ops p) (fV h.bar fun b => nM F nt call ops.toList b (qY F nt call ops.toList p.2) p.1 e h) none
def sS (nt : Nat) (l : List AV) : Nat → Env → Option Env := List.rec (motive := fun _ => Nat → Env → Option Env) (fun _ e => some e) (fun v _ r k e => cb (Nat.blt k nt) (r (Nat.succ k) (e.set v k)) none) l
def fill (n : Nat) : Nat → Env → Env := Nat.rec (motive := fun _ => Nat → Env → Env) (fun _ e => e) (fun _ r k e => r (Nat.succ k) (e.set un k)) n
def aCL (nt : Nat) (ps : List Nat) : List AV → Env → Option Env := List.rec (motive := fun _ => List AV → Env → Option Env) (fun l e => match l with | [] => some e | _ => none) (fun p _ r l e => match l with | [] => none | v :: l => cb (Nat.blt p nt) (r l (e.set v p)) none) ps
def zD (v : AV) : Option (Bool × List SV) := AV.rec (motive := fun _ => Option (Bool × List SV)) (fun g l => some (g, l)) (fun _ => none) v
def aFs (e : Env) (h : H) (r : ResultVar) : Option (Bool × List SV) := match r with
 | .tmp t => ob (e.get t) zD
 | .cell a t => ob (F.ti t) fun i => ob (e.get a) fun v => one v fun s => match s with | .p id off => ob (rd h id off i.sz) fun c => ob (av i.d.ag c) zD | _ => none
def res (e : Env) (h : H) (l : List ResultVar) : Option (List (Bool × List SV)) := List.rec (motive := fun _ => Option (List (Bool × List SV))) (some []) (fun r _ k => ob (aFs F e h r) fun v => ob k fun l => some (v :: l)) l
def tup (l : List (Bool × List SV)) : AV := List.rec (motive := fun _ => AV) (.t []) (fun p r _ => List.rec (motive := fun _ => AV) (.c p.1 p.2) (fun _ _ _ => .t l) r) l
def leave (G : Func) (r : R) : Option VH := match r with
 | ⟨.x _, _, _⟩ => none
 | ⟨_, e, h⟩ => ob (res F e h G.results.toList) fun l => some (tup l, h)
abbrev aM := Bool → Nat → Nat → Code → Env → H → Option R
def iE (l : List (Nat × Nat)) : List AV := List.rec (motive := fun _ => List AV) [] (fun p _ r => sc (.p p.1 p.2) :: r) l
def H.putLp (h : H) (k : Nat) (x : Lp) : H := ⟨h.h, h.n, h.bar, h.l.set x k⟩
def kJ (l : Nat) (b : Bool) (pd : Option Code) (h : H) : Option VH := ob (h.l.get l) fun p => cb p.dd none (cb (Nat.ble h.bar l) (vh (.b b) (h.putLp l { p with st := b, pd := pd })) none)
def roundEnd (l : Nat) (r : R) : Option VH := match r with
 | ⟨.n, _, h⟩ => kJ l true none h
 | ⟨.r, _, h⟩ => kJ l false (some .ret) h
 | ⟨.x id, _, h⟩ => kJ l false (some (.exit id)) h
def kR (ex : aM) (G : Func) (c : Code) (fn : Nat) (args : List AV) (h : H) : Option VH :=
 ob (sS G.ntmps args 0 (fill G.ntmps 0 .lf)) fun e => ob (ex false G.ntmps fn c e h) (leave F G)
def uZ (ex : aM) (G : Func) (c : Code) (fn : Nat) (args : List AV) (h : H) : Option VH := Option.rec (motive := fun _ => Option VH) (kR F ex G c fn args h) (fun g => Option.rec (motive := fun _ => Option VH) (kR F ex G c fn args h) (fun v => some (v, h)) (g h args)) (F.ph fn)
def fJ (ex : aM) (fn : Nat) (args : List AV) (h : H) : Option VH :=
 ob (F.P.funcs[fn]?) fun G => ob G.body fun c => Option.rec (motive := fun _ => Option VH) (uZ F ex G c fn args h) (fun g => ob (g args) fun v => some (v, h)) (F.pr fn)
def zF (ex : aM) (l : Nat) (args : List AV) (h : H) : Option VH :=
 ob (h.l.get l) fun p => cb p.dd none <| ob (aCL p.nt p.ps args p.e) fun e => ob (ex true p.nt p.fn p.cs e h) fun r => match r with
  | ⟨.n, e, h⟩ => ob (h.l.get l) fun p' => cb p'.dd none <| cb (Nat.ble h.bar l) (cb p'.st (cb (isN p'.pd) (ob (ex true p.nt p.fn p.bd e (h.putLp l { p' with st := false })) (roundEnd l)) none) none) none
  | _ => none
def bG (ex : aM) (f : AV) (args : List AV) (h : H) : Option VH := one f fun s => match s with
 | .f fn bQ => fJ F ex fn (app args (iE bQ)) h
 | .y l => zF ex l args h
 | _ => none
def vB (ex : aM) (q : Bool) (nt fn : Nat) (f : AV) (ps : List Tmp) (cs bd : Code) (e : Env) (h : H) : Option R :=
 cb q none <| fV h.n fun l => one f fun s => match s with
  | .f fn2 bQ => ob (fJ F ex fn2 (sc (.y l) :: iE bQ) ⟨h.h, Nat.succ l, h.bar, h.l.set ⟨fn, nt, e, ps, cs, bd, true, none, false⟩ l⟩) fun r => ob (r.2.l.get l) fun p => cb p.dd none <| cb (Nat.ble r.2.bar l) (cb (cb p.st true (jD (isN p.pd))) (match p.pd with
    | none => some ⟨.n, e, r.2.putLp l { p with dd := true }⟩
    | some .ret => some ⟨.r, e, r.2.putLp l { p with dd := true }⟩
    | some (.exit id) => some ⟨.x id, e, r.2.putLp l { p with dd := true }⟩
    | some _ => none) none) none
  | _ => none
def nN (ex : aM) (q : Bool) (nt fn : Nat) (c : Code) (r : R) : Option R := match r with | ⟨.n, e, h⟩ => ex q nt fn c e h | r => some r
def vC (id : Nat) (r : R) : Option R := match r with | ⟨.x j, e, h⟩ => cb (Nat.beq id j) (some ⟨.n, e, h⟩) (some ⟨.x j, e, h⟩) | r => some r
def sU (ex : aM) (q : Bool) (nt fn : Nat) (a b : Code) (e : Env) (h : H) (s : SV) : Option R := match s with | .b x => ex q nt fn (cb x a b) e h | _ => none
def mQ (ex : aM) (q : Bool) (nt fn : Nat) (c : Code) (e : Env) (h : H) : Option R :=
 match c with
 | .skip => some ⟨.n, e, h⟩
 | .label _ => some ⟨.n, e, h⟩
 | .region id ops dr => cb dr (ob (F.pl fn id) fun p => qZ F nt (bG F ex) ops p e h) (iD F nt (bG F ex) ops.toList ops.toList e h)
 | .seq a b => ob (ex q nt fn a e h) (nN ex q nt fn b)
 | .cond c a b => ob (ev e c) fun v => one v (sU ex q nt fn a b e h)
 | .block id a => ob (ex q nt fn a e h) (vC id)
 | .loop a => ob (ex q nt fn a e h) (nN ex q nt fn (.loop a))
 | .scope a => ex q nt fn a e h
 | .rangeFunc f ps cs bd => ob (ev e f) fun f => vB F ex q nt fn f ps.toList cs bd e h
 | .exit id => some ⟨.x id, e, h⟩
 | .ret => some ⟨.r, e, h⟩
 | _ => none
def exec (m : Nat) : aM := Nat.rec (motive := fun _ => aM) (fun _ _ _ _ _ _ => none) (fun _ ex => mQ F ex) m
def zG (m fn : Nat) (args : List AV) : Option VH := bG F (exec F m) (sc (.f fn [])) args ⟨.lf, 0, 0, .lf⟩
end
end Go.Proofs.YtcplpghmbahjdaaGreatDoor.E
namespace Go.Proofs.YtcplpghmbahjdaaGreatDoor.E
open Go
noncomputable section
def hints : T 3 (T 3 (List Nat × List (Nat × List Nat))) := T.ofL [
 (3, T.ofL [(12, [0, 3, 1, 4, 2, 5, 6, 7], [(8, []), (9, [])]), (13, [0, 1, 2, 3, 4, 5, 6, 7], [(8, [])]), (14, [0, 1, 3, 4, 2, 5, 6, 7, 8, 9, 10, 12, 14, 15, 11, 13, 16, 17, 18, 19, 20, 21, 22, 23, 24, 25, 26, 27, 28], [])]),
 (4, T.ofL [(6, [0, 1, 2, 3, 4, 5, 6, 7, 8, 9, 10, 11, 12, 13, 14, 15, 16, 17, 18, 19, 20, 21, 22, 23, 24, 25, 26, 27, 28, 29, 30, 31, 32, 33, 34, 35, 36, 37, 38, 39, 40, 41, 42, 43, 44, 45, 46, 47, 48, 49, 50, 51, 52, 53, 54, 55, 56, 57, 58, 59, 60, 61, 62, 63], []), (10, [2, 0, 1, 3, 4, 5, 6, 7, 8, 9, 10], []), (11, [2, 0, 1, 3, 4, 5, 6, 7, 8, 9], []), (12, [0, 1, 2, 3, 4, 5, 6, 7, 8, 9, 10, 11, 12, 13, 14, 15, 16, 17, 18, 19, 20, 21, 22, 23, 24, 25, 26, 27, 28, 29, 30, 31, 32, 33, 34, 35, 36, 37, 38, 40, 41, 42, 39, 43, 44, 45, 46], [])]),
 (7, T.ofL [(8, [0, 4, 1, 5, 2, 6], [(3, [4, 5, 6]), (7, []), (8, []), (9, [])])]),
 (8, T.ofL [(11, [0, 1, 2, 3, 4, 5, 6, 7, 8, 9, 10, 11, 12, 13, 14], [(15, [])])]),
 (9, T.ofL [(6, [0, 1, 2, 4, 5, 6, 3, 7, 8, 9], [])]),
 (14, T.ofL [(8, [0, 1, 2, 3, 4, 5, 7, 8, 6, 9, 10, 11], [(12, [])])]),
 (16, T.ofL [(5, [3, 4, 5, 0, 1, 6, 2, 7], [(8, [])])]),
 (17, T.ofL [(5, [3, 4, 5, 0, 1, 6, 2, 7, 8], [(9, [])])]),
 (18, T.ofL [(4, [0, 2, 1, 3, 4, 5], []), (5, [2, 6, 0, 4, 1, 3, 5, 7, 8, 9], []), (6, [0, 2, 4, 6, 8, 10, 1, 3, 7, 9, 5, 11, 12, 13, 14, 15, 16, 17], []), (10, [0, 1, 2, 4, 7, 5, 3, 6, 8, 9, 10], [(11, [])])]),
 (22, T.ofL [(1, [0, 2, 1, 3, 4], [])]),
 (27, T.ofL [(1, [2, 0, 3, 1, 4, 5, 6], [])]),
 (28, T.ofL [(14, [0, 1, 2, 3, 4, 5, 6], [(7, []), (8, [])])]),
 (29, T.ofL [(7, [0, 3, 1, 4, 2, 5, 6, 7], [])]),
 (32, T.ofL [(4, [0, 3, 1, 4, 2, 5, 6, 7], [])]),
 (33, T.ofL [(6, [0, 2, 4, 1, 3, 5, 6, 7, 8], [])]),
 (38, T.ofL [(1, [0, 1, 2, 3], [(4, [])])]),
 (41, T.ofL [(3, [0, 1, 2, 3], [(4, []), (5, [])])]),
 (42, T.ofL [(1, [0, 2, 1, 3], [(4, []), (5, [])]), (2, [0, 2, 5, 7, 1, 3, 6, 8, 4, 9, 10], [(11, [])])]),
 (43, T.ofL [(1, [0, 2, 1, 3, 4], [(5, [])])]),
 (48, T.ofL [(6, [0, 1, 3, 5, 6, 8, 11, 2, 4, 7, 9, 10, 12, 13, 14], [])]),
 (56, T.ofL [(3, [0, 7, 1, 3, 8, 11, 2, 4, 5, 6, 9, 10, 12, 13, 14, 15], []), (8, [0, 5, 1, 2, 6, 7, 3, 4, 8, 9, 10, 11], [])]),
 (61, T.ofL [(9, [0, 1, 2, 3, 4, 5, 6, 8, 9, 10, 7, 11, 12, 13], [(14, [])]), (14, [0, 1, 2, 3, 4, 5, 6, 7, 8, 10, 11, 12, 9, 13, 14, 15, 16, 17], [(18, [])])]),
 (62, T.ofL [(4, [0, 2, 3, 4, 5, 6, 7, 1, 8, 9, 10], [])]),
 (65, T.ofL [(4, [0, 2, 3, 4, 5, 6, 7, 1, 8, 9, 10, 11], [])]),
 (66, T.ofL [(4, [0, 1, 2, 3], [(4, [])])]),
 (69, T.ofL [(9, [2, 3, 4, 0, 1, 5, 6, 7, 8], [(9, [])]), (11, [0, 1, 2], [(3, []), (4, [])])]),
 (70, T.ofL [(4, [0, 1, 3, 2, 4, 5, 6, 7, 8, 9, 10], [])]),
 (71, T.ofL [(3, [0, 1, 2], [(3, [])]), (5, [3, 5, 7, 0, 2, 1, 4, 6, 8], [(9, [])])]),
 (72, T.ofL [(1, [0, 1, 3, 5, 6, 9, 10, 13, 2, 4, 7, 11, 14, 8, 12, 15, 16], [(17, [])])]),
 (76, T.ofL [(1, [0, 2, 1, 3], [(4, []), (5, [])]), (2, [0, 2, 5, 7, 1, 3, 6, 8, 4, 9, 10, 11], [(12, [])])]),
 (78, T.ofL [(7, [0, 2, 1, 3, 4, 6, 5], [(7, [])])]),
 (85, T.ofL [(1, [0, 1, 3, 4, 2, 5], [(6, []), (7, [])]), (4, [0, 4, 1, 2, 5, 6, 3, 7, 8, 9], [(10, []), (11, [])]), (5, [0, 4, 1, 2, 5, 6, 3, 7, 8, 9], [(10, []), (11, [])]), (7, [0, 6, 12, 18, 1, 2, 3, 4, 7, 8, 9, 10, 13, 14, 15, 16, 19, 20, 21, 22, 5, 11, 17, 23, 24, 25], [])]),
 (86, T.ofL [(1, [0, 3, 1, 4, 2, 5, 6, 7], [(8, [])])]),
 (102, T.ofL [(1, [0, 2, 5, 1, 3, 6, 4, 7, 8], [(9, [])])]),
 (103, T.ofL [(1, [0, 4, 1, 2, 5, 3, 6], [(7, [])])]),
 (104, T.ofL [(2, [0, 2, 5, 7, 11, 13, 16, 18, 1, 3, 6, 8, 12, 14, 17, 19, 4, 9, 10, 15, 20, 21, 22], [(23, [])]), (4, [0, 2, 1, 3, 4], [(5, [])]), (7, [0, 2, 1, 3, 4, 5], [(6, [2, 3]), (7, [])]), (12, [1, 5, 0, 2, 4, 6, 3, 7, 8], [(9, [])])]),
 (105, T.ofL [(1, [0, 3, 1, 4, 2, 5, 6], [(7, [])])]),
 (107, T.ofL [(8, [0, 1, 2, 4, 5, 6, 3, 7, 8, 9], []), (10, [0, 1, 2, 4, 5, 6, 3, 7, 8, 9], [])]),
 (113, T.ofL [(7, [0, 1, 2, 3, 4, 5, 6, 7], []), (8, [0, 1, 2, 3, 4, 5, 6, 7, 8], [(9, [])])]),
 (114, T.ofL [(2, [0, 2, 4, 6, 1, 8, 3, 9, 5, 10, 7, 11], []), (6, [0, 1, 2, 3, 4, 5, 6, 7, 8, 9, 10, 11, 12, 13, 14, 15], [])]),
 (117, T.ofL [(3, [0, 1, 2, 4, 5, 6, 3, 7, 8], [])]),
 (118, T.ofL [(5, [0, 1, 2, 3, 4, 5, 6, 7], [])]),
 (123, T.ofL [(5, [0, 1, 2, 3, 4, 5], [(6, [])])]),
 (134, T.ofL [(7, [0, 1, 2, 3, 4, 5, 6, 7, 8], [(9, [])])]),
 (135, T.ofL [(1, [0, 1, 2, 3, 6, 7, 8, 4, 9, 5, 10, 11, 12, 13, 14, 15, 16], [])]),
 (136, T.ofL [(7, [0, 1, 2, 3, 5, 4, 6, 7], [(8, [])]), (8, [1, 2, 3, 6, 7, 0, 4, 5, 8, 9], [(10, [])]), (14, [0, 1, 2, 3, 4, 5, 6, 7, 8], [(9, [])]), (22, [0, 1, 2, 3, 4, 6, 7, 8, 9, 5, 10, 11, 12], [(13, [])])]),
 (137, T.ofL [(1, [0, 1, 4, 5, 2, 6, 3, 7, 8, 9], [(10, [])])]),
 (141, T.ofL [(3, [0, 1, 2, 6, 7, 8, 3, 4, 5, 9, 10, 11], [(12, [6, 7, 8, 9, 10, 11]), (13, [])])]),
 (144, T.ofL [(3, [0, 1, 2, 3, 4, 5, 6, 7, 8, 9, 10, 11], [])]),
 (159, T.ofL [(1, [0, 3, 1, 4, 2, 5, 6], [(7, [])])]),
 (160, T.ofL [(2, [0, 1, 2, 3, 4, 5, 6, 7, 8, 9], [])]),
 (161, T.ofL [(2, [0, 1, 2, 3, 4, 5, 6, 7, 8, 9], [])]),
 (163, T.ofL [(1, [0, 1, 2, 3, 4, 5, 6, 7, 8, 9], [])]),
 (164, T.ofL [(1, [0, 3, 5, 1, 2, 4, 9, 6, 7, 8, 10], [])]),
 (167, T.ofL [(3, [0, 1, 2, 3, 5, 7, 8, 9, 10, 12, 13, 4, 6, 11, 14, 15, 16], []), (4, [0, 1, 2, 3, 5, 7, 8, 9, 10, 12, 13, 4, 6, 11, 14, 15, 16], []), (9, [0, 1, 2, 3, 4, 5], [])]),
 (175, T.ofL [(0, [0, 2, 1, 3, 4, 5], [])]),
 (176, T.ofL [(2, [0, 1, 2, 5, 6, 7, 3, 8, 4, 9, 10, 11], [(12, [10]), (13, [])]), (14, [0, 1, 3, 4, 5, 2, 6, 7, 8], [(9, [])]), (16, [0, 1, 2, 3, 4, 7, 8, 9, 10, 11, 5, 6, 12, 13, 14, 15], [(16, [])])]),
 (177, T.ofL [(1, [0, 2, 4, 1, 3, 5, 6, 7], [(8, [])])]),
 (178, T.ofL [(1, [0, 1, 2, 3, 5, 7, 8, 9, 11, 12, 4, 10, 6, 13, 14, 15, 16], [(17, [])])]),
 (179, T.ofL [(1, [0, 1, 2, 3, 4], [])]),
 (183, T.ofL [(0, [0, 1, 2, 4, 5, 6, 3, 7, 8, 9, 10], [(11, [])]), (1, [0, 1, 2, 3, 4, 5, 6], [(7, [])]), (3, [0, 1, 2, 4, 5, 3], [(6, [1, 3]), (7, []), (8, []), (9, [])]), (4, [0, 1, 2, 4, 5, 3], [(6, [1, 3]), (7, []), (8, []), (9, [])])]),
 (184, T.ofL [(2, [0, 1, 2, 4, 5, 6, 3, 7, 9, 8, 10, 11], [(12, [])]), (3, [0, 1, 2, 4, 6, 3, 5, 8, 7, 9, 10, 11], [(12, [])]), (4, [1, 2, 3, 0, 4, 5, 6, 7, 8], [(9, []), (10, [])]), (8, [0, 1, 2, 3, 4, 5], [(6, [])]), (10, [0, 1, 2, 3, 4, 5], [(6, [])]), (13, [0, 1, 2, 3, 4, 8, 9, 5, 6, 7], [(10, [1, 2, 3, 5, 6, 7]), (11, [2, 3, 6, 7]), (12, [2, 3, 6, 7]), (13, [2, 3, 6, 7]), (14, [3, 7]), (15, [3, 7]), (16, [3, 7]), (17, []), (18, []), (19, [])])]),
 (185, T.ofL [(2, [0, 1, 3, 4, 2, 6, 5, 7], []), (7, [0, 1, 2, 3, 4, 5, 6, 7, 9, 10, 11, 12, 13, 8, 14, 15], [(16, [2, 3, 4, 5]), (17, []), (18, [])]), (11, [0, 1, 2, 3, 4, 6, 7, 8, 9, 5, 10, 11, 12], [(13, [])]), (18, [0, 1, 2, 3, 4, 5, 6, 7, 8, 12, 13, 14, 15, 16, 9, 10, 17, 18, 11, 19, 20], [(21, [2, 3, 4, 5]), (22, []), (23, [])]), (19, [0, 1, 2], [(3, [])])]),
 (197, T.ofL [(6, [0, 1, 2, 3, 4, 5, 6, 7], [])]),
 (198, T.ofL [(13, [0, 1, 2, 3, 4, 5, 6, 7], [])]),
 (204, T.ofL [(7, [0, 1, 3, 2, 4], [(5, [])])]),
 (206, T.ofL [(1, [2, 3, 4, 0, 5, 1, 6, 7, 8, 9], [])]),
 (207, T.ofL [(4, [2, 3, 0, 1, 4, 5], [(6, [])])]),
 (208, T.ofL [(1, [0, 1, 2, 5, 6, 8, 9, 10, 13, 14, 3, 11, 4, 7, 12, 15, 16, 17], [(18, []), (19, [])]), (2, [0, 1, 2, 3, 4, 5], [(6, [])]), (4, [0, 1, 3, 2, 4, 5, 6], [(7, [])]), (5, [1, 2, 0, 3, 4, 5, 6], [(7, [])])]),
 (214, T.ofL [(5, [0, 1, 2, 4, 5, 6, 7, 9, 3, 8, 10, 11, 12, 13, 14, 15], [])]),
 (218, T.ofL [(1, [0, 1, 2, 3, 4, 5, 6, 7, 8, 9], [])]),
 (219, T.ofL [(11, [1, 2, 3, 4, 0, 5, 6], [(7, []), (8, [])])]),
 (226, T.ofL [(1, [0, 7, 9, 13, 1, 2, 3, 4, 5, 6, 8, 11, 10, 12, 14, 15], [(16, [])])]),
 (228, T.ofL [(6, [0, 1, 3, 2, 4], [])]),
 (232, T.ofL [(3, [0, 1, 2, 5, 6, 7, 11, 3, 4, 8, 9, 10, 12], [])]),
 (235, T.ofL [(1, [0, 1, 2, 5, 6, 7, 3, 4, 8, 9, 10, 11], [])]),
 (236, T.ofL [(4, [0, 7, 1, 3, 2, 4, 5, 6, 8, 9], [])]),
 (241, T.ofL [(0, [0, 1, 2, 6, 9, 10, 11, 3, 4, 5, 7, 12, 13, 8, 14, 15], [])]),
 (242, T.ofL [(2, [0, 2, 3, 1, 5, 4, 6, 7, 8, 9, 10, 11, 12], []), (4, [0, 2, 1, 4, 3, 5, 6, 7, 8, 9, 10, 11], [])])]
def aJ6 (fn id : Nat) : Option (List Nat × List (Nat × List Nat)) := ob (hints.get fn) fun t => t.get id
end
end Go.Proofs.YtcplpghmbahjdaaGreatDoor.E
namespace Go.Proofs.YtcplpghmbahjdaaGreatDoor.Me
open Go.RowKit
open Go.Proofs.YtcplpghmbahjdaaGreatDoor.Ma
theorem oI {k : IntKind} {a b : Int} (h : a = b) : Ending.returned (.int k a) = .returned (.int k b) := by rw [h]
theorem uG {a b : Bool} (h : a = b) : Ending.returned (.bool a) = .returned (.bool b) := by rw [h]
theorem dU (w : World) (v : Value) (t : TypeId) : (w.alloc (.cells #[v] t)).cell? ⟨w.heap.size, 0, none⟩ = some v := by
 rw [cell_of_row _ _ 0 _ t (0, 0) (heap_alloc_new w _)]; rfl
theorem aBt {P : Program} (w : World) (base : Nat) (t ty e : TypeId) (i : TypeInfo) (size : Nat) (ht : P.underlying t = some (.slice e)) (hi : P.info? e = some i)
  (v : Value) (n : Nat) (xs : List Value) (hown : w.ownsRow base e size v n xs) (c : Nat) : (Builtin.append_ #[t, t] ty #[v, .slice none 0 c]).run P w = .ok v w := by
 rcases hown.2 with ⟨rfl, rfl⟩ | ⟨g, cap, cur, rfl, _, _, hnc, _⟩
 ·simp [Builtin.append_, run_underlying ht, sizeOf, typeInfo, hi, Builtin.lenOf, Builtin.firstCells]
 ·simp [Builtin.append_, run_underlying ht, sizeOf, typeInfo, hi, Builtin.lenOf, Builtin.firstCells, hnc, storeCells]
theorem aHp {P : Program} {κ : IntKind} {w : World} (base : Nat) (t ty e : TypeId) (i : TypeInfo) (z : Value) (bytes : Nat) (ht : P.underlying t = some (.slice e)) (hi : P.info? e = some i) (hz : i.zero = some z) (hsize : i.size = 1) (hby : i.bytes = bytes) (hzs : z.cells.size = 1) (v : Value) (n : Nat) (xs : List Nat) (hown : w.ownsRow base e 1 v n (nums κ xs)) (B : Nat) (A : Option Addr) (m c : Nat) (ds : List Nat) (hm : ds.length = m) (hr : Rd κ w B A ds) (h63 : n + m ≤ maxLen) (hbytes : (n + m) * bytes ≤ 140737488355328) (hbase : base ≤ w.heap.size) : ∃ v' w', (Builtin.append_ #[t, t] ty #[v, .slice A m c]).run P w = .ok v' w' ∧ w'.ownsRow base e 1 v' (n + m) (nums κ (xs ++ ds)) ∧ w.grownBy w' v.ownBlock ∧
   (v'.ownBlock = v.ownBlock ∨ v'.ownBlock = some w.heap.size) := by
 subst hm;rcases Nat.eq_zero_or_pos ds.length with h0 | h0
 ·have hn : ds = [] := List.eq_nil_of_length_eq_zero h0;subst hn;rcases A with _ | ad
  ·exact ⟨v, w, aBt w base t ty e i 1 ht hi v n _ hown c, by simpa using hown, World.grownBy.refl w _, .inl rfl⟩
  ·obtain ⟨v', w', hrun, h2, h3, _, h5⟩ := run_append_own_at (P := P) w base t ty e i z 1 bytes ht hi hz hsize hby hzs (by decide) v n _ hown ad 0 c [] rfl (by simp) (by simp) h63 hbytes hbase;exact ⟨v', w', hrun, by simpa using h2, h3, h5⟩
 ·obtain ⟨ad, rfl, _, hc, -⟩ := hr h0
  obtain ⟨v', w', hrun, h2, h3, _, h5⟩ := run_append_own_at (P := P) w base t ty e i z 1 bytes ht hi hz hsize hby hzs (by decide) v n _ hown ad ds.length c (nums κ ds) (by simp [nums])
   (by intro j u hu
       rw [uD] at hu;obtain ⟨d, hd, rfl⟩ := Option.map_eq_some_iff.1 hu;exact hc j d hd)
   (by intro u hu
       simp only [nums, List.mem_map] at hu;obtain ⟨d, _, rfl⟩ := hu;rfl) h63 hbytes hbase
  exact ⟨v', w', hrun, by simpa [nums] using h2, h3, h5⟩
theorem aCM {P : Program} {κ : IntKind} {w : World} {ops : Array Oper} {rest : List Oper} {o : Oper} {a : Act} {Q : Exit → Act → World → Prop} (hg : o.guard = none) (s x : Operand) (t : TypeId) (hop : o.op = Op.call { callee := Callee.builtin Builtin.append, args := #[s, x], argTypes := #[t, t] })
  (base : Nat) (e : TypeId) (i : TypeInfo) (z : Value) (bytes : Nat) (ht : P.underlying t = some (.slice e)) (hi : P.info? e = some i) (hz : i.zero = some z)
  (hsize : i.size = 1) (hby : i.bytes = bytes) (hzs : z.cells.size = 1)
  (v : Value) (n : Nat) (xs : List Nat) (hs : a.eval s = v) (hown : w.ownsRow base e 1 v n (nums κ xs))
  (B : Nat) (A : Option Addr) (m c : Nat) (ds : List Nat) (hx : a.eval x = .slice A m c) (hm : ds.length = m) (hr : Rd κ w B A ds)
  (h63 : n + m ≤ maxLen) (hbytes : (n + m) * bytes ≤ 140737488355328) (hbase : base ≤ w.heap.size)
  (hK : ∀ v' w', w'.ownsRow base e 1 v' (n + m) (nums κ (xs ++ ds)) → w.grownBy w' v.ownBlock → (v'.ownBlock = v.ownBlock ∨ v'.ownBlock = some w.heap.size) → wpList P ops Q rest (a.put o.dst v') w') :
  wpList P ops Q (o :: rest) a w := by
 refine wpList_plain hg fun K hK' => ?_;obtain ⟨v', w', hrun, r1, r2, r3⟩ := aHp (P := P) base t o.type e i z bytes ht hi hz hsize hby hzs v n xs hown B A m c ds hm hr h63 hbytes hbase;unfold Oper.wp;simp [execOp, hop, resolve, invoke, builtin, hs, hx, hrun, Result.andThen];exact hK' _ _ (hK v' w' r1 r2 r3)
theorem aHq {κ : IntKind} {w : World} {base : Nat} {e : TypeId} {v : Value} {n : Nat} {ds : List Nat} (h : w.ownsRow base e 1 v n (nums κ ds)) (hn : 0 < n) (he : e = aCw κ := by rfl) :
  ∃ g cap, v = .slice (some ⟨g, 0, none⟩) n cap ∧ base ≤ g ∧ g < w.heap.size ∧ n ≤ cap ∧ cap ≤ maxLen ∧ ds.length = n ∧ Rd κ w w.heap.size (some ⟨g, 0, none⟩) ds := by
 rcases h.2 with ⟨_, rfl⟩ | ⟨g, cap, cur, rfl, hb, hh, hnc, hcm, hcs, htake⟩
 ·omega
 ·have hlt : g < w.heap.size := by
   rcases Nat.lt_or_ge g w.heap.size with hlt | hge
   ·exact hlt
   ·rw [Array.getElem?_eq_none hge] at hh; cases hh
  refine ⟨g, cap, rfl, hb, hlt, hnc, hcm, by have := h.1; simpa [nums] using this, fun _ => ⟨_, rfl, hlt, fun j d hd => ?_, _, _, by rw [← he]; exact hh⟩⟩;have := h.cells (g := g) rfl j (.int κ (d : Int)) (by rw [uD, hd]; rfl);exact this
theorem Q.grown {a w w' : World} {row : Option Nat} (h : Q a w) (hg : w.grownBy w' row) (hr : ∀ k, row = some k → a.heap.size ≤ k) : Q a w' := Below.grown h hg (Below.size h) hr
end Go.Proofs.YtcplpghmbahjdaaGreatDoor.Me
namespace Go.Proofs.YtcplpghmbahjdaaGreatDoor.Me
open Go.RowKit
open Go.Proofs.YtcplpghmbahjdaaGreatDoor.Ma
section
variable {a b c w w' : World} {g : Nat}
theorem Gr.refl (w : World) (g : Nat) : w.grownBy w (some g) := World.grownBy.refl w _
theorem Gr.trans (h : a.grownBy b (some g)) (k : b.grownBy c (some g)) : a.grownBy c (some g) := World.grownBy.trans h k
theorem Gr.q (h : a.grownBy b (some g)) (k : Q b c) : a.grownBy c (some g) :=
 ⟨k.os.trans h.os, k.tape.trans h.tape, k.output.trans h.output, Nat.le_trans h.size k.size, fun i hi hn => (k.block i (Nat.lt_of_lt_of_le hi h.size)).trans (h.block i hi hn)⟩
theorem Gr.drewN (h : a.grownBy b (some g)) (n : Nat) : a.grownBy (b.drewN n) (some g) := ⟨h.os, h.tape, h.output, h.size, h.block⟩
theorem Gr.drew (h : a.grownBy b (some g)) : a.grownBy b.drew (some g) := ⟨h.os, h.tape, h.output, h.size, h.block⟩
theorem Gr.alloc (h : a.grownBy b (some g)) (o : Obj) : a.grownBy (b.alloc o) (some g) := Gr.q h ((Q.refl _).alloc o)
theorem Gr.setCell (h : a.grownBy b (some g)) (o : Nat) (u : Value) : a.grownBy (b.setCell ⟨g, o, none⟩ u) (some g) :=
 ⟨h.os, h.tape, h.output, by simpa [World.setCell] using h.size, fun i hi hn => (Below.heap_setCell b _ u i (fun e => hn (by rw [e]))).trans (h.block i hi hn)⟩
theorem Gr.cell (h : a.grownBy b (some g)) {p : Addr} (hp : p.block < a.heap.size) (hg : p.block ≠ g) : b.cell? p = a.cell? p :=
 World.cell?_of_block (h.block _ hp (fun e => hg (by injection e)))
theorem Gr.frozen (h : a.grownBy b (some g)) {p : Addr} (hp : p.block < a.heap.size) (hg : p.block ≠ g) : b.frozen? p = a.frozen? p :=
 World.frozen?_of_block (h.block _ hp (fun e => hg (by injection e)))
theorem Gr.heap (h : a.grownBy b (some g)) {i : Nat} (hp : i < a.heap.size) (hg : i ≠ g) : b.heap[i]? = a.heap[i]? := h.block _ hp (fun e => hg (by injection e))
theorem Q.gr (h : Q a b) (k : b.grownBy c (some g)) (hg : a.heap.size ≤ g) : Q a c := Q.grown h k (fun i e => by injection e with e; omega)
end
def Src (w : World) (g off : Nat) (A : Option Addr) (xs : List Nat) : Prop :=
 0 < xs.length → ∃ b o, A = some ⟨b, o, none⟩ ∧ b < w.heap.size ∧ (b ≠ g ∨ b = g ∧ o = off) ∧ ∀ (j d : Nat), xs[j]? = some d → w.cell? ⟨b, o + j, none⟩ = some (.int .u64 (d : Int))
structure Part (w w' : World) (g t off k : Nat) (cs o : List Nat) : Prop where
 blk : Blk .u64 w' g t (cs.take off ++ o ++ cs.drop (off + k))
 gr : w.grownBy w' (some g)
theorem Src.at_ {w w' : World} {g t off k n : Nat} {A : Option Addr} {xs cs o : List Nat} (h : Src w g off A xs) (hb : Blk .u64 w g t cs) (hp : Part w w' g t off k cs o) (ho : o.length = k) (hn : off + n ≤ cs.length) (hx : xs.length = n) (hk : k < n) :
  ∃ b q, A = some ⟨b, q, none⟩ ∧ w'.cell? ⟨b, q + k, none⟩ = some (.int .u64 ((xs[k]'(by omega) : Nat) : Int)) := by
 obtain ⟨b, q, rfl, hlt, hcase, hc⟩ := h (by omega);refine ⟨b, q, rfl, ?_⟩;have h0 := hc k _ (List.getElem?_eq_getElem (by omega));rcases hcase with hne | ⟨rfl, rfl⟩
 ·rw [Gr.cell hp.gr (p := ⟨b, q + k, none⟩) hlt hne]; exact h0
 ·rw [← h0, cell_of_row w' b (q + k) _ t (0, 0) hp.blk, cell_of_row w b (q + k) _ t (0, 0) hb];simp only [nums, List.getElem?_toArray, List.getElem?_map];rw [oZ ho (by omega) (by omega)]
theorem Src.nil {w : World} {g off : Nat} {A : Option Addr} : Src w g off A [] := fun h => absurd h (by simp)
end Go.Proofs.YtcplpghmbahjdaaGreatDoor.Me
namespace Go.Proofs.YtcplpghmbahjdaaGreatDoor.Me
open Go.RowKit
open Go.Proofs.YtcplpghmbahjdaaGreatDoor.Ma
theorem Src.after {w w1 : World} {g t off k cap : Nat} {A : Option Addr} {xs cs o : List Nat} (h : Src w g off A xs) (hb : Blk .u64 w g t cs) (hp1 : Blk .u64 w1 g t (cs.take off ++ o ++ cs.drop (off + k))) (hp2 : w.grownBy w1 (some g)) (ho : o.length = k) (hk : k ≤ xs.length) (hoff : off + xs.length ≤ cs.length) (hc : xs.length ≤ cap) :
  Src w1 g (off + k) (if cap = k then A else A.map (·.add k)) (xs.drop k) := by
 intro hn;rw [List.length_drop] at hn;obtain ⟨b, q, rfl, hlt, hcase, hcell⟩ := h (by omega);rw [if_neg (by omega)];refine ⟨b, q + k, by simp [gT], Nat.lt_of_lt_of_le hlt hp2.size, ?_, fun j d hd => ?_⟩
 ·rcases hcase with h1 | ⟨rfl, rfl⟩
  ·exact Or.inl h1
  ·exact Or.inr ⟨rfl, rfl⟩
 ·rw [List.getElem?_drop] at hd;have h0 := hcell (k + j) d hd;have hkj : k + j < xs.length := (List.getElem?_eq_some_iff.1 hd).1;rw [Nat.add_assoc];rcases hcase with hne | ⟨rfl, rfl⟩
  ·rw [Gr.cell hp2 (p := ⟨b, q + (k + j), none⟩) hlt hne]; exact h0
  ·rw [← h0, cell_of_row w1 b (q + (k + j)) _ t (0, 0) hp1, cell_of_row w b (q + (k + j)) _ t (0, 0) hb];simp only [nums, List.getElem?_toArray, List.getElem?_map];rw [oZ ho (by omega) (by omega)]
theorem Src.q {w w' : World} {g off : Nat} {A : Option Addr} {xs : List Nat} (h : Src w g off A xs) (hq : Q w w') : Src w' g off A xs := fun hn => by
 obtain ⟨b, o, e, hlt, hcase, hc⟩ := h hn;exact ⟨b, o, e, Nat.lt_of_lt_of_le hlt hq.size, hcase, fun j d hd => (hq.cell hlt).trans (hc j d hd)⟩
def Rw (w : World) (A : Option Addr) (xs : List Nat) : Prop :=
 0 < xs.length → ∃ b o, A = some ⟨b, o, none⟩ ∧ b < w.heap.size ∧ ∀ (j d : Nat), xs[j]? = some d → w.cell? ⟨b, o + j, none⟩ = some (.int .u64 (d : Int))
section
variable {w w' : World} {A : Option Addr} {xs : List Nat}
theorem Rw.nil : Rw w A [] := fun h => absurd h (by simp)
theorem Rw.at_ {k : Nat} (h : Rw w A xs) (hk : k < xs.length) : ∃ b o, A = some ⟨b, o, none⟩ ∧ b < w.heap.size ∧ w.cell? ⟨b, o + k, none⟩ = some (.int .u64 (xs[k] : Int)) := by
 obtain ⟨b, o, e, hb, hc⟩ := h (by omega);exact ⟨b, o, e, hb, hc k _ (List.getElem?_eq_getElem hk)⟩
theorem Rw.head (h : Rw w A xs) (hk : 0 < xs.length) : ∃ b o, A = some ⟨b, o, none⟩ ∧ b < w.heap.size ∧ w.cell? ⟨b, o, none⟩ = some (.int .u64 (xs[0] : Int)) := h.at_ hk
theorem Rw.q (h : Rw w A xs) (hq : Q w w') : Rw w' A xs := fun hn => by
 obtain ⟨b, o, e, hb, hc⟩ := h hn;exact ⟨b, o, e, Nat.lt_of_lt_of_le hb hq.size, fun j d hd => (hq.cell hb).trans (hc j d hd)⟩
theorem Rw.drop (h : Rw w A xs) {k cap : Nat} (hc : xs.length ≤ cap) : Rw w (if cap = k then A else A.map (·.add k)) (xs.drop k) := by
 intro hn;rw [List.length_drop] at hn;obtain ⟨b, o, rfl, hb, hcell⟩ := h (by omega);rw [if_neg (by omega)];refine ⟨b, o + k, by simp [gT], hb, fun j d hd => ?_⟩;rw [List.getElem?_drop] at hd;rw [Nat.add_assoc];exact hcell _ d hd
theorem Rw.take (h : Rw w A xs) (k : Nat) : Rw w A (xs.take k) := by
 intro hn;rw [List.length_take] at hn;obtain ⟨b, o, rfl, hb, hcell⟩ := h (by omega);refine ⟨b, o, rfl, hb, fun j d hd => hcell j d ?_⟩;rw [List.getElem?_take] at hd;split at hd
 ·exact hd
 ·cases hd
theorem Rw.of_blk {g t : Nat} (h : Blk .u64 w g t xs) : Rw w (some ⟨g, 0, none⟩) xs := fun _ =>
 ⟨g, 0, rfl, h.lt, fun j d hd => by
  obtain ⟨hj, rfl⟩ := List.getElem?_eq_some_iff.1 hd;rw [Nat.zero_add];exact h.cell hj⟩
theorem Rw.gr {g : Nat} (h : Rw w A xs) (hg : w.grownBy w' (some g)) (hne : ∀ b o, A = some ⟨b, o, none⟩ → b ≠ g) : Rw w' A xs := fun hn => by
 obtain ⟨b, o, rfl, hb, hc⟩ := h hn;exact ⟨b, o, rfl, Nat.lt_of_lt_of_le hb hg.size, fun j d hd => (Gr.cell hg (p := ⟨b, o + j, none⟩) hb (hne b o rfl)).trans (hc j d hd)⟩
theorem Src.of_rw {g off : Nat} (h : Rw w A xs) (hne : ∀ b o, A = some ⟨b, o, none⟩ → b ≠ g) : Src w g off A xs := fun hn => by
 obtain ⟨b, o, rfl, hb, hc⟩ := h hn;exact ⟨b, o, rfl, hb, Or.inl (hne b o rfl), hc⟩
theorem Src.old {g off : Nat} (h : Rw w A xs) (hq : Q w w') (hg : w.heap.size ≤ g) : Src w' g off A xs := fun hn => by
 obtain ⟨b, o, rfl, hb, hc⟩ := h hn;exact ⟨b, o, rfl, Nat.lt_of_lt_of_le hb hq.size, Or.inl (by omega), fun j d hd => (hq.cell hb).trans (hc j d hd)⟩
end
def Nm (w : World) (v : Value) (N : Nat) : Prop :=
 ∃ A c ws, v = .slice A ws.length c ∧ ws.length ≤ c ∧ Rw w A ws ∧ Wf W64 ws ∧ vl W64 ws = N
theorem Nm.q {w w' : World} {v : Value} {N : Nat} (h : Nm w v N) (hq : Q w w') : Nm w' v N := by
 obtain ⟨A, c, ws, h1, h2, h3, h4, h5⟩ := h;exact ⟨A, c, ws, h1, h2, h3.q hq, h4, h5⟩
theorem Nm.zero {w : World} (A : Option Addr) (c : Nat) : Nm w (.slice A 0 c) 0 := ⟨A, c, [], rfl, by simp, Rw.nil, Wf.nil, rfl⟩
theorem Nm.of_rw {w : World} {A : Option Addr} {k c N : Nat} {ds : List Nat} (h : Rw w A ds) (hk : k ≤ ds.length) (hc : k ≤ c) (hz : Nz (ds.take k))
  (hd : ∀ d ∈ ds, d < W64) (hv : vl W64 (ds.take k) = N) : Nm w (.slice A k c) N := by
 have hl : (ds.take k).length = k := by rw [List.length_take, Nat.min_eq_left hk]
 exact ⟨A, c, ds.take k, by rw [hl], by rw [hl]; exact hc, h.take k, ⟨aN hd, hz⟩, hv⟩
def fK (N : Nat) (w : World) (e : Ending) (w' : World) : Prop := ∃ v, e = .returned v ∧ Nm w' v N ∧ Q w w' ∧ Nw w.heap.size v
theorem Src.take {w : World} {g off : Nat} {A : Option Addr} {xs : List Nat} (h : Src w g off A xs) (k : Nat) : Src w g off A (xs.take k) := by
 intro hn;rw [List.length_take] at hn;obtain ⟨b, o, rfl, hlt, hcase, hc⟩ := h (by omega);refine ⟨b, o, rfl, hlt, hcase, fun j d hd => hc j d ?_⟩;rw [List.getElem?_take] at hd;split at hd
 ·exact hd
 ·cases hd
theorem Src.own {w : World} {g t off n : Nat} {cs : List Nat} (hb : Blk .u64 w g t cs) : Src w g off (some ⟨g, off, none⟩) ((cs.drop off).take n) := by
 intro _;refine ⟨g, off, rfl, hb.lt, Or.inr ⟨rfl, rfl⟩, fun j d hd => ?_⟩;rw [List.getElem?_take] at hd;split at hd
 ·rw [List.getElem?_drop] at hd;obtain ⟨hj, rfl⟩ := List.getElem?_eq_some_iff.1 hd;exact hb.cell hj
 ·cases hd
end Go.Proofs.YtcplpghmbahjdaaGreatDoor.Me
