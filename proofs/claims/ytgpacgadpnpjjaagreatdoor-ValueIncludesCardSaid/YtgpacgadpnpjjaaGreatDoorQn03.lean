/- ValueIncludes (a part of the proof): results of numbers are in the results of their spans. No condition. -/
import Derived.Deep.Draws
import Derived.Deep.OwnRows
import Derived.Deep.RegionHeld
import Derived.IntWalk
import Derived.Lib.Hide
import Derived.Maps.AppendAt
import Derived.OwnWalk
import Derived.Test.YtgpacgadpnpjjaaGreatDoorQn01
namespace Go.Proofs.YtgpacgadpnpjjaaGreatDoor
namespace Ja
open Go
section
variable {P : Program} {ops : Array Oper} {Q : Exit → Act → World → Prop}
def dE (ops : Array Oper) (j : Nat) : Option Tmp := (ops[j]?).bind (·.dst)
def fillGo (ops : Array Oper) (L : Nat → Bool) (vals : Nat → Value) : Nat → Act → Act
 | 0, a => a
 | n + 1, a => if L n = true then (fillGo ops L vals n a).put (dE ops n) (vals n) else fillGo ops L vals n a
def upd {α : Type} (f : Nat → α) (i : Nat) (v : α) : Nat → α := fun j => if j = i then v else f j
def fillL (vals : Nat → Value) : List Oper → Nat → Act → Act
 | [], _, a => a
 | o :: os, k, a => fillL vals os (k + 1) (a.put o.dst (vals k))
theorem xZ {vals : Nat → Value} {a : Act} : ∀ (m k : Nat), k + m = ops.size → fillL vals (ops.toList.drop k) k (fillGo ops (fun _ => true) vals k a) = fillGo ops (fun _ => true) vals ops.size a
 | 0, k, h => by
   have : k = ops.size := (by omega);subst this;rw [List.drop_eq_nil_of_le (by simp)];rfl
 | m + 1, k, h => by
   have hk : k < ops.size := (by omega);have hd : ops.toList.drop k = ops[k] :: ops.toList.drop (k + 1) := by
    rw [List.drop_eq_getElem_cons (by simpa using hk)]; simp
   rw [hd];unfold fillL;have := xZ (vals := vals) (a := a) m (k + 1) (by omega);have h2 : fillGo ops (fun _ => true) vals (k + 1) a = (fillGo ops (fun _ => true) vals k a).put ops[k].dst (vals k) := by
    conv => lhs; unfold fillGo
    rw [if_pos rfl];simp [dE, hk]
   rw [h2] at this;exact this
theorem fillL_full (vals : Nat → Value) (a : Act) : fillL vals ops.toList 0 a = fillGo ops (fun _ => true) vals ops.size a := by
 have := xZ (ops := ops) (vals := vals) (a := a) ops.size 0 (by omega);simpa [fillGo] using this
theorem jH {L L' : Nat → Bool} {vals vals' : Nat → Value} {a : Act} : ∀ n, (∀ j, j < n → L j = L' j) → (∀ j, j < n → L j = true → vals j = vals' j) → fillGo ops L vals n a = fillGo ops L' vals' n a
 | 0, _, _ => rfl
 | n + 1, h, h2 => by
   unfold fillGo;rw [jH n (fun j hj => h j (by omega)) (fun j hj => h2 j (by omega)), h n (by omega)];split
   ·rename_i hl;rw [h2 n (by omega) ((h n (by omega)).trans hl)]
   ·rfl
theorem oG {L : Nat → Bool} {vals : Nat → Value} {a : Act} {i : Nat} {v : Value} (hi : L i = false) (hd : ∀ j, j ≠ i → ∀ d, dE ops j = some d → dE ops i ≠ some d) : ∀ n, i < n → (fillGo ops L vals n a).put (dE ops i) v = fillGo ops (upd L i true) (upd vals i v) n a
 | 0, h => absurd h (by omega)
 | n + 1, h => by
   by_cases hin : i = n
   ·subst hin;unfold fillGo;rw [if_neg (by simp [hi]), if_pos (by simp [upd])];rw [jH (L := upd L i true) (L' := L) (vals := upd vals i v) (vals' := vals) i (fun j hj => by simp [upd, Nat.ne_of_lt hj]) (fun j hj _ => by simp [upd, Nat.ne_of_lt hj])];simp [upd]
   ·have ih := oG (vals := vals) (a := a) (v := v) hi hd n (by omega);unfold fillGo;have hn : n ≠ i := fun e => hin e.symm;have h1 : upd L i true n = L n := (by simp [upd, hn]);have h2 : upd vals i v n = vals n := (by simp [upd, hn]);rw [h1, h2];split
    ·rw [← ih];exact Act.put_comm _ _ _ (fun d hd' => hd n hn d hd')
    ·exact ih
theorem jM (a : Act) (d t : Tmp) (v : Value) : (a.put (some d) v).tmps[t]? = if d = t then (if t < a.tmps.size then some v else none) else a.tmps[t]? := by
 simp only [Act.put, Array.getElem?_setIfInBounds];split
 ·rename_i h; subst h; rfl
 ·rfl
theorem aC6 (a : Act) (d : Option Tmp) (v : Value) : (a.put d v).tmps.size = a.tmps.size := by
 cases d <;> simp [Act.put]
theorem fF {L : Nat → Bool} {vals : Nat → Value} {a : Act} : ∀ n, (fillGo ops L vals n a).tmps.size = a.tmps.size
 | 0 => rfl
 | n + 1 => by unfold fillGo; split <;> simp [aC6, fF n]
theorem vD {L : Nat → Bool} {vals : Nat → Value} {a : Act} {t : Tmp} : ∀ n, (∀ j, j < n → dE ops j = some t → L j = true) →
  (fillGo ops L vals n a).tmps[t]? = (fillGo ops (fun _ => true) vals n a).tmps[t]?
 | 0, _ => rfl
 | n + 1, h => by
   have ih := vD (vals := vals) (a := a) (t := t) n (fun j hj => h j (by omega));unfold fillGo;rw [if_pos rfl];split
   ·cases hd : dE ops n with
    | none => simpa [Act.put] using ih
    | some d => rw [jM, jM, fF, fF, ih]
   ·rename_i hl;cases hd : dE ops n with
    | none => simpa [Act.put] using ih
    | some d =>
      have hne : d ≠ t := fun e => hl (h n (by omega) (by rw [hd, e]));rw [jM, if_neg hne, ih]
def shape (ops : Array Oper) : Bool :=
 (List.range ops.size).all fun i => match ops[i]? with
  | none => false
  | some o => (List.range ops.size).all (fun j => j == i || (match dE ops j with | some d => !(o.dst == some d) | none => true)) &&
     (o.looksAt ops).all (fun t => (List.range ops.size).all fun j => !(dE ops j == some t) || o.after.any fun e => Region.binds .any e && e.on == j) &&
     o.after.all (fun e => !Region.binds .any e || e.on < i)
theorem shape_spec (h : shape ops = true) {i : Nat} {o : Oper} (ho : ops[i]? = some o) : (∀ j, j ≠ i → ∀ d, dE ops j = some d → dE ops i ≠ some d) ∧ (∀ t ∈ o.looksAt ops, ∀ j, dE ops j = some t → ∃ e ∈ o.after, Region.binds .any e = true ∧ e.on = j) ∧
  (∀ e ∈ o.after, Region.binds .any e = true → e.on < i) := by
 have hi : i < ops.size := (Array.getElem?_eq_some_iff.1 ho).1;have h1 := List.all_eq_true.1 h i (List.mem_range.2 hi);simp only [ho, Bool.and_eq_true, List.all_eq_true, Array.all_eq_true_iff_forall_mem] at h1;obtain ⟨⟨ha, hb⟩, hc⟩ := h1;have hlt : ∀ j d, dE ops j = some d → j < ops.size := fun j d hd => by
  unfold dE at hd;cases hj : ops[j]? with
  | none => simp [hj] at hd
  | some o => exact (Array.getElem?_eq_some_iff.1 hj).1
 refine ⟨fun j hne d hd he => ?_, fun t ht j hd => ?_, fun e he hbi => ?_⟩
 ·have := ha j (List.mem_range.2 (hlt j d hd));simp only [hd, Bool.or_eq_true, beq_iff_eq, hne, false_or, Bool.not_eq_true'] at this;have he2 : o.dst = some d := (by simpa [dE, ho] using he);simp [he2] at this
 ·have := hb t ht j (List.mem_range.2 (hlt j t hd));simp only [hd, Bool.or_eq_true, Bool.not_eq_true', beq_self_eq_true, Bool.true_eq_false, false_or] at this;obtain ⟨e, he, hbo⟩ := Array.any_eq_true'.1 this;simp only [Bool.and_eq_true, beq_iff_eq] at hbo;exact ⟨e, he, hbo.1, hbo.2⟩
 ·have := hc e he;simp only [Bool.or_eq_true, Bool.not_eq_true', decide_eq_true_eq] at this;rcases this with h2 | h2
  ·rw [hbi] at h2; cases h2
  ·exact h2
def left (L : Nat → Bool) : Nat → Nat
 | 0 => 0
 | n + 1 => left L n + if L n = true then 0 else 1
theorem uB {L L' : Nat → Bool} : ∀ n, (∀ j, j < n → L j = L' j) → left L n = left L' n
 | 0, _ => rfl
 | n + 1, h => by unfold left; rw [uB n (fun j hj => h j (by omega)), h n (by omega)]
theorem yA {L : Nat → Bool} {i : Nat} (hi : L i = false) : ∀ n, i < n → left (upd L i true) n + 1 = left L n
 | 0, h => absurd h (by omega)
 | n + 1, h => by
   unfold left;by_cases hin : i = n
   ·subst hin;rw [uB (L := upd L i true) (L' := L) i (fun j hj => by simp [upd, Nat.ne_of_lt hj])];simp [upd, hi]
   ·have ih := yA hi n (by omega);have hn : n ≠ i := fun e => hin e.symm;have h1 : upd L i true n = L n := (by simp [upd, hn]);rw [h1]; omega
theorem wJ {L : Nat → Bool} : ∀ n, left L n = 0 → ∀ j, j < n → L j = true
 | 0, _, j, hj => absurd hj (by omega)
 | n + 1, h, j, hj => by
   unfold left at h;by_cases hL : L n = true
   ·by_cases hjn : j = n
    ·subst hjn; exact hL
    ·exact wJ n (by omega) j (by omega)
   ·rw [if_neg hL] at h; omega
theorem aAy {L : Nat → Bool} : ∀ n, left L n ≤ n
 | 0 => Nat.le_refl _
 | n + 1 => by unfold left; have := aAy (L := L) n; split <;> omega
theorem uC {L : Nat → Bool} : ∀ n, (∃ j, j < n ∧ L j = false) → ∃ i, i < n ∧ L i = false ∧ ∀ j, j < i → L j = true
 | 0, ⟨j, hj, _⟩ => absurd hj (by omega)
 | n + 1, ⟨j, hj, hL⟩ => by
   by_cases hex : ∃ j, j < n ∧ L j = false
   ·obtain ⟨i, h1, h2, h3⟩ := uC n hex;exact ⟨i, by omega, h2, h3⟩
   ·have hjn : j = n := by
     rcases Nat.lt_or_ge j n with h | h
     ·exact absurd ⟨j, h, hL⟩ hex
     ·omega
    subst hjn;refine ⟨j, by omega, hL, fun k hk => ?_⟩;cases hk2 : L k with
    | true => rfl
    | false => exact absurd ⟨k, hk, hk2⟩ hex
def Step (P : Program) (ops : Array Oper) (J : (Nat → Bool) → (Nat → Value) → World → Prop) (F : (Nat → Value) → Act) (i : Nat) (o : Oper) : Prop :=
 ∀ (L : Nat → Bool) (vals : Nat → Value) (w : World), L i = false → (∀ e ∈ o.after, Region.binds .any e = true → L e.on = true) → J L vals w →
  if Region.wanted o (yielded ops (F vals).tmps) = true then
   (∀ K : Act → World → Prop, (∀ v w' a', a' = (F vals).put o.dst v → J (upd L i true) (upd vals i v) w' → K a' w') → o.wp P (F vals) w K (fun _ _ _ => False))
  else J (upd L i true) (upd vals i undef) w
theorem yB {o : Oper} {a f : Act} {w : World} {K : Act → World → Prop} {R : Value → World → Prop} (he : execOp a.eval o = execOp f.eval o)
  (h : o.wp P f w (fun a' w' => ∃ v, a' = f.put o.dst v ∧ R v w') (fun _ _ _ => False)) (hf : f.tmps.size = a.tmps.size) (hin : ∀ d, o.dst = some d → d < a.tmps.size)
  (hK : ∀ v w', R v w' → K (a.put o.dst v) w') : o.wp P a w K Q := by
 have key : ∀ v w', (∃ u, f.put o.dst v = f.put o.dst u ∧ R u w') → K (a.put o.dst v) w' := by
  rintro v w' ⟨u, e, r⟩;have e2 : a.put o.dst v = a.put o.dst u := by
   cases hd : o.dst with
   | none => rfl
   | some d =>
     have hlt := hin d hd;have h1 := congrArg (fun x : Act => x.tmps[d]?) e;simp only [hd, jM, hf, hlt, if_true, Option.some.injEq] at h1;rw [h1]
  rw [e2];exact hK u w' r
 unfold Oper.wp at *
 rw [he];generalize (execOp f.eval o).run P w = r at *
 cases r with
 | ok n w' =>
   cases n <;> simp only [Oper.upon] at h ⊢
   case value u => exact key _ _ h
   case skip => exact key _ _ h
   case defer d =>
    obtain ⟨v, e, _⟩ := h;have := congrArg (fun x : Act => x.defers.length) e;cases hd : o.dst <;> simp [hd, Act.put] at this
   case enter g args =>
    refine Calls.mono h fun e w'' hh => ?_;cases e with
    | returned u => exact key _ _ hh
    | panicked c => exact hh.elim
    | outgrown =>
      obtain ⟨_, _, x⟩ := hh;exact x.elim
   case row row args => exact Rows.mono h fun u w'' hh => key _ _ hh
 | halt x w' => cases x <;> simp only [Oper.upon] at h
theorem uD {a f : Act} {x : Operand} (h : ∀ t, x = .tmp t → a.tmps[t]? = f.tmps[t]?) : a.eval x = f.eval x := by
 cases x with
 | tmp t => simp only [Act.eval, Array.getD_eq_getD_getElem?, h t rfl]
 | _ => rfl
theorem aD7 {J : (Nat → Bool) → (Nat → Value) → World → Prop} {a : Act} {F : (Nat → Value) → Act} (hsh : shape ops = true) (hns : Region.noSelect ops = true) (hin : ∀ (i : Nat) (o : Oper) (d : Tmp), ops[i]? = some o → o.dst = some d → d < a.tmps.size)
  (hF : ∀ vals, F vals = fillGo ops (fun _ => true) vals ops.size a)
  (hstep : ∀ (i : Nat) (o : Oper), ops[i]? = some o → Step P ops J F i o) (hend : ∀ L vals w, (∀ j, j < ops.size → L j = true) → J L vals w → Q .normal (F vals) w) :
  ∀ (fuel : Nat) (listed : Array Bool) (L : Nat → Bool) (vals : Nat → Value) (w : World), L = (fun j => listed.getD j false) → listed.size = ops.size → left L ops.size ≤ fuel → J L vals w →
   wpAny P .any ops Q fuel listed (fillGo ops L vals ops.size a) w := by
 have done : ∀ (listed : Array Bool) (L : Nat → Bool) (vals : Nat → Value) (w : World), L = (fun j => listed.getD j false) → listed.size = ops.size → J L vals w → (∀ j, j < ops.size → L j = true) →
     Q .normal (fillGo ops L vals ops.size a) w := fun listed L vals w hL hs hJ hall => by
  have := hend L vals w hall hJ;rw [hF, jH (L := fun _ => true) (L' := L) (vals' := vals) ops.size (fun j hj => (hall j hj).symm) (fun _ _ _ => rfl)] at this;exact this
 have none_ready : ∀ (listed : Array Bool) (L : Nat → Bool), L = (fun j => listed.getD j false) → listed.size = ops.size → Region.ready .any ops listed = [] → ∀ j, j < ops.size → L j = true := by
  intro listed L hL hs hr j hj;cases hLj : L j with
  | true => rfl
  | false =>
    obtain ⟨i, hi, hLi, hbelow⟩ := uC ops.size ⟨j, hj, hLj⟩;obtain ⟨o, ho⟩ : ∃ o, ops[i]? = some o := ⟨_, Array.getElem?_eq_getElem hi⟩
    obtain ⟨-, -, hc⟩ := shape_spec hsh ho;have : i ∈ Region.ready .any ops listed := mem_ready.2 ⟨by
     have h1 : listed.getD i false = false := (by rw [hL] at hLi; exact hLi);have h2 : i < listed.size := (by omega);simp [h2] at h1 ⊢;exact h1, o, ho, fun e he hb => by
      have := hbelow e.on (hc e he hb);rw [hL] at this; exact this⟩
    rw [hr] at this;cases this
 intro fuel
 induction fuel with
 | zero =>
   intro listed L vals w hL hs hle hJ;have hall := wJ ops.size (by omega : left L ops.size = 0);refine ⟨?_, done listed L vals w hL hs hJ hall⟩;cases hr : Region.ready .any ops listed with
   | nil => rfl
   | cons i rest =>
     have hm : i ∈ Region.ready .any ops listed := (by rw [hr]; exact List.mem_cons_self);obtain ⟨h0, o, ho, -⟩ := mem_ready.1 hm;have hi : i < ops.size := (Array.getElem?_eq_some_iff.1 ho).1;have h1 := hall i hi;rw [hL] at h1;have h2 : i < listed.size := (by omega);simp [h2] at h0 h1;rw [h0] at h1;cases h1
 | succ fuel ih =>
   intro listed L vals w hL hs hle hJ;refine ⟨fun hr => done listed L vals w hL hs hJ (none_ready listed L hL hs hr), fun i hir => ?_⟩;obtain ⟨h0, o, ho, hall⟩ := mem_ready.1 hir;have hi : i < ops.size := (Array.getElem?_eq_some_iff.1 ho).1;have hil : i < listed.size := (by omega);obtain ⟨hd, hlook, -⟩ := shape_spec hsh ho;have hLi : L i = false := (by rw [hL]; simp [hil] at h0 ⊢; exact h0);have hdep : ∀ e ∈ o.after, Region.binds .any e = true → L e.on = true := fun e he hb => (by rw [hL]; exact hall e he hb);have hst := hstep i o ho L vals w hLi hdep hJ
   -- the act at hand agrees with the full one on all that the operation looks at
   have hat : ∀ t ∈ o.looksAt ops, (fillGo ops L vals ops.size a).tmps[t]? = (F vals).tmps[t]? := fun t ht => by
    rw [hF];exact vD ops.size (fun j _ hj => by
     obtain ⟨e, he, hb, rfl⟩ := hlook t ht j hj;exact hdep e he hb)
   have hex : execOp (fillGo ops L vals ops.size a).eval o = execOp (F vals).eval o :=
    execOp_congr o (fun cs b => Region.noSelect_spec hns i o cs b ho) fun x hx => uD fun t ht => hat t (by
     subst ht;exact List.mem_append_left _ (List.mem_filterMap.2 ⟨.tmp t, by simpa using hx, rfl⟩))
   have hwa : Region.wanted o (yielded ops (fillGo ops L vals ops.size a).tmps) = Region.wanted o (yielded ops (F vals).tmps) := by
    unfold Region.wanted;cases hg : o.guard with
    | none => rfl
    | some gw =>
      obtain ⟨g, want⟩ := gw;have hy : yielded ops (fillGo ops L vals ops.size a).tmps g = yielded ops (F vals).tmps g := by
       unfold yielded;cases ht : (ops[g]?).bind (·.dst) with
       | none => rfl
       | some t =>
         have := hat t (by simp [Oper.looksAt, hg, ht]);simp only [Option.bind_some, this]
      simp only [hy]
   have hdst : o.dst = dE ops i := (by simp [dE, ho]);have hL2 : upd L i true = fun j => (listed.setIfInBounds i true).getD j false := by
    funext j;unfold upd;by_cases hji : j = i
    ·subst hji; simp [hil]
    ·rw [if_neg hji, hL, getD_set_ne false (Ne.symm hji)]
   have hle2 : left (upd L i true) ops.size ≤ fuel := by
    have := yA hLi ops.size hi;omega
   have next : ∀ v w', J (upd L i true) (upd vals i v) w' → wpAny P .any ops Q fuel (listed.setIfInBounds i true) ((fillGo ops L vals ops.size a).put o.dst v) w' := fun v w' hJ' => by
    rw [hdst, oG hLi hd ops.size hi];exact ih (listed.setIfInBounds i true) (upd L i true) (upd vals i v) w' hL2 (by simp [hs]) hle2 hJ'
   unfold wpOp;simp only [ho];rw [hwa];split
   ·rename_i hw;rw [if_pos hw] at hst;refine .inl (yB hex (R := fun v w' => J (upd L i true) (upd vals i v) w') (hst _ (fun v w' a' e hJ' => ⟨v, e, hJ'⟩)) ?_ ?_ next)
    ·rw [hF, fF, fF]
    ·intro d hd';rw [fF];exact hin i o d ho hd'
   ·rename_i hw;rw [if_neg hw] at hst;exact next undef w hst
theorem aD8 {J : (Nat → Bool) → (Nat → Value) → World → Prop} {a : Act} {F : (Nat → Value) → Act} (hsh : shape ops = true) (hns : Region.noSelect ops = true) (hin : ∀ (i : Nat) (o : Oper) (d : Tmp), ops[i]? = some o → o.dst = some d → d < a.tmps.size)
  (hF : ∀ vals, F vals = fillGo ops (fun _ => true) vals ops.size a)
  (hstep : ∀ (i : Nat) (o : Oper), ops[i]? = some o → Step P ops J F i o) (hend : ∀ L vals w, (∀ j, j < ops.size → L j = true) → J L vals w → Q .normal (F vals) w) :
  ∀ (m k : Nat) (L : Nat → Bool) (vals : Nat → Value) (w : World), k + m = ops.size → L = (fun j => decide (j < k)) → J L vals w →
   wpOps P ops Q (List.range' k m) (fillGo ops L vals ops.size a) w := by
 intro m
 induction m with
 | zero =>
   intro k L vals w hk hL hJ;have hall : ∀ j, j < ops.size → L j = true := fun j hj => (by rw [hL]; simp; omega);have := hend L vals w hall hJ;rw [hF, jH (L := fun _ => true) (L' := L) (vals' := vals) ops.size (fun j hj => (hall j hj).symm) (fun _ _ _ => rfl)] at this;exact this
 | succ m ih =>
   intro k L vals w hk hL hJ;have hi : k < ops.size := (by omega);obtain ⟨o, ho⟩ : ∃ o, ops[k]? = some o := ⟨_, Array.getElem?_eq_getElem hi⟩
   obtain ⟨hd, hlook, hlow⟩ := shape_spec hsh ho;have hLi : L k = false := (by rw [hL]; simp);have hdep : ∀ e ∈ o.after, Region.binds .any e = true → L e.on = true := fun e he hb => by
    have := hlow e he hb;rw [hL]; simpa using this
   have hst := hstep k o ho L vals w hLi hdep hJ;have hat : ∀ t ∈ o.looksAt ops, (fillGo ops L vals ops.size a).tmps[t]? = (F vals).tmps[t]? := fun t ht => by
    rw [hF];exact vD ops.size (fun j _ hj => by
     obtain ⟨e, he, hb, rfl⟩ := hlook t ht j hj;exact hdep e he hb)
   have hex : execOp (fillGo ops L vals ops.size a).eval o = execOp (F vals).eval o :=
    execOp_congr o (fun cs b => Region.noSelect_spec hns k o cs b ho) fun x hx => uD fun t ht => hat t (by
     subst ht;exact List.mem_append_left _ (List.mem_filterMap.2 ⟨.tmp t, by simpa using hx, rfl⟩))
   have hwa : Region.wanted o (yielded ops (fillGo ops L vals ops.size a).tmps) = Region.wanted o (yielded ops (F vals).tmps) := by
    unfold Region.wanted;cases hg : o.guard with
    | none => rfl
    | some gw =>
      obtain ⟨g, want⟩ := gw;have hy : yielded ops (fillGo ops L vals ops.size a).tmps g = yielded ops (F vals).tmps g := by
       unfold yielded;cases ht : (ops[g]?).bind (·.dst) with
       | none => rfl
       | some t =>
         have := hat t (by simp [Oper.looksAt, hg, ht]);simp only [Option.bind_some, this]
      simp only [hy]
   have hdst : o.dst = dE ops k := (by simp [dE, ho]);have hL2 : upd L k true = fun j => decide (j < k + 1) := by
    funext j;unfold upd;by_cases hjk : j = k
    ·subst hjk; simp
    ·rw [if_neg hjk, hL];have : (j < k) ↔ (j < k + 1) := (by omega);simp [this]
   have next : ∀ v w', J (upd L k true) (upd vals k v) w' → wpOps P ops Q (List.range' (k + 1) m) ((fillGo ops L vals ops.size a).put o.dst v) w' := fun v w' hJ' => by
    rw [hdst, oG hLi hd ops.size hi];exact ih (k + 1) (upd L k true) (upd vals k v) w' (by omega) hL2 hJ'
   rw [List.range'_succ];simp only [wpOps, ho];rw [hwa];split
   ·rename_i hw;rw [if_pos hw] at hst;refine .inl (yB hex (R := fun v w' => J (upd L k true) (upd vals k v) w') (hst _ (fun v w' a' e hJ' => ⟨v, e, hJ'⟩)) ?_ ?_ next)
    ·rw [hF, fF, fF]
    ·intro d hd';rw [fF];exact hin k o d ho hd'
   ·rename_i hw;rw [if_neg hw] at hst;exact next undef w hst
def Steps (P : Program) (ops : Array Oper) (J : (Nat → Bool) → (Nat → Value) → World → Prop) (F : (Nat → Value) → Act) : Nat → List Oper → Prop
 | _, [] => True
 | i, o :: os => Step P ops J F i o ∧ Steps P ops J F (i + 1) os
theorem Steps.cons {J : (Nat → Bool) → (Nat → Value) → World → Prop} {F : (Nat → Value) → Act} {i : Nat} {o : Oper} {os : List Oper} (h : Step P ops J F i o) (hs : Steps P ops J F (i + 1) os) : Steps P ops J F i (o :: os) := ⟨h, hs⟩
theorem Steps.nil {J : (Nat → Bool) → (Nat → Value) → World → Prop} {F : (Nat → Value) → Act} {i : Nat} : Steps P ops J F i [] := trivial
theorem Steps.at {J : (Nat → Bool) → (Nat → Value) → World → Prop} {F : (Nat → Value) → Act} : ∀ (os : List Oper) (k i : Nat) (o : Oper), Steps P ops J F k os → os[i]? = some o → Step P ops J F (k + i) o
 | [], _, _, _, _, h => by simp at h
 | x :: xs, k, 0, o, hs, h => by
   simp at h; subst h; exact hs.1
 | x :: xs, k, i + 1, o, hs, h => by
   have := Steps.at xs (k + 1) i o hs.2 (by simpa using h)
   rwa [Nat.add_assoc, Nat.add_comm 1 i] at this
def inBounds (ops : Array Oper) (n : Nat) : Bool := ops.all fun o => match o.dst with | some d => d < n | none => true
theorem wp_region_inv {id : Nat} {a : Act} {w : World} {J : (Nat → Bool) → (Nat → Value) → World → Prop} {F : (Nat → Value) → Act} (hm : P.follows .mixedOrders = true) (hsh : (shape ops && Region.noSelect ops && inBounds ops a.tmps.size) = true)
  (hF : ∀ vals, F vals = fillGo ops (fun _ => true) vals ops.size a)
  (h0 : J (fun _ => false) (fun _ => undef) w.drew)
  (hstep : Steps P ops J F 0 ops.toList)
  (hend : ∀ L vals w, (∀ j, j < ops.size → L j = true) → J L vals w → Q .normal (F vals) w) : (Code.region id ops true).wp P Q a w := by
 simp only [Bool.and_eq_true] at hsh;obtain ⟨⟨h1, h2⟩, h3⟩ := hsh;refine wp_region_any hm ?_;have e : fillGo ops (fun _ => false) (fun _ => undef) ops.size a = a := by
  have : ∀ n, fillGo ops (fun _ => false) (fun _ => undef) n a = a := fun n => by
   induction n with
   | zero => rfl
   | succ n ih => unfold fillGo; simp [ih]
  exact this _
 have hL : (fun _ => false : Nat → Bool) = fun j => (Array.replicate ops.size false).getD j false := by
  funext j;simp only [Array.getD_eq_getD_getElem?, Array.getElem?_replicate];split <;> rfl
 have := aD7 (P := P) (Q := Q) (J := J) (a := a) (F := F) h1 h2 (fun i o d ho hd => by
  have := Array.all_eq_true_iff_forall_mem.1 h3 o (Array.mem_of_getElem? ho);simpa [hd] using this) hF (fun i o ho => by
  have := Steps.at ops.toList 0 i o hstep (by simpa using ho);simpa using this) hend ops.size (Array.replicate ops.size false) (fun _ => false) (fun _ => undef) w.drew hL (by simp) (aAy _) h0
 rw [e] at this;exact this
theorem wp_region_text {id : Nat} {a : Act} {w : World} {J : (Nat → Bool) → (Nat → Value) → World → Prop} {F : (Nat → Value) → Act} (hsh : (shape ops && Region.noSelect ops && inBounds ops a.tmps.size) = true)
  (hF : ∀ vals, F vals = fillGo ops (fun _ => true) vals ops.size a)
  (h0 : J (fun _ => false) (fun _ => undef) w)
  (hstep : Steps P ops J F 0 ops.toList)
  (hend : ∀ L vals w, (∀ j, j < ops.size → L j = true) → J L vals w → Q .normal (F vals) w) : (Code.region id ops false).wp P Q a w := by
 simp only [Bool.and_eq_true] at hsh;obtain ⟨⟨h1, h2⟩, h3⟩ := hsh;refine wp_region ?_;have e : fillGo ops (fun _ => false) (fun _ => undef) ops.size a = a := by
  have : ∀ n, fillGo ops (fun _ => false) (fun _ => undef) n a = a := fun n => by
   induction n with
   | zero => rfl
   | succ n ih => unfold fillGo; simp [ih]
  exact this _
 have := aD8 (P := P) (Q := Q) (J := J) (a := a) (F := F) h1 h2 (fun i o d ho hd => by
  have := Array.all_eq_true_iff_forall_mem.1 h3 o (Array.mem_of_getElem? ho);simpa [hd] using this) hF (fun i o ho => by
  have := Steps.at ops.toList 0 i o hstep (by simpa using ho);simpa using this) hend ops.size 0 (fun _ => false) (fun _ => undef) w (by omega) (by funext j; simp) h0
 rw [e, ← List.range_eq_range'] at this;exact this
theorem fill_get {vals : Nat → Value} {a : Act} {i : Nat} {d : Tmp} (hi : dE ops i = some d) (hb : d < a.tmps.size)
  (hd : ∀ j, j ≠ i → ∀ e, dE ops j = some e → dE ops i ≠ some e) : ∀ n, i < n → (fillGo ops (fun _ => true) vals n a).tmps[d]? = some (vals i)
 | 0, h => absurd h (by omega)
 | n + 1, h => by
   unfold fillGo;rw [if_pos rfl];by_cases hin : n = i
   ·subst hin;rw [hi, jM, if_pos rfl, fF, if_pos hb]
   ·have ih := fill_get (vals := vals) hi hb hd n (by omega);cases he : dE ops n with
    | none => simpa [Act.put] using ih
    | some e =>
      have hne : e ≠ d := fun x => hd n hin e he (by rw [hi, x]);rw [jM, if_neg hne]; exact ih
section
variable {M : World → World → Prop} {S : Nat → Value → World → Prop} {F : (Nat → Value) → Act} {w1 : World}
def JS (M : World → World → Prop) (S : Nat → Value → World → Prop) (w1 : World) : (Nat → Bool) → (Nat → Value) → World → Prop := fun L vals w => M w1 w ∧ ∀ j, L j = true → S j (vals j) w
theorem JS.step {i : Nat} {o : Oper} (hMt : ∀ a b c, M a b → M b c → M a c) (hS : ∀ j v w w', M w w' → S j v w → S j v w') (h : ∀ (vals : Nat → Value) (w : World), M w1 w → (∀ e ∈ o.after, Region.binds .any e = true → S e.on (vals e.on) w) →
   if Region.wanted o (yielded ops (F vals).tmps) = true then
    (∀ K : Act → World → Prop, (∀ v w' a', a' = (F vals).put o.dst v → S i v w' → M w w' → K a' w') → o.wp P (F vals) w K (fun _ _ _ => False))
   else S i undef w) : Step P ops (JS M S w1) F i o := by
 intro L vals w hL hdep hJ;have h1 := h vals w hJ.1 (fun e he hb => hJ.2 _ (hdep e he hb));have nxt : ∀ v w', S i v w' → (∀ j v, S j v w → S j v w') → ∀ j, upd L i true j = true → S j (upd vals i v j) w' := fun v w' hv hk j hj => by
  unfold upd at *
  by_cases hji : j = i
  ·subst hji; simpa using hv
  ·rw [if_neg hji] at hj ⊢; exact hk j _ (hJ.2 j hj)
 split at h1
 ·rename_i hw;rw [if_pos hw];intro K hK;refine h1 K fun v w' a' e hv hm => hK v w' a' e ⟨hMt _ _ _ hJ.1 hm, nxt v w' hv (fun j u hu => hS j u w w' hm hu)⟩
 ·rename_i hw;rw [if_neg hw];exact ⟨hJ.1, nxt undef w h1 (fun _ _ h => h)⟩
theorem wanted_of {a : Act} {vals : Nat → Value} {o : Oper} {g : Nat} {want b : Bool} (hsh : (shape ops && Region.noSelect ops && inBounds ops a.tmps.size) = true) (hg : o.guard = some (g, want)) (hlt : g < ops.size) (hd : ((ops[g]?).bind (·.dst)).isSome = true) (hv : vals g = .bool b) :
  Region.wanted o (yielded ops (fillGo ops (fun _ => true) vals ops.size a).tmps) = (b == want) := by
 simp only [Bool.and_eq_true] at hsh;obtain ⟨⟨h1, h2⟩, h3⟩ := hsh;obtain ⟨og, hog⟩ : ∃ o, ops[g]? = some o := ⟨_, Array.getElem?_eq_getElem hlt⟩
 obtain ⟨d, hd2⟩ := Option.isSome_iff_exists.1 hd;have hin : d < a.tmps.size := by
  have := Array.all_eq_true_iff_forall_mem.1 h3 og (Array.mem_of_getElem? hog);simp only [hog, Option.bind_some] at hd2;simpa [hd2] using this
 have := fill_get (ops := ops) (vals := vals) (a := a) (i := g) (d := d) hd2 hin (shape_spec h1 hog).1 ops.size hlt;unfold Region.wanted yielded;simp only [hg, hd2, Option.bind_some, this, hv];cases b <;> cases want <;> rfl
end
end
end Ja
end Go.Proofs.YtgpacgadpnpjjaaGreatDoor
namespace Go.Proofs.YtgpacgadpnpjjaaGreatDoor.Me
open Go.RowKit
open Go.Proofs.YtgpacgadpnpjjaaGreatDoor.Ma
theorem eF (a : Addr) (n : Nat) : (a.add n).block = a.block := by unfold Addr.add; split <;> rfl
theorem aBd (a : Addr) (i j : Nat) : (a.add i).add j = a.add (i + j) := by
 unfold Addr.add;by_cases hi : i = 0 <;> by_cases hj : j = 0 <;> simp [hi, hj, Nat.add_assoc]
theorem iG (g o k : Nat) : (⟨g, o, none⟩ : Addr).add k = ⟨g, o + k, none⟩ := by
 unfold Addr.add; split <;> simp_all
theorem aC7 (a : Addr) (k : Nat) : a.add (k + 1) = ⟨a.block, a.off + (k + 1), none⟩ := by
 unfold Addr.add; rw [if_neg (by omega)]
def nums (κ : IntKind) (ds : List Nat) : List Value := ds.map fun (d : Nat) => .int κ (d : Int)
theorem sQ (κ : IntKind) (ds : List Nat) (j : Nat) : (nums κ ds)[j]? = ds[j]?.map (fun (d : Nat) => .int κ (d : Int)) := by simp [nums]
theorem nums_length (κ : IntKind) (ds : List Nat) : (nums κ ds).length = ds.length := by simp [nums]
theorem yC (κ : IntKind) (ds : List Nat) (j d : Nat) : (nums κ ds).set j (.int κ (d : Int)) = nums κ (ds.set j d) := by simp [nums]
def aBe : IntKind → TypeId
 | .i64 => 2
 | .u8 => 5
 | _ => 140
def Rd (κ : IntKind) (w : World) (B : Nat) (A : Option Addr) (ds : List Nat) : Prop :=
 0 < ds.length → ∃ ad, A = some ad ∧ ad.block < B ∧ (∀ (j d : Nat), ds[j]? = some d → w.cell? (ad.add j) = some (.int κ (d : Int))) ∧ ∃ cs fr, w.heap[ad.block]? = some (.cells cs (aBe κ) fr)
section
variable {κ : IntKind} {w w' : World} {B B' : Nat} {A : Option Addr} {ds : List Nat}
theorem Rd.nil : Rd κ w B A [] := fun h => absurd h (by simp)
theorem Rd.at_ {k : Nat} (h : Rd κ w B A ds) (hk : k < ds.length) : ∃ ad, A = some ad ∧ ad.block < B ∧ w.cell? (ad.add k) = some (.int κ (ds[k] : Int)) := by
 obtain ⟨ad, e, hb, hc, -⟩ := h (by omega);exact ⟨ad, e, hb, hc k _ (List.getElem?_eq_getElem hk)⟩
theorem Rd.head (h : Rd κ w B A ds) (hk : 0 < ds.length) : ∃ ad, A = some ad ∧ ad.block < B ∧ w.cell? ad = some (.int κ (ds[0] : Int)) := by
 obtain ⟨ad, e, hb, hc⟩ := h.at_ hk;exact ⟨ad, e, hb, by simpa [Addr.add] using hc⟩
theorem pW {p : Addr} (h : w'.heap[p.block]? = w.heap[p.block]?) : w'.cell? p = w.cell? p := by simp [World.cell?, h]
theorem Rd.keep (h : Rd κ w B A ds) (hk : ∀ g : Nat, g < B → w'.heap[g]? = w.heap[g]?) : Rd κ w' B A ds :=
 fun hn => by
  obtain ⟨ad, e, hb, hc, cs, fr, ht⟩ := h hn;exact ⟨ad, e, hb, fun j u hu => (pW (hk _ (by rw [eF]; exact hb))).trans (hc j u hu), cs, fr, (hk _ hb).trans ht⟩
theorem Rd.more (h : Rd κ w B A ds) (hB : B ≤ B') : Rd κ w B' A ds :=
 fun hn => by
  obtain ⟨ad, e, hb, hc⟩ := h hn;exact ⟨ad, e, Nat.lt_of_lt_of_le hb hB, hc⟩
theorem Rd.below (h : Rd κ w B A ds) (hb : Below B w w') : Rd κ w' B A ds := h.keep fun g hg => hb.block g hg
theorem Rd.drew (h : Rd κ w B A ds) : Rd κ w.drew B A ds := h
theorem Rd.drewN (h : Rd κ w B A ds) (k : Nat) : Rd κ (w.drewN k) B A ds := h
theorem Rd.alloc (h : Rd κ w B A ds) (hB : B ≤ w.heap.size) (o : Obj) : Rd κ (w.alloc o) B A ds := h.keep fun g hg => Below.heap_alloc w o g (by omega)
theorem Rd.setCell (h : Rd κ w B A ds) {p : Addr} (hB : B ≤ p.block) (u : Value) : Rd κ (w.setCell p u) B A ds :=
 h.keep fun g hg => Below.heap_setCell w p u g (by omega)
theorem Rd.drop (h : Rd κ w B A ds) {k cap : Nat} (hc : ds.length ≤ cap) :
  Rd κ w B (if cap = k then A else A.map (·.add k)) (ds.drop k) := by
 intro hn;rw [List.length_drop] at hn;obtain ⟨ad, rfl, hb, hcell, ht⟩ := h (by omega);rw [if_neg (by omega)];refine ⟨ad.add k, rfl, by rw [eF]; exact hb, fun j u hu => ?_, by rw [eF]; exact ht⟩;rw [aBd];exact hcell _ u (by rw [← hu, List.getElem?_drop])
theorem Rd.take (h : Rd κ w B A ds) (k : Nat) : Rd κ w B A (ds.take k) := by
 intro hn;rw [List.length_take] at hn;obtain ⟨ad, rfl, hb, hcell, ht⟩ := h (by omega);refine ⟨ad, rfl, hb, fun j u hu => hcell _ u ?_, ht⟩;rw [List.getElem?_take] at hu;split at hu
 ·exact hu
 ·cases hu
end
def Blk (κ : IntKind) (w : World) (g : Nat) (t : TypeId) (ds : List Nat) : Prop := w.heap[g]? = some (.cells (nums κ ds).toArray t (0, 0))
section
variable {κ : IntKind} {w w' : World} {g : Nat} {t : TypeId} {ds : List Nat}
theorem Blk.lt (h : Blk κ w g t ds) : g < w.heap.size := by
 rcases Nat.lt_or_ge g w.heap.size with hlt | hge
 ·exact hlt
 ·unfold Blk at h; rw [Array.getElem?_eq_none hge] at h; cases h
theorem Blk.cell (h : Blk κ w g t ds) {i : Nat} (hi : i < ds.length) : w.cell? ⟨g, i, none⟩ = some (.int κ (ds[i] : Int)) := by
 rw [cell_of_row w g i _ t (0, 0) h];simp [nums, hi]
theorem Blk.frozen (h : Blk κ w g t ds) (i : Nat) : w.frozen? ⟨g, i, none⟩ = false := by
 unfold Blk at h;simp [World.frozen?, h]
theorem Blk.new (w : World) (t : TypeId) (ds : List Nat) : Blk κ (w.alloc (.cells (nums κ ds).toArray t)) w.heap.size t ds := heap_alloc_new w _
theorem Blk.drew (h : Blk κ w g t ds) : Blk κ w.drew g t ds := h
theorem Blk.drewN (h : Blk κ w g t ds) (n : Nat) : Blk κ (w.drewN n) g t ds := h
theorem Blk.alloc (h : Blk κ w g t ds) (o : Obj) : Blk κ (w.alloc o) g t ds := (Below.heap_alloc w o g h.lt).trans h
theorem Blk.set_ (h : Blk κ w g t ds) (i d : Nat) : Blk κ (w.setCell ⟨g, i, none⟩ (.int κ (d : Int))) g t (ds.set i d) := by
 unfold Blk at h ⊢;simp [World.setCell, Array.getElem?_modify, h, ← yC]
theorem Blk.put (h : Blk κ w g t ds) (i d : Nat) {e : Int} (he : e = (d : Int)) : Blk κ (w.setCell ⟨g, i, none⟩ (.int κ e)) g t (ds.set i d) := by
 subst he; exact h.set_ i d
theorem Blk.far (h : Blk κ w g t ds) {p : Addr} (hp : g ≠ p.block) (u : Value) : Blk κ (w.setCell p u) g t ds := (Below.heap_setCell w p u g hp).trans h
theorem Blk.below {B : Nat} (h : Blk κ w g t ds) (hb : Below B w w') (hg : g < B) : Blk κ w' g t ds := (hb.block g hg).trans h
theorem Blk.rd (h : Blk κ w g t ds) {B : Nat} (hB : g < B) (ht : t = aBe κ := by rfl) : Rd κ w B (some ⟨g, 0, none⟩) ds := fun _ =>
 ⟨_, rfl, hB, fun j d hd => by
  obtain ⟨hj, rfl⟩ := List.getElem?_eq_some_iff.1 hd;rw [iG, Nat.zero_add];exact h.cell hj, _, _, by rw [← ht]; exact h⟩
end
def zs (κ : IntKind) (n : Nat) : Array Value := (nums κ (List.replicate n 0)).toArray
theorem rE (κ : IntKind) (n : Nat) : madeCells #[Value.int κ 0] n = zs κ n := by
 apply Array.ext_getElem?;intro i;by_cases hi : i < n
 ·simp [madeCells, zs, nums, hi, Nat.mod_one]
 ·simp [madeCells, zs, nums, hi]
theorem Blk.made {κ : IntKind} (w : World) (t : TypeId) (n : Nat) : Blk κ (w.alloc (.cells (zs κ n) t)) w.heap.size t (List.replicate n 0) := heap_alloc_new w _
def Q (w w' : World) : Prop := Below w.heap.size w w'
section
variable {a b c w w' : World}
theorem Q.refl (w : World) : Q w w := Below.refl _ _
theorem Q.size (h : Q a b) : a.heap.size ≤ b.heap.size := Below.size h
theorem Q.trans (h : Q a b) (k : Q b c) : Q a c := Below.trans h (Below.mono k (Below.size h))
theorem Q.drew (h : Q a b) : Q a b.drew := Below.drew h
theorem Q.drewN (h : Q a b) (n : Nat) : Q a (b.drewN n) := ⟨h.os, h.tape, h.output, h.size, h.block⟩
theorem Q.alloc (h : Q a b) (o : Obj) : Q a (b.alloc o) := Below.alloc h (Below.size h) o
theorem Q.setCell (h : Q a b) {p : Addr} (hp : a.heap.size ≤ p.block) (u : Value) : Q a (b.setCell p u) := Below.setCell h hp u
theorem Q.cell (h : Q w w') {p : Addr} (hp : p.block < w.heap.size) : w'.cell? p = w.cell? p := Below.cell h hp
theorem Q.frozen (h : Q w w') {p : Addr} (hp : p.block < w.heap.size) : w'.frozen? p = w.frozen? p := Below.frozen h hp
theorem Q.heap (h : Q w w') {g : Nat} (hg : g < w.heap.size) : w'.heap[g]? = w.heap[g]? := h.block g hg
end
theorem Rd.q {κ : IntKind} {w w' : World} {A : Option Addr} {ds : List Nat} (h : Rd κ w w.heap.size A ds) (hq : Q w w') : Rd κ w' w'.heap.size A ds :=
 (h.below hq).more hq.size
theorem Blk.q {κ : IntKind} {w w' : World} {g : Nat} {t : TypeId} {ds : List Nat} (h : Blk κ w g t ds) (hq : Q w w') : Blk κ w' g t ds := h.below hq h.lt
def Nn (κ : IntKind) (b : Nat) (w : World) (v : Value) (N : Nat) : Prop :=
 ∃ A c ds, v = .slice A ds.length c ∧ ds.length ≤ c ∧ Rd κ w w.heap.size A ds ∧ Wf b ds ∧ vl b ds = N
theorem Nn.q {κ : IntKind} {b : Nat} {w w' : World} {v : Value} {N : Nat} (h : Nn κ b w v N) (hq : Q w w') : Nn κ b w' v N := by
 obtain ⟨A, c, ds, h1, h2, h3, h4, h5⟩ := h;exact ⟨A, c, ds, h1, h2, h3.q hq, h4, h5⟩
theorem Nn.zero {κ : IntKind} {b : Nat} {w : World} (A : Option Addr) (c : Nat) : Nn κ b w (.slice A 0 c) 0 := ⟨A, c, [], rfl, by simp, Rd.nil, Wf.nil, rfl⟩
theorem Nn.of_blk {κ : IntKind} {b : Nat} {w : World} {g k c N : Nat} {t : TypeId} {ds : List Nat} (h : Blk κ w g t ds) (hk : k ≤ ds.length) (hc : k ≤ c) (hz : Nz (ds.take k))
  (hd : ∀ d ∈ ds, d < b) (hv : vl b (ds.take k) = N) (ht : t = aBe κ := by rfl) : Nn κ b w (.slice (some ⟨g, 0, none⟩) k c) N := by
 have hl : (ds.take k).length = k := by rw [List.length_take, Nat.min_eq_left hk]
 exact ⟨some ⟨g, 0, none⟩, c, ds.take k, by rw [hl], by rw [hl]; exact hc, (h.rd h.lt ht).take k, ⟨aI hd, hz⟩, hv⟩
def Nw (B : Nat) (v : Value) : Prop := ∀ ad n c, v = .slice (some ad) n c → B ≤ ad.block
theorem Nw.at_ {B g o n c : Nat} (h : B ≤ g) : Nw B (.slice (some ⟨g, o, none⟩) n c) := fun _ _ _ e => by cases e; exact h
theorem Nw.nil {B n c : Nat} : Nw B (.slice none n c) := fun _ _ _ e => by cases e
theorem Nw.more {B B' : Nat} {v : Value} (h : Nw B v) (hB : B' ≤ B) : Nw B' v := fun _ _ _ e => Nat.le_trans hB (h _ _ _ e)
def aFy (κ : IntKind) (b : Nat) (N : Nat) (w : World) (e : Ending) (w' : World) : Prop := ∃ v, e = .returned v ∧ Nn κ b w' v N ∧ Q w w' ∧ Nw w.heap.size v
def B30 : Nat := 1073741824
theorem aL : B30 = 1073741824 := rfl
theorem aF : 1 < B30 := by decide
def W64 : Nat := 18446744073709551616
theorem aU : W64 = 18446744073709551616 := rfl
theorem aB : 1 < W64 := by decide
abbrev Nr := Nn .i64 B30
abbrev mQ := aFy .i64 B30
def LIM : Nat := 1099511627776
theorem aA : LIM = 1099511627776 := rfl
end Go.Proofs.YtgpacgadpnpjjaaGreatDoor.Me
namespace Go.Proofs.YtgpacgadpnpjjaaGreatDoor.Me
open Go.RowKit
open Go.Proofs.YtgpacgadpnpjjaaGreatDoor.Ma
theorem aC8 {P : Program} {κ : IntKind} {w : World} {g n cap : Nat} {e : TypeId} {ds : List Nat} (hb : Blk κ w g e ds) (hl : ds.length = cap) (hn : n < cap) (t ty : TypeId) (i : TypeInfo) (ht : P.underlying t = some (.slice e)) (hi : P.info? e = some i) (hs : i.size = 1) (ad : Addr) (c : Nat) (x : Int) (d : Nat) (hx : x = (d : Int)) (hc : w.cell? ad = some (.int κ x)) : ∃ w', (Builtin.append_ #[t, t] ty #[.slice (some ⟨g, 0, none⟩) n cap, .slice (some ad) 1 c]).run P w = .ok (.slice (some ⟨g, 0, none⟩) (n + 1) cap) w' ∧
   Blk κ w' g e (ds.set n d) ∧ w.grownBy w' (some g) := by
 subst hx
 have hr := run_append_room (P := P) w t ty e i ht hi g n cap (nums κ ds).toArray hb ad 1 c [.int κ (d : Int)] (by rw [hs]; rfl)
  (by intro j u hu
      rcases j with _ | j
      ·simp only [List.getElem?_cons_zero, Option.some.injEq] at hu;subst hu;simpa [Addr.add] using hc
      ·simp at hu)
  (by simp [Value.oneCell']) (by omega) (by rw [hs]; simp [nums]; omega)
 rw [hs, Nat.mul_one] at hr;refine ⟨_, hr, ?_, ⟨rfl, rfl, rfl, by simp, fun k _ hk => setRow_other w g k _ (fun e => hk (by simp [e]))⟩⟩;have h := setRow_heap w g (nums κ ds).toArray ((List.take n (nums κ ds).toArray.toList ++ [Value.int κ (d : Int)] ++ List.drop (n + 1) (nums κ ds).toArray.toList)).toArray e (0, 0) hb;refine h.trans ?_;have e1 : List.take n (nums κ ds).toArray.toList ++ [Value.int κ (d : Int)] ++ List.drop (n + 1) (nums κ ds).toArray.toList = nums κ (ds.set n d) := by
  rw [← yC, List.set_eq_take_append_cons_drop, if_pos (by simp [nums]; omega)];simp
 rw [e1]
theorem sG {P : Program} {κ : IntKind} {w : World} {ops : Array Oper} {rest : List Oper} {o : Oper} {a : Act} {Q : Exit → Act → World → Prop} (hg : o.guard = none) (s x : Operand) (t : TypeId) (hop : o.op = Op.call { callee := Callee.builtin Builtin.append, args := #[s, x], argTypes := #[t, t] })
  (e : TypeId) (i : TypeInfo) (h1 : P.underlying t = some (.slice e)) (h2 : P.info? e = some i) (h4 : i.size = 1)
  (g n cap : Nat) (ds : List Nat) (hs : a.eval s = .slice (some ⟨g, 0, none⟩) n cap) (ad : Addr) (c : Nat) (hx : a.eval x = .slice (some ad) 1 c)
  (hb : Blk κ w g e ds) (hl : ds.length = cap) (hn : n < cap) (y : Int) (d : Nat) (hy : y = (d : Int)) (hc : w.cell? ad = some (.int κ y))
  (hK : ∀ w', Blk κ w' g e (ds.set n d) → w.grownBy w' (some g) → wpList P ops Q rest (a.put o.dst (.slice (some ⟨g, 0, none⟩) (n + 1) cap)) w') :
  wpList P ops Q (o :: rest) a w := by
 refine wpList_plain hg fun K hK' => ?_;obtain ⟨w', hrun, r1, r2⟩ := aC8 (P := P) hb hl hn t o.type i h1 h2 h4 ad c y d hy hc;unfold Oper.wp;simp [execOp, hop, resolve, invoke, builtin, hs, hx, hrun, Result.andThen];exact hK' _ _ (hK w' r1 r2)
theorem fP {k : IntKind} {a b : Int} (h : a = b) : Ending.returned (.int k a) = .returned (.int k b) := by rw [h]
theorem sS {a b : Bool} (h : a = b) : Ending.returned (.bool a) = .returned (.bool b) := by rw [h]
theorem cO (w : World) (v : Value) (t : TypeId) : (w.alloc (.cells #[v] t)).cell? ⟨w.heap.size, 0, none⟩ = some v := by
 rw [cell_of_row _ _ 0 _ t (0, 0) (heap_alloc_new w _)]; rfl
theorem yD (j : Nat) (hj : j ≤ 62) : wrap64 ((2 : Int) ^ j) = ((2 ^ j : Nat) : Int) := by
 have h1 : 2 ^ j ≤ 2 ^ 62 := Nat.pow_le_pow_right (by decide) hj;have h2 : 2 ^ j ≤ 4611686018427387904 := h1;rw [show ((2 : Int) ^ j) = ((2 ^ j : Nat) : Int) from (Int.natCast_pow _ _).symm];generalize 2 ^ j = f at *
 exact IntWalk.wrap64_in _ ⟨by omega, by omega⟩
theorem aAe {P : Program} (w : World) (base : Nat) (t ty e : TypeId) (i : TypeInfo) (size : Nat) (ht : P.underlying t = some (.slice e)) (hi : P.info? e = some i)
  (v : Value) (n : Nat) (xs : List Value) (hown : w.ownsRow base e size v n xs) (c : Nat) : (Builtin.append_ #[t, t] ty #[v, .slice none 0 c]).run P w = .ok v w := by
 rcases hown.2 with ⟨rfl, rfl⟩ | ⟨g, cap, cur, rfl, _, _, hnc, _⟩
 ·simp [Builtin.append_, run_underlying ht, sizeOf, typeInfo, hi, Builtin.lenOf, Builtin.firstCells]
 ·simp [Builtin.append_, run_underlying ht, sizeOf, typeInfo, hi, Builtin.lenOf, Builtin.firstCells, hnc, storeCells]
theorem aD9 {P : Program} {κ : IntKind} {w : World} (base : Nat) (t ty e : TypeId) (i : TypeInfo) (z : Value) (bytes : Nat) (ht : P.underlying t = some (.slice e)) (hi : P.info? e = some i) (hz : i.zero = some z) (hsize : i.size = 1) (hby : i.bytes = bytes) (hzs : z.cells.size = 1) (v : Value) (n : Nat) (xs : List Nat) (hown : w.ownsRow base e 1 v n (nums κ xs)) (B : Nat) (A : Option Addr) (m c : Nat) (ds : List Nat) (hm : ds.length = m) (hr : Rd κ w B A ds) (h63 : n + m ≤ maxLen) (hbytes : (n + m) * bytes ≤ 140737488355328) (hbase : base ≤ w.heap.size) : ∃ v' w', (Builtin.append_ #[t, t] ty #[v, .slice A m c]).run P w = .ok v' w' ∧ w'.ownsRow base e 1 v' (n + m) (nums κ (xs ++ ds)) ∧ w.grownBy w' v.ownBlock ∧
   (v'.ownBlock = v.ownBlock ∨ v'.ownBlock = some w.heap.size) := by
 subst hm;rcases Nat.eq_zero_or_pos ds.length with h0 | h0
 ·have hn : ds = [] := List.eq_nil_of_length_eq_zero h0;subst hn;rcases A with _ | ad
  ·exact ⟨v, w, aAe w base t ty e i 1 ht hi v n _ hown c, by simpa using hown, World.grownBy.refl w _, .inl rfl⟩
  ·obtain ⟨v', w', hrun, h2, h3, _, h5⟩ := run_append_own_at (P := P) w base t ty e i z 1 bytes ht hi hz hsize hby hzs (by decide) v n _ hown ad 0 c [] rfl (by simp) (by simp) h63 hbytes hbase;exact ⟨v', w', hrun, by simpa using h2, h3, h5⟩
 ·obtain ⟨ad, rfl, _, hc, -⟩ := hr h0
  obtain ⟨v', w', hrun, h2, h3, _, h5⟩ := run_append_own_at (P := P) w base t ty e i z 1 bytes ht hi hz hsize hby hzs (by decide) v n _ hown ad ds.length c (nums κ ds) (by simp [nums])
   (by intro j u hu
       rw [sQ] at hu;obtain ⟨d, hd, rfl⟩ := Option.map_eq_some_iff.1 hu;exact hc j d hd)
   (by intro u hu
       simp only [nums, List.mem_map] at hu;obtain ⟨d, _, rfl⟩ := hu;rfl) h63 hbytes hbase
  exact ⟨v', w', hrun, by simpa [nums] using h2, h3, h5⟩
theorem uE {P : Program} {κ : IntKind} {w : World} {ops : Array Oper} {rest : List Oper} {o : Oper} {a : Act} {Q : Exit → Act → World → Prop} (hg : o.guard = none) (s x : Operand) (t : TypeId) (hop : o.op = Op.call { callee := Callee.builtin Builtin.append, args := #[s, x], argTypes := #[t, t] })
  (base : Nat) (e : TypeId) (i : TypeInfo) (z : Value) (bytes : Nat) (ht : P.underlying t = some (.slice e)) (hi : P.info? e = some i) (hz : i.zero = some z)
  (hsize : i.size = 1) (hby : i.bytes = bytes) (hzs : z.cells.size = 1)
  (v : Value) (n : Nat) (xs : List Nat) (hs : a.eval s = v) (hown : w.ownsRow base e 1 v n (nums κ xs))
  (B : Nat) (A : Option Addr) (m c : Nat) (ds : List Nat) (hx : a.eval x = .slice A m c) (hm : ds.length = m) (hr : Rd κ w B A ds)
  (h63 : n + m ≤ maxLen) (hbytes : (n + m) * bytes ≤ 140737488355328) (hbase : base ≤ w.heap.size)
  (hK : ∀ v' w', w'.ownsRow base e 1 v' (n + m) (nums κ (xs ++ ds)) → w.grownBy w' v.ownBlock → (v'.ownBlock = v.ownBlock ∨ v'.ownBlock = some w.heap.size) → wpList P ops Q rest (a.put o.dst v') w') :
  wpList P ops Q (o :: rest) a w := by
 refine wpList_plain hg fun K hK' => ?_;obtain ⟨v', w', hrun, r1, r2, r3⟩ := aD9 (P := P) base t o.type e i z bytes ht hi hz hsize hby hzs v n xs hown B A m c ds hm hr h63 hbytes hbase;unfold Oper.wp;simp [execOp, hop, resolve, invoke, builtin, hs, hx, hrun, Result.andThen];exact hK' _ _ (hK v' w' r1 r2 r3)
theorem aAz {κ : IntKind} {w : World} {base : Nat} {e : TypeId} {v : Value} {n : Nat} {ds : List Nat} (h : w.ownsRow base e 1 v n (nums κ ds)) (hn : 0 < n) (he : e = aBe κ := by rfl) :
  ∃ g cap, v = .slice (some ⟨g, 0, none⟩) n cap ∧ base ≤ g ∧ g < w.heap.size ∧ n ≤ cap ∧ cap ≤ maxLen ∧ ds.length = n ∧ Rd κ w w.heap.size (some ⟨g, 0, none⟩) ds := by
 rcases h.2 with ⟨_, rfl⟩ | ⟨g, cap, cur, rfl, hb, hh, hnc, hcm, hcs, htake⟩
 ·omega
 ·have hlt : g < w.heap.size := by
   rcases Nat.lt_or_ge g w.heap.size with hlt | hge
   ·exact hlt
   ·rw [Array.getElem?_eq_none hge] at hh; cases hh
  refine ⟨g, cap, rfl, hb, hlt, hnc, hcm, by have := h.1; simpa [nums] using this, fun _ => ⟨_, rfl, hlt, fun j d hd => ?_, _, _, by rw [← he]; exact hh⟩⟩;have := h.cells (g := g) rfl j (.int κ (d : Int)) (by rw [sQ, hd]; rfl);exact this
theorem aC9 {κ : IntKind} (w : World) {base : Nat} (e : TypeId) (x : Int) (d : Nat) (hx : x = (d : Int)) (hb : base ≤ w.heap.size) :
  (w.alloc (.cells #[.int κ x] e)).ownsRow base e 1 (.slice (some ⟨w.heap.size, 0, none⟩) 1 1) 1 (nums κ [d]) := by
 subst hx;exact World.ownsRow_lit w #[.int κ (d : Int)] 1 hb (by unfold maxLen; omega) rfl
theorem Q.grown {a w w' : World} {row : Option Nat} (h : Q a w) (hg : w.grownBy w' row) (hr : ∀ k, row = some k → a.heap.size ≤ k) : Q a w' := Below.grown h hg (Below.size h) hr
end Go.Proofs.YtgpacgadpnpjjaaGreatDoor.Me
namespace Go.Proofs.YtgpacgadpnpjjaaGreatDoor.Me
open Go.RowKit
open Go.Proofs.YtgpacgadpnpjjaaGreatDoor.Ma
section
variable {a b c w w' : World} {g : Nat}
theorem Gr.refl (w : World) (g : Nat) : w.grownBy w (some g) := World.grownBy.refl w _
theorem Gr.trans (h : a.grownBy b (some g)) (k : b.grownBy c (some g)) : a.grownBy c (some g) := World.grownBy.trans h k
theorem Gr.q (h : a.grownBy b (some g)) (k : Q b c) : a.grownBy c (some g) :=
 ⟨k.os.trans h.os, k.tape.trans h.tape, k.output.trans h.output, Nat.le_trans h.size k.size, fun i hi hn => (k.block i (Nat.lt_of_lt_of_le hi h.size)).trans (h.block i hi hn)⟩
theorem Gr.drewN (h : a.grownBy b (some g)) (n : Nat) : a.grownBy (b.drewN n) (some g) := ⟨h.os, h.tape, h.output, h.size, h.block⟩
theorem Gr.drew (h : a.grownBy b (some g)) : a.grownBy b.drew (some g) := ⟨h.os, h.tape, h.output, h.size, h.block⟩
theorem Gr.alloc (h : a.grownBy b (some g)) (o : Obj) : a.grownBy (b.alloc o) (some g) := Gr.q h ((Q.refl _).alloc o)
theorem Gr.setCell (h : a.grownBy b (some g)) (o : Nat) (u : Value) : a.grownBy (b.setCell ⟨g, o, none⟩ u) (some g) :=
 ⟨h.os, h.tape, h.output, by simpa [World.setCell] using h.size, fun i hi hn => (Below.heap_setCell b _ u i (fun e => hn (by rw [e]))).trans (h.block i hi hn)⟩
theorem Gr.cell (h : a.grownBy b (some g)) {p : Addr} (hp : p.block < a.heap.size) (hg : p.block ≠ g) : b.cell? p = a.cell? p :=
 World.cell?_of_block (h.block _ hp (fun e => hg (by injection e)))
theorem Gr.frozen (h : a.grownBy b (some g)) {p : Addr} (hp : p.block < a.heap.size) (hg : p.block ≠ g) : b.frozen? p = a.frozen? p :=
 World.frozen?_of_block (h.block _ hp (fun e => hg (by injection e)))
theorem Gr.heap (h : a.grownBy b (some g)) {i : Nat} (hp : i < a.heap.size) (hg : i ≠ g) : b.heap[i]? = a.heap[i]? := h.block _ hp (fun e => hg (by injection e))
theorem Q.gr (h : Q a b) (k : b.grownBy c (some g)) (hg : a.heap.size ≤ g) : Q a c := Q.grown h k (fun i e => by injection e with e; omega)
end
def Src (w : World) (g off : Nat) (A : Option Addr) (xs : List Nat) : Prop :=
 0 < xs.length → ∃ b o, A = some ⟨b, o, none⟩ ∧ b < w.heap.size ∧ (b ≠ g ∨ b = g ∧ o = off) ∧ ∀ (j d : Nat), xs[j]? = some d → w.cell? ⟨b, o + j, none⟩ = some (.int .u64 (d : Int))
structure Part (w w' : World) (g t off k : Nat) (cs o : List Nat) : Prop where
 blk : Blk .u64 w' g t (cs.take off ++ o ++ cs.drop (off + k))
 gr : w.grownBy w' (some g)
theorem Src.at_ {w w' : World} {g t off k n : Nat} {A : Option Addr} {xs cs o : List Nat} (h : Src w g off A xs) (hb : Blk .u64 w g t cs) (hp : Part w w' g t off k cs o) (ho : o.length = k) (hn : off + n ≤ cs.length) (hx : xs.length = n) (hk : k < n) :
  ∃ b q, A = some ⟨b, q, none⟩ ∧ w'.cell? ⟨b, q + k, none⟩ = some (.int .u64 ((xs[k]'(by omega) : Nat) : Int)) := by
 obtain ⟨b, q, rfl, hlt, hcase, hc⟩ := h (by omega);refine ⟨b, q, rfl, ?_⟩;have h0 := hc k _ (List.getElem?_eq_getElem (by omega));rcases hcase with hne | ⟨rfl, rfl⟩
 ·rw [Gr.cell hp.gr (p := ⟨b, q + k, none⟩) hlt hne]; exact h0
 ·rw [← h0, cell_of_row w' b (q + k) _ t (0, 0) hp.blk, cell_of_row w b (q + k) _ t (0, 0) hb];simp only [nums, List.getElem?_toArray, List.getElem?_map];rw [oD ho (by omega) (by omega)]
theorem Src.nil {w : World} {g off : Nat} {A : Option Addr} : Src w g off A [] := fun h => absurd h (by simp)
end Go.Proofs.YtgpacgadpnpjjaaGreatDoor.Me
namespace Go.Proofs.YtgpacgadpnpjjaaGreatDoor.Me
open Go.RowKit
open Go.Proofs.YtgpacgadpnpjjaaGreatDoor.Ma
theorem Src.after {w w1 : World} {g t off k cap : Nat} {A : Option Addr} {xs cs o : List Nat} (h : Src w g off A xs) (hb : Blk .u64 w g t cs) (hp1 : Blk .u64 w1 g t (cs.take off ++ o ++ cs.drop (off + k))) (hp2 : w.grownBy w1 (some g)) (ho : o.length = k) (hk : k ≤ xs.length) (hoff : off + xs.length ≤ cs.length) (hc : xs.length ≤ cap) :
  Src w1 g (off + k) (if cap = k then A else A.map (·.add k)) (xs.drop k) := by
 intro hn;rw [List.length_drop] at hn;obtain ⟨b, q, rfl, hlt, hcase, hcell⟩ := h (by omega);rw [if_neg (by omega)];refine ⟨b, q + k, by simp [iG], Nat.lt_of_lt_of_le hlt hp2.size, ?_, fun j d hd => ?_⟩
 ·rcases hcase with h1 | ⟨rfl, rfl⟩
  ·exact Or.inl h1
  ·exact Or.inr ⟨rfl, rfl⟩
 ·rw [List.getElem?_drop] at hd;have h0 := hcell (k + j) d hd;have hkj : k + j < xs.length := (List.getElem?_eq_some_iff.1 hd).1;rw [Nat.add_assoc];rcases hcase with hne | ⟨rfl, rfl⟩
  ·rw [Gr.cell hp2 (p := ⟨b, q + (k + j), none⟩) hlt hne]; exact h0
  ·rw [← h0, cell_of_row w1 b (q + (k + j)) _ t (0, 0) hp1, cell_of_row w b (q + (k + j)) _ t (0, 0) hb];simp only [nums, List.getElem?_toArray, List.getElem?_map];rw [oD ho (by omega) (by omega)]
theorem Src.q {w w' : World} {g off : Nat} {A : Option Addr} {xs : List Nat} (h : Src w g off A xs) (hq : Q w w') : Src w' g off A xs := fun hn => by
 obtain ⟨b, o, e, hlt, hcase, hc⟩ := h hn;exact ⟨b, o, e, Nat.lt_of_lt_of_le hlt hq.size, hcase, fun j d hd => (hq.cell hlt).trans (hc j d hd)⟩
def Rw (w : World) (A : Option Addr) (xs : List Nat) : Prop :=
 0 < xs.length → ∃ b o, A = some ⟨b, o, none⟩ ∧ b < w.heap.size ∧ ∀ (j d : Nat), xs[j]? = some d → w.cell? ⟨b, o + j, none⟩ = some (.int .u64 (d : Int))
section
variable {w w' : World} {A : Option Addr} {xs : List Nat}
theorem Rw.nil : Rw w A [] := fun h => absurd h (by simp)
theorem Rw.at_ {k : Nat} (h : Rw w A xs) (hk : k < xs.length) : ∃ b o, A = some ⟨b, o, none⟩ ∧ b < w.heap.size ∧ w.cell? ⟨b, o + k, none⟩ = some (.int .u64 (xs[k] : Int)) := by
 obtain ⟨b, o, e, hb, hc⟩ := h (by omega);exact ⟨b, o, e, hb, hc k _ (List.getElem?_eq_getElem hk)⟩
theorem Rw.head (h : Rw w A xs) (hk : 0 < xs.length) : ∃ b o, A = some ⟨b, o, none⟩ ∧ b < w.heap.size ∧ w.cell? ⟨b, o, none⟩ = some (.int .u64 (xs[0] : Int)) := h.at_ hk
theorem Rw.q (h : Rw w A xs) (hq : Q w w') : Rw w' A xs := fun hn => by
 obtain ⟨b, o, e, hb, hc⟩ := h hn;exact ⟨b, o, e, Nat.lt_of_lt_of_le hb hq.size, fun j d hd => (hq.cell hb).trans (hc j d hd)⟩
theorem Rw.drop (h : Rw w A xs) {k cap : Nat} (hc : xs.length ≤ cap) : Rw w (if cap = k then A else A.map (·.add k)) (xs.drop k) := by
 intro hn;rw [List.length_drop] at hn;obtain ⟨b, o, rfl, hb, hcell⟩ := h (by omega);rw [if_neg (by omega)];refine ⟨b, o + k, by simp [iG], hb, fun j d hd => ?_⟩;rw [List.getElem?_drop] at hd;rw [Nat.add_assoc];exact hcell _ d hd
theorem Rw.take (h : Rw w A xs) (k : Nat) : Rw w A (xs.take k) := by
 intro hn;rw [List.length_take] at hn;obtain ⟨b, o, rfl, hb, hcell⟩ := h (by omega);refine ⟨b, o, rfl, hb, fun j d hd => hcell j d ?_⟩;rw [List.getElem?_take] at hd;split at hd
 ·exact hd
 ·cases hd
theorem Rw.of_blk {g t : Nat} (h : Blk .u64 w g t xs) : Rw w (some ⟨g, 0, none⟩) xs := fun _ =>
 ⟨g, 0, rfl, h.lt, fun j d hd => by
  obtain ⟨hj, rfl⟩ := List.getElem?_eq_some_iff.1 hd;rw [Nat.zero_add];exact h.cell hj⟩
theorem Rw.gr {g : Nat} (h : Rw w A xs) (hg : w.grownBy w' (some g)) (hne : ∀ b o, A = some ⟨b, o, none⟩ → b ≠ g) : Rw w' A xs := fun hn => by
 obtain ⟨b, o, rfl, hb, hc⟩ := h hn;exact ⟨b, o, rfl, Nat.lt_of_lt_of_le hb hg.size, fun j d hd => (Gr.cell hg (p := ⟨b, o + j, none⟩) hb (hne b o rfl)).trans (hc j d hd)⟩
theorem Src.of_rw {g off : Nat} (h : Rw w A xs) (hne : ∀ b o, A = some ⟨b, o, none⟩ → b ≠ g) : Src w g off A xs := fun hn => by
 obtain ⟨b, o, rfl, hb, hc⟩ := h hn;exact ⟨b, o, rfl, hb, Or.inl (hne b o rfl), hc⟩
theorem Src.old {g off : Nat} (h : Rw w A xs) (hq : Q w w') (hg : w.heap.size ≤ g) : Src w' g off A xs := fun hn => by
 obtain ⟨b, o, rfl, hb, hc⟩ := h hn;exact ⟨b, o, rfl, Nat.lt_of_lt_of_le hb hq.size, Or.inl (by omega), fun j d hd => (hq.cell hb).trans (hc j d hd)⟩
end
def Nm (w : World) (v : Value) (N : Nat) : Prop :=
 ∃ A c ws, v = .slice A ws.length c ∧ ws.length ≤ c ∧ Rw w A ws ∧ Wf W64 ws ∧ vl W64 ws = N
theorem Nm.q {w w' : World} {v : Value} {N : Nat} (h : Nm w v N) (hq : Q w w') : Nm w' v N := by
 obtain ⟨A, c, ws, h1, h2, h3, h4, h5⟩ := h;exact ⟨A, c, ws, h1, h2, h3.q hq, h4, h5⟩
theorem Nm.zero {w : World} (A : Option Addr) (c : Nat) : Nm w (.slice A 0 c) 0 := ⟨A, c, [], rfl, by simp, Rw.nil, Wf.nil, rfl⟩
theorem Nm.of_rw {w : World} {A : Option Addr} {k c N : Nat} {ds : List Nat} (h : Rw w A ds) (hk : k ≤ ds.length) (hc : k ≤ c) (hz : Nz (ds.take k))
  (hd : ∀ d ∈ ds, d < W64) (hv : vl W64 (ds.take k) = N) : Nm w (.slice A k c) N := by
 have hl : (ds.take k).length = k := by rw [List.length_take, Nat.min_eq_left hk]
 exact ⟨A, c, ds.take k, by rw [hl], by rw [hl]; exact hc, h.take k, ⟨aI hd, hz⟩, hv⟩
def fU (N : Nat) (w : World) (e : Ending) (w' : World) : Prop := ∃ v, e = .returned v ∧ Nm w' v N ∧ Q w w' ∧ Nw w.heap.size v
theorem Src.take {w : World} {g off : Nat} {A : Option Addr} {xs : List Nat} (h : Src w g off A xs) (k : Nat) : Src w g off A (xs.take k) := by
 intro hn;rw [List.length_take] at hn;obtain ⟨b, o, rfl, hlt, hcase, hc⟩ := h (by omega);refine ⟨b, o, rfl, hlt, hcase, fun j d hd => hc j d ?_⟩;rw [List.getElem?_take] at hd;split at hd
 ·exact hd
 ·cases hd
theorem Src.own {w : World} {g t off n : Nat} {cs : List Nat} (hb : Blk .u64 w g t cs) : Src w g off (some ⟨g, off, none⟩) ((cs.drop off).take n) := by
 intro _;refine ⟨g, off, rfl, hb.lt, Or.inr ⟨rfl, rfl⟩, fun j d hd => ?_⟩;rw [List.getElem?_take] at hd;split at hd
 ·rw [List.getElem?_drop] at hd;obtain ⟨hj, rfl⟩ := List.getElem?_eq_some_iff.1 hd;exact hb.cell hj
 ·cases hd
end Go.Proofs.YtgpacgadpnpjjaaGreatDoor.Me
