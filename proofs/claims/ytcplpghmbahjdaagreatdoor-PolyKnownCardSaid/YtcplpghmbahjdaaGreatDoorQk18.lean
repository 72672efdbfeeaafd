/- The examples of the document about polynomials. No condition. Part of the proof: texts Fx2 Ey5 Ey8. -/
import Derived.Test.YtcplpghmbahjdaaGreatDoorQk17
namespace Go.Proofs.YtcplpghmbahjdaaGreatDoor.E
open Go
noncomputable section
structure Wr where
 f : aG → (Env → H → OR) → Env → H → OR
def zP (rest : Env → H → OR) (e : Env) (d : Nat) (v : AV) (h : H) : OR := rest (T.set v e d) h
def aJY (d : Nat) (f : aG → Env → H → KF → OR) (call : aG) (rest : Env → H → OR) (e : Env) (h : H) : OR := f call e h (zP rest e d)
def aJZ (rest : Env → H → OR) (e : Env) (_ : AV) (h : H) : OR := rest e h
def fNo (f : aG → Env → H → KF → OR) (call : aG) (rest : Env → H → OR) (e : Env) (h : H) : OR := f call e h (aJZ rest e)
def aDt (_ : aG) (_ : Env → H → OR) (_ : Env) (_ : H) : OR := none
section
variable (F : Cf)
def fO1 (nt : Nat) (o : Oper) (f : aG → Env → H → KF → OR) : Wr := Option.rec (motive := fun _ => Wr) ⟨fNo f⟩ (fun d => cb (Nat.blt d nt) ⟨aJY d f⟩ ⟨aDt⟩) o.dst
def gB2 (yes no : OR) (x : Bool) : OR := Bool.rec (motive := fun _ => OR) no yes x
def gB1 (w : Bool) (yes no : OR) (s : SV) : OR := SV.rec (motive := fun _ => OR) none (fun x => Bool.rec (motive := fun _ => OR) (gB2 no yes x) (gB2 yes no x) w) (fun _ _ => none) (fun _ => none) none (fun _ _ => none) none (fun _ _ _ _ => none) (fun _ => none) none (fun _ _ => none) (fun _ => none) s
def gBt (no : OR) (l : List (Bool × List SV)) : OR := List.rec (motive := fun _ => OR) no (fun _ _ _ => none) l
def gB (w : Bool) (yes no : OR) (v : AV) : OR := AV.rec (motive := fun _ => OR) (kx3 (gB1 w yes no)) (gBt no) v
def gO (w : Bool) (yes no : OR) (v : Option AV) : OR := Option.rec (motive := fun _ => OR) none (gB w yes no) v
theorem aKN {w : Bool} {yes no : OR} {v : Option AV} : gO w yes no v = ob (isB v w) fun b => cb b yes no := by
 cases v with
 | none => rfl
 | some v =>
   cases v with
   | t l => cases l <;> rfl
   | c g l =>
     cases g with
     | true => rfl
     | false =>
       match l with
       | [] => rfl
       | [x] =>
         cases x with
         | b x => cases w <;> cases x <;> rfl
         | _ => rfl
       | x :: _ :: _ => cases x <;> rfl
def fGd (g : Nat) (w : Bool) (d : Nat) (f : aG → Env → H → KF → OR) (call : aG) (rest : Env → H → OR) (e : Env) (h : H) : OR := gO w (f call e h (zP rest e d)) (rest (T.set un e d) h) (T.get e g)
def fG2 (nt : Nat) (o : Oper) (g : Nat) (w : Bool) (wr : Wr) (f : aG → Env → H → KF → OR) : Wr := Option.rec (motive := fun _ => Wr) wr (fun d => cb (Nat.blt d nt) ⟨fGd g w d f⟩ wr) o.dst
def fG1 (nt : Nat) (o : Oper) (w : Bool) (wr : Wr) (g : Option Nat) : Wr := Option.rec (motive := fun _ => Wr) wr (fun g => Wk.rec (motive := fun _ => Wr) (fG2 nt o g w wr) (jC F o.op)) g
def fG (nt : Nat) (ops : List Oper) (o : Oper) (wr : Wr) (p : Nat × Bool) : Wr := Option.rec (motive := fun _ => Wr) wr (fun q => fG1 F nt o p.2 wr q.dst) (drp p.1 ops).head?
theorem aKO {nt : Nat} {ops : List Oper} {o : Oper} {p : Nat × Bool} {call : aG} {rest : Env → H → OR} {e : Env} {h : H} (hg : o.guard = some p) : (fG F nt ops o ⟨fun call rest e h => dS F nt call ops rest o e h⟩ p).f call rest e h = dS F nt call ops rest o e h := by
 obtain ⟨j, w⟩ := p;unfold fG;cases hq : (drp j ops).head? with
 | none => rfl
 | some q =>
   show (fG1 F nt o w ⟨fun call rest e h => dS F nt call ops rest o e h⟩ q.dst).f call rest e h = _;unfold fG1;cases hd : q.dst with
   | none => rfl
   | some g =>
     show (Wk.rec (motive := fun _ => Wr) (fG2 nt o g w ⟨fun call rest e h => dS F nt call ops rest o e h⟩) (jC F o.op)).f call rest e h = _;have e2 : ∀ k : Wk, (Wk.rec (motive := fun _ => Wr) (fG2 nt o g w ⟨fun call rest e h => dS F nt call ops rest o e h⟩) k).f call rest e h = (fG2 nt o g w ⟨fun call rest e h => dS F nt call ops rest o e h⟩ k.f).f call rest e h := fun k => (by cases k; rfl);rw [e2];unfold fG2;cases ht : o.dst with
     | none => rfl
     | some d =>
       show (cb (Nat.blt d nt) ⟨fGd g w d (jC F o.op).f⟩ ⟨fun call rest e h => dS F nt call ops rest o e h⟩ : Wr).f call rest e h = _;cases hb : Nat.blt d nt with
       | false => rfl
       | true =>
         show gO w ((jC F o.op).f call e h (zP rest e d)) (rest (T.set un e d) h) (T.get e g) = _;rw [aKN, uP];unfold dS;rw [hg];show _ = ob (ob (drp j ops).head? fun o => ob o.dst fun d => isB (e.get d) w) fun w => cb w (ob (op1 F call o.op e h) fun r => put nt e o.dst r.1 fun e => rest e r.2) (put nt e o.dst un fun e => rest e h);rw [hq, ht];show _ = ob (ob q.dst fun d => isB (e.get d) w) fun w => cb w (ob (op1 F call o.op e h) fun r => cb (Nat.blt d nt) (rest (e.set r.1 d) r.2) none) (cb (Nat.blt d nt) (rest (e.set un d) h) none);rw [hd, hb];rfl
def fO (nt : Nat) (ops : List Oper) (o : Oper) : Wr := Option.rec (motive := fun _ => Wr) (Wk.rec (motive := fun _ => Wr) (fO1 nt o) (jC F o.op)) (fun p => fG F nt ops o ⟨fun call rest e h => dS F nt call ops rest o e h⟩ p) o.guard
theorem aGX {nt : Nat} {ops : List Oper} {o : Oper} {call : aG} {rest : Env → H → OR} {e : Env} {h : H} : (fO F nt ops o).f call rest e h = dS F nt call ops rest o e h := by
 unfold fO;cases hg : o.guard with
 | some p => exact aKO F hg
 | none =>
   have e1 : dS F nt call ops rest o e h = ob (op1 F call o.op e h) fun r => put nt e o.dst r.1 fun e => rest e r.2 := by
    unfold dS;rw [hg];rfl
   rw [e1];show (Wk.rec (motive := fun _ => Wr) (fO1 nt o) (jC F o.op)).f call rest e h = _;have e2 : ∀ w : Wk, (Wk.rec (motive := fun _ => Wr) (fO1 nt o) w).f call rest e h = (fO1 nt o w.f).f call rest e h := fun w => (by cases w; rfl);rw [e2];unfold fO1;cases hd : o.dst with
   | none =>
     show (jC F o.op).f call e h (aJZ rest e) = _;rw [uP];rfl
   | some d =>
     show (cb (Nat.blt d nt) ⟨aJY d (jC F o.op).f⟩ ⟨aDt⟩ : Wr).f call rest e h = ob (op1 F call o.op e h) fun r => cb (Nat.blt d nt) (rest (e.set r.1 d) r.2) none;cases Nat.blt d nt with
     | true =>
       show (jC F o.op).f call e h (zP rest e d) = ob (op1 F call o.op e h) fun r => rest (e.set r.1 d) r.2;rw [uP];rfl
     | false =>
       show none = ob (op1 F call o.op e h) fun r => none;cases op1 F call o.op e h <;> rfl
def aDu (nt : Nat) (call : aG) (ops l : List Oper) : Env → H → OR :=
 List.rec (motive := fun _ => Env → H → OR) (fun e h => some ⟨.n, e, h⟩) (fun o _ r e h => Wr.rec (motive := fun _ => OR) (fun f => f call r e h) (fO F nt ops o)) l
theorem aGs {w : Wr} {call : aG} {rest : Env → H → OR} {e : Env} {h : H} : Wr.rec (motive := fun _ => OR) (fun f => f call rest e h) w = w.f call rest e h := by cases w; rfl
theorem aCr {nt : Nat} {call : aG} {ops : List Oper} : ∀ {l : List Oper}, aDu F nt call ops l = iD F nt call ops l
 | [] => rfl
 | o :: l => by
   funext e h;show Wr.rec (motive := fun _ => OR) (fun f => f call (aDu F nt call ops l) e h) (fO F nt ops o) = dS F nt call ops (iD F nt call ops l) o e h;rw [aGs, aGX, aCr]
def fI (nt : Nat) (ops : List Oper) (i : Nat) : Wr := Option.rec (motive := fun _ => Wr) ⟨aDt⟩ (fun o => fO F nt ops o) (drp i ops).head?
theorem aGY {nt : Nat} {ops : List Oper} {i : Nat} {call : aG} {rest : Env → H → OR} {e : Env} {h : H} : (fI F nt ops i).f call rest e h = ob (drp i ops).head? fun o => dS F nt call ops rest o e h := by
 unfold fI;cases (drp i ops).head? with
 | none => rfl
 | some o => exact aGX F
def fB (nt : Nat) (call : aG) (ops : List Oper) (l : List (Nat × List Nat)) : Env → H → OR :=
 List.rec (motive := fun _ => Env → H → OR) (fun e h => some ⟨.n, e, h⟩) (fun p _ r e h => Wr.rec (motive := fun _ => OR) (fun f => f call (fun e h => again F ops e h (r e h) p.2) e h) (fI F nt ops p.1)) l
theorem aGZ {nt : Nat} {call : aG} {ops : List Oper} : ∀ {l : List (Nat × List Nat)}, fB F nt call ops l = qY F nt call ops l
 | [] => rfl
 | p :: l => by
   funext e h;show Wr.rec (motive := fun _ => OR) (fun f => f call (fun e h => again F ops e h (fB F nt call ops l e h) p.2) e h) (fI F nt ops p.1) = ob (drp p.1 ops).head? fun o => dS F nt call ops (fun e h => again F ops e h (qY F nt call ops l e h) p.2) o e h;rw [aGs, aGY, aGZ]
def fLf (call : aG) (r : Env → H → OR) (e : Env) (h : H) (f : aG → (Env → H → OR) → Env → H → OR) : OR := H.rec (motive := fun _ => OR) (fun a n _ l => f call r e ⟨a, n, n, l⟩) h
def fA (nt : Nat) (call : aG) (ops : List Oper) (b : Nat) (k : Env → H → OR) (l : List Nat) : Env → H → OR :=
 List.rec (motive := fun _ => Env → H → OR) (fun e h => k e (h.back b)) (fun i _ r e h => Wr.rec (motive := fun _ => OR) (fLf call r e h) (fI F nt ops i)) l
theorem aG0 {nt b : Nat} {call : aG} {ops : List Oper} {k : Env → H → OR} : ∀ {l : List Nat}, fA F nt call ops b k l = nM F nt call ops b k l
 | [] => rfl
 | i :: l => by
   funext e h;show Wr.rec (motive := fun _ => OR) (fLf call (fA F nt call ops b k l) e h) (fI F nt ops i) = ob (drp i ops).head? fun o => dS F nt call ops (nM F nt call ops b k l) o e h.lift;have e1 : (Wr.rec (motive := fun _ => OR) (fLf call (fA F nt call ops b k l) e h) (fI F nt ops i) : OR) = Wr.rec (motive := fun _ => OR) (fun f => f call (fA F nt call ops b k l) e h.lift) (fI F nt ops i) := (by cases h; rfl);rw [e1, aGs, aGY, aG0]
structure Wc where
 f : aM → Env → H → OR
def wO (_ : aM) (_ : Env) (_ : H) : OR := none
def fx1 (k : SV → OR) (x : SV) (r : List SV) : OR := List.rec (motive := fun _ => OR) (k x) (fun _ _ _ => none) r
def fx2 (k : SV → OR) (l : List SV) : OR := List.rec (motive := fun _ => OR) none (fun x r _ => fx1 k x r) l
def fx3 (k : SV → OR) (g : Bool) (l : List SV) : OR := Bool.rec (motive := fun _ => OR) (fx2 k l) none g
def onR (k : SV → OR) (v : AV) : OR := AV.rec (motive := fun _ => OR) (fx3 k) (fun _ => none) v
structure Wfn where
 f : aM → List AV → H → OV
def fN1 (ex : aM) (G : Func) (c : Code) (fn nt : Nat) (h : H) (e : Env) : OV := Option.rec (motive := fun _ => OV) none (leave F G) (ex false nt fn c e h)
def fN (G : Func) (c : Code) (fn nt : Nat) (e0 : Env) (ex : aM) (args : List AV) (h : H) : OV := Option.rec (motive := fun _ => OV) none (fN1 F ex G c fn nt h) (sS nt args 0 e0)
def fPr (g : List AV → Option AV) (_ : aM) (args : List AV) (h : H) : OV := onO (rY h) (g args)
def noF (_ : aM) (_ : List AV) (_ : H) : OV := none
def fPh (g : H → List AV → Option AV) (f : aM → List AV → H → OV) (ex : aM) (args : List AV) (h : H) : OV := Option.rec (motive := fun _ => OV) (f ex args h) (fun v => some (v, h)) (g h args)
def fH (fn : Nat) (f : aM → List AV → H → OV) : Wfn := Option.rec (motive := fun _ => Wfn) ⟨f⟩ (fun g => ⟨fPh g f⟩) (F.ph fn)
def fF (fn : Nat) : Wfn := Option.rec (motive := fun _ => Wfn) ⟨noF⟩ (fun G => Option.rec (motive := fun _ => Wfn) ⟨noF⟩ (fun c => Option.rec (motive := fun _ => Wfn) (fH F fn (fN F G c fn G.ntmps (fill G.ntmps 0 .lf))) (fun g => ⟨fPr g⟩) (F.pr fn)) G.body) (F.P.funcs[fn]?)
def fCF (ex : aM) (args : List AV) (h : H) (fn : Nat) (bQ : List (Nat × Nat)) : OV := Wfn.rec (motive := fun _ => OV) (fun f => f ex (app args (iE bQ)) h) (fF F fn)
theorem aE4 {ex : aM} {args : List AV} {h : H} {fn : Nat} {bQ : List (Nat × Nat)} : fCF F ex args h fn bQ = fJ F ex fn (app args (iE bQ)) h := by
 unfold fCF fF fJ;cases F.P.funcs[fn]? with
 | none => rfl
 | some G =>
   show Wfn.rec (motive := fun _ => OV) (fun f => f ex (app args (iE bQ)) h) (Option.rec (motive := fun _ => Wfn) ⟨noF⟩ (fun c => Option.rec (motive := fun _ => Wfn) (fH F fn (fN F G c fn G.ntmps (fill G.ntmps 0 .lf))) (fun g => ⟨fPr g⟩) (F.pr fn)) G.body) = ob G.body fun c => Option.rec (motive := fun _ => Option VH) (uZ F ex G c fn (app args (iE bQ)) h) (fun g => ob (g (app args (iE bQ))) fun v => some (v, h)) (F.pr fn);cases G.body with
   | none => rfl
   | some c =>
     show Wfn.rec (motive := fun _ => OV) (fun f => f ex (app args (iE bQ)) h) (Option.rec (motive := fun _ => Wfn) (fH F fn (fN F G c fn G.ntmps (fill G.ntmps 0 .lf))) (fun g => ⟨fPr g⟩) (F.pr fn)) = Option.rec (motive := fun _ => Option VH) (uZ F ex G c fn (app args (iE bQ)) h) (fun g => ob (g (app args (iE bQ))) fun v => some (v, h)) (F.pr fn);cases F.pr fn with
     | some g => rfl
     | none =>
       show Wfn.rec (motive := fun _ => OV) (fun f => f ex (app args (iE bQ)) h) (fH F fn (fN F G c fn G.ntmps (fill G.ntmps 0 .lf))) = uZ F ex G c fn (app args (iE bQ)) h;unfold fH uZ;cases F.ph fn <;> rfl
def aLi (ex : aM) (args : List AV) (h : H) (s : SV) : OV := SV.rec (motive := fun _ => OV) none (fun _ => none) (fun _ _ => none) (fun _ => none) none (fun _ _ => none) none (fun _ _ _ _ => none) (fun _ => none) none (fCF F ex args h) (fun l => zF ex l args h) s
def fCW (ex : aM) (f : AV) (args : List AV) (h : H) : OV := onV (aLi F ex args h) f
theorem aBl {ex : aM} : fCW F ex = bG F ex := by
 funext f args h;show one f _ = one f _;congr 1;funext s;cases s <;> first | rfl | exact aE4 F
def aLj (ex : aM) (q : Bool) (nt fn : Nat) (c : Code) (r : R) (x : Ex) (e : Env) (h : H) : OR := Ex.rec (motive := fun _ => OR) (ex q nt fn c e h) (fun _ => some r) (some r) x
def aDv (ex : aM) (q : Bool) (nt fn : Nat) (c : Code) (r : R) : OR := R.rec (motive := fun _ => OR) (fun x e h => aLj ex q nt fn c r x e h) r
def fSq (q : Bool) (nt fn : Nat) (a b : Code) (ex : aM) (e : Env) (h : H) : OR := Option.rec (motive := fun _ => OR) none (aDv ex q nt fn b) (ex q nt fn a e h)
theorem aCs {ex : aM} {q : Bool} {nt fn : Nat} {c : Code} : aDv ex q nt fn c = nN ex q nt fn c := by
 funext r;obtain ⟨x, e, h⟩ := r;cases x <;> rfl
def aLk (q : Bool) (nt fn : Nat) (a b : Code) (ex : aM) (e : Env) (h : H) (x : Bool) : OR := Bool.rec (motive := fun _ => OR) (ex q nt fn b e h) (ex q nt fn a e h) x
def aGt (q : Bool) (nt fn : Nat) (a b : Code) (ex : aM) (e : Env) (h : H) (s : SV) : OR := SV.rec (motive := fun _ => OR) none (aLk q nt fn a b ex e h) (fun _ _ => none) (fun _ => none) none (fun _ _ => none) none (fun _ _ _ _ => none) (fun _ => none) none (fun _ _ => none) (fun _ => none) s
def fCd (q : Bool) (nt fn : Nat) (g : Operand) (a b : Code) (ex : aM) (e : Env) (h : H) : OR := Option.rec (motive := fun _ => OR) none (onR (aGt q nt fn a b ex e h)) (ev e g)
def fBl (q : Bool) (nt fn id : Nat) (a : Code) (ex : aM) (e : Env) (h : H) : OR := Option.rec (motive := fun _ => OR) none (vC id) (ex q nt fn a e h)
def fD (nt : Nat) (ops : List Oper) (p : List Nat × List (Nat × List Nat)) (ex : aM) (e : Env) (h : H) : OR := fV (H.bar h) fun b => fA F nt (fCW F ex) ops b (fB F nt (fCW F ex) ops p.2) p.1 e h
def fRg (nt : Nat) (ops : List Oper) (ex : aM) (e : Env) (h : H) : OR := aDu F nt (fCW F ex) ops ops e h
def fC (q : Bool) (nt fn : Nat) (c : Code) : Wc :=
 match c with
 | .region id ops dr => cb dr (Option.rec (motive := fun _ => Wc) ⟨wO⟩ (fun p => cb (kY F ops p) ⟨fD F nt ops.toList p⟩ ⟨wO⟩) (F.pl fn id)) ⟨fRg F nt ops.toList⟩
 | .seq a b => ⟨fSq q nt fn a b⟩
 | .cond g a b => ⟨fCd q nt fn g a b⟩
 | .block id a => ⟨fBl q nt fn id a⟩
 | .loop a => ⟨fSq q nt fn a (.loop a)⟩
 | c => ⟨fun ex e h => mQ F ex q nt fn c e h⟩
def aGu (ex : aM) (q : Bool) (nt fn : Nat) (c : Code) (e : Env) (h : H) : OR := Wc.rec (motive := fun _ => OR) (fun f => f ex e h) (fC F q nt fn c)
theorem aIh {ex : aM} : aGu F ex = mQ F ex := by
 funext q nt fn c e h;cases c with
 | region id ops dr =>
   cases dr with
   | false =>
     show aDu F nt (fCW F ex) ops.toList ops.toList e h = iD F nt (bG F ex) ops.toList ops.toList e h;rw [aCr, aBl]
   | true =>
     show Wc.rec (motive := fun _ => OR) (fun f => f ex e h) (Option.rec (motive := fun _ => Wc) ⟨wO⟩ (fun p => cb (kY F ops p) ⟨fD F nt ops.toList p⟩ ⟨wO⟩) (F.pl fn id)) = ob (F.pl fn id) fun p => qZ F nt (bG F ex) ops p e h;cases F.pl fn id with
     | none => rfl
     | some p =>
       show Wc.rec (motive := fun _ => OR) (fun f => f ex e h) (cb (kY F ops p) ⟨fD F nt ops.toList p⟩ ⟨wO⟩) = cb (kY F ops p) (fV h.bar fun b => nM F nt (bG F ex) ops.toList b (qY F nt (bG F ex) ops.toList p.2) p.1 e h) none;cases kY F ops p with
       | false => rfl
       | true =>
         show (fV (H.bar h) fun b => fA F nt (fCW F ex) ops.toList b (fB F nt (fCW F ex) ops.toList p.2) p.1 e h) = fV (H.bar h) fun b => nM F nt (bG F ex) ops.toList b (qY F nt (bG F ex) ops.toList p.2) p.1 e h;rw [aV, aV, aG0, aGZ, aBl]
 | seq a b =>
   show Option.rec (motive := fun _ => OR) none (aDv ex q nt fn b) (ex q nt fn a e h) = ob (ex q nt fn a e h) (nN ex q nt fn b);rw [aCs]; rfl
 | cond g a b =>
   show Option.rec (motive := fun _ => OR) none (onR (aGt q nt fn a b ex e h)) (ev e g) = ob (ev e g) fun v => one v (sU ex q nt fn a b e h);have e1 : aGt q nt fn a b ex e h = sU ex q nt fn a b e h := by
    funext s;cases s with
    | b x => cases x <;> rfl
    | _ => rfl
   rw [e1]; rfl
 | block id a => rfl
 | loop a =>
   show Option.rec (motive := fun _ => OR) none (aDv ex q nt fn (.loop a)) (ex q nt fn a e h) = ob (ex q nt fn a e h) (nN ex q nt fn (.loop a));rw [aCs]; rfl
 | _ => rfl
def zQ (m : Nat) : aM := Nat.rec (motive := fun _ => aM) (fun _ _ _ _ _ _ => none) (fun _ ex => aGu F ex) m
theorem aBm (m : Nat) : zQ F m = exec F m := by
 induction m with
 | zero => rfl
 | succ m ih =>
   show aGu F (zQ F m) = mQ F (exec F m);rw [ih, aIh]
def zS (m fn : Nat) (args : List AV) : OV := fCW F (zQ F m) (sc (.f fn [])) args ⟨.lf, 0, 0, .lf⟩
theorem aGv {m fn : Nat} {args : List AV} : zS F m fn args = zG F m fn args := by
 unfold zS zG;rw [aBm, aBl]
end
end
end Go.Proofs.YtcplpghmbahjdaaGreatDoor.E
namespace Go.Proofs.YtcplpghmbahjdaaGreatDoor.E
open Go Go.RowKit
open Ma Me K
def pl1 (x : SV) : Bool := match x with
 | .b _ => true
 | .i _ _ => true
 | .s _ => true
 | .np => true
 | .ns => true
 | .m _ => true
 | .nf => true
 | _ => false
def plL (l : List SV) : Bool := match l with | [] => true | x :: l => pl1 x && plL l
def plT (l : List (Bool × List SV)) : Bool := match l with | [] => true | p :: l => plL p.2 && plT l
def plA (v : AV) : Bool := match v with | .c _ l => plL l | .t l => plT l
section
variable {c d : Cx}
theorem aG1 (hw : d.w = c.w) {x : SV} {u : Value} (hp : pl1 x = true) (h : SR c x u) : SR d x u := by
 cases x with
 | m n => show Nm d.w u n; rw [hw]; exact h
 | b x => exact h
 | i k n => exact h
 | s l => exact h
 | np => exact h
 | ns => exact h
 | nf => exact h
 | _ => cases hp
theorem aDw (hw : d.w = c.w) : ∀ {l : List SV} {r : List Value}, plL l = true → CL c l r → CL d l r
 | [], [], _, _ => trivial
 | x :: l, v :: r, hp, h => by
   obtain ⟨h1, h2⟩ := (Bool.and_eq_true _ _).mp (show (pl1 x && plL l) = true from hp);exact ⟨aG1 hw h1 h.1, aDw hw h2 h.2⟩
theorem aG2 (hw : d.w = c.w) {g : Bool} {l : List SV} {v : Value} (hp : plL l = true) (h : VC c g l v) : VC d g l v := by
 cases g with
 | true => obtain ⟨cs, h1, h2⟩ := h; exact ⟨cs, h1, aDw hw hp h2⟩
 | false =>
   obtain ⟨x, h1, h2⟩ := h;subst h1;obtain ⟨h3, -⟩ := (Bool.and_eq_true _ _).mp (show (pl1 x && plL []) = true from hp);exact ⟨x, rfl, aG1 hw h3 h2⟩
theorem aG3 (hw : d.w = c.w) : ∀ {l : List (Bool × List SV)} {r : List Value}, plT l = true → TL c l r → TL d l r
 | [], [], _, _ => trivial
 | p :: l, v :: r, hp, h => by
   obtain ⟨h1, h2⟩ := (Bool.and_eq_true _ _).mp (show (plL p.2 && plT l) = true from hp);exact ⟨aG2 hw h1 h.1, aG3 hw h2 h.2⟩
theorem aG4 (hw : d.w = c.w) {v : AV} {u : Value} (hp : plA v = true) (h : VR c v u) : VR d v u := by
 cases v with
 | c g l => exact aG2 hw hp h
 | t l => obtain ⟨vs, h1, h2⟩ := h; exact ⟨vs, h1, aG3 hw hp h2⟩
def plV (l : List AV) : Bool := match l with | [] => true | p :: l => plA p && plV l
theorem aG5 (hw : d.w = c.w) : ∀ {l : List AV} {r : List Value}, plV l = true → VL c l r → VL d l r
 | [], [], _, _ => trivial
 | p :: l, v :: r, hp, h => by
   obtain ⟨h1, h2⟩ := (Bool.and_eq_true _ _).mp (show (plA p && plV l) = true from hp);exact ⟨aG4 hw h1 h.1, aG5 hw h2 h.2⟩
end
noncomputable def xV (ty : Nat) (l0 : List SV) : H := ⟨T.set ⟨ty, l0⟩ .lf 0, 1, 1, .lf⟩
theorem aGw {F : Cf} (hF : FOk F) (hm : F.P.follows .mixedOrders = true) {m fn ty n : Nat} {l0 : List SV} {rest : List AV} {v : AV} {h' : H} (hp : plL l0 = true) (hr : plV rest = true) (hv : plA v = true) (hx : fJ F (exec F m) fn (sc (.sl 0 0 n none) :: rest) (xV ty l0) = some (v, h')) (hne : l0 ≠ []) {c : Cx} {wb : World} {h : H} {k : Nat} {vs : List Value} (R : Rl c wb h) (hz : ∀ t, c.z t = F.P.cellsOf t) (hb : F.tb c.w) (hk : h.h.get k = some ⟨ty, l0⟩) (ha : VL c (sc (.sl k 0 n none) :: rest) vs) :
  Calls F.P fn vs.toArray c.w fun e w' => ∃ u, e = .returned u ∧ Q c.w w' ∧ VR ⟨c.n, c.k, c.r, w', c.z⟩ v u := by
 match vs, ha with
 | u0 :: vs, ha =>
   obtain ⟨ha1, ha2⟩ := ha;obtain ⟨hkk, cap, hc1, hc2, hc3, t, cs, fr, hc4, hc5⟩ := aH.1 ha1;obtain ⟨c0, h0⟩ : ∃ c0 : Cx, c0 = ⟨1, fun id => id = 0, fun _ => c.r k, c.w, c.z⟩ := ⟨_, rfl⟩
   have e1 : c0.w = c.w := (by rw [h0]);have e2 : c0.r 0 = c.r k := (by rw [h0]);have e3 : c0.k 0 := (by rw [h0]);have e4 : c0.z = c.z := (by rw [h0]);have hbl : Bl c0 ⟨ty, l0⟩ (c.r k) := by
    obtain ⟨row, tail, b1, b2, b3⟩ := (R.blk k _ hk).2 ⟨hkk, hne⟩;exact ⟨row, tail, by rw [e1]; exact b1, aDw e1 hp b2, b3⟩
   have hget : ∀ id b, (xV ty l0).h.get id = some b → id = 0 ∧ b = ⟨ty, l0⟩ := fun id b hg => by
    rcases T.get_set (show (T.set ⟨ty, l0⟩ (T.lf : T 5 B) 0).get id = some b from hg) with h1 | ⟨-, h2⟩
    ·exact h1
    ·rw [T.get_lf] at h2; cases h2
   have hlp : ∀ l p, (xV ty l0).l.get l = some p → False := fun l p hg => by
    have : (T.lf : T 5 Lp).get l = some p := hg;rw [T.get_lf] at this;cases this
   have R0 : Rl c0 c.w (xV ty l0) := by
    refine ⟨by rw [h0]; rfl, fun id q => ?_, by rw [e1]; exact Q.refl _, fun id b hg => ?_, fun i j b d hi hj _ _ hij => ?_, fun id b hg _ hbar => ?_, fun l p hl => (hlp l p hl).elim, fun i j p d hi => (hlp i p hi).elim⟩
    ·rw [h0] at q ⊢;have q : id = 0 := q;show id < 1;omega
    ·obtain ⟨h1, h2⟩ := hget id b hg;subst h1; subst h2;exact ⟨Nat.zero_lt_one, fun _ => by rw [e2]; exact hbl⟩
    ·exact absurd ((hget i b hi).1.trans (hget j d hj).1.symm) hij
    ·have h1 := (hget id b hg).1;have hbar : 1 ≤ id := hbar;omega
   have A0 : VL c0 (sc (.sl 0 0 n none) :: rest) (u0 :: vs) :=
    ⟨aH.2 ⟨e3, cap, hc1, by rw [e2]; exact hc2, hc3, t, cs, fr, by rw [e1, e2]; exact hc4, by rw [e4]; exact hc5⟩, aG5 e1 hr ha2⟩
   obtain ⟨-, hcr⟩ := nH hF (aBg hF hm m) hx R0 (fun t => by rw [e4]; exact hz t) hb A0;have hcr : Calls F.P fn (u0 :: vs).toArray c.w fun e w' => ∃ u d, e = .returned u ∧ d.w = w' ∧ Xt c0 d ∧ Rl d c.w h' ∧ VR d v u := by
    rw [← e1];rw [← e1] at hcr;exact hcr
   refine hcr.mono ?_;rintro e w' ⟨u, d, q1, q2, q3, q4, q5⟩;exact ⟨u, q1, q2 ▸ q4.q, aG4 (c := d) (d := ⟨c.n, c.k, c.r, w', c.z⟩) q2.symm hv q5⟩
end Go.Proofs.YtcplpghmbahjdaaGreatDoor.E
namespace Go.Proofs.YtcplpghmbahjdaaGreatDoor.E
open Go Go.RowKit
open Ma Me K
noncomputable def okV (v : AV) (r : OV) : Bool := match r with
 | some (.t [(false, [.i .i64 n]), (false, [.i .i64 e])], _) => (match v with
   | .t [(false, [.i .i64 a]), (false, [.i .i64 b])] => decide (n = a) && decide (e = b)
   | _ => false)
 | _ => false
theorem aKP {v : AV} {r : OV} (h : okV v r = true) : ∃ h', r = some (v, h') := by
 unfold okV at h;split at h
 ·split at h
  ·obtain ⟨h1, h2⟩ := (Bool.and_eq_true _ _).mp h;have h1 := of_decide_eq_true h1;have h2 := of_decide_eq_true h2;subst h1; subst h2;exact ⟨_, rfl⟩
  ·cases h
 ·cases h
noncomputable def aDx (F : Cf) (m fn : Nat) (args : List AV) (h : H) : OV := Wfn.rec (motive := fun _ => OV) (fun f => f (zQ F m) args h) (fF F fn)
theorem aIi {F : Cf} {m fn : Nat} {args : List AV} {h : H} : aDx F m fn args h = fJ F (exec F m) fn args h := by
 have e := aE4 (F := F) (ex := exec F m) (args := args) (h := h) (fn := fn) (bQ := []);unfold fCF at e;rw [show app args (iE []) = args from by rw [show iE [] = [] from rfl, kZ, List.append_nil]] at e;unfold aDx;rw [aBm];exact e
theorem aJ0 {F : Cf} {m fn : Nat} {args : List AV} {h : H} {v : AV} (hx : okV v (aDx F m fn args h) = true) : ∃ h', fJ F (exec F m) fn args h = some (v, h') := by
 rw [← aIi];exact aKP hx
theorem aIj {F : Cf} (hF : FOk F) (hm : F.P.follows .mixedOrders = true) {m fn : Nat} (hx : okB (zS F m fn []) = true) (w : World) (hb : F.tb w) :
  Calls F.P fn #[] w fun e w' => e = .returned (.bool true) ∧ Q w w' := by
 rw [aGv] at hx;unfold okB at hx;split at hx
 ·rename_i h' hc;refine (aCn hF hm hc w hb).mono ?_;rintro e w' ⟨u, d, h1, h2, h3, x, h4, h5⟩;injection h4 with h4;subst h4;rw [h1, show u = .bool true from h5];exact ⟨rfl, h3⟩
 ·cases hx
end Go.Proofs.YtcplpghmbahjdaaGreatDoor.E
