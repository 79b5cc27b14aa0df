import PyProof.Rows.All
import Wide.All
import OpenK.AllK
import Wide.FinOn
import KE.KCallOwn
import HandS.ForExc
import HandS.Gcd
import HandS.Wide
import HandS.Defaults
import HandS.ExcIs
import HandS.IsInst
import HandS.HeadEnd
import HandS.HeadHook2
import HandS.Head3
import HandS.MakeKwOnly
import HandS.MakeKw
import HandS.FStr
import HandS.CallSlots
import HandS.ForMost
import PyProof.FitsInt
import PyProof.Rows.StrDigitsNeg
import PySem.Challenge.RW_notesttells_k00_fractions
set_option Elab.async false
set_option linter.all false
set_option maxRecDepth 100000
set_option maxHeartbeats 4000000
namespace Tk
open PySem PySem.Spec PyProof.Rows L2

section
variable {X : Cx} {CXx : CXT} {k : Nat} {f C : Addr} {fd : FuncData} {ps : List Str} {sp : Sp} {E : XK}

/-- a def runs at any depth of this body -/
theorem runAt {A' : Around} {pins : List (Addr × Obj)} {σ : L2.St} {H : Hp} {s : Shared} {Q : VK} {us ds : List Value} {vs dvs : List V}
    (F : FnOk X.prog X.w X.K X.mg X.base CXx k f fd ps sp) (hr : Room k A') (he : Env0 X.prog X.w X.K X.mg X.base A' X.stack s H)
    (hb : Binds X.K fd ps ds) (hd : Vals dvs ds) (hx : Passes CXx X E) (I : Inv X pins σ H s) (r : Vals vs us) (h : sp (vs ++ dvs) H Q E) :
    wpAny (model X.prog X.w) A' (call (.ref f) us) (EP X pins σ Q) X.xe s := by
  have r2 := r.append hd
  have hl := r2.length.symm.trans (F.len _ _ _ _ h)
  refine wpAny_call (codeAny_mono (F.run A' X.stack s H ⟨us, []⟩ (us ++ ds) (vs ++ dvs) Q E hr he (hb s us I.kIn hl) r2 h) ?_)
  intro res s' z
  cases res with
  | error e => exact hx _ _ _ _ _ _ I z
  | ok fl => cases fl with
    | ret u => exact I.after z
    | _ => exact False.elim z

/-- what an operator of a class's own asks: both instances of it, the def's promise -/
def rOwn (C : Addr) (sp : Sp) (E : XK) : R2 := fun x y H Q => ∃ a b dx dy fs gs, x = .ref a ∧ y = .ref b ∧ H a = some (.ins C dx fs) ∧ H b = some (.ins C dy gs) ∧ sp [x, y] H Q E

theorem notNI {v : V} {u : Value} (r : RelV v u) : u ≠ .notImplemented := by
  intro e; subst e
  cases v with
  | non => cases (show Value.notImplemented = Value.none from r)
  | bl b => cases (show Value.notImplemented = Value.bool b from r)
  | int i => obtain ⟨t, e⟩ := (show ∃ t, Value.notImplemented = Value.int i t from r); cases e
  | str x => obtain ⟨t, e⟩ := (show ∃ t, Value.notImplemented = Value.str x t from r); cases e
  | byt b => obtain ⟨t, e⟩ := (show ∃ t, Value.notImplemented = Value.bytes b t from r); cases e
  | flt b => obtain ⟨t, e⟩ := (show ∃ t, Value.notImplemented = Value.float b t from r); cases e
  | ref a => cases (show Value.notImplemented = Value.ref a from r)
  | ty n => cases (show Value.notImplemented = Value.type n from r)
theorem cmpBack_of {Q : Value → Shared → Prop} {u : Value} {s : Shared} (n : u ≠ .notImplemented) (q : Q u s) : PySem.W.CmpBack Q u s := by
  cases u <;> first | exact absurd rfl n | exact q
theorem inst_of {pins : List (Addr × Obj)} {σ : L2.St} {H : Hp} {s : Shared} (I : Inv X pins σ H s) {a dx : Addr} {fs : List (Str × V)} (e : H a = some (.ins C dx fs)) : ∃ od, PySem.W.InstAt s.heap a (PySem.W.instObj C dx) C (some od) := by
  obtain ⟨mA, O, _⟩ := ins_get I.hok e
  obtain ⟨od, J, _⟩ := O.look
  exact ⟨od, J⟩

/-- a + b and the like by the class's own __add__ and the like -/
theorem op_own {op : Operator} (F : FnOk X.prog X.w X.K X.mg X.base CXx k f fd ps sp) (hr : Room k X.A) (hb : Binds X.K fd ps []) (hx : Passes CXx X E)
    (hc : PySem.W.selfFirst X.K C = true) (hs : PySem.W.findIn X.K (.ref C) (PySem.dunder op.info.2) = some (some (.ref f))) (hf : PySem.W.isFn X.K (.ref f) = true) :
    OpR X (binaryOp op) (rOwn C sp E) := by
  intro pins s σ H x y v u Q I rx ry h
  obtain ⟨a, b, dx, dy, fs, gs, rfl, rfl, ea, eb, h⟩ := h
  cases rx; cases ry
  obtain ⟨od, J⟩ := inst_of I ea
  obtain ⟨od', J'⟩ := inst_of I eb
  have KX := I.kIn
  obtain ⟨cd, hcd, hm⟩ := PySem.W.any_some hc
  obtain ⟨rest, hm⟩ : ∃ rest, cd.mro = .ref C :: rest := by
    cases q : cd.mro with
    | nil => rw [q] at hm; cases hm
    | cons z r => rw [q] at hm; rw [List.head?_cons] at hm; exact ⟨r, by rw [Option.some.inj (eq_of_beq hm)]⟩
  unfold binaryOp
  refine wpAny_holding (wpAny_bind ?_)
  unfold binaryOp1
  refine wpAny_bind (J.type.here (wpAny_bind (J'.type.here (wpAny_bind ((PySem.W.fills_K KX hcd hm hs).here ?_)))))
  simp only [beq_self_eq_true, if_true]
  refine wpAny_bind (wpAny_pure ?_)
  simp only [Bool.and_false, Bool.false_eq_true, if_false, Bool.false_and]
  refine wpAny_bind (wpAny_pure ?_)
  simp only [Bool.false_eq_true, if_false]
  refine wpAny_bind (m := tryMethod (.ref a) _ (.ref b)) ?_
  unfold tryMethod
  refine wpAny_bind (PySem.W.special_fn KX J hs (beq_iff_eq.mp hf) (wpAny_mono (runAt (vs := [.ref a, .ref b]) (dvs := []) F hr I.env0 hb .nil hx I (.cons rfl (.cons rfl .nil)) h) (fun r s' hv => ?_) fun _ _ e => e))
  obtain ⟨v', H', I', rv, q⟩ := hv
  have hn := notNI rv
  cases r <;> first | exact absurd rfl hn | exact wpAny_pure (wpAny_pure (wpAny_pure ⟨v', H', I', rv, q⟩))

/-- a == b by the class's own __eq__; b is of the same class -/
theorem rc_own {op : CmpOp} (F : FnOk X.prog X.w X.K X.mg X.base CXx k f fd ps sp) (hr : Room k X.A) (hb : Binds X.K fd ps []) (hx : Passes CXx X E)
    (hs : PySem.W.findIn X.K (.ref C) (cmpInfo op).2.1 = some (some (.ref f))) (hf : PySem.W.isFn X.K (.ref f) = true) :
    OpR X (richCompare op) (rOwn C sp E) := by
  intro pins s σ H x y v u Q I rx ry h
  obtain ⟨a, b, dx, dy, fs, gs, rfl, rfl, ea, eb, h⟩ := h
  cases rx; cases ry
  obtain ⟨od, J⟩ := inst_of I ea
  obtain ⟨od', J'⟩ := inst_of I eb
  have KX := I.kIn
  have one : wpAny (model X.prog X.w) X.A (tryCompare (.ref a) (cmpInfo op).2.1 (.ref b)) (fun r s' => ∃ v, r = some v ∧ EP X pins σ Q v s') X.xe s := by
    unfold tryCompare
    refine wpAny_bind (PySem.W.ifBound_K KX J hs hf (wpAny_mono (runAt (vs := [.ref a, .ref b]) (dvs := []) F hr I.env0 hb .nil hx I (.cons rfl (.cons rfl .nil)) h) (fun r s' hv => ?_) fun _ _ e => e))
    obtain ⟨v', H', I', rv, q⟩ := hv
    have hn := notNI rv
    cases r <;> first | exact absurd rfl hn | exact wpAny_pure ⟨_, rfl, v', H', I', rv, q⟩
  unfold richCompare
  simp only [oneThing_ref]
  refine wpAny_holding (wpAny_bind (wpAny_cRoomFor hr.units0 ?_))
  refine wpAny_bind (J.type.here (wpAny_bind (J'.type.here ?_)))
  split
  · rename_i q
    exact absurd q (by simp)
  · refine wpAny_bind (wpAny_pure ?_)
    simp only [Bool.false_eq_true, if_false]
    refine wpAny_bind (wpAny_mono one (fun r s' z => ?_) fun _ _ e => e)
    obtain ⟨v, rfl, hq⟩ := z
    exact wpAny_pure hq
theorem op_eqOwn (F : FnOk X.prog X.w X.K X.mg X.base CXx k f fd ps sp) (hr : Room k X.A) (hb : Binds X.K fd ps []) (hx : Passes CXx X E)
    (hs : PySem.W.findIn X.K (.ref C) "__eq__" = some (some (.ref f))) (hf : PySem.W.isFn X.K (.ref f) = true) : OpR X (compareOp .Eq) (rOwn C sp E) :=
  rc_own (op := .Eq) F hr hb hx hs hf

/-- str(x) by the class's own __str__, which hands back a text -/
def rStrOwn (C : Addr) (sp : Sp) (E : XK) : List V → Hp → VK → Prop := fun xs H Q => ∃ a dx fs, xs = [.ref a] ∧ H a = some (.ins C dx fs) ∧ sp [.ref a] H (fun v H' => (∃ z, v = .str z) ∧ Q v H') E
theorem call_strOwn (F : FnOk X.prog X.w X.K X.mg X.base CXx k f fd ps sp) (hr : Room (k + 2) X.A) (hb : Binds X.K fd ps []) (hx : Passes CXx X E)
    (hs : PySem.W.findIn X.K (.ref C) "__str__" = some (some (.ref f))) (hf : PySem.W.isFn X.K (.ref f) = true) : CallR X (.type "str") (rStrOwn C sp E) := by
  intro pins s σ H xs us Q I r h
  obtain ⟨a, dx, fs, rfl, ea, h⟩ := h
  obtain ⟨u, rfl, ru⟩ := vals1 r
  cases ru
  obtain ⟨od, J⟩ := inst_of I ea
  have r1 : Room (k + 1) X.A.in1 := hr.in1
  have r2 : Room k X.A.in1.in1 := r1.in1
  refine PySem.W.kso_call r2.units0 I.kIn J hs hf (wpAny_mono (runAt (vs := [.ref a]) (dvs := []) F r2 I.env0.in1.in1 hb .nil hx I (.cons rfl .nil) h) (fun r s' hv => ?_) fun _ _ e => e)
  obtain ⟨v', H', I', rv, ⟨z, rfl⟩, q⟩ := hv
  obtain ⟨t, rfl⟩ := rv
  exact ⟨.str z, H', I', ⟨t, rfl⟩, q⟩
end
end Tk

set_option Elab.async false
set_option linter.all false
set_option maxRecDepth 100000
set_option maxHeartbeats 4000000
/-! Heaps that grow: I is the part that never changes again, H all of it; ms may change. -/
namespace Tk
open PySem PySem.Spec PyProof.Rows L2

structure Gr (ms : List Addr) (I H I' H' : Hp) : Prop where
  ii : Same I I'
  ih : Same I' H'
  hh : ∀ a o, a ∉ ms → H a = some o → H' a = some o
  th : ∀ a o, H a = some o → ∃ o', H' a = some o'
  nw : ∀ a o, I a = none → H a = some o → I' a = none
section
variable {ms ns : List Addr} {I H I' H' I'' H'' : Hp} {p m : Addr} {o o' : HO}
theorem sNew (h : H p = none) : Same H (upd H p o) := fun a u e => by rw [upd_ne (ne_of_none e h)]; exact e
theorem sBoth (s : Same I H) : Same (upd I p o) (upd H p o) := fun a u e => by
  by_cases q : a = p
  · subst q; rw [upd_same] at e ⊢; exact e
  · rw [upd_ne q] at e ⊢; exact s a u e
theorem sUnder (s : Same I H) (h : I p = none) : Same I (upd H p o) := fun a u e => by
  rw [upd_ne (ne_of_none e h)]; exact s a u e
theorem sNone (s : Same I H) (h : H p = none) : I p = none := s.free h
theorem Gr.refl (s : Same I H) : Gr ms I H I H := ⟨Same.refl I, s, fun _ _ _ e => e, fun _ o e => ⟨o, e⟩, fun _ _ e _ => e⟩
theorem Gr.trans (a : Gr ms I H I' H') (b : Gr ms I' H' I'' H'') : Gr ms I H I'' H'' :=
  ⟨a.ii.trans b.ii, b.ih, fun x o n e => b.hh x o n (a.hh x o n e), fun x o e => by obtain ⟨u, q⟩ := a.th x o e; exact b.th x u q,
    fun x o e1 e2 => by obtain ⟨u, q⟩ := a.th x o e2; exact b.nw x u (a.nw x o e1 e2) q⟩
theorem Gr.mono (a : Gr ms I H I' H') (h : ∀ x ∈ ms, x ∈ ns) : Gr ns I H I' H' := ⟨a.ii, a.ih, fun x o n e => a.hh x o (fun z => n (h x z)) e, a.th, a.nw⟩
theorem Gr.nil (a : Gr [] I H I' H') : Gr ms I H I' H' := a.mono (fun _ z => nomatch z)
/-- a new thing that stays as it is -/
theorem Gr.new (s : Same I H) (h : H p = none) : Gr ms I H (upd I p o) (upd H p o) :=
  ⟨sNew (s.free h), sBoth s, fun _ _ _ e => sNew h _ _ e, fun _ u e => ⟨u, sNew h _ _ e⟩, fun a u e1 e2 => by rw [upd_ne (ne_of_none e2 h)]; exact e1⟩
/-- a new thing that may change -/
theorem Gr.tmp (s : Same I H) (h : H p = none) : Gr ms I H I (upd H p o) :=
  ⟨Same.refl I, sUnder s (s.free h), fun _ _ _ e => sNew h _ _ e, fun _ u e => ⟨u, sNew h _ _ e⟩, fun a u e1 _ => e1⟩
/-- a change -/
theorem Gr.mut (s : Same I H) (hi : I m = none) (hm : m ∈ ms) : Gr ms I H I (upd H m o) :=
  ⟨Same.refl I, sUnder s hi, fun a u n e => by rw [upd_ne (fun (z : a = m) => n (z ▸ hm))]; exact e,
    fun a u e => by
      by_cases q : a = m
      · subst q; exact ⟨_, upd_same⟩
      · exact ⟨u, by rw [upd_ne q]; exact e⟩, fun a u e1 _ => e1⟩
/-- what was new and may have changed stays from here on as it is -/
theorem Gr.frz (g : Gr (m :: ms) I H I' H') (s : Same I H) (h : H m = none) (e : H' m = some o) : Gr ms I H (upd I' m o) H' := by
  have h1 : ∀ a u, H a = some u → a ≠ m := fun a u q => ne_of_none q h
  refine ⟨fun a u q => ?_, fun a u q => ?_, fun a u n q => ?_, g.th, fun a u e1 e2 => ?_⟩
  · rw [upd_ne (h1 a u (s a u q))]; exact g.ii a u q
  · by_cases z : a = m
    · subst z; rw [upd_same] at q; rw [← q]; exact e
    · rw [upd_ne z] at q; exact g.ih a u q
  · exact g.hh a u (fun z => (List.mem_cons.mp z).elim (h1 a u q) n) q
  · rw [upd_ne (h1 a u e2)]; exact g.nw a u e1 e2
/-- a mutable thing that is not in I stays out of it -/
theorem Gr.out (g : Gr ms I H I' H') (hi : I m = none) (h : H m = some o) : I' m = none := g.nw m o hi h
theorem Gr.at (g : Gr ms I H I' H') (h : H m = some o) (n : m ∉ ms) : H' m = some o := g.hh m o n h
end

/-! What a value is, by the part that stays. -/
abbrev Rp (α : Type) := Hp → V → α → Prop
class Mono {α : Type} (R : Rp α) : Prop where
  up : ∀ {H H' : Hp} {v : V} {x : α}, Same H H' → R H v x → R H' v x
section
variable {α β : Type}
def iI : Rp Int := fun _ v i => v = .int i
def iN : Rp Nat := fun _ v i => v = .int (i : Int)
def iB : Rp Bool := fun _ v b => v = .bl b
def iS : Rp Str := fun _ v z => v = .str z
/-- a list, a tuple of things of one kind -/
inductive All2 (R : V → α → Prop) : List V → List α → Prop where
  | nil : All2 R [] []
  | cons {v : V} {x : α} {vs : List V} {xs : List α} (h : R v x) (t : All2 R vs xs) : All2 R (v :: vs) (x :: xs)
def iL (R : Rp α) : Rp (List α) := fun H v xs => ∃ a vs, v = .ref a ∧ H a = some (.lst vs) ∧ All2 (R H) vs xs
def iT (R : Rp α) : Rp (List α) := fun H v xs => ∃ a vs, v = .ref a ∧ H a = some (.tup vs) ∧ All2 (R H) vs xs
def iP (R : Rp α) (S : Rp β) : Rp (α × β) := fun H v p => ∃ a x y, v = .ref a ∧ H a = some (.tup [x, y]) ∧ R H x p.1 ∧ S H y p.2
theorem All2.mono {R S : V → α → Prop} (h : ∀ v x, R v x → S v x) : ∀ {vs : List V} {xs : List α}, All2 R vs xs → All2 S vs xs
  | _, _, .nil => .nil
  | _, _, .cons a t => .cons (h _ _ a) (t.mono h)
theorem All2.len {R : V → α → Prop} : ∀ {vs : List V} {xs : List α}, All2 R vs xs → vs.length = xs.length
  | _, _, .nil => rfl
  | _, _, .cons _ t => congrArg Nat.succ t.len
theorem All2.get {R : V → α → Prop} : ∀ {vs : List V} {xs : List α} {i : Nat} {v : V}, All2 R vs xs → vs[i]? = some v → ∃ x, xs[i]? = some x ∧ R v x
  | _, _, _, _, .nil, e => by simp at e
  | _, _, 0, _, .cons a t, e => by simp at e; subst e; exact ⟨_, rfl, a⟩
  | _, _, i + 1, v, .cons a t, e => by
    obtain ⟨x, h1, h2⟩ := All2.get (i := i) (v := v) t (by simpa using e)
    exact ⟨x, by simpa using h1, h2⟩
theorem All2.get' {R : V → α → Prop} : ∀ {vs : List V} {xs : List α} {i : Nat} {x : α}, All2 R vs xs → xs[i]? = some x → ∃ v, vs[i]? = some v ∧ R v x
  | _, _, _, _, .nil, e => by simp at e
  | _, _, 0, _, .cons a t, e => by simp at e; subst e; exact ⟨_, rfl, a⟩
  | _, _, i + 1, v, .cons a t, e => by
    obtain ⟨x, h1, h2⟩ := All2.get' (i := i) (x := v) t (by simpa using e)
    exact ⟨x, by simpa using h1, h2⟩
theorem All2.append {R : V → α → Prop} : ∀ {vs ws : List V} {xs ys : List α}, All2 R vs xs → All2 R ws ys → All2 R (vs ++ ws) (xs ++ ys)
  | _, _, _, _, .nil, h => h
  | _, _, _, _, .cons a t, h => .cons a (t.append h)
theorem All2.set {R : V → α → Prop} : ∀ {vs : List V} {xs : List α} (i : Nat) {v : V} {x : α}, All2 R vs xs → R v x → All2 R (vs.set i v) (xs.set i x)
  | _, _, _, _, _, .nil, _ => .nil
  | _, _, 0, _, _, .cons _ t, h => .cons h t
  | _, _, i + 1, _, _, .cons a t, h => .cons a (t.set i h)
theorem All2.ints : ∀ {xs : List Int} {vs : List V}, All2 (fun v x => v = V.int x) vs xs → vs = xs.map V.int
  | _, _, .nil => rfl
  | _, _, .cons a t => by rw [a, t.ints]; rfl
theorem All2.ofInts {H : Hp} : ∀ (xs : List Int), All2 (iI H) (xs.map V.int) xs
  | [] => .nil
  | x :: r => .cons rfl (All2.ofInts r)
instance : Mono iI := ⟨fun _ h => h⟩
instance : Mono iN := ⟨fun _ h => h⟩
instance : Mono iB := ⟨fun _ h => h⟩
instance : Mono iS := ⟨fun _ h => h⟩
instance {R : Rp α} [m : Mono R] : Mono (iL R) := ⟨fun s ⟨a, vs, e, h, t⟩ => ⟨a, vs, e, s _ _ h, t.mono fun _ _ => m.up s⟩⟩
instance {R : Rp α} [m : Mono R] : Mono (iT R) := ⟨fun s ⟨a, vs, e, h, t⟩ => ⟨a, vs, e, s _ _ h, t.mono fun _ _ => m.up s⟩⟩
instance {R : Rp α} {S : Rp β} [m : Mono R] [n : Mono S] : Mono (iP R S) := ⟨fun s ⟨a, x, y, e, h, p, q⟩ => ⟨a, x, y, e, s _ _ h, m.up s p, n.up s q⟩⟩
theorem up {R : Rp α} [m : Mono R] {H H' : Hp} {v : V} {x : α} (s : Same H H') (h : R H v x) : R H' v x := m.up s h
end
end Tk

set_option Elab.async false
set_option linter.all false
set_option maxRecDepth 100000
set_option maxHeartbeats 4000000
/-! The head: what the top leaves, told by one Bool and the defs' own texts. -/
namespace Tk
open PySem PySem.Spec PyProof.Rows L2
def obsY (ex : PySem.W.Frag → Bool) (fn : List He.DefD) (K : PySem.W.Frag) : He.AlD := (ex K && fn.all fun d => d.ok K, fn.map fun d => He.fnW K d.at_)
def SaysY (ex : PySem.W.Frag → Bool) (fn : List He.DefD) (K : PySem.W.Frag) : Prop := obsY ex fn K = He.valD fn
def obsYG (n : Nat) (ex : PySem.W.Frag → Bool) (fn : List He.DefD) (g : Addr → Option Obj) : He.AlD := obsY ex fn (He.frG g (He.asD g n))
def hookY (n : Nat) (ex : PySem.W.Frag → Bool) (fn : List He.DefD) : PySem.W.Hook :=
  { α := He.AlD, obs := fun s => obsYG n ex fn s.heap.get?, val := fun _ => He.valD fn, says := fun _ h => ∃ K : PySem.W.Frag, K.In h ∧ SaysY ex fn K,
    of := fun _ _ e => ⟨_, He.frG_in, e⟩, keeps := fun _ _ _ z k => by obtain ⟨K, hK, c⟩ := z; exact ⟨K, PySem.W.Frag.In.keeps hK k, c⟩ }
theorem obsYG_eq {n : Nat} {ex : PySem.W.Frag → Bool} {fn : List He.DefD} {g : Addr → Option Obj} {s : Shared} (h : ∀ a, g a = s.heap.get? a) : obsYG n ex fn g = (hookY n ex fn).obs s := by
  rw [show g = s.heap.get? from funext h]; rfl
section
variable {ex : PySem.W.Frag → Bool} {fn : List He.DefD} {K : PySem.W.Frag}
theorem SaysY.more (c : SaysY ex fn K) : ex K = true := (He.ba (show (ex K && fn.all fun d => d.ok K) = true from congrArg (fun z : He.AlD => z.1) c)).1
theorem SaysY.get (c : SaysY ex fn K) (i : Nat) {d : He.DefD} (h : fn[i]? = some d := by rfl) : ∃ fd, FunD K d.name d.qual d.params d.body d.scope (d.dvs K) (d.kws K) (He.fAd K d.at_) fd := by
  have c2 := (He.ba (show (ex K && fn.all fun d => d.ok K) = true from congrArg (fun z : He.AlD => z.1) c)).2
  have e : fn.map (fun d => He.fnW K d.at_) = fn.map He.DefD.val := congrArg (fun z : He.AlD => z.2) c
  have e2 := congrArg (fun l : List He.FnW => l[i]?) e
  simp only [List.getElem?_map, h] at e2
  exact He.DefD.funD (Option.some.inj e2) (List.all_eq_true.mp c2 d (List.mem_of_getElem? h))
end
def blB (K : PySem.W.Frag) (x : Str) (id : String) : Bool := He.eqO (PySem.W.nsIn K mainGlobals x) (some (some (.builtin id)))
def instB (K : PySem.W.Frag) (x : Str) : Bool :=
  He.eqO (PySem.W.findIn K (.ref (He.ga K x)) "__class__") (some (some (.builtin "object.__class__"))) &&
  (He.eqO (PySem.W.specialIn K (.builtin "object.__class__") "__get__") (some (some (.builtin "getset_descriptor.__get__"))) &&
  (decide (PySem.W.takesIn K (.builtin "object.__class__") = some true) && decide (PySem.W.mroIn K (He.ga K x) (.type "object") = some true)))
def isEB (K : PySem.W.Frag) (x : Str) : Bool :=
  He.eqO (PySem.W.findIn K (.ref (He.ga K x)) "__getattribute__") (some (some (.builtin "BaseException.__getattribute__"))) &&
  (He.eqO (PySem.W.findIn K (.ref (He.ga K x)) "__getattr__") (some none) &&
  (decide (PySem.W.subIn K (.ref (He.ga K x)) (.type "BaseException") = some true) && (PySem.W.hasDictIn K (He.ga K x) && instB K x)))
section
variable {K : PySem.W.Frag} {h : Heap} {mg : Str → Option Value} {x : Str} {id : String}
theorem blB_ok (X : K.In h) (G : h.Ns mainGlobals mg) (c : blB K x id = true) : mg x = some (.builtin id) := PySem.W.mg_of X G (He.eqO_ok c)
structure InstC (K : PySem.W.Frag) (C : Addr) : Prop where
  ha : PySem.W.findIn K (.ref C) "__class__" = some (some (.builtin "object.__class__"))
  hn : PySem.W.specialIn K (.builtin "object.__class__") "__get__" = some (some (.builtin "getset_descriptor.__get__"))
  ht : PySem.W.takesIn K (.builtin "object.__class__") = some true
  hm : PySem.W.mroIn K C (.type "object") = some true
theorem instB_ok (c : instB K x = true) : InstC K (He.ga K x) := by
  obtain ⟨c1, c⟩ := He.ba c
  obtain ⟨c2, c⟩ := He.ba c
  obtain ⟨c3, c4⟩ := He.ba c
  exact ⟨He.eqO_ok c1, He.eqO_ok c2, of_decide_eq_true c3, of_decide_eq_true c4⟩
theorem isEB_ok (c : isEB K x = true) : ExcC K (He.ga K x) := by
  obtain ⟨c1, c⟩ := He.ba c
  obtain ⟨c2, c⟩ := He.ba c
  obtain ⟨c3, c⟩ := He.ba c
  obtain ⟨c4, c5⟩ := He.ba c
  have i := instB_ok c5
  exact { hg := He.eqO_ok c1, hk := He.eqO_ok c2, hs := of_decide_eq_true c3, hd := c4, ha := i.ha, hn := i.hn, ht := i.ht, hm := i.hm }
theorem InstC.ty {H : Hp} {C a dx : Addr} {fs : List (Str × V)} (i : InstC K C) (cl : Cls K C) (e : H a = some (.ins C dx fs)) : TyX K H (.ref a) (.ref C) := .base (.ins e cl i.ha i.hn i.ht i.hm)
end
end Tk

set_option Elab.async false
set_option linter.all false
set_option maxRecDepth 100000
set_option maxHeartbeats 4000000
/-! A def that stands and keeps its promise; how it is called. -/
namespace Tk
open PySem PySem.Spec PyProof.Rows L2
def Has (P : Program) (w : World) (K : PySem.W.Frag) (mg : Str → Option Value) (base : Heap) (k : Nat) (f : Addr) (ps : List Str) (dvs : List V) (sp : Sp) : Prop :=
  PySem.W.keepIn K (.ref f) = true ∧ ∃ (fd : FuncData) (ds : List Value), Vals dvs ds ∧ Binds K fd ps ds ∧ FnOk P w K mg base (L2.CX P w) k f fd ps sp
theorem Has.mono {P : Program} {w : World} {K : PySem.W.Frag} {mg : Str → Option Value} {base : Heap} {j k : Nat} {f : Addr} {ps : List Str} {dvs : List V} {sp : Sp} (h : Has P w K mg base j f ps dvs sp) (l : j ≤ k) : Has P w K mg base k f ps dvs sp := by
  obtain ⟨a, fd, ds, b, c, F⟩ := h
  exact ⟨a, fd, ds, b, c, F.mono l⟩
section
variable {X : Cx} {k : Nat} {f C : Addr} {ps : List Str} {sp : Sp} {dvs : List V} {E : XK} {x m : Str} {p pos apos : Pos} {e o : Expr} {es : List Expr} {ta : TE} {t : TA}
abbrev HasX (X : Cx) := Has X.prog X.w X.K X.mg X.base
theorem pe_callH (h : HasX X k f ps dvs sp) (hr : Room k X.A) (hg : Gl X x) (hm : X.mg x = some (.ref f)) (hx : Passes (L2.CX X.prog X.w) X E) (ha : PA X (e :: es) t)
    (hdb : (x == ("__debug__" : Str)) = false := by decide) (he : starEach (e :: es) X.env = (false, eval e X.env) :: starEach es X.env := by rfl) (hpl : (backTo pos (starEach es X.env)).any (·.1) = false := by rfl) :
    PE X (.Call (.Name x p) (e :: es) [] pos) (tCall sp dvs E t) := by
  obtain ⟨hk, fd, ds, hd, hb, F⟩ := h
  exact pe_call F hr hg hm hk hb hd hx ha hdb he hpl
theorem pe_methH {pl : Sem Bool} (he : PE X o ta) (c : Cls X.K C) (hm : Meth X.K C m f) (h : HasX X k f ps dvs sp) (hr : Room k X.A) (hx : Passes (L2.CX X.prog X.w) X E) (ha : PA X (e :: es) t)
    (hst : starEach (e :: es) X.env = (false, eval e X.env) :: starEach es X.env := by rfl) (hpl : (backTo pos (starEach es X.env)).any (·.1) = false := by rfl)
    (ht : eval (.Call (.Attribute o m apos) (e :: es) [] pos) X.env = (do
      let ov ← eval o X.env
      standAt apos.atName
      let (f, first) ← holding [ov] (getMethod ov m pl)
      callWith pos f first (backTo pos (starEach (e :: es) X.env)) (backToKw pos (keywordEach [] X.env))) := by rfl) :
    PE X (.Call (.Attribute o m apos) (e :: es) [] pos) (tMeth C m sp dvs E ta t) := by
  obtain ⟨hk, fd, ds, hd, hb, F⟩ := h
  exact pe_meth (pl := pl) he c hm F hr hb hd hx ha hst hpl ht
theorem pe_makeH (M : Mk X.K C f) (h : HasX X k f ps dvs sp) (hr : Room (k + 1) X.A) (hg : Gl X x) (hm : X.mg x = some (.ref C)) (hx : Passes (L2.CX X.prog X.w) X E) (ha : PA X (e :: es) t)
    (hdb : (x == ("__debug__" : Str)) = false := by decide) (he : starEach (e :: es) X.env = (false, eval e X.env) :: starEach es X.env := by rfl) (hpl : (backTo pos (starEach es X.env)).any (·.1) = false := by rfl) :
    PE X (.Call (.Name x p) (e :: es) [] pos) (tMake C sp dvs E t) := by
  obtain ⟨hk, fd, ds, hd, hb, F⟩ := h
  exact pe_make M F hr hg hm hb hd hx ha hdb he hpl
theorem op_ownH {op : Operator} (h : HasX X k f ps [] sp) (hr : Room k X.A) (hx : Passes (L2.CX X.prog X.w) X E)
    (hc : PySem.W.selfFirst X.K C = true) (hm : Meth X.K C (PySem.dunder op.info.2) f) : OpR X (binaryOp op) (rOwn C sp E) := by
  obtain ⟨hk, fd, ds, hd, hb, F⟩ := h
  cases hd
  exact op_own F hr hb hx hc hm.at_ hm.fn
theorem op_eqOwnH (h : HasX X k f ps [] sp) (hr : Room k X.A) (hx : Passes (L2.CX X.prog X.w) X E) (hm : Meth X.K C "__eq__" f) : OpR X (compareOp .Eq) (rOwn C sp E) := by
  obtain ⟨hk, fd, ds, hd, hb, F⟩ := h
  cases hd
  exact op_eqOwn F hr hb hx hm.at_ hm.fn
theorem call_strOwnH (h : HasX X k f ps [] sp) (hr : Room (k + 2) X.A) (hx : Passes (L2.CX X.prog X.w) X E) (hm : Meth X.K C "__str__" f) : CallR X (.type "str") (rStrOwn C sp E) := by
  obtain ⟨hk, fd, ds, hd, hb, F⟩ := h
  cases hd
  exact call_strOwn F hr hb hx hm.at_ hm.fn
/-- a class called with keywords alone -/
def HasK (P : Program) (w : World) (K : PySem.W.Frag) (mg : Str → Option Value) (base : Heap) (k : Nat) (f : Addr) (ps : List Str) (n : Nat) (ks : List Str) (gV : List V → List V → List V) (sp : Sp) : Prop :=
  ∃ (fd : FuncData) (g : List Value → List Value → List Value), KBn K fd ps n ks g gV ∧ FnOk P w K mg base (L2.CX P w) k f fd ps sp
/-- the law's own def, as the end wants it -/
def IsLaw (P : Program) (w : World) (K : PySem.W.Frag) (mg : Str → Option Value) (base : Heap) (k : Nat) (f : Addr) (fd : FuncData) (ps : List Str) (sp : Sp) : Prop := FnOk P w K mg base (L2.CX P w) k f fd ps sp
end

/-! a def of no defaults: from its body to what it is -/
section
variable {P : Program} {w : World} {K : PySem.W.Frag} {mg : Str → Option Value} {base : Heap} {x qual : Str} {st : Stmt} {f : Addr} {fd : FuncData} {N ps : List Str} {k : Nat} {sp : Sp}
abbrev FnQ (K : PySem.W.Frag) (x q : Str) (st : Stmt) (ds : List V) (f : Addr) (fd : FuncData) : Prop := FunD K x q (defArgs st) (defBody st) (defScope st) ds [] f fd
/-- nothing is raised -/
theorem hasN (F : FnQ K x qual st [] f fd) (b : Binds K fd ps []) (S : FnScope N ps (defScope st)) (len : ∀ vs H Q E, sp vs H Q E → vs.length = ps.length)
    (hbody : ∀ (cdv : Value) (A : Around) (outer : List Env) (s : Shared) (H : Hp) (vs : List V) (Q : VK) (E : XK), Room k (A.deeper (envOfC qual (defScope st) s.heap.objs.size f cdv)) → sp vs H Q E →
      ∃ t, PSs (cxOf (L2.CX P w) P w K mg base N qual (defScope st) f cdv A outer s H E).nox (defBody st) t ∧ t { nx := fun _ H' => Q .non H', rt := Q } (start N vs) H) :
    Has P w K mg base (k + 1) f ps [] sp :=
  ⟨F.kp, fd, [], .nil, b, F.ok S len fun cdv A outer s H vs Q E hr h => by obtain ⟨t, h1, h2⟩ := hbody cdv A outer s H vs Q E hr h; exact ⟨t, h1.nox, h2⟩⟩
theorem hasX (F : FnQ K x qual st [] f fd) (b : Binds K fd ps []) (S : FnScope N ps (defScope st)) (len : ∀ vs H Q E, sp vs H Q E → vs.length = ps.length)
    (hbody : ∀ (cdv : Value) (A : Around) (outer : List Env) (s : Shared) (H : Hp) (vs : List V) (Q : VK) (E : XK), Room k (A.deeper (envOfC qual (defScope st) s.heap.objs.size f cdv)) → sp vs H Q E →
      ∃ t, PSs (cxOf (L2.CX P w) P w K mg base N qual (defScope st) f cdv A outer s H E) (defBody st) t ∧ t { nx := fun _ H' => Q .non H', rt := Q } (start N vs) H) :
    Has P w K mg base (k + 1) f ps [] sp :=
  ⟨F.kp, fd, [], .nil, b, F.ok S len hbody⟩
end

/-! one step of a reading -/
theorem ifT {c : Bool} {A B : Prop} (hc : c = true) (h : A) : if c = true then A else B := by rw [if_pos hc]; exact h
theorem ifF {c : Bool} {A B : Prop} (hc : c = false) (h : B) : if c = true then A else B := by rw [hc]; exact iteF h
theorem ifD {p : Prop} [Decidable p] {A B : Prop} (h1 : p → A) (h2 : ¬ p → B) : if (decide p) = true then A else B := by
  by_cases h : p
  · rw [if_pos (decide_eq_true h)]; exact h1 h
  · rw [if_neg (by rw [decide_eq_false h]; exact Bool.false_ne_true)]; exact h2 h
theorem ifB {c : Bool} {A B : Prop} (h1 : c = true → A) (h2 : c = false → B) : if c = true then A else B := by
  cases c with
  | true => exact iteT (h1 rfl)
  | false => exact iteF (h2 rfl)
end Tk

set_option Elab.async false
set_option linter.all false
set_option maxRecDepth 100000
set_option maxHeartbeats 4000000
/-! Cuts: what holds between two statements, behind a loop. -/
namespace Tk
open PySem PySem.Spec PyProof.Rows L2
theorem seq_cut {s1 s2 : TS} {D : Ends} {σ : L2.St} {H : Hp} (Mid : L2.St → Hp → Prop) (h1 : ∀ nx : L2.St → Hp → Prop, (∀ σ' H', Mid σ' H' → nx σ' H') → s1 { D with nx := nx } σ H) (h2 : ∀ σ' H', Mid σ' H' → s2 D σ' H') : tSeq s1 s2 D σ H :=
  h1 (s2 D) h2
theorem for_rangeP {lo : Int} {n : Nat} {g : TG} {tb : TS} {D : Ends} {σ : L2.St} {H : Hp} (Post : L2.St → Hp → Prop) (Pv : Nat → L2.St → Hp → Prop) (h0 : Pv 0 σ H)
    (hs : ∀ nx : L2.St → Hp → Prop, (∀ σ' H', Post σ' H' → nx σ' H') → ∀ i σ H, i < n → Pv i σ H → g (.int (lo + i)) σ H fun σ2 H2 => tb { D with nx := Pv (i + 1), ct := Pv (i + 1), bk := nx } σ2 H2)
    (hd : ∀ σ H, Pv n σ H → Post σ H) (fin : ∀ σ' H', Post σ' H' → D.nx σ' H') :
    ∃ W : Nat → Nat → L2.St → Hp → Prop, (∃ m, W 0 m σ H) ∧ ∀ i m σ H, W i m σ H →
      ((Itr lo n).stop i H ∧ D.nx σ H) ∨ ((Itr lo n).go i H ∧ ∃ N : L2.St → Hp → Prop, (∀ σ' H', N σ' H' → ∃ m', m' < m ∧ W (i + 1) m' σ' H') ∧ ∀ x H', (Itr lo n).yld i H x H' → g x σ H' fun σ2 H2 => tb { D with nx := N, ct := N, bk := D.nx } σ2 H2) :=
  for_range Pv h0 (hs D.nx fin) (fun σ H p => fin σ H (hd σ H p))
theorem ix_l {K : PySem.W.Frag} {H : Hp} {a : Addr} {xs : List V} {j : Nat} {v : V} {i : Int} {Q : VK} (h : SqL K H a xs) (e : i = (j : Int)) (hj : xs[j]? = some v) (k : Q v H) : rIxL K (.ref a) (.int i) H Q := ⟨a, xs, i, v, rfl, rfl, h, at_of e hj, k⟩
theorem ix_t {K : PySem.W.Frag} {H : Hp} {a : Addr} {xs : List V} {j : Nat} {v : V} {i : Int} {Q : VK} (h : SqT K H a xs) (e : i = (j : Int)) (hj : xs[j]? = some v) (k : Q v H) : rIxT K (.ref a) (.int i) H Q := ⟨a, xs, i, v, rfl, rfl, h, at_of e hj, k⟩
end Tk
namespace Tk
open PySem PySem.Spec PyProof.Rows L2
section
variable {P : Program} {w : World} {K : PySem.W.Frag} {mg : Str → Option Value} {base : Heap} {x qual : Str} {st : Stmt} {f : Addr} {fd : FuncData} {N ps : List Str} {k : Nat} {sp sp' : Sp} {CX : CXT}
theorem fnOr (A : FnOk P w K mg base CX k f fd ps sp) (B : FnOk P w K mg base CX k f fd ps sp') : FnOk P w K mg base CX k f fd ps (fun vs H Q E => sp vs H Q E ∨ sp' vs H Q E) :=
  ⟨fun vs H Q E h => h.elim (A.len vs H Q E) (B.len vs H Q E), fun A' outer s H args us vs Q E hr he hb hv h => h.elim (A.run A' outer s H args us vs Q E hr he hb hv) (B.run A' outer s H args us vs Q E hr he hb hv)⟩
theorem fnN (F : FnQ K x qual st [] f fd) (S : FnScope N ps (defScope st)) (len : ∀ vs H Q E, sp vs H Q E → vs.length = ps.length)
    (hbody : ∀ (cdv : Value) (A : Around) (outer : List Env) (s : Shared) (H : Hp) (vs : List V) (Q : VK) (E : XK), Room k (A.deeper (envOfC qual (defScope st) s.heap.objs.size f cdv)) → sp vs H Q E →
      ∃ t, PSs (cxOf (L2.CX P w) P w K mg base N qual (defScope st) f cdv A outer s H E).nox (defBody st) t ∧ t { nx := fun _ H' => Q .non H', rt := Q } (start N vs) H) :
    FnOk P w K mg base (L2.CX P w) (k + 1) f fd ps sp :=
  F.ok S len fun cdv A outer s H vs Q E hr h => by obtain ⟨t, h1, h2⟩ := hbody cdv A outer s H vs Q E hr h; exact ⟨t, h1.nox, h2⟩
end
end Tk

set_option Elab.async false
set_option linter.all false
set_option maxRecDepth 100000
set_option maxHeartbeats 4000000
/-! Errors: calls in a try, isinstance of what was caught. -/
namespace Tk
open PySem PySem.Spec PyProof.Rows L2
section
variable {X : Cx} {k : Nat} {f C : Addr} {ps : List Str} {sp : Sp} {dvs : List V} {E : L2.St → XK} {x m : Str} {p pos apos : Pos} {e o : Expr} {es : List Expr} {ta : TE} {t : TA}
/-- C(e, ..) in a try: what is raised is wished for at the slots as they are -/
def tMakeS (C : Addr) (sp : Sp) (dvs : List V) (E : L2.St → XK) (t : TA) : TE := fun σ H Q => t σ H fun vs H1 => ∀ x dx, H1 x = none → H1 dx = none → dx ≠ x →
  sp (.ref x :: (vs ++ dvs)) (upd (upd H1 dx (.own x)) x (.ins C dx [])) (fun v H2 => v = .non ∧ Q (.ref x) H2) (E σ)
theorem pe_makeSH (M : Mk X.K C f) (h : HasX X k f ps dvs sp) (hr : Room (k + 1) X.A) (hg : Gl X x) (hm : X.mg x = some (.ref C)) (hx : ∀ σ, PassesAt (L2.CX X.prog X.w) X σ (E σ)) (ha : PA X (e :: es) t)
    (hdb : (x == ("__debug__" : Str)) = false := by decide) (he : starEach (e :: es) X.env = (false, eval e X.env) :: starEach es X.env := by rfl) (hpl : (backTo pos (starEach es X.env)).any (·.1) = false := by rfl) :
    PE X (.Call (.Name x p) (e :: es) [] pos) (tMakeS C sp dvs E t) := by
  obtain ⟨_, fd, ds, hd, hb, F⟩ := h
  constructor
  intro pins s σ H Q I hq0
  refine wpAny_Call_Name_kw (ld_glob I hg hm (PySem.W.callWith_K (h₀ := X.base) I.ok.mod.kin M.kp (thn (ha.run pos pins s σ H _ I hq0) ?_) he hpl) hdb)
  rintro us s1 ⟨vs, H1, I1, r, q⟩
  refine ⟨I1.kIn, ?_⟩
  have q' := q (s1.heap.objs.size + 1) s1.heap.objs.size (I1.hok.fresh (Nat.le_succ _)) (I1.hok.fresh (Nat.le_refl _)) (Nat.ne_of_lt (Nat.lt_succ_self _))
  have I2 := Inv.made (C := C) I1
  have rr : Vals (V.ref (s1.heap.objs.size + 1) :: (vs ++ dvs)) (Value.ref (s1.heap.objs.size + 1) :: us ++ ds) := .cons rfl (r.append hd)
  have hl := rr.length.symm.trans (F.len _ _ _ _ q')
  have go := F.run _ X.stack _ _ ⟨Value.ref (s1.heap.objs.size + 1) :: us, []⟩ _ _ _ _ (hr.make C us []) (I2.env0.make C us []) (hb _ _ I2.kIn hl) rr q'
  refine wpAny_call (make_map (f := f) I1.kIn M.makes M.init (beq_iff_eq.mp M.fn) (codeAny_mono go ?_))
  intro res s' z
  cases res with
  | error err => exact hx σ pins _ _ err s' I2 z
  | ok fl => cases fl with
    | ret u =>
      obtain ⟨v, H', I3, rv, ev, q3⟩ := I2.after z
      subst ev
      exact ⟨rv, V.ref (s1.heap.objs.size + 1), H', I3, rfl, q3⟩
    | _ => exact False.elim z
/-- o.m(e, ..) in a try -/
def tMethS (C : Addr) (m : Str) (sp : Sp) (dvs : List V) (E : L2.St → XK) (ta : TE) (t : TA) : TE := fun σ H Q => ta σ H fun x H1 => ∃ a dx fs, x = .ref a ∧ H1 a = some (.ins C dx fs) ∧ fs.lookup m = none ∧
  t σ H1 fun vs H2 => sp (x :: (vs ++ dvs)) H2 Q (E σ)
theorem pe_methSH {pl : Sem Bool} (he : PE X o ta) (c : Cls X.K C) (hm : Meth X.K C m f) (h : HasX X k f ps dvs sp) (hr : Room k X.A) (hx : ∀ σ, PassesAt (L2.CX X.prog X.w) X σ (E σ)) (ha : PA X (e :: es) t)
    (hst : starEach (e :: es) X.env = (false, eval e X.env) :: starEach es X.env := by rfl) (hpl : (backTo pos (starEach es X.env)).any (·.1) = false := by rfl)
    (ht : eval (.Call (.Attribute o m apos) (e :: es) [] pos) X.env = (do
      let ov ← eval o X.env
      standAt apos.atName
      let (f, first) ← holding [ov] (getMethod ov m pl)
      callWith pos f first (backTo pos (starEach (e :: es) X.env)) (backToKw pos (keywordEach [] X.env))) := by rfl) :
    PE X (.Call (.Attribute o m apos) (e :: es) [] pos) (tMethS C m sp dvs E ta t) := by
  obtain ⟨_, fd, ds, hd, hb, F⟩ := h
  constructor
  intro pins s σ H Q I hq0
  refine PySem.W.methodCall_KW (pl := pl) (thn (he.run pins s σ H _ I hq0) ?_) ht
  rintro u s1 ⟨x, H1, I1, rx, a, dx, fs, rfl, ea, l, q⟩
  cases rx
  refine getmeth_ok I1 ea c hm l (PySem.W.callWith_K (first := [.ref a]) (h₀ := X.base) I.ok.mod.kin hm.kp (thn (ha.run pos pins s1 σ H1 _ I1 q) ?_) hst hpl)
  rintro us s2 ⟨vs, H2, I2, r, q2⟩
  exact ⟨I2.kIn, run_fnSD (us := .ref a :: us) (vs := .ref a :: vs) F hr hb hd (hx σ) I2 (.cons rfl r) q2⟩
/-- isinstance of the caught exception, its class D (no fields) told by the reading -/
def rIsEq (K : PySem.W.Frag) (D a : Addr) (cls : Value) (d : Option Addr) : List V → Hp → VK → Prop := fun xs H Q => cls = .ref D ∧ d = none ∧ rIsE K D a xs H Q
theorem call_isEq {a D : Addr} {oe : Obj} {cls : Value} {d : Option Addr} {pn : List (Addr × Obj)} (c : ExcC X.K D) (hz : Zc cls d oe) (hf : ∃ vs, oe.data = .fields vs) : CallR (X.suite a ((a, oe) :: pn)) (.builtin "isinstance") (rIsEq X.K D a cls d) := by
  intro pins s σ H xs us Q I r h
  obtain ⟨rfl, rfl, h⟩ := h
  exact call_isE (X := X) (a := a) (oe := oe) (pn := pn) c hz hf pins s σ H xs us Q I r h
def rIsET (K : PySem.W.Frag) (D a : Addr) (cls : Value) (d : Option Addr) : List V → Hp → VK → Prop := fun xs H Q => cls = .ref D ∧ d = none ∧ ∃ (tp : Addr) (cs : List V) (us : List Value) (b : Bool), xs = [.ref a, .ref tp] ∧ H tp = some (.tup cs) ∧ Paired ClsV cs us ∧ PySem.W.kitAny K (.ref D) us = some b ∧ Q (.bl b) H
theorem call_isET {a D : Addr} {oe : Obj} {cls : Value} {d : Option Addr} {pn : List (Addr × Obj)} (c : ExcC X.K D) (hz : Zc cls d oe) (hf : ∃ vs, oe.data = .fields vs) : CallR (X.suite a ((a, oe) :: pn)) (.builtin "isinstance") (rIsET X.K D a cls d) := by
  intro pins s σ H xs us Q I r h
  obtain ⟨rfl, rfl, tp, cs, ws, b, rfl, htp, hcs, e, q⟩ := h
  obtain ⟨u1, u2, rfl, r1, r2⟩ := vals2 r
  cases r1; cases r2
  obtain ⟨hget, _⟩ := I.pin (a, oe) (List.mem_append.mpr (.inl List.mem_cons_self))
  obtain ⟨vs, hv⟩ := hf
  have J : PySem.W.InstAt s.heap a oe D none := by
    obtain ⟨oc, od, oda, osl⟩ := oe
    obtain ⟨h1, h2⟩ := hz
    dsimp only at h1 h2 hv
    subst h1 h2 hv
    exact ⟨hget, rfl, rfl, trivial⟩
  have ob : ObjOk X.prog X.w H s.heap tp (.tup cs) := I.hok tp _ htp
  obtain ⟨_, its, rv, ⟨oc, od, oda, osl⟩, g1, g2, n, g3⟩ := ob
  dsimp only at g2 g3
  subst g2 g3
  have ew := ClsV.all hcs rv
  subst ew
  exact PySem.W.kia_tup (PySem.W.handS_kitx_exc c.hg c.hk c.hs c.hd c.ha c.hn c.ht c.hm) I.kIn J g1 e (fun z => nomatch z) fun tk => ⟨.bl b, H, I.kept (t' := tk) fun _ _ z => z, rfl, q⟩
end
end Tk
namespace Tk
open PySem PySem.Spec PyProof.Rows L2
theorem cx_none {P : Program} {w : World} {outer : List Env} {H : Hp} {s s' : Shared} {e : Value} (h : L2.CX P w outer H s E0 e s') : False := by
  obtain ⟨_, _, _, _, _, _, _, _, _, _, _, _, z⟩ := h
  exact z
/-- a def that raises nothing, seen so -/
theorem fn0 {P : Program} {w : World} {K : PySem.W.Frag} {mg : Str → Option Value} {base : Heap} {k : Nat} {f : Addr} {fd : FuncData} {ps : List Str} {sp : Sp} (F : FnOk P w K mg base (L2.CX P w) k f fd ps sp) :
    FnOk P w K mg base CX0 k f fd ps (fun vs H Q _ => sp vs H Q E0) :=
  ⟨fun vs H Q _ h => F.len vs H Q E0 h, fun A outer s H args us vs Q E hr he hb hv h => codeAny_mono (F.run A outer s H args us vs Q E0 hr he hb hv h) (fun r s' z => by
    cases r with
    | error e => exact (cx_none z).elim
    | ok fl => cases fl <;> exact z)⟩
end Tk

set_option Elab.async false
set_option linter.all false
set_option maxRecDepth 100000
set_option maxHeartbeats 4000000
/-! Data as the law compares it. -/
namespace Tk
open PySem PySem.Spec PyProof.Rows L2
inductive Da where
  | non | bl (b : Bool) | int (i : Int) | str (s : Str) | lst (l : List Da) | tup (l : List Da)
mutual
def eqd : Da → Da → Bool
  | .non, .non => true
  | .bl a, .bl b => decide (a = b)
  | .int a, .int b => decide (a = b)
  | .str a, .str b => decide (a = b)
  | .lst a, .lst b => eqds a b
  | .tup a, .tup b => eqds a b
  | _, _ => false
def eqds : List Da → List Da → Bool
  | [], [] => true
  | a :: r, b :: s => eqd a b && eqds r s
  | _, _ => false
end
mutual
def dep : Da → Nat
  | .lst l => deps l + 1
  | .tup l => deps l + 1
  | _ => 0
def deps : List Da → Nat
  | [] => 0
  | a :: r => max (dep a) (deps r)
end
mutual
def tame : Da → Prop
  | .lst l => l.length ≤ 100000 ∧ tames l
  | .tup l => l.length ≤ 100000 ∧ tames l
  | _ => True
def tames : List Da → Prop
  | [] => True
  | a :: r => tame a ∧ tames r
end
mutual
def dR (H : Hp) : V → Da → Prop
  | v, .non => v = .non
  | v, .bl b => v = .bl b
  | v, .int i => v = .int i
  | v, .str s => v = .str s
  | v, .lst l => ∃ a vs, v = .ref a ∧ H a = some (.lst vs) ∧ dRs H vs l
  | v, .tup l => ∃ a vs, v = .ref a ∧ H a = some (.tup vs) ∧ dRs H vs l
def dRs (H : Hp) : List V → List Da → Prop
  | vs, [] => vs = []
  | vs, d :: ds => ∃ v r, vs = v :: r ∧ dR H v d ∧ dRs H r ds
end
mutual
theorem dR_up {H H' : Hp} (s : Same H H') : ∀ (v : V) (d : Da), dR H v d → dR H' v d
  | v, .non, h => h
  | v, .bl _, h => h
  | v, .int _, h => h
  | v, .str _, h => h
  | v, .lst l, h => by
    simp only [dR] at h ⊢
    obtain ⟨a, vs, e, h1, h2⟩ := h
    exact ⟨a, vs, e, s _ _ h1, dRs_up s vs l h2⟩
  | v, .tup l, h => by
    simp only [dR] at h ⊢
    obtain ⟨a, vs, e, h1, h2⟩ := h
    exact ⟨a, vs, e, s _ _ h1, dRs_up s vs l h2⟩
theorem dRs_up {H H' : Hp} (s : Same H H') : ∀ (vs : List V) (ds : List Da), dRs H vs ds → dRs H' vs ds
  | vs, [], h => by simp only [dRs] at h ⊢; exact h
  | vs, d :: ds, h => by
    simp only [dRs] at h ⊢
    obtain ⟨v, r, e, h1, h2⟩ := h
    exact ⟨v, r, e, dR_up s v d h1, dRs_up s r ds h2⟩
end
theorem dRs_len {H : Hp} : ∀ {vs : List V} {ds : List Da}, dRs H vs ds → vs.length = ds.length
  | vs, [], h => by simp only [dRs] at h; subst h; rfl
  | vs, d :: ds, h => by
    simp only [dRs] at h
    obtain ⟨v, r, rfl, _, h2⟩ := h
    simp [dRs_len h2]
theorem dRs_at {H : Hp} : ∀ {vs : List V} {ds : List Da} {i : Nat} {d : Da}, dRs H vs ds → ds[i]? = some d → ∃ v, vs[i]? = some v ∧ dR H v d
  | _, [], _, _, _, e => by simp at e
  | vs, d :: ds, 0, x, h, e => by
    simp only [dRs] at h
    obtain ⟨v, r, rfl, h1, _⟩ := h
    simp at e; subst e
    exact ⟨v, rfl, h1⟩
  | vs, d :: ds, i + 1, x, h, e => by
    simp only [dRs] at h
    obtain ⟨v, r, rfl, _, h2⟩ := h
    obtain ⟨u, h3, h4⟩ := dRs_at (i := i) (d := x) h2 (by simpa using e)
    exact ⟨u, by simpa using h3, h4⟩
theorem tames_at : ∀ {ds : List Da} {i : Nat} {d : Da}, tames ds → ds[i]? = some d → tame d
  | [], _, _, _, e => by simp at e
  | d :: ds, 0, x, h, e => by simp at e; subst e; exact h.1
  | d :: ds, i + 1, x, h, e => tames_at (ds := ds) (i := i) h.2 (by simpa using e)
theorem deps_at : ∀ {ds : List Da} {i : Nat} {d : Da}, ds[i]? = some d → dep d ≤ deps ds
  | [], _, _, e => by simp at e
  | d :: ds, 0, x, e => by simp at e; subst e; simp only [deps]; omega
  | d :: ds, i + 1, x, e => by
    have := deps_at (ds := ds) (i := i) (d := x) (by simpa using e)
    simp only [deps]; omega
mutual
theorem eqd_iff : ∀ a b : Da, eqd a b = true ↔ a = b
  | .non, b => by cases b <;> simp [eqd]
  | .bl x, b => by cases b <;> simp [eqd]
  | .int x, b => by cases b <;> simp [eqd]
  | .str x, b => by cases b <;> simp [eqd]
  | .lst x, b => by cases b <;> simp [eqd]; exact eqds_iff _ _
  | .tup x, b => by cases b <;> simp [eqd]; exact eqds_iff _ _
theorem eqds_iff : ∀ a b : List Da, eqds a b = true ↔ a = b
  | [], b => by cases b <;> simp [eqds]
  | a :: r, b => by
    cases b with
    | nil => simp [eqds]
    | cons b s => simp [eqds, eqd_iff a b, eqds_iff r s]
end
theorem eqds_len : ∀ {a b : List Da}, a.length ≠ b.length → eqds a b = false
  | [], [], h => absurd rfl h
  | [], _ :: _, _ => rfl
  | _ :: _, [], _ => rfl
  | a :: r, b :: s, h => by
    have := eqds_len (a := r) (b := s) (by simpa using h)
    simp [eqds, this]
theorem eqds_false : ∀ {a b : List Da} {i : Nat} {x y : Da}, a[i]? = some x → b[i]? = some y → eqd x y = false → eqds a b = false
  | [], _, _, _, _, h, _, _ => by simp at h
  | _ :: _, [], _, _, _, _, h, _ => by simp at h
  | a :: r, b :: s, 0, x, y, h1, h2, h3 => by simp at h1 h2; subst h1 h2; simp [eqds, h3]
  | a :: r, b :: s, i + 1, x, y, h1, h2, h3 => by
    have := eqds_false (a := r) (b := s) (i := i) (by simpa using h1) (by simpa using h2) h3
    simp [eqds, this]
theorem eqds_true : ∀ {a b : List Da}, a.length = b.length → (∀ (i : Nat) (x y : Da), a[i]? = some x → b[i]? = some y → eqd x y = true) → eqds a b = true
  | [], [], _, _ => rfl
  | [], _ :: _, h, _ => by simp at h
  | _ :: _, [], h, _ => by simp at h
  | a :: r, b :: s, h, k => by
    simp only [eqds, Bool.and_eq_true]
    exact ⟨k 0 a b rfl rfl, eqds_true (by simpa using h) fun i x y h1 h2 => k (i + 1) x y (by simpa using h1) (by simpa using h2)⟩
/-- its kind -/
def knd : Da → String
  | .non => "NoneType" | .bl _ => "bool" | .int _ => "int" | .str _ => "str" | .lst _ => "list" | .tup _ => "tuple"
def isT : Da → String → Bool
  | .non, _ => false
  | .bl _, T => T == "bool" || T == "int"
  | .int _, T => T == "int"
  | .str _, T => T == "str"
  | .lst _, T => T == "list"
  | .tup _, T => T == "tuple"
theorem knd_ty {K : PySem.W.Frag} {H : Hp} {v : V} {d : Da} (h : dR H v d) : TyX K H v (.type (knd d)) := by
  cases d with
  | non => simp only [dR] at h; subst h; exact .base .non
  | bl b => simp only [dR] at h; subst h; exact .base (.bl b)
  | int b => simp only [dR] at h; subst h; exact .base (.int b)
  | str b => simp only [dR] at h; subst h; exact .base (.str b)
  | lst l => simp only [dR] at h; obtain ⟨a, vs, rfl, h1, _⟩ := h; exact .base (.lst h1)
  | tup l => simp only [dR] at h; obtain ⟨a, vs, rfl, h1, _⟩ := h; exact .base (.tup h1)
theorem knd_tuple {K : PySem.W.Frag} (d : Da) : PySem.W.kitOne K (.type (knd d)) (.type "tuple") = some (isT d "tuple") := by cases d <;> rfl
theorem knd_list {K : PySem.W.Frag} (d : Da) : PySem.W.kitOne K (.type (knd d)) (.type "list") = some (isT d "list") := by cases d <;> rfl
theorem knd_bool {K : PySem.W.Frag} (d : Da) : PySem.W.kitOne K (.type (knd d)) (.type "bool") = some (isT d "bool") := by cases d <;> rfl
theorem knd_int {K : PySem.W.Frag} (d : Da) : PySem.W.kitOne K (.type (knd d)) (.type "int") = some (isT d "int") := by cases d <;> rfl
theorem knd_str {K : PySem.W.Frag} (d : Da) : PySem.W.kitOne K (.type (knd d)) (.type "str") = some (isT d "str") := by cases d <;> rfl
def isNon : Da → Bool
  | .non => true
  | _ => false
theorem non_dec {H : Hp} {v : V} {d : Da} (h : dR H v d) : decide (v = V.non) = isNon d := by
  cases d with
  | non => simp only [dR] at h; subst h; rfl
  | bl b => simp only [dR] at h; subst h; rfl
  | int b => simp only [dR] at h; subst h; rfl
  | str b => simp only [dR] at h; subst h; rfl
  | lst l => simp only [dR] at h; obtain ⟨a, vs, rfl, h1, _⟩ := h; rfl
  | tup l => simp only [dR] at h; obtain ⟨a, vs, rfl, h1, _⟩ := h; rfl
end Tk

set_option linter.all false
/-! Fractions: what the program and the law make of a numerator and a denominator. -/
namespace Mt
abbrev rt (n d : Int) : Rat := Rat.divInt n d
def gz (n d : Int) : Int := (Nat.gcd n.natAbs d.natAbs : Nat)
theorem gz_pos {n d : Int} (h : 0 < d) : 0 < gz n d := by
  unfold gz
  have : 0 < Nat.gcd n.natAbs d.natAbs := Nat.gcd_pos_of_pos_right _ (by omega)
  omega
theorem gz_le {n d : Int} (h : 0 < d) : gz n d ≤ d := by
  unfold gz
  have : Nat.gcd n.natAbs d.natAbs ≤ d.natAbs := Nat.le_of_dvd (by omega) (Nat.gcd_dvd_right _ _)
  omega
theorem rt_num {n d : Int} (h : 0 < d) : (rt n d).num = n / gz n d := by
  unfold rt gz
  rw [Rat.num_divInt, Int.sign_eq_one_of_pos h, Int.one_mul]
  congr 1
  rw [Int.gcd_comm]; rfl
theorem rt_den {n d : Int} (h : 0 < d) : ((rt n d).den : Int) = d / gz n d := by
  unfold rt gz
  rw [Rat.den_divInt, if_neg (by omega)]
  have e : d.gcd n = Nat.gcd n.natAbs d.natAbs := by rw [Int.gcd_comm]; rfl
  rw [e]
  have : ((d.natAbs : Nat) : Int) = d := by omega
  rw [Int.natCast_ediv, this]
theorem rt_self (q : Rat) : rt q.num q.den = q := Rat.num_divInt_den q
theorem den_pos (q : Rat) : 0 < (q.den : Int) := by have := q.den_nz; omega

/-- Euclid, so many turns -/
def eu : Nat → Int → Int → Int
  | 0, a, _ => a
  | k + 1, a, b => if b = 0 then a else eu k b (a % b)
theorem eu_zero (k : Nat) (a : Int) : eu k a 0 = a := by cases k <;> simp [eu]
theorem gcd_step (a b : Int) (ha : 0 ≤ a) (hb : 0 < b) : Nat.gcd a.natAbs b.natAbs = Nat.gcd b.natAbs (a % b).natAbs := by
  have e : (a % b).natAbs = a.natAbs % b.natAbs := by
    obtain ⟨x, rfl⟩ := Int.eq_ofNat_of_zero_le ha
    obtain ⟨y, rfl⟩ := Int.eq_ofNat_of_zero_le (Int.le_of_lt hb)
    rw [← Int.natCast_emod]; rfl
  rw [e, Nat.gcd_comm, Nat.gcd_rec, Nat.gcd_comm]
theorem half (b r s : Int) (h0 : 0 < r) (h1 : r < b) (hs : s = b % r) : 2 * s < b := by
  subst hs
  have h2 := Int.emod_lt_of_pos b h0
  have h3 := Int.emod_nonneg b (by omega : r ≠ 0)
  have h4 := Int.mul_ediv_add_emod b r
  have h5 : 1 ≤ b / r := by
    have := Int.le_ediv_of_mul_le h0 (by omega : 1 * r ≤ b)
    exact this
  have h6 : r ≤ r * (b / r) := by
    have := Int.mul_le_mul_of_nonneg_left h5 (Int.le_of_lt h0)
    omega
  omega
theorem eu_gcd : ∀ (m k : Nat) (a b : Int), 0 ≤ a → 0 ≤ b → b < 2 ^ m → 2 * m + 2 ≤ k → eu k a b = (Nat.gcd a.natAbs b.natAbs : Nat)
  | m, k, a, b, ha, hb, hm, hk => by
    by_cases h0 : b = 0
    · subst h0; rw [eu_zero]; simp; omega
    · obtain ⟨k, rfl⟩ : ∃ j, k = j + 2 := ⟨k - 2, by omega⟩
      have hb' : 0 < b := by omega
      rw [gcd_step a b ha hb']
      have hr0 := Int.emod_nonneg a h0
      have hr1 := Int.emod_lt_of_pos a hb'
      show (if b = 0 then a else eu (k + 1) b (a % b)) = _
      rw [if_neg h0]
      by_cases h1 : a % b = 0
      · rw [h1, eu_zero]; simp; omega
      · have hr' : 0 < a % b := by omega
        rw [gcd_step b (a % b) hb hr']
        show (if a % b = 0 then b else eu k (a % b) (b % (a % b))) = _
        rw [if_neg h1]
        have hh := half b (a % b) _ hr' hr1 rfl
        cases m with
        | zero => simp at hm; omega
        | succ m =>
          have : b % (a % b) < 2 ^ m := by rw [Int.pow_succ] at hm; omega
          exact eu_gcd m k _ _ (by omega) (Int.emod_nonneg _ h1) this (by omega)
theorem eu_gz {n d : Int} (h : 0 < d) (hd : d < 2 ^ 1999) : eu 4000 (if n < 0 then -n else n) d = gz n d := by
  rw [eu_gcd 1999 4000 _ d (by split <;> omega) (by omega) hd (by omega)]
  unfold gz
  congr 2
  split <;> omega
/-! sizes -/
/-- the fraction's denominator divides N, the fraction lies between -B and B -/
def Sz (N B : Nat) (q : Rat) : Prop := q.den ∣ N ∧ q.num.natAbs ≤ B * q.den
end Mt

set_option Elab.async false
set_option linter.all false
set_option maxRecDepth 100000
set_option maxHeartbeats 0
/-! ### the text by places, the head -/
namespace Hd
open PySem PySem.Spec PyProof.Rows L2 Tk
def top (i : Nat) : Stmt := PySem.Challenge.pw_notesttells_k00_fractions.main.body.getD i (.Pass ⟨0, 0, 0, 0⟩)
abbrev s__digits : Stmt := top 10
abbrev s__law_pool : Stmt := top 13
abbrev s__law_draw : Stmt := top 14
abbrev s__law_same : Stmt := top 15
abbrev s__law_less : Stmt := top 16
abbrev s__law_plus : Stmt := top 17
abbrev s__law_minus : Stmt := top 18
abbrev s__law_times : Stmt := top 19
abbrev s__law_below : Stmt := top 20
abbrev s__law_is : Stmt := top 21
abbrev s__law_refused : Stmt := top 22
abbrev s_law : Stmt := top 23
abbrev s_BadText_init : Stmt := inClass (top 3) 0
abbrev s_BadPaper_init : Stmt := inClass (top 4) 0
abbrev s_BadMachine_init : Stmt := inClass (top 5) 0
abbrev s_TooLarge_init : Stmt := inClass (top 6) 0
abbrev s_Ratio_init : Stmt := inClass (top 11) 0
abbrev s_Ratio_add : Stmt := inClass (top 11) 1
abbrev s_Ratio_sub : Stmt := inClass (top 11) 2
abbrev s_Ratio_mul : Stmt := inClass (top 11) 3
abbrev s_Ratio_eq : Stmt := inClass (top 11) 4
abbrev s_Ratio_str : Stmt := inClass (top 11) 5
abbrev s_Ratio_less : Stmt := inClass (top 11) 6
abbrev s_Ratio_by : Stmt := inClass (top 11) 7
abbrev FnP (K : PySem.W.Frag) (x q : Str) (st : Stmt) (ds : List V) (f : Addr) (fd : FuncData) : Prop := FunD K x q (defArgs st) (defBody st) (defScope st) ds [] f fd
def d__digits : He.DefD := ⟨("_digits", none), "_digits", "_digits", defArgs s__digits, defBody s__digits, defScope s__digits, [], []⟩
def d__law_pool : He.DefD := ⟨("_law_pool", none), "_law_pool", "_law_pool", defArgs s__law_pool, defBody s__law_pool, defScope s__law_pool, [], []⟩
def d__law_draw : He.DefD := ⟨("_law_draw", none), "_law_draw", "_law_draw", defArgs s__law_draw, defBody s__law_draw, defScope s__law_draw, [], []⟩
def d__law_same : He.DefD := ⟨("_law_same", none), "_law_same", "_law_same", defArgs s__law_same, defBody s__law_same, defScope s__law_same, [], []⟩
def d__law_less : He.DefD := ⟨("_law_less", none), "_law_less", "_law_less", defArgs s__law_less, defBody s__law_less, defScope s__law_less, [], []⟩
def d__law_plus : He.DefD := ⟨("_law_plus", none), "_law_plus", "_law_plus", defArgs s__law_plus, defBody s__law_plus, defScope s__law_plus, [], []⟩
def d__law_minus : He.DefD := ⟨("_law_minus", none), "_law_minus", "_law_minus", defArgs s__law_minus, defBody s__law_minus, defScope s__law_minus, [], []⟩
def d__law_times : He.DefD := ⟨("_law_times", none), "_law_times", "_law_times", defArgs s__law_times, defBody s__law_times, defScope s__law_times, [], []⟩
def d__law_below : He.DefD := ⟨("_law_below", none), "_law_below", "_law_below", defArgs s__law_below, defBody s__law_below, defScope s__law_below, [], []⟩
def d__law_is : He.DefD := ⟨("_law_is", none), "_law_is", "_law_is", defArgs s__law_is, defBody s__law_is, defScope s__law_is, [], []⟩
def d__law_refused : He.DefD := ⟨("_law_refused", none), "_law_refused", "_law_refused", defArgs s__law_refused, defBody s__law_refused, defScope s__law_refused, [], []⟩
def d_law : He.DefD := ⟨("law", none), "law", "law", defArgs s_law, defBody s_law, defScope s_law, [], []⟩
def d_BadText_init : He.DefD := ⟨("BadText", some "__init__"), "__init__", "BadText.__init__", defArgs s_BadText_init, defBody s_BadText_init, defScope s_BadText_init, [], []⟩
def d_BadPaper_init : He.DefD := ⟨("BadPaper", some "__init__"), "__init__", "BadPaper.__init__", defArgs s_BadPaper_init, defBody s_BadPaper_init, defScope s_BadPaper_init, [], []⟩
def d_BadMachine_init : He.DefD := ⟨("BadMachine", some "__init__"), "__init__", "BadMachine.__init__", defArgs s_BadMachine_init, defBody s_BadMachine_init, defScope s_BadMachine_init, [], []⟩
def d_TooLarge_init : He.DefD := ⟨("TooLarge", some "__init__"), "__init__", "TooLarge.__init__", defArgs s_TooLarge_init, defBody s_TooLarge_init, defScope s_TooLarge_init, [], []⟩
def d_Ratio_init : He.DefD := ⟨("Ratio", some "__init__"), "__init__", "Ratio.__init__", defArgs s_Ratio_init, defBody s_Ratio_init, defScope s_Ratio_init, [.int 1], []⟩
def d_Ratio_add : He.DefD := ⟨("Ratio", some "__add__"), "__add__", "Ratio.__add__", defArgs s_Ratio_add, defBody s_Ratio_add, defScope s_Ratio_add, [], []⟩
def d_Ratio_sub : He.DefD := ⟨("Ratio", some "__sub__"), "__sub__", "Ratio.__sub__", defArgs s_Ratio_sub, defBody s_Ratio_sub, defScope s_Ratio_sub, [], []⟩
def d_Ratio_mul : He.DefD := ⟨("Ratio", some "__mul__"), "__mul__", "Ratio.__mul__", defArgs s_Ratio_mul, defBody s_Ratio_mul, defScope s_Ratio_mul, [], []⟩
def d_Ratio_eq : He.DefD := ⟨("Ratio", some "__eq__"), "__eq__", "Ratio.__eq__", defArgs s_Ratio_eq, defBody s_Ratio_eq, defScope s_Ratio_eq, [], []⟩
def d_Ratio_str : He.DefD := ⟨("Ratio", some "__str__"), "__str__", "Ratio.__str__", defArgs s_Ratio_str, defBody s_Ratio_str, defScope s_Ratio_str, [], []⟩
def d_Ratio_less : He.DefD := ⟨("Ratio", some "less"), "less", "Ratio.less", defArgs s_Ratio_less, defBody s_Ratio_less, defScope s_Ratio_less, [], []⟩
def d_Ratio_by : He.DefD := ⟨("Ratio", some "by"), "by", "Ratio.by", defArgs s_Ratio_by, defBody s_Ratio_by, defScope s_Ratio_by, [], []⟩
def fn : List He.DefD := [d__digits, d__law_pool, d__law_draw, d__law_same, d__law_less, d__law_plus, d__law_minus, d__law_times, d__law_below, d__law_is, d__law_refused, d_law, d_BadText_init, d_BadPaper_init, d_BadMachine_init, d_TooLarge_init, d_Ratio_init, d_Ratio_add, d_Ratio_sub, d_Ratio_mul, d_Ratio_eq, d_Ratio_str, d_Ratio_less, d_Ratio_by]
def fas (K : PySem.W.Frag) : List Bool := [(He.Fa.free "ValueError").ok K,
  (He.Fa.free "abs").ok K,
  (He.Fa.free "bool").ok K,
  (He.Fa.free "divmod").ok K,
  (He.Fa.free "int").ok K,
  (He.Fa.free "isinstance").ok K,
  (He.Fa.free "len").ok K,
  (He.Fa.free "list").ok K,
  (He.Fa.free "range").ok K,
  (He.Fa.free "str").ok K,
  (He.Fa.free "tuple").ok K,
  (He.Fa.glo "_digits").ok K,
  (He.Fa.glo "_law_pool").ok K,
  (He.Fa.glo "_law_draw").ok K,
  (He.Fa.glo "_law_same").ok K,
  (He.Fa.glo "_law_less").ok K,
  (He.Fa.glo "_law_plus").ok K,
  (He.Fa.glo "_law_minus").ok K,
  (He.Fa.glo "_law_times").ok K,
  (He.Fa.glo "_law_below").ok K,
  (He.Fa.glo "_law_is").ok K,
  (He.Fa.glo "_law_refused").ok K,
  (He.Fa.glo "law").ok K,
  blB K "gcd" "math.gcd",
  (He.Fa.int "PART_END" (10000000000000000000000000000000000000000000000000000000000000000)).ok K,
  (He.Fa.glo "TestError").ok K,
  (He.Fa.keep "TestError").ok K,
  (He.Fa.exc "TestError").ok K,
  isEB K "TestError",
  (He.Fa.glo "BadText").ok K,
  (He.Fa.keep "BadText").ok K,
  isEB K "BadText",
  (He.Fa.glo "BadPaper").ok K,
  (He.Fa.keep "BadPaper").ok K,
  isEB K "BadPaper",
  (He.Fa.glo "BadMachine").ok K,
  (He.Fa.keep "BadMachine").ok K,
  isEB K "BadMachine",
  (He.Fa.glo "TooLarge").ok K,
  (He.Fa.keep "TooLarge").ok K,
  isEB K "TooLarge",
  (He.Fa.glo "BadRatio").ok K,
  (He.Fa.keep "BadRatio").ok K,
  (He.Fa.exc "BadRatio").ok K,
  isEB K "BadRatio",
  (He.Fa.glo "Ratio").ok K,
  (He.Fa.keep "Ratio").ok K,
  (He.Fa.cls "Ratio").ok K,
  instB K "Ratio",
  (He.Fa.mkr "Ratio").ok K,
  PySem.W.selfFirst K (He.ga K "Ratio"),
  (He.Fa.meth "Ratio" "__init__").ok K,
  (He.Fa.meth "Ratio" "__add__").ok K,
  (He.Fa.meth "Ratio" "__sub__").ok K,
  (He.Fa.meth "Ratio" "__mul__").ok K,
  (He.Fa.meth "Ratio" "__eq__").ok K,
  (He.Fa.meth "Ratio" "__str__").ok K,
  (He.Fa.meth "Ratio" "less").ok K,
  (He.Fa.meth "Ratio" "by").ok K,
  (He.Fa.noat "Ratio" "num").ok K,
  (He.Fa.noat "Ratio" "den").ok K,
  decide (PySem.W.kitOne K (.ref (He.ga K "BadText")) (.type "ValueError") = some true),
  decide (PySem.W.kitOne K (.ref (He.ga K "BadText")) (.ref (He.ga K "TestError")) = some true),
  decide (PySem.W.exmOne K (.ref (He.ga K "BadText")) (.ref (He.ga K "TestError")) = some true),
  decide (PySem.W.kitOne K (.ref (He.ga K "BadText")) (.ref (He.ga K "BadText")) = some true),
  decide (PySem.W.exmOne K (.ref (He.ga K "BadText")) (.ref (He.ga K "BadText")) = some true),
  decide (PySem.W.kitOne K (.ref (He.ga K "BadText")) (.ref (He.ga K "BadPaper")) = some false),
  decide (PySem.W.exmOne K (.ref (He.ga K "BadText")) (.ref (He.ga K "BadPaper")) = some false),
  decide (PySem.W.kitOne K (.ref (He.ga K "BadText")) (.ref (He.ga K "BadMachine")) = some false),
  decide (PySem.W.exmOne K (.ref (He.ga K "BadText")) (.ref (He.ga K "BadMachine")) = some false),
  decide (PySem.W.kitOne K (.ref (He.ga K "BadText")) (.ref (He.ga K "TooLarge")) = some false),
  decide (PySem.W.exmOne K (.ref (He.ga K "BadText")) (.ref (He.ga K "TooLarge")) = some false),
  decide (PySem.W.kitOne K (.ref (He.ga K "BadText")) (.ref (He.ga K "BadRatio")) = some false),
  decide (PySem.W.exmOne K (.ref (He.ga K "BadText")) (.ref (He.ga K "BadRatio")) = some false),
  decide (PySem.W.kitOne K (.ref (He.ga K "BadPaper")) (.type "ValueError") = some true),
  decide (PySem.W.kitOne K (.ref (He.ga K "BadPaper")) (.ref (He.ga K "TestError")) = some true),
  decide (PySem.W.exmOne K (.ref (He.ga K "BadPaper")) (.ref (He.ga K "TestError")) = some true),
  decide (PySem.W.kitOne K (.ref (He.ga K "BadPaper")) (.ref (He.ga K "BadText")) = some false),
  decide (PySem.W.exmOne K (.ref (He.ga K "BadPaper")) (.ref (He.ga K "BadText")) = some false),
  decide (PySem.W.kitOne K (.ref (He.ga K "BadPaper")) (.ref (He.ga K "BadPaper")) = some true),
  decide (PySem.W.exmOne K (.ref (He.ga K "BadPaper")) (.ref (He.ga K "BadPaper")) = some true),
  decide (PySem.W.kitOne K (.ref (He.ga K "BadPaper")) (.ref (He.ga K "BadMachine")) = some false),
  decide (PySem.W.exmOne K (.ref (He.ga K "BadPaper")) (.ref (He.ga K "BadMachine")) = some false),
  decide (PySem.W.kitOne K (.ref (He.ga K "BadPaper")) (.ref (He.ga K "TooLarge")) = some false),
  decide (PySem.W.exmOne K (.ref (He.ga K "BadPaper")) (.ref (He.ga K "TooLarge")) = some false),
  decide (PySem.W.kitOne K (.ref (He.ga K "BadPaper")) (.ref (He.ga K "BadRatio")) = some false),
  decide (PySem.W.exmOne K (.ref (He.ga K "BadPaper")) (.ref (He.ga K "BadRatio")) = some false),
  decide (PySem.W.kitOne K (.ref (He.ga K "BadMachine")) (.type "ValueError") = some true),
  decide (PySem.W.kitOne K (.ref (He.ga K "BadMachine")) (.ref (He.ga K "TestError")) = some true),
  decide (PySem.W.exmOne K (.ref (He.ga K "BadMachine")) (.ref (He.ga K "TestError")) = some true),
  decide (PySem.W.kitOne K (.ref (He.ga K "BadMachine")) (.ref (He.ga K "BadText")) = some false),
  decide (PySem.W.exmOne K (.ref (He.ga K "BadMachine")) (.ref (He.ga K "BadText")) = some false),
  decide (PySem.W.kitOne K (.ref (He.ga K "BadMachine")) (.ref (He.ga K "BadPaper")) = some false),
  decide (PySem.W.exmOne K (.ref (He.ga K "BadMachine")) (.ref (He.ga K "BadPaper")) = some false),
  decide (PySem.W.kitOne K (.ref (He.ga K "BadMachine")) (.ref (He.ga K "BadMachine")) = some true),
  decide (PySem.W.exmOne K (.ref (He.ga K "BadMachine")) (.ref (He.ga K "BadMachine")) = some true),
  decide (PySem.W.kitOne K (.ref (He.ga K "BadMachine")) (.ref (He.ga K "TooLarge")) = some false),
  decide (PySem.W.exmOne K (.ref (He.ga K "BadMachine")) (.ref (He.ga K "TooLarge")) = some false),
  decide (PySem.W.kitOne K (.ref (He.ga K "BadMachine")) (.ref (He.ga K "BadRatio")) = some false),
  decide (PySem.W.exmOne K (.ref (He.ga K "BadMachine")) (.ref (He.ga K "BadRatio")) = some false),
  decide (PySem.W.kitOne K (.ref (He.ga K "TooLarge")) (.type "ValueError") = some true),
  decide (PySem.W.kitOne K (.ref (He.ga K "TooLarge")) (.ref (He.ga K "TestError")) = some true),
  decide (PySem.W.exmOne K (.ref (He.ga K "TooLarge")) (.ref (He.ga K "TestError")) = some true),
  decide (PySem.W.kitOne K (.ref (He.ga K "TooLarge")) (.ref (He.ga K "BadText")) = some false),
  decide (PySem.W.exmOne K (.ref (He.ga K "TooLarge")) (.ref (He.ga K "BadText")) = some false),
  decide (PySem.W.kitOne K (.ref (He.ga K "TooLarge")) (.ref (He.ga K "BadPaper")) = some false),
  decide (PySem.W.exmOne K (.ref (He.ga K "TooLarge")) (.ref (He.ga K "BadPaper")) = some false),
  decide (PySem.W.kitOne K (.ref (He.ga K "TooLarge")) (.ref (He.ga K "BadMachine")) = some false),
  decide (PySem.W.exmOne K (.ref (He.ga K "TooLarge")) (.ref (He.ga K "BadMachine")) = some false),
  decide (PySem.W.kitOne K (.ref (He.ga K "TooLarge")) (.ref (He.ga K "TooLarge")) = some true),
  decide (PySem.W.exmOne K (.ref (He.ga K "TooLarge")) (.ref (He.ga K "TooLarge")) = some true),
  decide (PySem.W.kitOne K (.ref (He.ga K "TooLarge")) (.ref (He.ga K "BadRatio")) = some false),
  decide (PySem.W.exmOne K (.ref (He.ga K "TooLarge")) (.ref (He.ga K "BadRatio")) = some false),
  decide (PySem.W.kitOne K (.ref (He.ga K "BadRatio")) (.type "ValueError") = some true),
  decide (PySem.W.kitOne K (.ref (He.ga K "BadRatio")) (.ref (He.ga K "TestError")) = some true),
  decide (PySem.W.exmOne K (.ref (He.ga K "BadRatio")) (.ref (He.ga K "TestError")) = some true),
  decide (PySem.W.kitOne K (.ref (He.ga K "BadRatio")) (.ref (He.ga K "BadText")) = some false),
  decide (PySem.W.exmOne K (.ref (He.ga K "BadRatio")) (.ref (He.ga K "BadText")) = some false),
  decide (PySem.W.kitOne K (.ref (He.ga K "BadRatio")) (.ref (He.ga K "BadPaper")) = some false),
  decide (PySem.W.exmOne K (.ref (He.ga K "BadRatio")) (.ref (He.ga K "BadPaper")) = some false),
  decide (PySem.W.kitOne K (.ref (He.ga K "BadRatio")) (.ref (He.ga K "BadMachine")) = some false),
  decide (PySem.W.exmOne K (.ref (He.ga K "BadRatio")) (.ref (He.ga K "BadMachine")) = some false),
  decide (PySem.W.kitOne K (.ref (He.ga K "BadRatio")) (.ref (He.ga K "TooLarge")) = some false),
  decide (PySem.W.exmOne K (.ref (He.ga K "BadRatio")) (.ref (He.ga K "TooLarge")) = some false),
  decide (PySem.W.kitOne K (.ref (He.ga K "BadRatio")) (.ref (He.ga K "BadRatio")) = some true),
  decide (PySem.W.exmOne K (.ref (He.ga K "BadRatio")) (.ref (He.ga K "BadRatio")) = some true)]
def ex (K : PySem.W.Frag) : Bool := (fas K).all id
theorem fas_at {K : PySem.W.Frag} (c : ex K = true) (i : Nat) {b : Bool} (h : (fas K)[i]? = some b) : b = true := List.all_eq_true.mp c b (List.mem_of_getElem? h)
structure Dt (K : PySem.W.Frag) (mg : Str → Option Value) : Prop where
  s : SaysY ex fn K
  n : ∃ h : Heap, K.In h ∧ h.Ns mainGlobals mg
section
variable {K : PySem.W.Frag} {mg : Str → Option Value}
theorem free_ValueError (D : Dt K mg) : mg "ValueError" = none := by obtain ⟨h, X, G⟩ := D.n; exact He.free_ok X G (fas_at D.s.more 0 rfl)
theorem free_abs (D : Dt K mg) : mg "abs" = none := by obtain ⟨h, X, G⟩ := D.n; exact He.free_ok X G (fas_at D.s.more 1 rfl)
theorem free_bool (D : Dt K mg) : mg "bool" = none := by obtain ⟨h, X, G⟩ := D.n; exact He.free_ok X G (fas_at D.s.more 2 rfl)
theorem free_divmod (D : Dt K mg) : mg "divmod" = none := by obtain ⟨h, X, G⟩ := D.n; exact He.free_ok X G (fas_at D.s.more 3 rfl)
theorem free_int (D : Dt K mg) : mg "int" = none := by obtain ⟨h, X, G⟩ := D.n; exact He.free_ok X G (fas_at D.s.more 4 rfl)
theorem free_isinstance (D : Dt K mg) : mg "isinstance" = none := by obtain ⟨h, X, G⟩ := D.n; exact He.free_ok X G (fas_at D.s.more 5 rfl)
theorem free_len (D : Dt K mg) : mg "len" = none := by obtain ⟨h, X, G⟩ := D.n; exact He.free_ok X G (fas_at D.s.more 6 rfl)
theorem free_list (D : Dt K mg) : mg "list" = none := by obtain ⟨h, X, G⟩ := D.n; exact He.free_ok X G (fas_at D.s.more 7 rfl)
theorem free_range (D : Dt K mg) : mg "range" = none := by obtain ⟨h, X, G⟩ := D.n; exact He.free_ok X G (fas_at D.s.more 8 rfl)
theorem free_str (D : Dt K mg) : mg "str" = none := by obtain ⟨h, X, G⟩ := D.n; exact He.free_ok X G (fas_at D.s.more 9 rfl)
theorem free_tuple (D : Dt K mg) : mg "tuple" = none := by obtain ⟨h, X, G⟩ := D.n; exact He.free_ok X G (fas_at D.s.more 10 rfl)
theorem glo__digits (D : Dt K mg) : mg "_digits" = some (.ref (He.ga K "_digits")) := by obtain ⟨h, X, G⟩ := D.n; exact He.glo_ok X G (fas_at D.s.more 11 rfl)
theorem glo__law_pool (D : Dt K mg) : mg "_law_pool" = some (.ref (He.ga K "_law_pool")) := by obtain ⟨h, X, G⟩ := D.n; exact He.glo_ok X G (fas_at D.s.more 12 rfl)
theorem glo__law_draw (D : Dt K mg) : mg "_law_draw" = some (.ref (He.ga K "_law_draw")) := by obtain ⟨h, X, G⟩ := D.n; exact He.glo_ok X G (fas_at D.s.more 13 rfl)
theorem glo__law_same (D : Dt K mg) : mg "_law_same" = some (.ref (He.ga K "_law_same")) := by obtain ⟨h, X, G⟩ := D.n; exact He.glo_ok X G (fas_at D.s.more 14 rfl)
theorem glo__law_less (D : Dt K mg) : mg "_law_less" = some (.ref (He.ga K "_law_less")) := by obtain ⟨h, X, G⟩ := D.n; exact He.glo_ok X G (fas_at D.s.more 15 rfl)
theorem glo__law_plus (D : Dt K mg) : mg "_law_plus" = some (.ref (He.ga K "_law_plus")) := by obtain ⟨h, X, G⟩ := D.n; exact He.glo_ok X G (fas_at D.s.more 16 rfl)
theorem glo__law_minus (D : Dt K mg) : mg "_law_minus" = some (.ref (He.ga K "_law_minus")) := by obtain ⟨h, X, G⟩ := D.n; exact He.glo_ok X G (fas_at D.s.more 17 rfl)
theorem glo__law_times (D : Dt K mg) : mg "_law_times" = some (.ref (He.ga K "_law_times")) := by obtain ⟨h, X, G⟩ := D.n; exact He.glo_ok X G (fas_at D.s.more 18 rfl)
theorem glo__law_below (D : Dt K mg) : mg "_law_below" = some (.ref (He.ga K "_law_below")) := by obtain ⟨h, X, G⟩ := D.n; exact He.glo_ok X G (fas_at D.s.more 19 rfl)
theorem glo__law_is (D : Dt K mg) : mg "_law_is" = some (.ref (He.ga K "_law_is")) := by obtain ⟨h, X, G⟩ := D.n; exact He.glo_ok X G (fas_at D.s.more 20 rfl)
theorem glo__law_refused (D : Dt K mg) : mg "_law_refused" = some (.ref (He.ga K "_law_refused")) := by obtain ⟨h, X, G⟩ := D.n; exact He.glo_ok X G (fas_at D.s.more 21 rfl)
theorem glo_law (D : Dt K mg) : mg "law" = some (.ref (He.ga K "law")) := by obtain ⟨h, X, G⟩ := D.n; exact He.glo_ok X G (fas_at D.s.more 22 rfl)
theorem blt_gcd (D : Dt K mg) : mg "gcd" = some (.builtin "math.gcd") := by obtain ⟨h, X, G⟩ := D.n; exact blB_ok X G (fas_at D.s.more 23 rfl)
theorem int_PART_END (D : Dt K mg) : ∃ t, mg "PART_END" = some (.int (10000000000000000000000000000000000000000000000000000000000000000) t) := by obtain ⟨h, X, G⟩ := D.n; exact He.int_ok X G (fas_at D.s.more 24 rfl)
theorem glo_TestError (D : Dt K mg) : mg "TestError" = some (.ref (He.ga K "TestError")) := by obtain ⟨h, X, G⟩ := D.n; exact He.glo_ok X G (fas_at D.s.more 25 rfl)
theorem kp_TestError (D : Dt K mg) : PySem.W.keepIn K (.ref (He.ga K "TestError")) = true := He.keep_ok (fas_at D.s.more 26 rfl)
theorem exc_TestError (D : Dt K mg) : PySem.W.excIn K (He.ga K "TestError") He.veBase "ValueError.__new__" = true ∧ PySem.W.keepIn K (.ref (He.ga K "TestError")) = true ∧ PySem.W.subIn K (.ref (He.ga K "TestError")) (.type "BaseException") = some true ∧ PySem.W.typeIn K (.ref (He.ga K "TestError")) = some (.type "type") := He.exc_ok (fas_at D.s.more 27 rfl)
theorem isE_TestError (D : Dt K mg) : ExcC K (He.ga K "TestError") := isEB_ok (fas_at D.s.more 28 rfl)
theorem glo_BadText (D : Dt K mg) : mg "BadText" = some (.ref (He.ga K "BadText")) := by obtain ⟨h, X, G⟩ := D.n; exact He.glo_ok X G (fas_at D.s.more 29 rfl)
theorem kp_BadText (D : Dt K mg) : PySem.W.keepIn K (.ref (He.ga K "BadText")) = true := He.keep_ok (fas_at D.s.more 30 rfl)
theorem isE_BadText (D : Dt K mg) : ExcC K (He.ga K "BadText") := isEB_ok (fas_at D.s.more 31 rfl)
theorem glo_BadPaper (D : Dt K mg) : mg "BadPaper" = some (.ref (He.ga K "BadPaper")) := by obtain ⟨h, X, G⟩ := D.n; exact He.glo_ok X G (fas_at D.s.more 32 rfl)
theorem kp_BadPaper (D : Dt K mg) : PySem.W.keepIn K (.ref (He.ga K "BadPaper")) = true := He.keep_ok (fas_at D.s.more 33 rfl)
theorem isE_BadPaper (D : Dt K mg) : ExcC K (He.ga K "BadPaper") := isEB_ok (fas_at D.s.more 34 rfl)
theorem glo_BadMachine (D : Dt K mg) : mg "BadMachine" = some (.ref (He.ga K "BadMachine")) := by obtain ⟨h, X, G⟩ := D.n; exact He.glo_ok X G (fas_at D.s.more 35 rfl)
theorem kp_BadMachine (D : Dt K mg) : PySem.W.keepIn K (.ref (He.ga K "BadMachine")) = true := He.keep_ok (fas_at D.s.more 36 rfl)
theorem isE_BadMachine (D : Dt K mg) : ExcC K (He.ga K "BadMachine") := isEB_ok (fas_at D.s.more 37 rfl)
theorem glo_TooLarge (D : Dt K mg) : mg "TooLarge" = some (.ref (He.ga K "TooLarge")) := by obtain ⟨h, X, G⟩ := D.n; exact He.glo_ok X G (fas_at D.s.more 38 rfl)
theorem kp_TooLarge (D : Dt K mg) : PySem.W.keepIn K (.ref (He.ga K "TooLarge")) = true := He.keep_ok (fas_at D.s.more 39 rfl)
theorem isE_TooLarge (D : Dt K mg) : ExcC K (He.ga K "TooLarge") := isEB_ok (fas_at D.s.more 40 rfl)
theorem glo_BadRatio (D : Dt K mg) : mg "BadRatio" = some (.ref (He.ga K "BadRatio")) := by obtain ⟨h, X, G⟩ := D.n; exact He.glo_ok X G (fas_at D.s.more 41 rfl)
theorem kp_BadRatio (D : Dt K mg) : PySem.W.keepIn K (.ref (He.ga K "BadRatio")) = true := He.keep_ok (fas_at D.s.more 42 rfl)
theorem exc_BadRatio (D : Dt K mg) : PySem.W.excIn K (He.ga K "BadRatio") He.veBase "ValueError.__new__" = true ∧ PySem.W.keepIn K (.ref (He.ga K "BadRatio")) = true ∧ PySem.W.subIn K (.ref (He.ga K "BadRatio")) (.type "BaseException") = some true ∧ PySem.W.typeIn K (.ref (He.ga K "BadRatio")) = some (.type "type") := He.exc_ok (fas_at D.s.more 43 rfl)
theorem isE_BadRatio (D : Dt K mg) : ExcC K (He.ga K "BadRatio") := isEB_ok (fas_at D.s.more 44 rfl)
theorem glo_Ratio (D : Dt K mg) : mg "Ratio" = some (.ref (He.ga K "Ratio")) := by obtain ⟨h, X, G⟩ := D.n; exact He.glo_ok X G (fas_at D.s.more 45 rfl)
theorem kp_Ratio (D : Dt K mg) : PySem.W.keepIn K (.ref (He.ga K "Ratio")) = true := He.keep_ok (fas_at D.s.more 46 rfl)
theorem cls_Ratio (D : Dt K mg) : Cls K (He.ga K "Ratio") := He.cls_ok (fas_at D.s.more 47 rfl)
theorem inst_Ratio (D : Dt K mg) : InstC K (He.ga K "Ratio") := instB_ok (fas_at D.s.more 48 rfl)
theorem mkr_Ratio (D : Dt K mg) : Mk K (He.ga K "Ratio") (He.ma K (He.ga K "Ratio") "__init__") := He.mkr_ok (fas_at D.s.more 49 rfl)
theorem self_Ratio (D : Dt K mg) : PySem.W.selfFirst K (He.ga K "Ratio") = true := fas_at D.s.more 50 rfl
theorem me_Ratio_init (D : Dt K mg) : Meth K (He.ga K "Ratio") "__init__" (He.ma K (He.ga K "Ratio") "__init__") := He.meth_ok (fas_at D.s.more 51 rfl)
theorem me_Ratio_add (D : Dt K mg) : Meth K (He.ga K "Ratio") "__add__" (He.ma K (He.ga K "Ratio") "__add__") := He.meth_ok (fas_at D.s.more 52 rfl)
theorem me_Ratio_sub (D : Dt K mg) : Meth K (He.ga K "Ratio") "__sub__" (He.ma K (He.ga K "Ratio") "__sub__") := He.meth_ok (fas_at D.s.more 53 rfl)
theorem me_Ratio_mul (D : Dt K mg) : Meth K (He.ga K "Ratio") "__mul__" (He.ma K (He.ga K "Ratio") "__mul__") := He.meth_ok (fas_at D.s.more 54 rfl)
theorem me_Ratio_eq (D : Dt K mg) : Meth K (He.ga K "Ratio") "__eq__" (He.ma K (He.ga K "Ratio") "__eq__") := He.meth_ok (fas_at D.s.more 55 rfl)
theorem me_Ratio_str (D : Dt K mg) : Meth K (He.ga K "Ratio") "__str__" (He.ma K (He.ga K "Ratio") "__str__") := He.meth_ok (fas_at D.s.more 56 rfl)
theorem me_Ratio_less (D : Dt K mg) : Meth K (He.ga K "Ratio") "less" (He.ma K (He.ga K "Ratio") "less") := He.meth_ok (fas_at D.s.more 57 rfl)
theorem me_Ratio_by (D : Dt K mg) : Meth K (He.ga K "Ratio") "by" (He.ma K (He.ga K "Ratio") "by") := He.meth_ok (fas_at D.s.more 58 rfl)
theorem na_Ratio_num (D : Dt K mg) : NoAttr K (He.ga K "Ratio") "num" := He.noat_ok (fas_at D.s.more 59 rfl)
theorem na_Ratio_den (D : Dt K mg) : NoAttr K (He.ga K "Ratio") "den" := He.noat_ok (fas_at D.s.more 60 rfl)
theorem kitV_BadText (D : Dt K mg) : PySem.W.kitOne K (.ref (He.ga K "BadText")) (.type "ValueError") = some true := of_decide_eq_true (fas_at D.s.more 61 rfl)
theorem kit_BadText_TestError (D : Dt K mg) : PySem.W.kitOne K (.ref (He.ga K "BadText")) (.ref (He.ga K "TestError")) = some true := of_decide_eq_true (fas_at D.s.more 62 rfl)
theorem exm_BadText_TestError (D : Dt K mg) : PySem.W.exmOne K (.ref (He.ga K "BadText")) (.ref (He.ga K "TestError")) = some true := of_decide_eq_true (fas_at D.s.more 63 rfl)
theorem kit_BadText_BadText (D : Dt K mg) : PySem.W.kitOne K (.ref (He.ga K "BadText")) (.ref (He.ga K "BadText")) = some true := of_decide_eq_true (fas_at D.s.more 64 rfl)
theorem exm_BadText_BadText (D : Dt K mg) : PySem.W.exmOne K (.ref (He.ga K "BadText")) (.ref (He.ga K "BadText")) = some true := of_decide_eq_true (fas_at D.s.more 65 rfl)
theorem kit_BadText_BadPaper (D : Dt K mg) : PySem.W.kitOne K (.ref (He.ga K "BadText")) (.ref (He.ga K "BadPaper")) = some false := of_decide_eq_true (fas_at D.s.more 66 rfl)
theorem exm_BadText_BadPaper (D : Dt K mg) : PySem.W.exmOne K (.ref (He.ga K "BadText")) (.ref (He.ga K "BadPaper")) = some false := of_decide_eq_true (fas_at D.s.more 67 rfl)
theorem kit_BadText_BadMachine (D : Dt K mg) : PySem.W.kitOne K (.ref (He.ga K "BadText")) (.ref (He.ga K "BadMachine")) = some false := of_decide_eq_true (fas_at D.s.more 68 rfl)
theorem exm_BadText_BadMachine (D : Dt K mg) : PySem.W.exmOne K (.ref (He.ga K "BadText")) (.ref (He.ga K "BadMachine")) = some false := of_decide_eq_true (fas_at D.s.more 69 rfl)
theorem kit_BadText_TooLarge (D : Dt K mg) : PySem.W.kitOne K (.ref (He.ga K "BadText")) (.ref (He.ga K "TooLarge")) = some false := of_decide_eq_true (fas_at D.s.more 70 rfl)
theorem exm_BadText_TooLarge (D : Dt K mg) : PySem.W.exmOne K (.ref (He.ga K "BadText")) (.ref (He.ga K "TooLarge")) = some false := of_decide_eq_true (fas_at D.s.more 71 rfl)
theorem kit_BadText_BadRatio (D : Dt K mg) : PySem.W.kitOne K (.ref (He.ga K "BadText")) (.ref (He.ga K "BadRatio")) = some false := of_decide_eq_true (fas_at D.s.more 72 rfl)
theorem exm_BadText_BadRatio (D : Dt K mg) : PySem.W.exmOne K (.ref (He.ga K "BadText")) (.ref (He.ga K "BadRatio")) = some false := of_decide_eq_true (fas_at D.s.more 73 rfl)
theorem kitV_BadPaper (D : Dt K mg) : PySem.W.kitOne K (.ref (He.ga K "BadPaper")) (.type "ValueError") = some true := of_decide_eq_true (fas_at D.s.more 74 rfl)
theorem kit_BadPaper_TestError (D : Dt K mg) : PySem.W.kitOne K (.ref (He.ga K "BadPaper")) (.ref (He.ga K "TestError")) = some true := of_decide_eq_true (fas_at D.s.more 75 rfl)
theorem exm_BadPaper_TestError (D : Dt K mg) : PySem.W.exmOne K (.ref (He.ga K "BadPaper")) (.ref (He.ga K "TestError")) = some true := of_decide_eq_true (fas_at D.s.more 76 rfl)
theorem kit_BadPaper_BadText (D : Dt K mg) : PySem.W.kitOne K (.ref (He.ga K "BadPaper")) (.ref (He.ga K "BadText")) = some false := of_decide_eq_true (fas_at D.s.more 77 rfl)
theorem exm_BadPaper_BadText (D : Dt K mg) : PySem.W.exmOne K (.ref (He.ga K "BadPaper")) (.ref (He.ga K "BadText")) = some false := of_decide_eq_true (fas_at D.s.more 78 rfl)
theorem kit_BadPaper_BadPaper (D : Dt K mg) : PySem.W.kitOne K (.ref (He.ga K "BadPaper")) (.ref (He.ga K "BadPaper")) = some true := of_decide_eq_true (fas_at D.s.more 79 rfl)
theorem exm_BadPaper_BadPaper (D : Dt K mg) : PySem.W.exmOne K (.ref (He.ga K "BadPaper")) (.ref (He.ga K "BadPaper")) = some true := of_decide_eq_true (fas_at D.s.more 80 rfl)
theorem kit_BadPaper_BadMachine (D : Dt K mg) : PySem.W.kitOne K (.ref (He.ga K "BadPaper")) (.ref (He.ga K "BadMachine")) = some false := of_decide_eq_true (fas_at D.s.more 81 rfl)
theorem exm_BadPaper_BadMachine (D : Dt K mg) : PySem.W.exmOne K (.ref (He.ga K "BadPaper")) (.ref (He.ga K "BadMachine")) = some false := of_decide_eq_true (fas_at D.s.more 82 rfl)
theorem kit_BadPaper_TooLarge (D : Dt K mg) : PySem.W.kitOne K (.ref (He.ga K "BadPaper")) (.ref (He.ga K "TooLarge")) = some false := of_decide_eq_true (fas_at D.s.more 83 rfl)
theorem exm_BadPaper_TooLarge (D : Dt K mg) : PySem.W.exmOne K (.ref (He.ga K "BadPaper")) (.ref (He.ga K "TooLarge")) = some false := of_decide_eq_true (fas_at D.s.more 84 rfl)
theorem kit_BadPaper_BadRatio (D : Dt K mg) : PySem.W.kitOne K (.ref (He.ga K "BadPaper")) (.ref (He.ga K "BadRatio")) = some false := of_decide_eq_true (fas_at D.s.more 85 rfl)
theorem exm_BadPaper_BadRatio (D : Dt K mg) : PySem.W.exmOne K (.ref (He.ga K "BadPaper")) (.ref (He.ga K "BadRatio")) = some false := of_decide_eq_true (fas_at D.s.more 86 rfl)
theorem kitV_BadMachine (D : Dt K mg) : PySem.W.kitOne K (.ref (He.ga K "BadMachine")) (.type "ValueError") = some true := of_decide_eq_true (fas_at D.s.more 87 rfl)
theorem kit_BadMachine_TestError (D : Dt K mg) : PySem.W.kitOne K (.ref (He.ga K "BadMachine")) (.ref (He.ga K "TestError")) = some true := of_decide_eq_true (fas_at D.s.more 88 rfl)
theorem exm_BadMachine_TestError (D : Dt K mg) : PySem.W.exmOne K (.ref (He.ga K "BadMachine")) (.ref (He.ga K "TestError")) = some true := of_decide_eq_true (fas_at D.s.more 89 rfl)
theorem kit_BadMachine_BadText (D : Dt K mg) : PySem.W.kitOne K (.ref (He.ga K "BadMachine")) (.ref (He.ga K "BadText")) = some false := of_decide_eq_true (fas_at D.s.more 90 rfl)
theorem exm_BadMachine_BadText (D : Dt K mg) : PySem.W.exmOne K (.ref (He.ga K "BadMachine")) (.ref (He.ga K "BadText")) = some false := of_decide_eq_true (fas_at D.s.more 91 rfl)
theorem kit_BadMachine_BadPaper (D : Dt K mg) : PySem.W.kitOne K (.ref (He.ga K "BadMachine")) (.ref (He.ga K "BadPaper")) = some false := of_decide_eq_true (fas_at D.s.more 92 rfl)
theorem exm_BadMachine_BadPaper (D : Dt K mg) : PySem.W.exmOne K (.ref (He.ga K "BadMachine")) (.ref (He.ga K "BadPaper")) = some false := of_decide_eq_true (fas_at D.s.more 93 rfl)
theorem kit_BadMachine_BadMachine (D : Dt K mg) : PySem.W.kitOne K (.ref (He.ga K "BadMachine")) (.ref (He.ga K "BadMachine")) = some true := of_decide_eq_true (fas_at D.s.more 94 rfl)
theorem exm_BadMachine_BadMachine (D : Dt K mg) : PySem.W.exmOne K (.ref (He.ga K "BadMachine")) (.ref (He.ga K "BadMachine")) = some true := of_decide_eq_true (fas_at D.s.more 95 rfl)
theorem kit_BadMachine_TooLarge (D : Dt K mg) : PySem.W.kitOne K (.ref (He.ga K "BadMachine")) (.ref (He.ga K "TooLarge")) = some false := of_decide_eq_true (fas_at D.s.more 96 rfl)
theorem exm_BadMachine_TooLarge (D : Dt K mg) : PySem.W.exmOne K (.ref (He.ga K "BadMachine")) (.ref (He.ga K "TooLarge")) = some false := of_decide_eq_true (fas_at D.s.more 97 rfl)
theorem kit_BadMachine_BadRatio (D : Dt K mg) : PySem.W.kitOne K (.ref (He.ga K "BadMachine")) (.ref (He.ga K "BadRatio")) = some false := of_decide_eq_true (fas_at D.s.more 98 rfl)
theorem exm_BadMachine_BadRatio (D : Dt K mg) : PySem.W.exmOne K (.ref (He.ga K "BadMachine")) (.ref (He.ga K "BadRatio")) = some false := of_decide_eq_true (fas_at D.s.more 99 rfl)
theorem kitV_TooLarge (D : Dt K mg) : PySem.W.kitOne K (.ref (He.ga K "TooLarge")) (.type "ValueError") = some true := of_decide_eq_true (fas_at D.s.more 100 rfl)
theorem kit_TooLarge_TestError (D : Dt K mg) : PySem.W.kitOne K (.ref (He.ga K "TooLarge")) (.ref (He.ga K "TestError")) = some true := of_decide_eq_true (fas_at D.s.more 101 rfl)
theorem exm_TooLarge_TestError (D : Dt K mg) : PySem.W.exmOne K (.ref (He.ga K "TooLarge")) (.ref (He.ga K "TestError")) = some true := of_decide_eq_true (fas_at D.s.more 102 rfl)
theorem kit_TooLarge_BadText (D : Dt K mg) : PySem.W.kitOne K (.ref (He.ga K "TooLarge")) (.ref (He.ga K "BadText")) = some false := of_decide_eq_true (fas_at D.s.more 103 rfl)
theorem exm_TooLarge_BadText (D : Dt K mg) : PySem.W.exmOne K (.ref (He.ga K "TooLarge")) (.ref (He.ga K "BadText")) = some false := of_decide_eq_true (fas_at D.s.more 104 rfl)
theorem kit_TooLarge_BadPaper (D : Dt K mg) : PySem.W.kitOne K (.ref (He.ga K "TooLarge")) (.ref (He.ga K "BadPaper")) = some false := of_decide_eq_true (fas_at D.s.more 105 rfl)
theorem exm_TooLarge_BadPaper (D : Dt K mg) : PySem.W.exmOne K (.ref (He.ga K "TooLarge")) (.ref (He.ga K "BadPaper")) = some false := of_decide_eq_true (fas_at D.s.more 106 rfl)
theorem kit_TooLarge_BadMachine (D : Dt K mg) : PySem.W.kitOne K (.ref (He.ga K "TooLarge")) (.ref (He.ga K "BadMachine")) = some false := of_decide_eq_true (fas_at D.s.more 107 rfl)
theorem exm_TooLarge_BadMachine (D : Dt K mg) : PySem.W.exmOne K (.ref (He.ga K "TooLarge")) (.ref (He.ga K "BadMachine")) = some false := of_decide_eq_true (fas_at D.s.more 108 rfl)
theorem kit_TooLarge_TooLarge (D : Dt K mg) : PySem.W.kitOne K (.ref (He.ga K "TooLarge")) (.ref (He.ga K "TooLarge")) = some true := of_decide_eq_true (fas_at D.s.more 109 rfl)
theorem exm_TooLarge_TooLarge (D : Dt K mg) : PySem.W.exmOne K (.ref (He.ga K "TooLarge")) (.ref (He.ga K "TooLarge")) = some true := of_decide_eq_true (fas_at D.s.more 110 rfl)
theorem kit_TooLarge_BadRatio (D : Dt K mg) : PySem.W.kitOne K (.ref (He.ga K "TooLarge")) (.ref (He.ga K "BadRatio")) = some false := of_decide_eq_true (fas_at D.s.more 111 rfl)
theorem exm_TooLarge_BadRatio (D : Dt K mg) : PySem.W.exmOne K (.ref (He.ga K "TooLarge")) (.ref (He.ga K "BadRatio")) = some false := of_decide_eq_true (fas_at D.s.more 112 rfl)
theorem kitV_BadRatio (D : Dt K mg) : PySem.W.kitOne K (.ref (He.ga K "BadRatio")) (.type "ValueError") = some true := of_decide_eq_true (fas_at D.s.more 113 rfl)
theorem kit_BadRatio_TestError (D : Dt K mg) : PySem.W.kitOne K (.ref (He.ga K "BadRatio")) (.ref (He.ga K "TestError")) = some true := of_decide_eq_true (fas_at D.s.more 114 rfl)
theorem exm_BadRatio_TestError (D : Dt K mg) : PySem.W.exmOne K (.ref (He.ga K "BadRatio")) (.ref (He.ga K "TestError")) = some true := of_decide_eq_true (fas_at D.s.more 115 rfl)
theorem kit_BadRatio_BadText (D : Dt K mg) : PySem.W.kitOne K (.ref (He.ga K "BadRatio")) (.ref (He.ga K "BadText")) = some false := of_decide_eq_true (fas_at D.s.more 116 rfl)
theorem exm_BadRatio_BadText (D : Dt K mg) : PySem.W.exmOne K (.ref (He.ga K "BadRatio")) (.ref (He.ga K "BadText")) = some false := of_decide_eq_true (fas_at D.s.more 117 rfl)
theorem kit_BadRatio_BadPaper (D : Dt K mg) : PySem.W.kitOne K (.ref (He.ga K "BadRatio")) (.ref (He.ga K "BadPaper")) = some false := of_decide_eq_true (fas_at D.s.more 118 rfl)
theorem exm_BadRatio_BadPaper (D : Dt K mg) : PySem.W.exmOne K (.ref (He.ga K "BadRatio")) (.ref (He.ga K "BadPaper")) = some false := of_decide_eq_true (fas_at D.s.more 119 rfl)
theorem kit_BadRatio_BadMachine (D : Dt K mg) : PySem.W.kitOne K (.ref (He.ga K "BadRatio")) (.ref (He.ga K "BadMachine")) = some false := of_decide_eq_true (fas_at D.s.more 120 rfl)
theorem exm_BadRatio_BadMachine (D : Dt K mg) : PySem.W.exmOne K (.ref (He.ga K "BadRatio")) (.ref (He.ga K "BadMachine")) = some false := of_decide_eq_true (fas_at D.s.more 121 rfl)
theorem kit_BadRatio_TooLarge (D : Dt K mg) : PySem.W.kitOne K (.ref (He.ga K "BadRatio")) (.ref (He.ga K "TooLarge")) = some false := of_decide_eq_true (fas_at D.s.more 122 rfl)
theorem exm_BadRatio_TooLarge (D : Dt K mg) : PySem.W.exmOne K (.ref (He.ga K "BadRatio")) (.ref (He.ga K "TooLarge")) = some false := of_decide_eq_true (fas_at D.s.more 123 rfl)
theorem kit_BadRatio_BadRatio (D : Dt K mg) : PySem.W.kitOne K (.ref (He.ga K "BadRatio")) (.ref (He.ga K "BadRatio")) = some true := of_decide_eq_true (fas_at D.s.more 124 rfl)
theorem exm_BadRatio_BadRatio (D : Dt K mg) : PySem.W.exmOne K (.ref (He.ga K "BadRatio")) (.ref (He.ga K "BadRatio")) = some true := of_decide_eq_true (fas_at D.s.more 125 rfl)
theorem fd__digits (D : Dt K mg) : ∃ fd, FnP K "_digits" "_digits" s__digits [] (He.ga K "_digits") fd := D.s.get 0 (d := d__digits) rfl
theorem fd__law_pool (D : Dt K mg) : ∃ fd, FnP K "_law_pool" "_law_pool" s__law_pool [] (He.ga K "_law_pool") fd := D.s.get 1 (d := d__law_pool) rfl
theorem fd__law_draw (D : Dt K mg) : ∃ fd, FnP K "_law_draw" "_law_draw" s__law_draw [] (He.ga K "_law_draw") fd := D.s.get 2 (d := d__law_draw) rfl
theorem fd__law_same (D : Dt K mg) : ∃ fd, FnP K "_law_same" "_law_same" s__law_same [] (He.ga K "_law_same") fd := D.s.get 3 (d := d__law_same) rfl
theorem fd__law_less (D : Dt K mg) : ∃ fd, FnP K "_law_less" "_law_less" s__law_less [] (He.ga K "_law_less") fd := D.s.get 4 (d := d__law_less) rfl
theorem fd__law_plus (D : Dt K mg) : ∃ fd, FnP K "_law_plus" "_law_plus" s__law_plus [] (He.ga K "_law_plus") fd := D.s.get 5 (d := d__law_plus) rfl
theorem fd__law_minus (D : Dt K mg) : ∃ fd, FnP K "_law_minus" "_law_minus" s__law_minus [] (He.ga K "_law_minus") fd := D.s.get 6 (d := d__law_minus) rfl
theorem fd__law_times (D : Dt K mg) : ∃ fd, FnP K "_law_times" "_law_times" s__law_times [] (He.ga K "_law_times") fd := D.s.get 7 (d := d__law_times) rfl
theorem fd__law_below (D : Dt K mg) : ∃ fd, FnP K "_law_below" "_law_below" s__law_below [] (He.ga K "_law_below") fd := D.s.get 8 (d := d__law_below) rfl
theorem fd__law_is (D : Dt K mg) : ∃ fd, FnP K "_law_is" "_law_is" s__law_is [] (He.ga K "_law_is") fd := D.s.get 9 (d := d__law_is) rfl
theorem fd__law_refused (D : Dt K mg) : ∃ fd, FnP K "_law_refused" "_law_refused" s__law_refused [] (He.ga K "_law_refused") fd := D.s.get 10 (d := d__law_refused) rfl
theorem fd_law (D : Dt K mg) : ∃ fd, FnP K "law" "law" s_law [] (He.ga K "law") fd := D.s.get 11 (d := d_law) rfl
theorem fd_BadText_init (D : Dt K mg) : ∃ fd, FnP K "__init__" "BadText.__init__" s_BadText_init [] (He.ma K (He.ga K "BadText") "__init__") fd := D.s.get 12 (d := d_BadText_init) rfl
theorem fd_BadPaper_init (D : Dt K mg) : ∃ fd, FnP K "__init__" "BadPaper.__init__" s_BadPaper_init [] (He.ma K (He.ga K "BadPaper") "__init__") fd := D.s.get 13 (d := d_BadPaper_init) rfl
theorem fd_BadMachine_init (D : Dt K mg) : ∃ fd, FnP K "__init__" "BadMachine.__init__" s_BadMachine_init [] (He.ma K (He.ga K "BadMachine") "__init__") fd := D.s.get 14 (d := d_BadMachine_init) rfl
theorem fd_TooLarge_init (D : Dt K mg) : ∃ fd, FnP K "__init__" "TooLarge.__init__" s_TooLarge_init [] (He.ma K (He.ga K "TooLarge") "__init__") fd := D.s.get 15 (d := d_TooLarge_init) rfl
theorem fd_Ratio_init (D : Dt K mg) : ∃ fd, FnP K "__init__" "Ratio.__init__" s_Ratio_init [V.int 1] (He.ma K (He.ga K "Ratio") "__init__") fd := D.s.get 16 (d := d_Ratio_init) rfl
theorem fd_Ratio_add (D : Dt K mg) : ∃ fd, FnP K "__add__" "Ratio.__add__" s_Ratio_add [] (He.ma K (He.ga K "Ratio") "__add__") fd := D.s.get 17 (d := d_Ratio_add) rfl
theorem fd_Ratio_sub (D : Dt K mg) : ∃ fd, FnP K "__sub__" "Ratio.__sub__" s_Ratio_sub [] (He.ma K (He.ga K "Ratio") "__sub__") fd := D.s.get 18 (d := d_Ratio_sub) rfl
theorem fd_Ratio_mul (D : Dt K mg) : ∃ fd, FnP K "__mul__" "Ratio.__mul__" s_Ratio_mul [] (He.ma K (He.ga K "Ratio") "__mul__") fd := D.s.get 19 (d := d_Ratio_mul) rfl
theorem fd_Ratio_eq (D : Dt K mg) : ∃ fd, FnP K "__eq__" "Ratio.__eq__" s_Ratio_eq [] (He.ma K (He.ga K "Ratio") "__eq__") fd := D.s.get 20 (d := d_Ratio_eq) rfl
theorem fd_Ratio_str (D : Dt K mg) : ∃ fd, FnP K "__str__" "Ratio.__str__" s_Ratio_str [] (He.ma K (He.ga K "Ratio") "__str__") fd := D.s.get 21 (d := d_Ratio_str) rfl
theorem fd_Ratio_less (D : Dt K mg) : ∃ fd, FnP K "less" "Ratio.less" s_Ratio_less [] (He.ma K (He.ga K "Ratio") "less") fd := D.s.get 22 (d := d_Ratio_less) rfl
theorem fd_Ratio_by (D : Dt K mg) : ∃ fd, FnP K "by" "Ratio.by" s_Ratio_by [] (He.ma K (He.ga K "Ratio") "by") fd := D.s.get 23 (d := d_Ratio_by) rfl
end
abbrev R : PySem.W.OpenRow := PySem.W.OpenLaw.row PySem.Challenge.rw_notesttells_k00_fractions
abbrev hk : PySem.W.Hook := hookY 4 ex fn
def ob (s : PySem.W.SharedT) : He.AlD := obsYG 4 ex fn (HandSHeadRun.getT s)
theorem ob_eq (s : PySem.W.SharedT) : ob s = hk.obs s.abs := obsYG_eq (HandSHeadRun.getT_eq s)
def loose0 : List Str := ["__name__", "TestError", "BadText", "BadPaper", "BadMachine", "TooLarge", "BadRatio", "PART_END", "_digits", "Ratio", "_law_pool", "_law_draw", "_law_same", "_law_less", "_law_plus", "_law_minus", "_law_times", "_law_below", "_law_is", "_law_refused"]
def loose : List Str := loose0
abbrev vw : Program := PySem.W.view R.prog [0, 23]
theorem run (w : World) : HandSHeadRun.RunEqI R vw hk ob 20000 loose w := by
  unfold HandSHeadRun.RunEqI
  kernel_rfl
end Hd


set_option Elab.async false
set_option linter.all false
set_option maxRecDepth 100000
set_option maxHeartbeats 4000000
namespace K
open PySem PySem.Spec PyProof.Rows L2 Tk Hd Mt
/-! ### a fraction as it stands -/
theorem nd_ : ¬ (("num" : Str) = "den") := by decide +kernel
def rf (q : Rat) : List (Str × V) := putF "den" (.int q.den) (putF "num" (.int q.num) [])
theorem rf_num (q : Rat) : (rf q).lookup ("num" : Str) = some (.int q.num) := by
  unfold rf; rw [lookup_putF, if_neg nd_, lookup_putF, if_pos rfl]
theorem rf_den (q : Rat) : (rf q).lookup ("den" : Str) = some (.int q.den) := by
  unfold rf; rw [lookup_putF, if_pos rfl]
theorem rf_no (q : Rat) {m : Str} (h1 : ¬ m = "den") (h2 : ¬ m = "num") : (rf q).lookup m = none := by
  unfold rf; rw [lookup_putF, if_neg h1, lookup_putF, if_neg h2]; rfl
abbrev CR (K : PySem.W.Frag) : Addr := He.ga K "Ratio"
abbrev CB (K : PySem.W.Frag) : Addr := He.ga K "BadRatio"
def iR (C : Addr) : Rp Rat := fun H v q => ∃ a dx, v = .ref a ∧ H a = some (.ins C dx (rf q))
instance {C : Addr} : Mono (iR C) := ⟨fun s ⟨a, dx, e, h⟩ => ⟨a, dx, e, s _ _ h⟩⟩
/-- numbers that // still takes -/
def Sm (i : Int) : Prop := i.natAbs < 2 ^ 2000
theorem Sm.div {n d : Int} (h : 0 < d) (hd : Sm d) : CDivW n (gz n d) :=
  wide_div (gz_pos h) (Nat.lt_of_le_of_lt (by have := gz_le (n := n) h; have := gz_pos (n := n) h; omega) hd) (by decide) (by decide)
theorem Sm.mul {a b : Int} (ha : Sm a) (hb : Sm b) : CMulW a b := wide_mul ha hb (by decide) (by decide) (by decide)
theorem sm_of {i : Int} (h1 : -(2 ^ 1999) < i) (h2 : i < 2 ^ 1999) : Sm i := by
  have : i.natAbs < 2 ^ 1999 := by omega
  exact Nat.lt_trans this (Nat.pow_lt_pow_right (by decide) (by decide))

/-- Ratio.__init__ -/
def spInit (C B : Addr) : Sp := fun vs H Q E => ∃ (x dx : Addr) (n d : Int), vs = [.ref x, .int n, .int d] ∧ H x = some (.ins C dx []) ∧ Sm d ∧
  (0 < d → Q .non (upd H x (.ins C dx (rf (rt n d))))) ∧ (d ≤ 0 → E (.ref B) none H)
section
variable {P : Program} {w : World} {K : PySem.W.Frag} {mg : Str → Option Value} {base : Heap}
theorem sc_init : FnScope ["self", "num", "den", "common"] ["self", "num", "den"] (defScope s_Ratio_init) := ⟨rfl, rfl, rfl, by decide +kernel, rfl, by decide +kernel, by decide +kernel⟩
theorem ok_init (D : Dt K mg) {fd : FuncData} (F : FnP K "__init__" "Ratio.__init__" s_Ratio_init [.int 1] (He.ma K (CR K) "__init__") fd) :
    FnOk P w K mg base (L2.CX P w) 1 (He.ma K (CR K) "__init__") fd ["self", "num", "den"] (spInit (CR K) (CB K)) := by
  refine F.ok sc_init (fun vs H Q E h => ?_) (fun cdv A outer s H vs Q E hr h => ?_)
  · obtain ⟨x, dx, n, d, rfl, _⟩ := h; rfl
  · obtain ⟨x, dx, n, d, rfl, hx, hd, k1, k2⟩ := h
    obtain ⟨xP, kP, bP, tP⟩ := exc_BadRatio D
    refine ⟨_, pss_cons (ps_if (pt_cmpR op_le (pv 2) pe_int (nomark _)) (pss_one (ps_raise rfl (takes_of rfl rfl rfl rfl) (pmk_own PySem.F.excBase_ValueError xP (glo_BadRatio D) kP (raises_own bP tP) rfl))) pss_nil)
      (pss_cons (ps_set (i := 3) sc_init.nd rfl (Or.inl rfl) (pe_callBfun cr_gcd rfl (blt_gcd D) (pa_cons (pv 1) (pa_cons (pv 2) pa_nil))))
      (pss_cons (ps_fld (pv 0) (pe_op op_fdivW (pv 1) (pv 3)) rfl) (pss_one (ps_fld (pv 0) (pe_op op_fdivW (pv 2) (pv 3)) rfl)))), ?_⟩
    refine ⟨_, rfl, _, _, rfl, rfl, _, rfl, ifD (fun hle => ?_) (fun hgt => ?_)⟩
    · exact k2 hle
    · have h0 : 0 < d := by omega
      refine ⟨_, rfl, _, rfl, n, d, rfl, ?_⟩
      refine ⟨_, rfl, _, rfl, _, _, rfl, rfl, Sm.div h0 hd, _, rfl, x, _, dx, _, rfl, hx, cls_Ratio D, na_Ratio_num D, (by show 0 < 1000; decide), ?_⟩
      refine ⟨_, rfl, _, rfl, _, _, rfl, rfl, Sm.div h0 hd, _, rfl, x, _, dx, _, rfl, upd_same, cls_Ratio D, na_Ratio_den D, (by show 1 < 1000; decide), ?_⟩
      have e1 := rt_num (n := n) h0
      have e2 := rt_den (n := n) h0
      have e3 : putF "den" (V.int (d / gz n d)) (putF "num" (V.int (n / gz n d)) []) = rf (rt n d) := by rw [← e1, ← e2]; rfl
      rw [upd_upd]
      have := k1 h0
      rw [← e3] at this
      exact this
theorem has_init (D : Dt K mg) : Has P w K mg base 1 (He.ma K (CR K) "__init__") ["self", "num", "den"] [] (spInit (CR K) (CB K)) := by
  obtain ⟨fd, F⟩ := fd_Ratio_init D
  obtain ⟨ds, h1, h2⟩ := FunD.binds1 (ps := ["self", "num", "den"]) F 3 1 (by simp) rfl (fun T kV doc pm an cdv ct us its hu hi => match us, hu, its, hi with | [_, _, _], _, [_], _ => ⟨_, rfl, rfl⟩)
  exact ⟨F.kp, fd, ds, h1, h2, ok_init D F⟩
theorem has_init1 (D : Dt K mg) : Has P w K mg base 1 (He.ma K (CR K) "__init__") ["self", "num", "den"] [.int 1] (spInit (CR K) (CB K)) := by
  obtain ⟨fd, F⟩ := fd_Ratio_init D
  obtain ⟨ds, h1, h2⟩ := FunD.binds1 (ps := ["self", "num", "den"]) F 2 0 (by simp) rfl (fun T kV doc pm an cdv ct us its hu hi => match us, hu, its, hi with | [_, _], _, [_], _ => ⟨_, rfl, rfl⟩)
  exact ⟨F.kp, fd, ds, h1, h2, ok_init D F⟩
end
end K

set_option Elab.async false
set_option linter.all false
set_option maxRecDepth 100000
set_option maxHeartbeats 4000000
set_option exponentiation.threshold 5000
namespace K
open PySem PySem.Spec PyProof.Rows L2 Tk Hd Mt
/-- what is wanted of a def that hands back an x and leaves all else -/
def Ret {α : Type} (ms : List Addr) (I H : Hp) (R : Rp α) (x : α) (Q : VK) : Prop := ∀ I' H' v, Gr ms I H I' H' → R I' v x → Q v H'
theorem upd3 {H : Hp} {x : Addr} {a b c : HO} : upd (upd (upd H x a) x b) x c = upd H x c := by rw [upd_upd, upd_upd]
theorem rat_new {ms : List Addr} {I H : Hp} {x dx C : Addr} {q : Rat} (s : Same I H) (nx : H x = none) (nd : H dx = none) (ne : dx ≠ x) :
    Gr ms I H (upd (upd I dx (.own x)) x (.ins C dx (rf q))) (upd (upd (upd H dx (.own x)) x (.ins C dx [])) x (.ins C dx (rf q))) ∧ iR C (upd (upd I dx (.own x)) x (.ins C dx (rf q))) (.ref x) q := by
  rw [upd_upd]
  refine ⟨(Gr.new s nd).trans (Gr.new (sBoth s) ?_), x, dx, rfl, upd_same⟩
  rw [upd_ne (Ne.symm ne)]; exact nx
def Fit (q : Rat) : Prop := q.num.natAbs < 2 ^ 900 ∧ q.den < 2 ^ 900
theorem fit_lt {a b : Int} {m n k : Nat} (ha : a.natAbs < 2 ^ m) (hb : b.natAbs < 2 ^ n) (h : m + n ≤ k) : (a * b).natAbs < 2 ^ k :=
  Nat.lt_of_lt_of_le (wide_lt ha hb) (Nat.pow_le_pow_right (by decide) h)
theorem Fit.mul_n {p q : Rat} (hp : Fit p) (hq : Fit q) : CMulW p.num q.den := wide_mul hp.1 (show (q.den : Int).natAbs < 2 ^ 900 from hq.2) (by decide) (by decide) (by decide)
theorem Fit.mul_d {p q : Rat} (hp : Fit p) (hq : Fit q) : CMulW p.den q.den := wide_mul (show (p.den : Int).natAbs < 2 ^ 900 from hp.2) (show (q.den : Int).natAbs < 2 ^ 900 from hq.2) (by decide) (by decide) (by decide)
theorem Fit.mul_nn {p q : Rat} (hp : Fit p) (hq : Fit q) : CMulW p.num q.num := wide_mul hp.1 hq.1 (by decide) (by decide) (by decide)
theorem Fit.sm_dd {p q : Rat} (hp : Fit p) (hq : Fit q) : Sm ((p.den : Int) * q.den) := fit_lt (m := 900) (n := 900) (show (p.den : Int).natAbs < 2 ^ 900 from hp.2) (show (q.den : Int).natAbs < 2 ^ 900 from hq.2) (by decide)
theorem dd_pos (p q : Rat) : 0 < (p.den : Int) * q.den := Int.mul_pos (den_pos p) (den_pos q)
theorem rt_add (p q : Rat) : rt (p.num * q.den + q.num * p.den) (p.den * q.den) = p + q := by
  have h1 : (p.den : Int) ≠ 0 := by have := den_pos p; omega
  have h2 : (q.den : Int) ≠ 0 := by have := den_pos q; omega
  unfold rt
  rw [← Rat.divInt_add_divInt _ _ h1 h2, Rat.num_divInt_den, Rat.num_divInt_den]
theorem rt_sub (p q : Rat) : rt (p.num * q.den - q.num * p.den) (p.den * q.den) = p - q := by
  have h1 : (p.den : Int) ≠ 0 := by have := den_pos p; omega
  have h2 : (q.den : Int) ≠ 0 := by have := den_pos q; omega
  have e : p - q = rt p.num p.den + rt (-q.num) q.den := by
    rw [rt_self, show rt (-q.num) q.den = -q from by rw [show rt (-q.num) q.den = -(rt q.num q.den) from by unfold rt; rw [Rat.neg_divInt], rt_self]]
    exact Rat.sub_eq_add_neg p q
  rw [e]; unfold rt
  rw [Rat.divInt_add_divInt _ _ h1 h2]
  congr 1
  rw [Int.neg_mul]; omega
theorem rt_mul (p q : Rat) : rt (p.num * q.num) (p.den * q.den) = p * q := by
  unfold rt
  rw [← Rat.divInt_mul_divInt, Rat.num_divInt_den, Rat.num_divInt_den]

section
variable {P : Program} {w : World} {K : PySem.W.Frag} {mg : Str → Option Value} {base : Heap}
/-- an operator that makes a new fraction of two -/
def spBin (C : Addr) (g : Rat → Rat → Rat) : Sp := fun vs H Q _ => ∃ (I : Hp) (a b : V) (p q : Rat), vs = [a, b] ∧ Same I H ∧ iR C I a p ∧ iR C I b q ∧ Fit p ∧ Fit q ∧ Ret [] I H (iR C) (g p q) Q
theorem bin2 {f : Addr} {fd : FuncData} {st : Stmt} {x qual : Str} (F : FnP K x qual st [] f fd)
    (h : ∀ (kV doc pm : Value) (an : Option Addr) (cdv ct : Value) (us : List Value), us.length = 2 → bindArgs (PySem.W.fnOf x qual (defArgs st) (defBody st) (defScope st) .none kV doc pm an cdv ct) ⟨us, []⟩ = pure ((["self", "other"] : List Str).zip us)) : Binds K fd ["self", "other"] [] := FunD.bindsN F h
theorem sc_add : FnScope ["self", "other"] ["self", "other"] (defScope s_Ratio_add) := ⟨rfl, rfl, rfl, by decide +kernel, rfl, by decide +kernel, by decide +kernel⟩
theorem ok_add (D : Dt K mg) : Has P w K mg base 3 (He.ma K (CR K) "__add__") ["self", "other"] [] (spBin (CR K) (· + ·)) := by
  obtain ⟨fd, F⟩ := fd_Ratio_add D
  have H_Ratio_init := has_init (P := P) (w := w) (base := base) D
  refine hasN F (F.bindsN fun _ _ _ _ _ _ us hl => match us, hl with | [_, _], _ => rfl) sc_add (fun vs H Q E h => ?_) (fun cdv A outer s H vs Q E hr h => ?_)
  · obtain ⟨I, a, b, p, q, rfl, _⟩ := h; rfl
  · obtain ⟨I, va, vb, p, q, rfl, s0, ⟨a, dx, rfl, ha⟩, ⟨b, dy, rfl, hb⟩, fp, fq, k⟩ := h
    have ha' := s0 _ _ ha
    have hb' := s0 _ _ hb
    refine ⟨_, (pss_one (ps_ret (pe_makeH (mkr_Ratio D) H_Ratio_init (hr.mono (by decide)) rfl (glo_Ratio D) passL (pa_cons (pe_op op_add (pe_op op_mulW (pe_fld (pv 0) rfl) (pe_fld (pv 1) rfl)) (pe_op op_mulW (pe_fld (pv 1) rfl) (pe_fld (pv 0) rfl))) (pa_cons (pe_op op_mulW (pe_fld (pv 0) rfl) (pe_fld (pv 1) rfl)) pa_nil))))), ?_⟩
    refine ⟨_, rfl, _, _, _, _, _, rfl, ha', cls_Ratio D, na_Ratio_num D, rf_num p, _, rfl, _, _, _, _, _, rfl, hb', cls_Ratio D, na_Ratio_den D, rf_den q, _, _, rfl, rfl, fp.mul_n fq, _, rfl, _, _, _, _, _, rfl, hb', cls_Ratio D, na_Ratio_num D, rf_num q, _, rfl, _, _, _, _, _, rfl, ha', cls_Ratio D, na_Ratio_den D, rf_den p, _, _, rfl, rfl, fq.mul_n fp, _, _, rfl, rfl, ?_⟩
    refine ⟨_, rfl, _, _, _, _, _, rfl, ha', cls_Ratio D, na_Ratio_den D, rf_den p, _, rfl, _, _, _, _, _, rfl, hb', cls_Ratio D, na_Ratio_den D, rf_den q, _, _, rfl, rfl, fp.mul_d fq, fun x dx nx nd ne => ?_⟩
    refine ⟨x, dx, _, _, rfl, upd_same, fp.sm_dd fq, fun _ => ⟨rfl, ?_⟩, fun hle => absurd (dd_pos p q) (by omega)⟩
    obtain ⟨g, r⟩ := rat_new (ms := []) (q := rt (p.num * q.den + q.num * p.den) (p.den * q.den)) s0 nx nd ne
    rw [rt_add] at r g
    rw [rt_add]
    exact k _ _ _ g r
theorem sc_sub : FnScope ["self", "other"] ["self", "other"] (defScope s_Ratio_sub) := ⟨rfl, rfl, rfl, by decide +kernel, rfl, by decide +kernel, by decide +kernel⟩
theorem ok_sub (D : Dt K mg) : Has P w K mg base 3 (He.ma K (CR K) "__sub__") ["self", "other"] [] (spBin (CR K) (· - ·)) := by
  obtain ⟨fd, F⟩ := fd_Ratio_sub D
  have H_Ratio_init := has_init (P := P) (w := w) (base := base) D
  refine hasN F (F.bindsN fun _ _ _ _ _ _ us hl => match us, hl with | [_, _], _ => rfl) sc_sub (fun vs H Q E h => ?_) (fun cdv A outer s H vs Q E hr h => ?_)
  · obtain ⟨I, a, b, p, q, rfl, _⟩ := h; rfl
  · obtain ⟨I, va, vb, p, q, rfl, s0, ⟨a, dx, rfl, ha⟩, ⟨b, dy, rfl, hb⟩, fp, fq, k⟩ := h
    have ha' := s0 _ _ ha
    have hb' := s0 _ _ hb
    refine ⟨_, (pss_one (ps_ret (pe_makeH (mkr_Ratio D) H_Ratio_init (hr.mono (by decide)) rfl (glo_Ratio D) passL (pa_cons (pe_op op_sub (pe_op op_mulW (pe_fld (pv 0) rfl) (pe_fld (pv 1) rfl)) (pe_op op_mulW (pe_fld (pv 1) rfl) (pe_fld (pv 0) rfl))) (pa_cons (pe_op op_mulW (pe_fld (pv 0) rfl) (pe_fld (pv 1) rfl)) pa_nil))))), ?_⟩
    refine ⟨_, rfl, _, _, _, _, _, rfl, ha', cls_Ratio D, na_Ratio_num D, rf_num p, _, rfl, _, _, _, _, _, rfl, hb', cls_Ratio D, na_Ratio_den D, rf_den q, _, _, rfl, rfl, fp.mul_n fq, _, rfl, _, _, _, _, _, rfl, hb', cls_Ratio D, na_Ratio_num D, rf_num q, _, rfl, _, _, _, _, _, rfl, ha', cls_Ratio D, na_Ratio_den D, rf_den p, _, _, rfl, rfl, fq.mul_n fp, _, _, rfl, rfl, ?_⟩
    refine ⟨_, rfl, _, _, _, _, _, rfl, ha', cls_Ratio D, na_Ratio_den D, rf_den p, _, rfl, _, _, _, _, _, rfl, hb', cls_Ratio D, na_Ratio_den D, rf_den q, _, _, rfl, rfl, fp.mul_d fq, fun x dx nx nd ne => ?_⟩
    refine ⟨x, dx, _, _, rfl, upd_same, fp.sm_dd fq, fun _ => ⟨rfl, ?_⟩, fun hle => absurd (dd_pos p q) (by omega)⟩
    obtain ⟨g, r⟩ := rat_new (ms := []) (q := rt (p.num * q.den - q.num * p.den) (p.den * q.den)) s0 nx nd ne
    rw [rt_sub] at r g
    rw [rt_sub]
    exact k _ _ _ g r
theorem sc_mul : FnScope ["self", "other"] ["self", "other"] (defScope s_Ratio_mul) := ⟨rfl, rfl, rfl, by decide +kernel, rfl, by decide +kernel, by decide +kernel⟩
theorem ok_mul (D : Dt K mg) : Has P w K mg base 3 (He.ma K (CR K) "__mul__") ["self", "other"] [] (spBin (CR K) (· * ·)) := by
  obtain ⟨fd, F⟩ := fd_Ratio_mul D
  have H_Ratio_init := has_init (P := P) (w := w) (base := base) D
  refine hasN F (F.bindsN fun _ _ _ _ _ _ us hl => match us, hl with | [_, _], _ => rfl) sc_mul (fun vs H Q E h => ?_) (fun cdv A outer s H vs Q E hr h => ?_)
  · obtain ⟨I, a, b, p, q, rfl, _⟩ := h; rfl
  · obtain ⟨I, va, vb, p, q, rfl, s0, ⟨a, dx, rfl, ha⟩, ⟨b, dy, rfl, hb⟩, fp, fq, k⟩ := h
    have ha' := s0 _ _ ha
    have hb' := s0 _ _ hb
    refine ⟨_, (pss_one (ps_ret (pe_makeH (mkr_Ratio D) H_Ratio_init (hr.mono (by decide)) rfl (glo_Ratio D) passL (pa_cons (pe_op op_mulW (pe_fld (pv 0) rfl) (pe_fld (pv 1) rfl)) (pa_cons (pe_op op_mulW (pe_fld (pv 0) rfl) (pe_fld (pv 1) rfl)) pa_nil))))), ?_⟩
    refine ⟨_, rfl, _, _, _, _, _, rfl, ha', cls_Ratio D, na_Ratio_num D, rf_num p, _, rfl, _, _, _, _, _, rfl, hb', cls_Ratio D, na_Ratio_num D, rf_num q, _, _, rfl, rfl, fp.mul_nn fq, _, rfl, _, _, _, _, _, rfl, ha', cls_Ratio D, na_Ratio_den D, rf_den p, _, rfl, _, _, _, _, _, rfl, hb', cls_Ratio D, na_Ratio_den D, rf_den q, _, _, rfl, rfl, fp.mul_d fq, fun x dx nx nd ne => ?_⟩
    refine ⟨x, dx, _, _, rfl, upd_same, fp.sm_dd fq, fun _ => ⟨rfl, ?_⟩, fun hle => absurd (dd_pos p q) (by omega)⟩
    obtain ⟨g, r⟩ := rat_new (ms := []) (q := rt (p.num * q.num) (p.den * q.den)) s0 nx nd ne
    rw [rt_mul] at r g
    rw [rt_mul]
    exact k _ _ _ g r
end
end K

set_option Elab.async false
set_option linter.all false
set_option maxRecDepth 100000
set_option maxHeartbeats 4000000
set_option exponentiation.threshold 5000
namespace K
open PySem PySem.Spec PyProof.Rows L2 Tk Hd Mt
theorem rt_div_pos (p q : Rat) : rt (p.num * q.den) (q.num * p.den) = p / q := by
  unfold rt
  rw [Rat.div_def, Rat.inv_def, Int.mul_comm q.num]
  rw [← Rat.divInt_mul_divInt, Rat.num_divInt_den]
theorem rt_div_neg (p q : Rat) : rt (-p.num * q.den) (-q.num * p.den) = p / q := by
  rw [← rt_div_pos]; unfold rt
  rw [Int.neg_mul, Int.neg_mul, Rat.neg_divInt_neg]
theorem kit_self {K : PySem.W.Frag} {t : Value} : PySem.W.kitOne K t t = some true := by
  unfold PySem.W.kitOne; rw [if_pos (by simp)]
theorem str_app (a b : String) : (PySem.Str.ofString (a ++ b)) = PySem.Str.ofString a ++ PySem.Str.ofString b := by
  rw [PySem.Str.ofString_eq_toList, PySem.Str.ofString_eq_toList, PySem.Str.ofString_eq_toList, String.toList_append, List.map_append]
  show _ = PySem.Str.append _ _
  simp [PySem.Str.append]
theorem empty_app (a : Str) : Str.empty ++ a = a := by
  show PySem.Str.append _ _ = _
  simp [PySem.Str.append, PySem.Str.empty]
/-- str of a fraction -/
def rtext (q : Rat) : Str := if (q.den : Int) > 1 then (PySem.Str.ofString (toString q.num)) ++ ("/" : Str) ++ (PySem.Str.ofString (toString (q.den : Int))) else PySem.Str.ofString (toString q.num)
def Few (i : Int) : Prop := i.natAbs < 10 ^ 64
theorem Few.log {i : Int} (h : Few i) : i.natAbs.log2 < 1920 := by
  by_cases h0 : i.natAbs = 0
  · rw [h0]; decide
  · exact (Nat.log2_lt h0).mpr (Nat.lt_of_lt_of_le h (by decide +kernel))
theorem txt_len {i : Int} (h : Few i) : (PySem.Str.ofString (toString i)).length ≤ 1000 := by
  have e := int_text_length_le10 (a := i) (k := 64) (by decide) h
  rw [PySem.ofString_length]; omega
theorem app_len (a b : Str) : (a ++ b).length = a.length + b.length := by
  show (PySem.Str.append a b).length = _
  simp [PySem.Str.append, PySem.Str.length]
theorem line_of {n : Nat} (h : n ≤ 100000) : n ≤ sizeLine := Nat.le_trans h (by decide)
theorem neg_text {n : Int} (h : n < 0) : Str.empty ++ ("-" : Str) ++ PySem.Str.ofString (toString (-n)) = PySem.Str.ofString (toString n) := by
  rw [toString_neg h, str_app, empty_app, Int.zero_sub]
section
variable {P : Program} {w : World} {K : PySem.W.Frag} {mg : Str → Option Value} {base : Heap}
def spEq (C : Addr) : Sp := fun vs H Q _ => ∃ (I : Hp) (a b : V) (p q : Rat), vs = [a, b] ∧ Same I H ∧ iR C I a p ∧ iR C I b q ∧ Q (.bl (decide (p = q))) H
def spLess (C : Addr) : Sp := fun vs H Q _ => ∃ (I : Hp) (a b : V) (p q : Rat), vs = [a, b] ∧ Same I H ∧ iR C I a p ∧ iR C I b q ∧ Fit p ∧ Fit q ∧ Q (.bl (decide (p < q))) H
def spBy (C B : Addr) : Sp := fun vs H Q E => ∃ (I : Hp) (a b : V) (p q : Rat), vs = [a, b] ∧ Same I H ∧ iR C I a p ∧ iR C I b q ∧ Fit p ∧ Fit q ∧ (q ≠ 0 → Ret [] I H (iR C) (p / q) Q) ∧ (q = 0 → E (.ref B) none H)
def spStr (C : Addr) : Sp := fun vs H Q _ => ∃ (I : Hp) (a : V) (p : Rat), vs = [a] ∧ Same I H ∧ iR C I a p ∧ Few p.num ∧ Few p.den ∧ Q (.str (rtext p)) H
def spDig : Sp := fun vs H Q _ => ∃ n : Int, vs = [.int n] ∧ Few n ∧ Q (.str (PySem.Str.ofString (toString n))) H
theorem sc_eq : FnScope ["self", "other"] ["self", "other"] (defScope s_Ratio_eq) := ⟨rfl, rfl, rfl, by decide +kernel, rfl, by decide +kernel, by decide +kernel⟩
theorem eq_parts (p q : Rat) : (p = q) ↔ (p.num = q.num ∧ (p.den : Int) = q.den) := by
  constructor
  · rintro rfl; exact ⟨rfl, rfl⟩
  · rintro ⟨h1, h2⟩
    exact Rat.ext h1 (by omega)
theorem ok_eq (D : Dt K mg) : Has P w K mg base 1 (He.ma K (CR K) "__eq__") ["self", "other"] [] (spEq (CR K)) := by
  obtain ⟨fd, F⟩ := fd_Ratio_eq D
  refine hasN F (F.bindsN fun _ _ _ _ _ _ us hl => match us, hl with | [_, _], _ => rfl) sc_eq (fun vs H Q E h => ?_) (fun cdv A outer s H vs Q E hr h => ?_)
  · obtain ⟨I, a, b, p, q, rfl, _⟩ := h; rfl
  · obtain ⟨I, va, vb, p, q, rfl, s0, ⟨a, dx, rfl, ha⟩, ⟨b, dy, rfl, hb⟩, k⟩ := h
    have ha' := s0 _ _ ha
    have hb' := s0 _ _ hb
    refine ⟨_, (pss_one (ps_ret (pe_and (pe_callB call_isi rfl (free_isinstance D) (by decide +kernel) (pa_cons (pv 1) (pa_cons (pe_glob (v := .ref (He.ga K "Ratio")) rfl (glo_Ratio D) rfl) pa_nil))) (pe_and (pe_cmpR op_eq (pe_fld (pv 0) rfl) (pe_fld (pv 1) rfl) (nomark _)) (pe_one (pe_cmpR op_eq (pe_fld (pv 0) rfl) (pe_fld (pv 1) rfl) (nomark _))))))), ?_⟩
    refine ⟨_, rfl, _, _, _, _, true, rfl, .own _, (inst_Ratio D).ty (cls_Ratio D) hb', kit_self, _, rfl, iteT ?_⟩
    refine ⟨_, rfl, _, _, _, _, _, rfl, ha', cls_Ratio D, na_Ratio_num D, rf_num p, _, rfl, _, _, _, _, _, rfl, hb', cls_Ratio D, na_Ratio_num D, rf_num q, rfl, _, rfl, ?_⟩
    have e : decide (p = q) = (decide (V.int p.num = V.int q.num) && decide (V.int (p.den : Int) = V.int q.den)) := by
      rw [← Bool.decide_and]; exact decide_eq_decide.mpr (by rw [eq_parts]; simp)
    rw [e] at k
    refine ifB (fun c => ?_) (fun c => ?_)
    · refine ⟨_, rfl, _, _, _, _, _, rfl, ha', cls_Ratio D, na_Ratio_den D, rf_den p, _, rfl, _, _, _, _, _, rfl, hb', cls_Ratio D, na_Ratio_den D, rf_den q, rfl, ?_⟩
      rw [c, Bool.true_and] at k
      exact k
    · rw [c, Bool.false_and] at k
      exact k
theorem sc_less : FnScope ["self", "other"] ["self", "other"] (defScope s_Ratio_less) := ⟨rfl, rfl, rfl, by decide +kernel, rfl, by decide +kernel, by decide +kernel⟩
theorem ok_less (D : Dt K mg) : Has P w K mg base 1 (He.ma K (CR K) "less") ["self", "other"] [] (spLess (CR K)) := by
  obtain ⟨fd, F⟩ := fd_Ratio_less D
  refine hasN F (F.bindsN fun _ _ _ _ _ _ us hl => match us, hl with | [_, _], _ => rfl) sc_less (fun vs H Q E h => ?_) (fun cdv A outer s H vs Q E hr h => ?_)
  · obtain ⟨I, a, b, p, q, rfl, _⟩ := h; rfl
  · obtain ⟨I, va, vb, p, q, rfl, s0, ⟨a, dx, rfl, ha⟩, ⟨b, dy, rfl, hb⟩, fp, fq, k⟩ := h
    have ha' := s0 _ _ ha
    have hb' := s0 _ _ hb
    refine ⟨_, (pss_one (ps_ret (pe_cmpR op_lt (pe_op op_mulW (pe_fld (pv 0) rfl) (pe_fld (pv 1) rfl)) (pe_op op_mulW (pe_fld (pv 1) rfl) (pe_fld (pv 0) rfl)) (nomark _)))), ?_⟩
    refine ⟨_, rfl, _, _, _, _, _, rfl, ha', cls_Ratio D, na_Ratio_num D, rf_num p, _, rfl, _, _, _, _, _, rfl, hb', cls_Ratio D, na_Ratio_den D, rf_den q, _, _, rfl, rfl, fp.mul_n fq, _, rfl, _, _, _, _, _, rfl, hb', cls_Ratio D, na_Ratio_num D, rf_num q, _, rfl, _, _, _, _, _, rfl, ha', cls_Ratio D, na_Ratio_den D, rf_den p, _, _, rfl, rfl, fq.mul_n fp, _, _, rfl, rfl, ?_⟩
    have e : decide (p < q) = decide (p.num * q.den < q.num * p.den) := decide_eq_decide.mpr (Rat.lt_iff p q)
    rw [e] at k
    exact k
theorem sc_by : FnScope ["self", "other"] ["self", "other"] (defScope s_Ratio_by) := ⟨rfl, rfl, rfl, by decide +kernel, rfl, by decide +kernel, by decide +kernel⟩
theorem neg_sm {i : Int} {n : Nat} (h : i.natAbs < n) : (-i).natAbs < n := by omega
theorem ok_by (D : Dt K mg) : Has P w K mg base 3 (He.ma K (CR K) "by") ["self", "other"] [] (spBy (CR K) (CB K)) := by
  obtain ⟨fd, F⟩ := fd_Ratio_by D
  have H_Ratio_init := has_init (P := P) (w := w) (base := base) D
  refine hasX F (F.bindsN fun _ _ _ _ _ _ us hl => match us, hl with | [_, _], _ => rfl) sc_by (fun vs H Q E h => ?_) (fun cdv A outer s H vs Q E hr h => ?_)
  · obtain ⟨I, a, b, p, q, rfl, _⟩ := h; rfl
  · obtain ⟨I, va, vb, p, q, rfl, s0, ⟨a, dx, rfl, ha⟩, ⟨b, dy, rfl, hb⟩, fp, fq, k1, k2⟩ := h
    have ha' := s0 _ _ ha
    have hb' := s0 _ _ hb
    obtain ⟨xP, kP, bP, tP⟩ := exc_BadRatio D
    have z : q = 0 ↔ q.num = 0 := by
      constructor
      · rintro rfl; rfl
      · intro h; exact Rat.num_eq_zero.mp h
    refine ⟨_, pss_cons (ps_if (pt_cmpR op_eq (pe_fld (pv 1) rfl) pe_int (nomark _)) (pss_one (ps_raise rfl (takes_of rfl rfl rfl rfl) (pmk_own PySem.F.excBase_ValueError xP (glo_BadRatio D) kP (raises_own bP tP) rfl))) pss_nil)
      (pss_cons (ps_if (pt_cmpR op_lt (pe_fld (pv 1) rfl) pe_int (nomark _)) (pss_one (ps_ret (pe_makeH (mkr_Ratio D) H_Ratio_init (hr.mono (by decide)) rfl (glo_Ratio D) passL
          (pa_cons (pe_op op_mulW (pe_un un_neg (pe_fld (pv 0) rfl)) (pe_fld (pv 1) rfl)) (pa_cons (pe_op op_mulW (pe_un un_neg (pe_fld (pv 1) rfl)) (pe_fld (pv 0) rfl)) pa_nil))))) pss_nil)
      (pss_one (ps_ret (pe_makeH (mkr_Ratio D) H_Ratio_init (hr.mono (by decide)) rfl (glo_Ratio D) passL
          (pa_cons (pe_op op_mulW (pe_fld (pv 0) rfl) (pe_fld (pv 1) rfl)) (pa_cons (pe_op op_mulW (pe_fld (pv 1) rfl) (pe_fld (pv 0) rfl)) pa_nil)))))), ?_⟩
    refine ⟨_, rfl, _, _, _, _, _, rfl, hb', cls_Ratio D, na_Ratio_num D, rf_num q, rfl, _, rfl, ifD (fun h0 => ?_) (fun h0 => ?_)⟩
    · exact k2 (z.mpr (by simpa using h0))
    · have hq : q ≠ 0 := fun h => h0 (by simp [z.mp h])
      have hn : q.num ≠ 0 := fun h => hq (z.mpr h)
      refine ⟨_, rfl, _, _, _, _, _, rfl, hb', cls_Ratio D, na_Ratio_num D, rf_num q, _, _, rfl, rfl, _, rfl, ifD (fun h1 => ?_) (fun h1 => ?_)⟩
      · refine ⟨_, rfl, _, _, _, _, _, rfl, ha', cls_Ratio D, na_Ratio_num D, rf_num p, _, rfl, _, rfl, _, _, _, _, _, rfl, hb', cls_Ratio D, na_Ratio_den D, rf_den q, _, _, rfl, rfl, wide_mul (neg_sm fp.1) (show (q.den : Int).natAbs < 2 ^ 900 from fq.2) (by decide) (by decide) (by decide), ?_⟩
        refine ⟨_, rfl, _, _, _, _, _, rfl, hb', cls_Ratio D, na_Ratio_num D, rf_num q, _, rfl, _, rfl, _, _, _, _, _, rfl, ha', cls_Ratio D, na_Ratio_den D, rf_den p, _, _, rfl, rfl, wide_mul (neg_sm fq.1) (show (p.den : Int).natAbs < 2 ^ 900 from fp.2) (by decide) (by decide) (by decide), fun x dx nx nd ne => ?_⟩
        have hpos : 0 < -q.num * p.den := Int.mul_pos (by omega) (den_pos p)
        refine ⟨x, dx, _, _, rfl, upd_same, fit_lt (m := 900) (n := 900) (neg_sm fq.1) (show (p.den : Int).natAbs < 2 ^ 900 from fp.2) (by decide), fun _ => ⟨rfl, ?_⟩, fun hle => absurd hpos (by omega)⟩
        obtain ⟨g, r⟩ := rat_new (ms := []) (C := CR K) (q := rt (-p.num * q.den) (-q.num * p.den)) s0 nx nd ne
        rw [rt_div_neg] at r g
        rw [rt_div_neg]
        exact k1 hq _ _ _ g r
      · refine ⟨_, rfl, _, _, _, _, _, rfl, ha', cls_Ratio D, na_Ratio_num D, rf_num p, _, rfl, _, _, _, _, _, rfl, hb', cls_Ratio D, na_Ratio_den D, rf_den q, _, _, rfl, rfl, fp.mul_n fq, _, rfl, _, _, _, _, _, rfl, hb', cls_Ratio D, na_Ratio_num D, rf_num q, _, rfl, _, _, _, _, _, rfl, ha', cls_Ratio D, na_Ratio_den D, rf_den p, _, _, rfl, rfl, fq.mul_n fp, fun x dx nx nd ne => ?_⟩
        have hpos : 0 < q.num * p.den := Int.mul_pos (by omega) (den_pos p)
        refine ⟨x, dx, _, _, rfl, upd_same, fit_lt (m := 900) (n := 900) fq.1 (show (p.den : Int).natAbs < 2 ^ 900 from fp.2) (by decide), fun _ => ⟨rfl, ?_⟩, fun hle => absurd hpos (by omega)⟩
        obtain ⟨g, r⟩ := rat_new (ms := []) (C := CR K) (q := rt (p.num * q.den) (q.num * p.den)) s0 nx nd ne
        rw [rt_div_pos] at r g
        rw [rt_div_pos]
        exact k1 hq _ _ _ g r
theorem sc_dig : FnScope ["number", "rest", "text", "part"] ["number"] (defScope s__digits) := ⟨rfl, rfl, rfl, by decide +kernel, rfl, by decide +kernel, by decide +kernel⟩
theorem ok_dig0 (D : Dt K mg) : Has P w K mg base 1 (He.ga K "_digits") ["number"] [] (fun vs H Q _ => ∃ n : Int, vs = [.int n] ∧ 0 ≤ n ∧ Few n ∧ Q (.str (PySem.Str.ofString (toString n))) H) := by
  obtain ⟨fd, F⟩ := fd__digits D
  refine hasN F (F.bindsN fun _ _ _ _ _ _ us hl => match us, hl with | [_], _ => rfl) sc_dig (fun vs H Q E h => ?_) (fun cdv A outer s H vs Q E hr h => ?_)
  · obtain ⟨n, rfl, _⟩ := h; rfl
  · obtain ⟨n, rfl, h0, hf, k⟩ := h
    obtain ⟨t, e⟩ := int_PART_END D
    refine ⟨_, pss_cons (ps_if (pt_cmpR op_lt (pv 0) pe_int (nomark _)) pss_never pss_nil)
      (pss_cons (ps_set (i := 1) sc_dig.nd rfl (Or.inl rfl) (pv 0))
      (pss_cons (ps_set (i := 2) sc_dig.nd rfl (Or.inl rfl) pe_str)
      (pss_cons (ps_while PassesOwn.never (pt_cmpR op_ge (pv 1) (pe_glob (v := .int 10000000000000000000000000000000000000000000000000000000000000000) rfl e ⟨t, rfl⟩) (nomark _)) pss_never)
      (pss_one (ps_ret (pe_joined (PJ.cons (pe_fmt (pv 1)) (PJ.cons (pe_fmt (pv 2)) PJ.nil)))))))), ?_⟩
    refine ⟨_, rfl, _, _, rfl, rfl, _, rfl, ifD (fun h1 => absurd h1 (by omega)) (fun _ => ?_)⟩
    refine ⟨_, rfl, fun m σ' H' => σ' = [some (.int n), some (.int n), some (.str ""), none] ∧ H' = H, ⟨0, rfl, rfl⟩, ?_⟩
    rintro m σ' H' ⟨rfl, rfl⟩
    refine ⟨_, rfl, _, _, rfl, rfl, _, rfl, ifD (fun h1 => ?_) (fun _ => ?_)⟩
    · exfalso
      have : n.natAbs < 10 ^ 64 := hf
      omega
    · refine ⟨_, rfl, .inr ⟨n, rfl, hf.log, _, rfl, ?_, _, rfl, .inl ⟨_, rfl, by decide, _, rfl, ?_, ?_⟩⟩⟩
      · rw [empty_app]; exact line_of (Nat.le_trans (txt_len hf) (by decide))
      · rw [empty_app, app_len]; exact line_of (Nat.le_trans (Nat.add_le_add (txt_len hf) (Nat.le_refl _)) (by decide))
      · have e2 : Str.empty ++ PySem.Str.ofString (toString n) ++ ("" : Str) = PySem.Str.ofString (toString n) := by
          rw [empty_app]
          show PySem.Str.append _ _ = _
          simp [PySem.Str.append, show ("" : Str) = (⟨#[]⟩ : Str) from rfl]
        rw [← e2] at k
        exact k
theorem ok_dig (D : Dt K mg) : Has P w K mg base 2 (He.ga K "_digits") ["number"] [] spDig := by
  obtain ⟨fd, F⟩ := fd__digits D
  have H__digits := ok_dig0 (P := P) (w := w) (base := base) D
  refine hasN F (F.bindsN fun _ _ _ _ _ _ us hl => match us, hl with | [_], _ => rfl) sc_dig (fun vs H Q E h => ?_) (fun cdv A outer s H vs Q E hr h => ?_)
  · obtain ⟨n, rfl, _⟩ := h; rfl
  · obtain ⟨n, rfl, hf, k⟩ := h
    by_cases hn : n < 0
    · refine ⟨_, pss_cons (ps_if (pt_cmpR op_lt (pv 0) pe_int (nomark _)) (pss_one (ps_ret (pe_joined (PJ.cons pe_str (PJ.cons (pe_fmt (pe_callH H__digits (hr.mono (by decide)) rfl (glo__digits D) passL (pa_cons (pe_un un_neg (pv 0)) pa_nil))) PJ.nil))))) pss_nil) pss_never, ?_⟩
      refine ⟨_, rfl, _, _, rfl, rfl, _, rfl, ifD (fun _ => ?_) (fun h => absurd hn h)⟩
      have hf' : Few (-n) := by have : n.natAbs < 10 ^ 64 := hf; show (-n).natAbs < 10 ^ 64; omega
      refine ⟨_, rfl, by decide, _, rfl, _, rfl, _, rfl, by omega, hf', .inl ⟨_, rfl, line_of (Nat.le_trans (txt_len hf') (by decide)), _, rfl, ?_, ?_⟩⟩
      · rw [empty_app, app_len]; exact line_of (Nat.le_trans (Nat.add_le_add (by decide : _ ≤ 1) (txt_len hf')) (by decide))
      · rw [neg_text hn]; exact k
    · obtain ⟨t, e⟩ := int_PART_END D
      refine ⟨_, pss_cons (ps_if (pt_cmpR op_lt (pv 0) pe_int (nomark _)) pss_never pss_nil)
        (pss_cons (ps_set (i := 1) sc_dig.nd rfl (Or.inl rfl) (pv 0))
        (pss_cons (ps_set (i := 2) sc_dig.nd rfl (Or.inl rfl) pe_str)
        (pss_cons (ps_while PassesOwn.never (pt_cmpR op_ge (pv 1) (pe_glob (v := .int 10000000000000000000000000000000000000000000000000000000000000000) rfl e ⟨t, rfl⟩) (nomark _)) pss_never)
        (pss_one (ps_ret (pe_joined (PJ.cons (pe_fmt (pv 1)) (PJ.cons (pe_fmt (pv 2)) PJ.nil)))))))), ?_⟩
      refine ⟨_, rfl, _, _, rfl, rfl, _, rfl, ifD (fun h1 => absurd h1 (by omega)) (fun _ => ?_)⟩
      refine ⟨_, rfl, fun m σ' H' => σ' = [some (.int n), some (.int n), some (.str ""), none] ∧ H' = H, ⟨0, rfl, rfl⟩, ?_⟩
      rintro m σ' H' ⟨rfl, rfl⟩
      refine ⟨_, rfl, _, _, rfl, rfl, _, rfl, ifD (fun h1 => ?_) (fun _ => ?_)⟩
      · exfalso
        have : n.natAbs < 10 ^ 64 := hf
        omega
      · refine ⟨_, rfl, .inr ⟨n, rfl, hf.log, _, rfl, ?_, _, rfl, .inl ⟨_, rfl, by decide, _, rfl, ?_, ?_⟩⟩⟩
        · rw [empty_app]; exact line_of (Nat.le_trans (txt_len hf) (by decide))
        · rw [empty_app, app_len]; exact line_of (Nat.le_trans (Nat.add_le_add (txt_len hf) (Nat.le_refl _)) (by decide))
        · have e2 : Str.empty ++ PySem.Str.ofString (toString n) ++ ("" : Str) = PySem.Str.ofString (toString n) := by
            rw [empty_app]
            show PySem.Str.append _ _ = _
            simp [PySem.Str.append, show ("" : Str) = (⟨#[]⟩ : Str) from rfl]
          rw [← e2] at k
          exact k
theorem sc_str : FnScope ["self"] ["self"] (defScope s_Ratio_str) := ⟨rfl, rfl, rfl, by decide +kernel, rfl, by decide +kernel, by decide +kernel⟩
theorem ok_str (D : Dt K mg) : Has P w K mg base 3 (He.ma K (CR K) "__str__") ["self"] [] (spStr (CR K)) := by
  obtain ⟨fd, F⟩ := fd_Ratio_str D
  have H__digits := ok_dig (P := P) (w := w) (base := base) D
  refine hasN F (F.bindsN fun _ _ _ _ _ _ us hl => match us, hl with | [_], _ => rfl) sc_str (fun vs H Q E h => ?_) (fun cdv A outer s H vs Q E hr h => ?_)
  · obtain ⟨I, a, p, rfl, _⟩ := h; rfl
  · obtain ⟨I, va, p, rfl, s0, ⟨a, dx, rfl, ha⟩, f1, f2, k⟩ := h
    have ha' := s0 _ _ ha
    refine ⟨_, (pss_cons (ps_if (pt_cmpR op_eq (pe_fld (pv 0) rfl) pe_int (nomark _))
      (pss_one (ps_ret (pe_joined1 (pe_fmt (pe_callH H__digits (hr.mono (by decide)) rfl (glo__digits D) passL (pa_cons (pe_fld (pv 0) rfl) pa_nil))))))
      pss_nil)
      (pss_one (ps_ret (pe_joined (PJ.cons (pe_fmt (pe_callH H__digits (hr.mono (by decide)) rfl (glo__digits D) passL (pa_cons (pe_fld (pv 0) rfl) pa_nil))) (PJ.cons pe_str (PJ.cons (pe_fmt (pe_callH H__digits (hr.mono (by decide)) rfl (glo__digits D) passL (pa_cons (pe_fld (pv 0) rfl) pa_nil))) PJ.nil))))))), ?_⟩
    have l1 := txt_len f1
    have l2 := txt_len f2
    have dp := den_pos p
    refine ⟨_, rfl, _, _, _, _, _, rfl, ha', cls_Ratio D, na_Ratio_den D, rf_den p, rfl, _, rfl, ifD (fun h1 => ?_) (fun h1 => ?_)⟩
    · have e : (p.den : Int) = 1 := by simpa using h1
      refine ⟨_, rfl, _, _, _, _, _, rfl, ha', cls_Ratio D, na_Ratio_num D, rf_num p, _, rfl, f1, .inl ⟨_, rfl, line_of (by omega), ?_⟩⟩
      unfold rtext at k
      rw [if_neg (by omega)] at k
      exact k
    · have e : ¬ (p.den : Int) = 1 := by simpa using h1
      refine ⟨_, rfl, _, _, _, _, _, rfl, ha', cls_Ratio D, na_Ratio_num D, rf_num p, _, rfl, f1, .inl ⟨_, rfl, line_of (by omega), _, rfl, ?_, _, rfl, ?_, _, rfl, _, _, _, _, _, rfl, ha', cls_Ratio D, na_Ratio_den D, rf_den p, _, rfl, f2, .inl ⟨_, rfl, line_of (by omega), _, rfl, ?_, ?_⟩⟩⟩
      · rw [empty_app]; exact line_of (by omega)
      · rw [empty_app, app_len]
        have : ("/" : Str).length ≤ 1 := by decide
        exact line_of (by omega)
      · rw [empty_app, app_len, app_len]
        have : ("/" : Str).length ≤ 1 := by decide
        exact line_of (by omega)
      · unfold rtext at k
        rw [if_pos (by omega)] at k
        rw [empty_app]
        exact k
end
end K

set_option Elab.async false
set_option linter.all false
set_option maxRecDepth 100000
set_option maxHeartbeats 4000000
set_option exponentiation.threshold 5000
namespace K
open PySem PySem.Spec PyProof.Rows L2 Tk Hd Mt
/-! ### the law's draws -/
def plist (c : Addr) (pos : Nat) (big seed left bud : Int) : List V := [.ref c, .int pos, .int big, .int seed, .int left, .int bud]
def PoolOk (I H : Hp) (p : Addr) : Prop := I p = none ∧ ∃ (c : Addr) (cells : List Int) (pos : Nat) (big seed left bud : Int), I c = some (.lst (cells.map V.int)) ∧ cells.length ≤ 100000 ∧ pos ≤ cells.length ∧ H p = some (.lst (plist c pos big seed left bud))
theorem PoolOk.up {ms : List Addr} {I H I' H' : Hp} {p : Addr} (h : PoolOk I H p) (g : Gr ms I H I' H') (n : p ∉ ms) : PoolOk I' H' p := by
  obtain ⟨i, c, cells, pos, b, s, l, u, h1, h2, h3, h4⟩ := h
  exact ⟨g.out i h4, c, cells, pos, b, s, l, u, g.ii _ _ h1, h2, h3, g.at h4 n⟩
section
variable {P : Program} {w : World} {K : PySem.W.Frag} {mg : Str → Option Value} {base : Heap}
def spPool (K : PySem.W.Frag) : Sp := fun vs H Q _ => ∃ (I : Hp) (a : Addr) (ns : List Int) (b : Int), vs = [.ref a, .int b] ∧ Same I H ∧ SqL K H a (ns.map V.int) ∧ ns.length ≤ 100000 ∧
  ∀ I' H' p, Gr [] I H I' H' → PoolOk I' H' p → H p = none → Q (.ref p) H'
theorem sc_pool : FnScope ["script", "budget"] ["script", "budget"] (defScope s__law_pool) := ⟨rfl, rfl, rfl, by decide +kernel, rfl, by decide +kernel, by decide +kernel⟩
theorem ok_pool (D : Dt K mg) : Has P w K mg base 1 (He.ga K "_law_pool") ["script", "budget"] [] (spPool K) := by
  obtain ⟨fd, F⟩ := fd__law_pool D
  refine hasN F (F.bindsN fun _ _ _ _ _ _ us hl => match us, hl with | [_, _], _ => rfl) sc_pool (fun vs H Q E h => ?_) (fun cdv A outer s H vs Q E hr h => ?_)
  · obtain ⟨I, a, ns, b, rfl, _⟩ := h; rfl
  · obtain ⟨I, a, ns, b, rfl, s0, hS, hl, k⟩ := h
    refine ⟨_, (pss_one (ps_ret (pe_lst (pa_cons (pe_callTy call_list_of rfl (free_list D) (by decide +kernel) (pa_cons (pv 0) pa_nil)) (pa_cons pe_int (pa_cons pe_int (pa_cons pe_int (pa_cons pe_int (pa_cons (pv 1) pa_nil))))))))), ?_⟩
    refine ⟨_, rfl, a, _, rfl, .inl hS, fun c hc => ?_⟩
    refine ⟨_, rfl, (by show 6 ≤ sizeLine; decide), fun p hp => ?_⟩
    have npc : p ≠ c := fun e => by rw [e, upd_same] at hp; cases hp
    have hp0 : H p = none := by rw [upd_ne npc] at hp; exact hp
    have g : Gr [] I H (upd I c (.lst (ns.map V.int))) (upd (upd H c (.lst (ns.map V.int))) p (.lst (plist c 0 0 1 0 b))) := (Gr.new s0 hc).trans (Gr.tmp (sBoth s0) hp)
    exact k _ _ p g ⟨by rw [upd_ne npc]; exact s0.free hp0, c, ns, 0, 0, 1, 0, b, upd_same, hl, Nat.zero_le _, upd_same⟩ hp0
def spDraw : Sp := fun vs H Q _ => ∃ (I : Hp) (p : Addr) (n : Int), vs = [.ref p, .int n] ∧ Same I H ∧ PoolOk I H p ∧ 0 < n ∧ n < 2 ^ 64 ∧
  ∀ (v : Int) H', 0 ≤ v → v < n → Gr [p] I H I H' → PoolOk I H' p → Q (.int v) H'
theorem sc_draw : FnScope ["pool", "size", "cell", "value"] ["pool", "size"] (defScope s__law_draw) := ⟨rfl, rfl, rfl, by decide +kernel, rfl, by decide +kernel, by decide +kernel⟩
theorem mulc {i : Int} {j : Int} (h1 : -(2 ^ 64) < j) (h2 : j < 2 ^ 64) : CMul i j := .inr ⟨h1, h2⟩
theorem ok_draw (D : Dt K mg) : Has P w K mg base 1 (He.ga K "_law_draw") ["pool", "size"] [] spDraw := by
  obtain ⟨fd, F⟩ := fd__law_draw D
  refine hasN F (F.bindsN fun _ _ _ _ _ _ us hl => match us, hl with | [_, _], _ => rfl) sc_draw (fun vs H Q E h => ?_) (fun cdv A outer s H vs Q E hr h => ?_)
  · obtain ⟨I, p, n, rfl, _⟩ := h; rfl
  · obtain ⟨I, p, n, rfl, s0, ⟨hI, c, cells, pos, big, seed, left, bud, hc, hl, hpos, hp⟩, hn0, hn1, k⟩ := h
    refine ⟨_, (pss_cons (ps_if (PW.pt (pw_and (pt_cmpR op_le (pe_ix ix_list (pv 0) pe_int (fun _ _ => rfl)) pe_int (nomark _)) (pw_and (pt_cmpR op_le (pe_ix ix_list (pv 0) pe_int (fun _ _ => rfl)) pe_int (nomark _)) (pw_and1 (pt_cmpR op_lt (pe_ix ix_list (pv 0) pe_int (fun _ _ => rfl)) (pe_callB call_len rfl (free_len D) PySem.boot_len (pa_cons (pe_ix ix_list (pv 0) pe_int (fun _ _ => rfl)) pa_nil)) (nomark _))))))
      (pss_cons (ps_set (i := 2) sc_draw.nd rfl (Or.inl rfl) (pe_ix ix_list (pe_ix ix_list (pv 0) pe_int (fun _ _ => rfl)) (pe_ix ix_list (pv 0) pe_int (fun _ _ => rfl)) (fun _ _ => rfl)))
      (pss_cons (ps_asg (pe_op op_add (pe_ix ix_list (pv 0) pe_int (fun _ _ => rfl)) pe_int) (pg_sub (pv 0) pe_int set_list))
      (pss_cons (ps_asg (pe_op op_mod (pe_callTy call_int1 rfl (free_int D) (by decide +kernel) (pa_cons (pe_op op_add (pe_op op_mul (pe_ix ix_list (pv 0) pe_int (fun _ _ => rfl)) pe_int) (pv 2)) pa_nil)) pe_int) (pg_sub (pv 0) pe_int set_list))
      (pss_cons (ps_asg pe_int (pg_sub (pv 0) pe_int set_list))
      (pss_one (ps_if (pt_cmpR op_ge (pv 2) (pe_op op_pow pe_int pe_int) (nomark _))
      (pss_one (ps_asg (pv 2) (pg_sub (pv 0) pe_int set_list)))
      pss_nil))))))
      pss_nil)
      (pss_cons (ps_if (pt_cmpR op_gt (pe_ix ix_list (pv 0) pe_int (fun _ _ => rfl)) pe_int (nomark _))
      (pss_cons (ps_set (i := 3) sc_draw.nd rfl (Or.inl rfl) (pe_op op_mod (pe_callTy call_int1 rfl (free_int D) (by decide +kernel) (pa_cons (pe_ix ix_list (pv 0) pe_int (fun _ _ => rfl)) pa_nil)) (pv 1)))
      (pss_cons (ps_asg (pe_op op_fdivW (pe_ix ix_list (pv 0) pe_int (fun _ _ => rfl)) (pv 1)) (pg_sub (pv 0) pe_int set_list))
      (pss_cons (ps_asg pe_int (pg_sub (pv 0) pe_int set_list))
      (pss_one (ps_ret (pv 3))))))
      pss_nil)
      (pss_cons (ps_asg (pe_op op_sub (pe_ix ix_list (pv 0) pe_int (fun _ _ => rfl)) pe_int) (pg_sub (pv 0) pe_int set_list))
      (pss_cons (ps_asg (pe_op op_mod (pe_callTy call_int1 rfl (free_int D) (by decide +kernel) (pa_cons (pe_op op_add (pe_op op_mul (pe_ix ix_list (pv 0) pe_int (fun _ _ => rfl)) pe_int) pe_int) pa_nil)) pe_int) (pg_sub (pv 0) pe_int set_list))
      (pss_one (ps_ret (pe_op op_mod (pe_op op_mod (pe_callTy call_int1 rfl (free_int D) (by decide +kernel) (pa_cons (pe_op op_add (pe_op op_mul (pe_ix ix_list (pv 0) pe_int (fun _ _ => rfl)) pe_int) pe_int) pa_nil)) pe_int) (pv 1)))))))), ?_⟩
    refine seq_cut (fun σ' H' => ∃ (v : Option V) (pos' : Nat) (big' seed' left' : Int), σ' = [some (.ref p), some (.int n), v, none] ∧ Gr [p] I H I H' ∧ pos' ≤ cells.length ∧ H' p = some (.lst (plist c pos' big' seed' left' bud))) (fun nx q => ?_) ?_
    · have hc' := s0 _ _ hc
      have stay : nx [some (.ref p), some (.int n), none, none] H := q _ _ ⟨none, pos, big, seed, left, rfl, Gr.refl s0, hpos, hp⟩
      refine ⟨_, rfl, _, _, _, _, rfl, rfl, SqL.of hp, at_of (j := 2) rfl rfl, _, _, rfl, rfl, _, rfl, ifD (fun _ => ?_) (fun _ => iteF stay)⟩
      refine ⟨_, rfl, _, _, _, _, rfl, rfl, SqL.of hp, at_of (j := 4) rfl rfl, _, _, rfl, rfl, _, rfl, ifD (fun _ => ?_) (fun _ => iteF stay)⟩
      refine ⟨_, rfl, _, _, _, _, rfl, rfl, SqL.of hp, at_of (j := 1) rfl rfl, _, rfl, _, _, _, _, rfl, rfl, SqL.of hp, at_of (j := 0) rfl rfl, _, cells.length, rfl, .inl ⟨_, SqL.of hc', by simp⟩, _, _, rfl, rfl, _, rfl, ?_⟩
      refine ifD (fun hlt => ?_) (fun _ => stay)
      have hlt' : pos < cells.length := by omega
      have hcell : (cells.map V.int)[pos]? = some (.int cells[pos]) := by rw [List.getElem?_map, List.getElem?_eq_getElem hlt']; rfl
      refine ⟨_, rfl, _, _, _, _, rfl, rfl, SqL.of hp, at_of (j := 0) rfl rfl, _, rfl, _, _, _, _, rfl, rfl, SqL.of hp, at_of (j := 1) rfl rfl, _, _, _, _, rfl, rfl, SqL.of hc', at_of rfl hcell, ?_⟩
      refine ⟨_, rfl, _, _, _, _, rfl, rfl, SqL.of hp, at_of (j := 1) rfl rfl, _, _, rfl, rfl, _, rfl, _, _, _, _, rfl, rfl, hp, (show ixN _ _ = some 1 from rfl), ?_⟩
      refine ⟨_, rfl, _, _, _, _, rfl, rfl, SqL.of upd_same, at_of (j := 3) rfl rfl, _, _, rfl, rfl, mulc (by decide) (by decide), _, rfl, _, _, rfl, rfl, .inl ⟨_, rfl, _, _, rfl, rfl, (by show (0 : Int) < 2147483647; decide), _, rfl, _, _, _, _, rfl, rfl, upd_same, (show ixN _ _ = some 3 from rfl), ?_⟩⟩
      refine ⟨_, rfl, _, _, _, _, rfl, rfl, upd_same, (show ixN _ _ = some 4 from rfl), ?_⟩
      have hg : ∀ l : List V, Gr [p] I H I (upd H p (.lst l)) := fun l => Gr.mut s0 hI (by simp)
      refine ⟨_, rfl, _, _, rfl, rfl, ⟨by decide, by decide, by decide⟩, _, _, rfl, rfl, _, rfl, ifD (fun _ => ?_) (fun _ => ?_)⟩
      · refine ⟨_, rfl, _, rfl, _, _, _, _, rfl, rfl, upd_same, (show ixN _ _ = some 2 from rfl), ?_⟩
        refine q _ _ ⟨some (.int cells[pos]), pos + 1, cells[pos], (seed * 31 + cells[pos]) % 2147483647, 7, rfl, ?_, by omega, ?_⟩
        · rw [upd_upd, upd_upd, upd_upd]; exact hg _
        · rw [upd_same]; rfl
      · refine q _ _ ⟨some (.int cells[pos]), pos + 1, big, (seed * 31 + cells[pos]) % 2147483647, 7, rfl, ?_, by omega, ?_⟩
        · rw [upd_upd, upd_upd]; exact hg _
        · rw [upd_same]; rfl
    · rintro σ' H' ⟨v, pos, big, seed, left, rfl, g, hpos, hp⟩
      have s1 : Same I H' := g.ih
      refine ⟨_, rfl, _, _, _, _, rfl, rfl, SqL.of hp, at_of (j := 2) rfl rfl, _, _, rfl, rfl, _, rfl, ifD (fun _ => ?_) (fun _ => ?_)⟩
      · refine ⟨_, rfl, _, _, _, _, rfl, rfl, SqL.of hp, at_of (j := 2) rfl rfl, .inl ⟨_, rfl, _, rfl, _, _, rfl, rfl, hn0, ?_⟩⟩
        refine ⟨_, rfl, _, _, _, _, rfl, rfl, SqL.of hp, at_of (j := 2) rfl rfl, _, rfl, _, _, rfl, rfl, wide_div hn0 (b := 64) (by omega) (by decide) (by decide), _, rfl, _, _, _, _, rfl, rfl, hp, (show ixN _ _ = some 2 from rfl), ?_⟩
        refine ⟨_, rfl, _, _, _, _, rfl, rfl, upd_same, (show ixN _ _ = some 4 from rfl), _, rfl, ?_⟩
        have hm := Int.emod_nonneg big (by omega : n ≠ 0)
        have hm2 := Int.emod_lt_of_pos big hn0
        rw [upd_upd]
        exact k _ _ hm hm2 (g.trans (Gr.mut s1 hI (by simp))) ⟨hI, c, cells, pos, big / n, seed, 0, bud, hc, hl, hpos, upd_same⟩
      · refine ⟨_, rfl, _, _, _, _, rfl, rfl, SqL.of hp, at_of (j := 4) rfl rfl, _, _, rfl, rfl, _, rfl, _, _, _, _, rfl, rfl, hp, (show ixN _ _ = some 4 from rfl), ?_⟩
        refine ⟨_, rfl, _, _, _, _, rfl, rfl, SqL.of upd_same, at_of (j := 3) rfl rfl, _, _, rfl, rfl, mulc (by decide) (by decide), _, _, rfl, rfl, .inl ⟨_, rfl, _, _, rfl, rfl, (by show (0 : Int) < 2147483647; decide), _, rfl, _, _, _, _, rfl, rfl, upd_same, (show ixN _ _ = some 3 from rfl), ?_⟩⟩
        refine ⟨_, rfl, _, _, _, _, rfl, rfl, SqL.of upd_same, at_of (j := 3) rfl rfl, _, _, rfl, rfl, mulc (by decide) (by decide), _, _, rfl, rfl, .inl ⟨_, rfl, _, _, rfl, rfl, (by show (0 : Int) < 2147483647; decide), _, rfl, _, _, rfl, rfl, hn0, ?_⟩⟩
        rw [upd_upd]
        exact k _ _ (Int.emod_nonneg _ (by omega)) (Int.emod_lt_of_pos _ hn0) (g.trans (Gr.mut s1 hI (by simp))) ⟨hI, c, cells, pos, big, _, left - 1, bud, hc, hl, hpos, upd_same⟩
/-! ### the law's own fractions -/
def iQ : Rp Rat := fun H v q => ∃ a, v = .ref a ∧ H a = some (.tup [.int q.num, .int q.den])
instance : Mono iQ := ⟨fun s ⟨a, e, h⟩ => ⟨a, e, s _ _ h⟩⟩
def spLs : Sp := fun vs H Q _ => ∃ (I : Hp) (n d : Int), vs = [.int n, .int d] ∧ Same I H ∧ 0 < d ∧ d < 2 ^ 1999 ∧ Ret [] I H iQ (rt n d) Q
theorem sc_less_ : FnScope ["num", "den", "a", "b", "k"] ["num", "den"] (defScope s__law_less) := ⟨rfl, rfl, rfl, by decide +kernel, rfl, by decide +kernel, by decide +kernel⟩
theorem ok_ls (D : Dt K mg) : Has P w K mg base 1 (He.ga K "_law_less") ["num", "den"] [] spLs := by
  obtain ⟨fd, F⟩ := fd__law_less D
  refine hasN F (F.bindsN fun _ _ _ _ _ _ us hl => match us, hl with | [_, _], _ => rfl) sc_less_ (fun vs H Q E h => ?_) (fun cdv A outer s H vs Q E hr h => ?_)
  · obtain ⟨I, n, d, rfl, _⟩ := h; rfl
  · obtain ⟨I, n, d, rfl, s0, hd, hd2, k⟩ := h
    refine ⟨_, (pss_cons (ps_set (i := 2) sc_less_.nd rfl (Or.inl rfl) (pe_callB call_abs rfl (free_abs D) (by decide +kernel) (pa_cons (pv 0) pa_nil)))
      (pss_cons (ps_set (i := 3) sc_less_.nd rfl (Or.inl rfl) (pv 1))
      (pss_cons (ps_for PassesOwn.never rfl (pi_range1 rfl (free_range D) (pa_cons pe_int pa_nil)) (pg_name (i := 4) sc_less_.nd rfl (Or.inl rfl))
      (pss_cons (ps_if (pt_cmpR op_eq (pv 3) pe_int (nomark _))
      (pss_one ps_break)
      pss_nil)
      (pss_one (ps_par (i := 2) (j := 3) rfl sc_less_.nd rfl rfl (by decide) rfl rfl (pa_cons (pv 3) (pa_cons (pe_op op_mod (pe_callTy call_int1 rfl (free_int D) (by decide +kernel) (pa_cons (pv 2) pa_nil)) (pv 3)) pa_nil)) rfl))))
      (pss_one (ps_ret (pe_tup (pa_cons (pe_op op_fdivW (pv 0) (pv 2)) (pa_cons (pe_op op_fdivW (pv 1) (pv 2)) pa_nil)))))))), ?_⟩
    refine ⟨_, rfl, _, rfl, _, rfl, 4000, rfl, by decide, by decide, ?_⟩
    refine for_rangeP (n := 4000) (fun σ' H' => ∃ (b v : Option V), σ' = [some (.int n), some (.int d), some (.int (gz n d)), b, v] ∧ H' = H)
      (fun i σ' H' => ∃ (a b : Int) (v : Option V), σ' = [some (.int n), some (.int d), some (.int a), some (.int b), v] ∧ H' = H ∧ 0 ≤ a ∧ 0 ≤ b ∧ eu (4000 - i) a b = gz n d)
      ⟨_, d, none, rfl, rfl, by split <;> omega, by omega, eu_gz hd hd2⟩ (fun nx q i σ' H' hi h => ?_) (fun σ' H' h => ?_) ?_
    · obtain ⟨a, b, v, rfl, rfl, ha, hb, he⟩ := h
      obtain ⟨j, hj⟩ : ∃ j, 4000 - i = j + 1 := ⟨4000 - i - 1, by omega⟩
      have hj2 : 4000 - (i + 1) = j := by omega
      rw [hj] at he
      refine ⟨_, rfl, rfl, _, rfl, ifD (fun h0 => ?_) (fun h0 => ?_)⟩
      · have e0 : b = 0 := by simpa using h0
        rw [e0, eu_zero] at he
        exact q _ _ ⟨_, _, by rw [he]; rfl, rfl⟩
      · have e0 : ¬ b = 0 := by simpa using h0
        have b0 : 0 < b := by omega
        refine ⟨_, rfl, _, rfl, .inl ⟨_, rfl, _, rfl, _, _, rfl, rfl, b0, _, _, rfl, ?_⟩⟩
        have he' : eu j b (a % b) = gz n d := by rw [← he]; show _ = if b = 0 then a else eu j b (a % b); rw [if_neg e0]
        exact ⟨b, a % b, _, rfl, rfl, hb, Int.emod_nonneg _ e0, by rw [hj2]; exact he'⟩
    · obtain ⟨a, b, v, rfl, rfl, _, _, he⟩ := h
      have he' : a = gz n d := by rw [← he]; rfl
      rw [he']
      exact ⟨_, _, rfl, rfl⟩
    · rintro σ' H' ⟨b, v, rfl, rfl⟩
      have sm : Sm d := by show d.natAbs < 2 ^ 2000; have : d.natAbs < 2 ^ 1999 := by omega
                           exact Nat.lt_trans this (by decide)
      refine ⟨_, rfl, _, rfl, _, _, rfl, rfl, sm.div hd, _, rfl, _, rfl, _, _, rfl, rfl, sm.div hd, (by show 2 ≤ sizeLine; decide), fun p hp => ?_⟩
      have e1 := rt_num (n := n) hd
      have e2 := rt_den (n := n) hd
      have z := k _ _ (.ref p) (Gr.new (o := .tup [.int (rt n d).num, .int (rt n d).den]) s0 hp) ⟨p, rfl, upd_same⟩
      rw [e1, e2] at z
      exact z
end
end K

set_option Elab.async false
set_option linter.all false
set_option maxRecDepth 100000
set_option maxHeartbeats 4000000
set_option exponentiation.threshold 5000
namespace K
open PySem PySem.Spec PyProof.Rows L2 Tk Hd Mt
section
variable {P : Program} {w : World} {K : PySem.W.Frag} {mg : Str → Option Value} {base : Heap}
/-! ### _law_same -/
def spSame (n : Nat) : Sp := fun vs H Q _ => ∃ (a d : V) (x y : Da), vs = [a, d] ∧ dR H a x ∧ dR H d y ∧ dep y ≤ n ∧ tame x ∧ tame y ∧ Q (.bl (eqd x y)) H
theorem sc_same : FnScope ["actual", "due", "k"] ["actual", "due"] (defScope s__law_same) := ⟨rfl, rfl, rfl, by decide +kernel, rfl, by decide +kernel, by decide +kernel⟩
theorem dec_bl' (a b : Bool) : decide (V.bl a = V.bl b) = (a == b) := dec_bl
/-- nothing in it: no list, no tuple -/
theorem ok_same0 (D : Dt K mg) {fd : FuncData} (F : FnP K "_law_same" "_law_same" s__law_same [] (He.ga K "_law_same") fd) : FnOk P w K mg base (L2.CX P w) 1 (He.ga K "_law_same") fd ["actual", "due"] (fun vs H Q _ => ∃ (a d : V) (x y : Da), vs = [a, d] ∧ dR H a x ∧ dR H d y ∧ isT y "tuple" = false ∧ isT y "list" = false ∧ Q (.bl (eqd x y)) H) := by
  refine fnN F sc_same (fun vs H Q E h => ?_) (fun cdv A outer s H vs Q E hr h => ?_)
  · obtain ⟨a, d, x, y, rfl, _⟩ := h; rfl
  · obtain ⟨a, d, x, y, rfl, hx, hy, y1, y2, k⟩ := h
    refine ⟨_, (pss_cons (ps_if (PW.pt (pw_or (pt_val (pe_callB call_isi rfl (free_isinstance D) (by decide +kernel) (pa_cons (pv 1) (pa_cons (pe_bltn (v := .ty "tuple") rfl (free_tuple D) (by decide +kernel) rfl) pa_nil)))) (pw_or1 (pt_val (pe_callB call_isi rfl (free_isinstance D) (by decide +kernel) (pa_cons (pv 1) (pa_cons (pe_bltn (v := .ty "list") rfl (free_list D) (by decide +kernel) rfl) pa_nil))))))) pss_never pss_nil)
      (pss_cons (ps_if (PW.pt (pw_or (pt_cmpR op_isN (pv 1) pe_non (nomark _)) (pw_or1 (pt_val (pe_callB call_isi rfl (free_isinstance D) (by decide +kernel) (pa_cons (pv 1) (pa_cons (pe_bltn (v := .ty "bool") rfl (free_bool D) (by decide +kernel) rfl) pa_nil)))))))
      (pss_one (ps_ret (pe_and (pe_cmpR op_eq (pe_cmpR op_isN (pv 0) pe_non (nomark _)) (pe_cmpR op_isN (pv 1) pe_non (nomark _)) (nomark _)) (pe_and (pe_or (pe_cmpR op_isN (pv 1) pe_non (nomark _)) (pe_one (pe_callB call_isi rfl (free_isinstance D) (by decide +kernel) (pa_cons (pv 0) (pa_cons (pe_bltn (v := .ty "bool") rfl (free_bool D) (by decide +kernel) rfl) pa_nil))))) (pe_one (pe_cmpR op_eq (pv 0) (pv 1) (nomark _)))))))
      pss_nil)
      (pss_cons (ps_if (pt_val (pe_callB call_isi rfl (free_isinstance D) (by decide +kernel) (pa_cons (pv 1) (pa_cons (pe_bltn (v := .ty "int") rfl (free_int D) (by decide +kernel) rfl) pa_nil))))
      (pss_one (ps_ret (pe_and (pe_callB call_isi rfl (free_isinstance D) (by decide +kernel) (pa_cons (pv 0) (pa_cons (pe_bltn (v := .ty "int") rfl (free_int D) (by decide +kernel) rfl) pa_nil))) (pe_and (pe_not (pe_callB call_isi rfl (free_isinstance D) (by decide +kernel) (pa_cons (pv 0) (pa_cons (pe_bltn (v := .ty "bool") rfl (free_bool D) (by decide +kernel) rfl) pa_nil)))) (pe_one (pe_cmpR op_eq (pv 0) (pv 1) (nomark _)))))))
      pss_nil)
      (pss_one (ps_ret (pe_and (pe_callB call_isi rfl (free_isinstance D) (by decide +kernel) (pa_cons (pv 0) (pa_cons (pe_bltn (v := .ty "str") rfl (free_str D) (by decide +kernel) rfl) pa_nil))) (pe_one (pe_cmpR op_eq (pv 0) (pv 1) (nomark _))))))))), ?_⟩
    have cv : ∀ T : String, ClsV (.ty T) (.type T) := fun T => .ty T
    refine ⟨_, rfl, _, _, _, _, _, rfl, cv _, knd_ty hy, knd_tuple y, _, rfl, ifF y1 ?_⟩
    refine ⟨_, rfl, _, _, _, _, _, rfl, cv _, knd_ty hy, knd_list y, _, rfl, ifF y2 ?_⟩
    have nx := non_dec hx
    have ny := non_dec hy
    refine ⟨_, rfl, rfl, _, rfl, ?_⟩
    rw [ny]
    have finN : isNon y = true ∨ isT y "bool" = true → ∀ σ : L2.St, True := fun _ _ => trivial
    cases y with
    | lst l => simp [isT] at y2
    | tup l => simp [isT] at y1
    | non =>
      refine iteT ?_
      simp only [dR] at hy
      subst hy
      refine ⟨_, rfl, rfl, _, rfl, rfl, rfl, _, rfl, ?_⟩
      rw [nx, ny]
      cases x with
      | non =>
        simp only [dR] at hx; subst hx
        refine iteT ⟨_, rfl, rfl, _, rfl, iteT ⟨_, rfl, iteT ⟨_, rfl, _, rfl, rfl, ?_⟩⟩⟩
        exact k
      | _ => exact iteF k
    | bl b =>
      refine iteF ⟨_, rfl, _, _, _, _, _, rfl, cv _, knd_ty hy, knd_bool (.bl b), _, rfl, iteT ?_⟩
      refine ⟨_, rfl, rfl, _, rfl, rfl, rfl, _, rfl, ?_⟩
      rw [nx, ny]
      simp only [dR] at hy
      subst hy
      cases x with
      | non => exact iteF k
      | bl c =>
        refine iteT ⟨_, rfl, rfl, _, rfl, iteF ⟨_, rfl, _, _, _, _, _, rfl, cv _, knd_ty hx, knd_bool (.bl c), _, rfl, iteT ?_⟩⟩
        simp only [dR] at hx
        subst hx
        refine ⟨_, rfl, _, rfl, rfl, ?_⟩
        have e : decide (V.bl c = V.bl b) = eqd (.bl c) (.bl b) := by simp [eqd]
        rw [← e] at k; exact k
      | int i => exact iteT ⟨_, rfl, rfl, _, rfl, iteF ⟨_, rfl, _, _, _, _, _, rfl, cv _, knd_ty hx, knd_bool (.int i), _, rfl, iteF k⟩⟩
      | str i => exact iteT ⟨_, rfl, rfl, _, rfl, iteF ⟨_, rfl, _, _, _, _, _, rfl, cv _, knd_ty hx, knd_bool (.str i), _, rfl, iteF k⟩⟩
      | lst i => exact iteT ⟨_, rfl, rfl, _, rfl, iteF ⟨_, rfl, _, _, _, _, _, rfl, cv _, knd_ty hx, knd_bool (.lst i), _, rfl, iteF k⟩⟩
      | tup i => exact iteT ⟨_, rfl, rfl, _, rfl, iteF ⟨_, rfl, _, _, _, _, _, rfl, cv _, knd_ty hx, knd_bool (.tup i), _, rfl, iteF k⟩⟩
    | int b =>
      refine iteF ⟨_, rfl, _, _, _, _, _, rfl, cv _, knd_ty hy, knd_bool (.int b), _, rfl, iteF ?_⟩
      refine ⟨_, rfl, _, _, _, _, _, rfl, cv _, knd_ty hy, knd_int (.int b), _, rfl, iteT ?_⟩
      simp only [dR] at hy
      subst hy
      cases x with
      | int c =>
        refine ⟨_, rfl, _, _, _, _, _, rfl, cv _, knd_ty hx, knd_int (.int c), _, rfl, iteT ?_⟩
        refine ⟨_, rfl, _, _, _, _, _, rfl, cv _, knd_ty hx, knd_bool (.int c), _, rfl, _, rfl, iteT ?_⟩
        simp only [dR] at hx
        subst hx
        refine ⟨_, rfl, _, rfl, rfl, ?_⟩
        have e : decide (V.int c = V.int b) = eqd (.int c) (.int b) := by simp [eqd]
        rw [← e] at k; exact k
      | bl c =>
        refine ⟨_, rfl, _, _, _, _, _, rfl, cv _, knd_ty hx, knd_int (.bl c), _, rfl, iteT ?_⟩
        exact ⟨_, rfl, _, _, _, _, _, rfl, cv _, knd_ty hx, knd_bool (.bl c), _, rfl, _, rfl, iteF k⟩
      | non => exact ⟨_, rfl, _, _, _, _, _, rfl, cv _, knd_ty hx, knd_int .non, _, rfl, iteF k⟩
      | str c => exact ⟨_, rfl, _, _, _, _, _, rfl, cv _, knd_ty hx, knd_int (.str c), _, rfl, iteF k⟩
      | lst c => exact ⟨_, rfl, _, _, _, _, _, rfl, cv _, knd_ty hx, knd_int (.lst c), _, rfl, iteF k⟩
      | tup c => exact ⟨_, rfl, _, _, _, _, _, rfl, cv _, knd_ty hx, knd_int (.tup c), _, rfl, iteF k⟩
    | str b =>
      refine iteF ⟨_, rfl, _, _, _, _, _, rfl, cv _, knd_ty hy, knd_bool (.str b), _, rfl, iteF ?_⟩
      refine ⟨_, rfl, _, _, _, _, _, rfl, cv _, knd_ty hy, knd_int (.str b), _, rfl, iteF ?_⟩
      simp only [dR] at hy
      subst hy
      cases x with
      | str c =>
        refine ⟨_, rfl, _, _, _, _, _, rfl, cv _, knd_ty hx, knd_str (.str c), _, rfl, iteT ?_⟩
        simp only [dR] at hx
        subst hx
        refine ⟨_, rfl, _, rfl, rfl, ?_⟩
        have e : decide (V.str c = V.str b) = eqd (.str c) (.str b) := by simp [eqd]
        rw [← e] at k; exact k
      | bl c => exact ⟨_, rfl, _, _, _, _, _, rfl, cv _, knd_ty hx, knd_str (.bl c), _, rfl, iteF k⟩
      | non => exact ⟨_, rfl, _, _, _, _, _, rfl, cv _, knd_ty hx, knd_str .non, _, rfl, iteF k⟩
      | int c => exact ⟨_, rfl, _, _, _, _, _, rfl, cv _, knd_ty hx, knd_str (.int c), _, rfl, iteF k⟩
      | lst c => exact ⟨_, rfl, _, _, _, _, _, rfl, cv _, knd_ty hx, knd_str (.lst c), _, rfl, iteF k⟩
      | tup c => exact ⟨_, rfl, _, _, _, _, _, rfl, cv _, knd_ty hx, knd_str (.tup c), _, rfl, iteF k⟩
/-- a list or a tuple -/
theorem ok_sameS (D : Dt K mg) (n : Nat) (HREC : Has P w K mg base (n + 1) (He.ga K "_law_same") ["actual", "due"] [] (spSame n)) {fd : FuncData} (F : FnP K "_law_same" "_law_same" s__law_same [] (He.ga K "_law_same") fd) :
    FnOk P w K mg base (L2.CX P w) (n + 2) (He.ga K "_law_same") fd ["actual", "due"] (fun vs H Q _ => ∃ (a d : V) (x y : Da), vs = [a, d] ∧ dR H a x ∧ dR H d y ∧ dep y ≤ n + 1 ∧ tame x ∧ tame y ∧ (isT y "tuple" = true ∨ isT y "list" = true) ∧ Q (.bl (eqd x y)) H) := by
  refine fnN F sc_same (fun vs H Q E h => ?_) (fun cdv A outer s H vs Q E hr h => ?_)
  · obtain ⟨a, d, x, y, rfl, _⟩ := h; rfl
  · obtain ⟨a, d, x, y, rfl, hx, hy, dy, tx, ty, yy, k⟩ := h
    refine ⟨_, (pss_cons (ps_if (PW.pt (pw_or (pt_val (pe_callB call_isi rfl (free_isinstance D) (by decide +kernel) (pa_cons (pv 1) (pa_cons (pe_bltn (v := .ty "tuple") rfl (free_tuple D) (by decide +kernel) rfl) pa_nil)))) (pw_or1 (pt_val (pe_callB call_isi rfl (free_isinstance D) (by decide +kernel) (pa_cons (pv 1) (pa_cons (pe_bltn (v := .ty "list") rfl (free_list D) (by decide +kernel) rfl) pa_nil)))))))
      (pss_cons (ps_if (PW.pt (pw_or (pt_cmpR op_ne (pe_callB call_isi rfl (free_isinstance D) (by decide +kernel) (pa_cons (pv 1) (pa_cons (pe_bltn (v := .ty "tuple") rfl (free_tuple D) (by decide +kernel) rfl) pa_nil))) (pe_callB call_isi rfl (free_isinstance D) (by decide +kernel) (pa_cons (pv 0) (pa_cons (pe_bltn (v := .ty "tuple") rfl (free_tuple D) (by decide +kernel) rfl) pa_nil))) (nomark _)) (pw_or1 (pt_cmpR op_ne (pe_callB call_isi rfl (free_isinstance D) (by decide +kernel) (pa_cons (pv 1) (pa_cons (pe_bltn (v := .ty "list") rfl (free_list D) (by decide +kernel) rfl) pa_nil))) (pe_callB call_isi rfl (free_isinstance D) (by decide +kernel) (pa_cons (pv 0) (pa_cons (pe_bltn (v := .ty "list") rfl (free_list D) (by decide +kernel) rfl) pa_nil))) (nomark _)))))
      (pss_one (ps_ret pe_bl))
      pss_nil)
      (pss_cons (ps_if (pt_cmpR op_ne (pe_callB call_len rfl (free_len D) PySem.boot_len (pa_cons (pv 0) pa_nil)) (pe_callB call_len rfl (free_len D) PySem.boot_len (pa_cons (pv 1) pa_nil)) (nomark _))
      (pss_one (ps_ret pe_bl))
      pss_nil)
      (pss_cons (ps_for PassesOwn.never rfl (pi_range1 rfl (free_range D) (pa_cons (pe_callB call_len rfl (free_len D) PySem.boot_len (pa_cons (pv 1) pa_nil)) pa_nil)) (pg_name (i := 2) sc_same.nd rfl (Or.inl rfl))
      (pss_one (ps_if (pt_not (pt_val (pe_callH HREC (hr.mono (by omega)) rfl (glo__law_same D) passL (pa_cons (pe_ix ix_seq (pv 0) (pv 2) (fun _ _ => rfl)) (pa_cons (pe_ix ix_seq (pv 1) (pv 2) (fun _ _ => rfl)) pa_nil)))))
      (pss_one (ps_ret pe_bl))
      pss_nil)))
      (pss_one (ps_ret pe_bl)))))
      pss_nil)
      pss_never), ?_⟩
    have cv : ∀ T : String, ClsV (.ty T) (.type T) := fun T => .ty T
    cases y with
    | non => simp [isT] at yy
    | bl b => simp [isT] at yy
    | int b => simp [isT] at yy
    | str b => simp [isT] at yy
    | lst l =>
      refine ⟨_, rfl, _, _, _, _, _, rfl, cv _, knd_ty hy, knd_tuple _, _, rfl, iteF ⟨_, rfl, _, _, _, _, _, rfl, cv _, knd_ty hy, knd_list _, _, rfl, iteT ?_⟩⟩
      refine ⟨_, rfl, _, _, _, _, _, rfl, cv _, knd_ty hy, knd_tuple _, _, rfl, _, _, _, _, _, rfl, cv _, knd_ty hx, knd_tuple x, rfl, _, rfl, ?_⟩
      cases x with
      | lst l' =>
        refine ifF rfl ?_
        refine ⟨_, rfl, _, _, _, _, _, rfl, cv _, knd_ty hy, knd_list _, _, rfl, _, _, _, _, _, rfl, cv _, knd_ty hx, knd_list _, rfl, _, rfl, ifF rfl ?_⟩
        simp only [dR] at hx hy
        obtain ⟨pa, va, rfl, ha, ra⟩ := hx
        obtain ⟨pd, vd, rfl, hd, rd⟩ := hy
        have la := dRs_len ra
        have ld := dRs_len rd
        have hl : l.length ≤ 100000 := ty.1
        refine ⟨_, rfl, _, l'.length, rfl, .inl ⟨_, SqL.of ha, la.symm⟩, _, rfl, _, l.length, rfl, .inl ⟨_, SqL.of hd, ld.symm⟩, rfl, _, rfl, ?_⟩
        by_cases hlen : l'.length = l.length
        · refine ifF (by rw [hlen]; simp) ?_
          refine ⟨_, rfl, _, l.length, rfl, .inl ⟨_, SqL.of hd, ld.symm⟩, _, rfl, by omega, by omega, ?_⟩
          refine for_range (n := l.length) (fun i σ' H' => ∃ v : Option V, σ' = [some (.ref pa), some (.ref pd), v] ∧ H' = H ∧ ∀ (j : Nat) (x y : Da), j < i → l'[j]? = some x → l[j]? = some y → eqd x y = true)
            ⟨none, rfl, rfl, fun j _ _ h => absurd h (Nat.not_lt_zero j)⟩ (fun i σ' H' hi h => ?_) (fun σ' H' h => ?_)
          · obtain ⟨v, rfl, rfl, hj⟩ := h
            obtain ⟨u1, e1, r1⟩ := dRs_at ra (List.getElem?_eq_getElem (by omega : i < l'.length))
            obtain ⟨u2, e2, r2⟩ := dRs_at rd (List.getElem?_eq_getElem hi)
            refine ⟨_, rfl, _, rfl, .inl ⟨_, _, _, _, rfl, rfl, SqL.of ha, at_of (j := i) (by omega) e1, ?_⟩⟩
            refine ⟨_, rfl, _, rfl, .inl ⟨_, _, _, _, rfl, rfl, SqL.of hd, at_of (j := i) (by omega) e2, ?_⟩⟩
            have dd : dep l[i] ≤ n := by
              have := deps_at (List.getElem?_eq_getElem hi)
              simp only [dep] at dy; omega
            refine ⟨_, _, _, _, rfl, r1, r2, dd, tames_at tx.2 (List.getElem?_eq_getElem (by omega)), tames_at ty.2 (List.getElem?_eq_getElem hi), _, rfl, ?_⟩
            cases e : eqd l'[i] l[i] with
            | false =>
              refine iteT ?_
              have z : eqd (.lst l') (.lst l) = false := by simp only [eqd]; exact eqds_false (List.getElem?_eq_getElem (by omega)) (List.getElem?_eq_getElem hi) e
              rw [z] at k; exact k
            | true =>
              refine iteF ⟨_, rfl, rfl, fun j x y hji h1 h2 => ?_⟩
              by_cases q : j = i
              · subst q; rw [List.getElem?_eq_getElem (by omega)] at h1 h2; rw [← Option.some.inj h1, ← Option.some.inj h2]; exact e
              · exact hj j x y (by omega) h1 h2
          · obtain ⟨v, rfl, rfl, hj⟩ := h
            have z : eqd (.lst l') (.lst l) = true := by
              simp only [eqd]
              exact eqds_true hlen fun i x y h1 h2 => hj i x y (by have := (List.getElem?_eq_some_iff.mp h2).1; omega) h1 h2
            rw [z] at k; exact k
        · refine ifT (by simp; omega) ?_
          have z : eqd (.lst l') (.lst l) = false := by simp only [eqd]; exact eqds_len hlen
          rw [z] at k; exact k
      | non =>
        refine ifF rfl ⟨_, rfl, _, _, _, _, _, rfl, cv _, knd_ty hy, knd_list _, _, rfl, _, _, _, _, _, rfl, cv _, knd_ty hx, knd_list _, rfl, _, rfl, ifT rfl k⟩
      | bl b =>
        refine ifF rfl ⟨_, rfl, _, _, _, _, _, rfl, cv _, knd_ty hy, knd_list _, _, rfl, _, _, _, _, _, rfl, cv _, knd_ty hx, knd_list _, rfl, _, rfl, ifT rfl k⟩
      | int b =>
        refine ifF rfl ⟨_, rfl, _, _, _, _, _, rfl, cv _, knd_ty hy, knd_list _, _, rfl, _, _, _, _, _, rfl, cv _, knd_ty hx, knd_list _, rfl, _, rfl, ifT rfl k⟩
      | str b =>
        refine ifF rfl ⟨_, rfl, _, _, _, _, _, rfl, cv _, knd_ty hy, knd_list _, _, rfl, _, _, _, _, _, rfl, cv _, knd_ty hx, knd_list _, rfl, _, rfl, ifT rfl k⟩
      | tup b =>
        exact ifT rfl k
    | tup l =>
      refine ⟨_, rfl, _, _, _, _, _, rfl, cv _, knd_ty hy, knd_tuple _, _, rfl, iteT ?_⟩
      refine ⟨_, rfl, _, _, _, _, _, rfl, cv _, knd_ty hy, knd_tuple _, _, rfl, _, _, _, _, _, rfl, cv _, knd_ty hx, knd_tuple x, rfl, _, rfl, ?_⟩
      cases x with
      | tup l' =>
        refine ifF rfl ?_
        refine ⟨_, rfl, _, _, _, _, _, rfl, cv _, knd_ty hy, knd_list _, _, rfl, _, _, _, _, _, rfl, cv _, knd_ty hx, knd_list _, rfl, _, rfl, ifF rfl ?_⟩
        simp only [dR] at hx hy
        obtain ⟨pa, va, rfl, ha, ra⟩ := hx
        obtain ⟨pd, vd, rfl, hd, rd⟩ := hy
        have la := dRs_len ra
        have ld := dRs_len rd
        have hl : l.length ≤ 100000 := ty.1
        refine ⟨_, rfl, _, l'.length, rfl, .inr ⟨_, SqT.of ha, la.symm⟩, _, rfl, _, l.length, rfl, .inr ⟨_, SqT.of hd, ld.symm⟩, rfl, _, rfl, ?_⟩
        by_cases hlen : l'.length = l.length
        · refine ifF (by rw [hlen]; simp) ?_
          refine ⟨_, rfl, _, l.length, rfl, .inr ⟨_, SqT.of hd, ld.symm⟩, _, rfl, by omega, by omega, ?_⟩
          refine for_range (n := l.length) (fun i σ' H' => ∃ v : Option V, σ' = [some (.ref pa), some (.ref pd), v] ∧ H' = H ∧ ∀ (j : Nat) (x y : Da), j < i → l'[j]? = some x → l[j]? = some y → eqd x y = true)
            ⟨none, rfl, rfl, fun j _ _ h => absurd h (Nat.not_lt_zero j)⟩ (fun i σ' H' hi h => ?_) (fun σ' H' h => ?_)
          · obtain ⟨v, rfl, rfl, hj⟩ := h
            obtain ⟨u1, e1, r1⟩ := dRs_at ra (List.getElem?_eq_getElem (by omega : i < l'.length))
            obtain ⟨u2, e2, r2⟩ := dRs_at rd (List.getElem?_eq_getElem hi)
            refine ⟨_, rfl, _, rfl, .inr (.inl ⟨_, _, _, _, rfl, rfl, SqT.of ha, at_of (j := i) (by omega) e1, ?_⟩)⟩
            refine ⟨_, rfl, _, rfl, .inr (.inl ⟨_, _, _, _, rfl, rfl, SqT.of hd, at_of (j := i) (by omega) e2, ?_⟩)⟩
            have dd : dep l[i] ≤ n := by
              have := deps_at (List.getElem?_eq_getElem hi)
              simp only [dep] at dy; omega
            refine ⟨_, _, _, _, rfl, r1, r2, dd, tames_at tx.2 (List.getElem?_eq_getElem (by omega)), tames_at ty.2 (List.getElem?_eq_getElem hi), _, rfl, ?_⟩
            cases e : eqd l'[i] l[i] with
            | false =>
              refine iteT ?_
              have z : eqd (.tup l') (.tup l) = false := by simp only [eqd]; exact eqds_false (List.getElem?_eq_getElem (by omega)) (List.getElem?_eq_getElem hi) e
              rw [z] at k; exact k
            | true =>
              refine iteF ⟨_, rfl, rfl, fun j x y hji h1 h2 => ?_⟩
              by_cases q : j = i
              · subst q; rw [List.getElem?_eq_getElem (by omega)] at h1 h2; rw [← Option.some.inj h1, ← Option.some.inj h2]; exact e
              · exact hj j x y (by omega) h1 h2
          · obtain ⟨v, rfl, rfl, hj⟩ := h
            have z : eqd (.tup l') (.tup l) = true := by
              simp only [eqd]
              exact eqds_true hlen fun i x y h1 h2 => hj i x y (by have := (List.getElem?_eq_some_iff.mp h2).1; omega) h1 h2
            rw [z] at k; exact k
        · refine ifT (by simp; omega) ?_
          have z : eqd (.tup l') (.tup l) = false := by simp only [eqd]; exact eqds_len hlen
          rw [z] at k; exact k
      | non =>
        exact ifT rfl k
      | bl b =>
        exact ifT rfl k
      | int b =>
        exact ifT rfl k
      | str b =>
        exact ifT rfl k
      | lst b =>
        exact ifT rfl k
theorem ok_same (D : Dt K mg) : ∀ n, Has P w K mg base (n + 1) (He.ga K "_law_same") ["actual", "due"] [] (spSame n)
  | 0 => by
    obtain ⟨fd, F⟩ := fd__law_same D
    have b := F.bindsN (ps := ["actual", "due"]) fun _ _ _ _ _ _ us hl => match us, hl with | [_, _], _ => rfl
    refine ⟨F.kp, fd, [], .nil, b, (ok_same0 D F).imp fun vs H Q E h => ?_⟩
    obtain ⟨x, y, dx, dy, h1, h2, h3, h4, _, _, k⟩ := h
    refine ⟨x, y, dx, dy, h1, h2, h3, ?_, ?_, k⟩ <;> cases dy <;> first | rfl | (simp only [dep] at h4; omega)
  | n + 1 => by
    obtain ⟨fd, F⟩ := fd__law_same D
    have b := F.bindsN (ps := ["actual", "due"]) fun _ _ _ _ _ _ us hl => match us, hl with | [_, _], _ => rfl
    refine ⟨F.kp, fd, [], .nil, b, (fnOr ((ok_same0 D F).mono (by omega)) (ok_sameS D n (ok_same D n) F)).imp fun vs H Q E h => ?_⟩
    obtain ⟨x, y, dx, dy, h1, h2, h3, h4, h5, h6, k⟩ := h
    by_cases q : isT dy "tuple" = true ∨ isT dy "list" = true
    · exact .inr ⟨x, y, dx, dy, h1, h2, h3, h4, h5, h6, q, k⟩
    · refine .inl ⟨x, y, dx, dy, h1, h2, h3, ?_, ?_, k⟩ <;> cases dy <;> first | rfl | exact absurd (by first | exact .inl rfl | exact .inr rfl) q
/-! ### the law's sums, differences, products -/
def iZ : Rp (Int × Int) := fun H v p => ∃ a, v = .ref a ∧ H a = some (.tup [.int p.1, .int p.2])
instance : Mono iZ := ⟨fun s ⟨a, e, h⟩ => ⟨a, e, s _ _ h⟩⟩
def Fz (p : Int × Int) : Prop := p.1.natAbs < 2 ^ 900 ∧ p.2.natAbs < 2 ^ 900 ∧ 0 < p.2
def spZ (g h : Int × Int → Int × Int → Int) : Sp := fun vs H Q _ => ∃ (I : Hp) (a b : V) (p q : Int × Int), vs = [a, b] ∧ Same I H ∧ iZ I a p ∧ iZ I b q ∧ Fz p ∧ Fz q ∧ Ret [] I H iQ (rt (g p q) (h p q)) Q
theorem Fz.mul12 {p q : Int × Int} (hp : Fz p) (hq : Fz q) : CMulW p.1 q.2 := wide_mul hp.1 hq.2.1 (by decide) (by decide) (by decide)
theorem Fz.mul11 {p q : Int × Int} (hp : Fz p) (hq : Fz q) : CMulW p.1 q.1 := wide_mul hp.1 hq.1 (by decide) (by decide) (by decide)
theorem Fz.mul22 {p q : Int × Int} (hp : Fz p) (hq : Fz q) : CMulW p.2 q.2 := wide_mul hp.2.1 hq.2.1 (by decide) (by decide) (by decide)
theorem Fz.pos {p q : Int × Int} (hp : Fz p) (hq : Fz q) : 0 < p.2 * q.2 := Int.mul_pos hp.2.2 hq.2.2
theorem Fz.lt {p q : Int × Int} (hp : Fz p) (hq : Fz q) : p.2 * q.2 < 2 ^ 1999 := by
  have h := fit_lt (k := 1800) hp.2.1 hq.2.1 (by decide)
  have h2 : (2 : Nat) ^ 1800 < 2 ^ 1999 := by decide
  have h3 := hp.pos hq
  omega
theorem sc_plus : FnScope ["one", "other"] ["one", "other"] (defScope s__law_plus) := ⟨rfl, rfl, rfl, by decide +kernel, rfl, by decide +kernel, by decide +kernel⟩
theorem ok_plus (D : Dt K mg) : Has P w K mg base 2 (He.ga K "_law_plus") ["one", "other"] [] (spZ (fun p q => p.1 * q.2 + q.1 * p.2) fun p q => p.2 * q.2) := by
  obtain ⟨fd, F⟩ := fd__law_plus D
  have H__law_less := ok_ls (P := P) (w := w) (base := base) D
  refine hasN F (F.bindsN fun _ _ _ _ _ _ us hl => match us, hl with | [_, _], _ => rfl) sc_plus (fun vs H Q E h => ?_) (fun cdv A outer s H vs Q E hr h => ?_)
  · obtain ⟨I, a, b, p, q, rfl, _⟩ := h; rfl
  · obtain ⟨I, va, vb, p, q, rfl, s0, ⟨a, rfl, ha⟩, ⟨b, rfl, hb⟩, fp, fq, k⟩ := h
    have ha' := s0 _ _ ha
    have hb' := s0 _ _ hb
    refine ⟨_, (pss_one (ps_ret (pe_callH H__law_less (hr.mono (by decide)) rfl (glo__law_less D) passL (pa_cons (pe_op op_add (pe_op op_mulW (pe_ix ix_tup (pv 0) pe_int (fun _ _ => rfl)) (pe_ix ix_tup (pv 1) pe_int (fun _ _ => rfl))) (pe_op op_mulW (pe_ix ix_tup (pv 1) pe_int (fun _ _ => rfl)) (pe_ix ix_tup (pv 0) pe_int (fun _ _ => rfl)))) (pa_cons (pe_op op_mulW (pe_ix ix_tup (pv 0) pe_int (fun _ _ => rfl)) (pe_ix ix_tup (pv 1) pe_int (fun _ _ => rfl))) pa_nil))))), ?_⟩
    refine ⟨_, rfl, _, _, _, _, rfl, rfl, SqT.of ha', at_of (j := 0) rfl rfl, _, rfl, _, _, _, _, rfl, rfl, SqT.of hb', at_of (j := 1) rfl rfl, _, _, rfl, rfl, fp.mul12 fq, _, rfl, _, _, _, _, rfl, rfl, SqT.of hb', at_of (j := 0) rfl rfl, _, rfl, _, _, _, _, rfl, rfl, SqT.of ha', at_of (j := 1) rfl rfl, _, _, rfl, rfl, fq.mul12 fp, _, _, rfl, rfl, ?_⟩
    exact ⟨_, rfl, _, _, _, _, rfl, rfl, SqT.of ha', at_of (j := 1) rfl rfl, _, rfl, _, _, _, _, rfl, rfl, SqT.of hb', at_of (j := 1) rfl rfl, _, _, rfl, rfl, fp.mul22 fq, I, _, _, rfl, s0, fp.pos fq, fp.lt fq, k⟩
theorem sc_minus : FnScope ["one", "other"] ["one", "other"] (defScope s__law_minus) := ⟨rfl, rfl, rfl, by decide +kernel, rfl, by decide +kernel, by decide +kernel⟩
theorem ok_minus (D : Dt K mg) : Has P w K mg base 2 (He.ga K "_law_minus") ["one", "other"] [] (spZ (fun p q => p.1 * q.2 - q.1 * p.2) fun p q => p.2 * q.2) := by
  obtain ⟨fd, F⟩ := fd__law_minus D
  have H__law_less := ok_ls (P := P) (w := w) (base := base) D
  refine hasN F (F.bindsN fun _ _ _ _ _ _ us hl => match us, hl with | [_, _], _ => rfl) sc_minus (fun vs H Q E h => ?_) (fun cdv A outer s H vs Q E hr h => ?_)
  · obtain ⟨I, a, b, p, q, rfl, _⟩ := h; rfl
  · obtain ⟨I, va, vb, p, q, rfl, s0, ⟨a, rfl, ha⟩, ⟨b, rfl, hb⟩, fp, fq, k⟩ := h
    have ha' := s0 _ _ ha
    have hb' := s0 _ _ hb
    refine ⟨_, (pss_one (ps_ret (pe_callH H__law_less (hr.mono (by decide)) rfl (glo__law_less D) passL (pa_cons (pe_op op_sub (pe_op op_mulW (pe_ix ix_tup (pv 0) pe_int (fun _ _ => rfl)) (pe_ix ix_tup (pv 1) pe_int (fun _ _ => rfl))) (pe_op op_mulW (pe_ix ix_tup (pv 1) pe_int (fun _ _ => rfl)) (pe_ix ix_tup (pv 0) pe_int (fun _ _ => rfl)))) (pa_cons (pe_op op_mulW (pe_ix ix_tup (pv 0) pe_int (fun _ _ => rfl)) (pe_ix ix_tup (pv 1) pe_int (fun _ _ => rfl))) pa_nil))))), ?_⟩
    refine ⟨_, rfl, _, _, _, _, rfl, rfl, SqT.of ha', at_of (j := 0) rfl rfl, _, rfl, _, _, _, _, rfl, rfl, SqT.of hb', at_of (j := 1) rfl rfl, _, _, rfl, rfl, fp.mul12 fq, _, rfl, _, _, _, _, rfl, rfl, SqT.of hb', at_of (j := 0) rfl rfl, _, rfl, _, _, _, _, rfl, rfl, SqT.of ha', at_of (j := 1) rfl rfl, _, _, rfl, rfl, fq.mul12 fp, _, _, rfl, rfl, ?_⟩
    exact ⟨_, rfl, _, _, _, _, rfl, rfl, SqT.of ha', at_of (j := 1) rfl rfl, _, rfl, _, _, _, _, rfl, rfl, SqT.of hb', at_of (j := 1) rfl rfl, _, _, rfl, rfl, fp.mul22 fq, I, _, _, rfl, s0, fp.pos fq, fp.lt fq, k⟩
theorem sc_times : FnScope ["one", "other"] ["one", "other"] (defScope s__law_times) := ⟨rfl, rfl, rfl, by decide +kernel, rfl, by decide +kernel, by decide +kernel⟩
theorem ok_times (D : Dt K mg) : Has P w K mg base 2 (He.ga K "_law_times") ["one", "other"] [] (spZ (fun p q => p.1 * q.1) fun p q => p.2 * q.2) := by
  obtain ⟨fd, F⟩ := fd__law_times D
  have H__law_less := ok_ls (P := P) (w := w) (base := base) D
  refine hasN F (F.bindsN fun _ _ _ _ _ _ us hl => match us, hl with | [_, _], _ => rfl) sc_times (fun vs H Q E h => ?_) (fun cdv A outer s H vs Q E hr h => ?_)
  · obtain ⟨I, a, b, p, q, rfl, _⟩ := h; rfl
  · obtain ⟨I, va, vb, p, q, rfl, s0, ⟨a, rfl, ha⟩, ⟨b, rfl, hb⟩, fp, fq, k⟩ := h
    have ha' := s0 _ _ ha
    have hb' := s0 _ _ hb
    refine ⟨_, (pss_one (ps_ret (pe_callH H__law_less (hr.mono (by decide)) rfl (glo__law_less D) passL (pa_cons (pe_op op_mulW (pe_ix ix_tup (pv 0) pe_int (fun _ _ => rfl)) (pe_ix ix_tup (pv 1) pe_int (fun _ _ => rfl))) (pa_cons (pe_op op_mulW (pe_ix ix_tup (pv 0) pe_int (fun _ _ => rfl)) (pe_ix ix_tup (pv 1) pe_int (fun _ _ => rfl))) pa_nil))))), ?_⟩
    exact ⟨_, rfl, _, _, _, _, rfl, rfl, SqT.of ha', at_of (j := 0) rfl rfl, _, rfl, _, _, _, _, rfl, rfl, SqT.of hb', at_of (j := 0) rfl rfl, _, _, rfl, rfl, fp.mul11 fq, _, rfl, _, _, _, _, rfl, rfl, SqT.of ha', at_of (j := 1) rfl rfl, _, rfl, _, _, _, _, rfl, rfl, SqT.of hb', at_of (j := 1) rfl rfl, _, _, rfl, rfl, fp.mul22 fq, I, _, _, rfl, s0, fp.pos fq, fp.lt fq, k⟩
theorem sc_below : FnScope ["one", "other"] ["one", "other"] (defScope s__law_below) := ⟨rfl, rfl, rfl, by decide +kernel, rfl, by decide +kernel, by decide +kernel⟩
theorem ok_below (D : Dt K mg) : Has P w K mg base 1 (He.ga K "_law_below") ["one", "other"] [] (fun vs H Q _ => ∃ (I : Hp) (a b : V) (p q : Int × Int), vs = [a, b] ∧ Same I H ∧ iZ I a p ∧ iZ I b q ∧ Fz p ∧ Fz q ∧ Q (.bl (decide (p.1 * q.2 < q.1 * p.2))) H) := by
  obtain ⟨fd, F⟩ := fd__law_below D
  refine hasN F (F.bindsN fun _ _ _ _ _ _ us hl => match us, hl with | [_, _], _ => rfl) sc_below (fun vs H Q E h => ?_) (fun cdv A outer s H vs Q E hr h => ?_)
  · obtain ⟨I, a, b, p, q, rfl, _⟩ := h; rfl
  · obtain ⟨I, va, vb, p, q, rfl, s0, ⟨a, rfl, ha⟩, ⟨b, rfl, hb⟩, fp, fq, k⟩ := h
    have ha' := s0 _ _ ha
    have hb' := s0 _ _ hb
    refine ⟨_, (pss_one (ps_ret (pe_cmpR op_lt (pe_op op_mulW (pe_ix ix_tup (pv 0) pe_int (fun _ _ => rfl)) (pe_ix ix_tup (pv 1) pe_int (fun _ _ => rfl))) (pe_op op_mulW (pe_ix ix_tup (pv 1) pe_int (fun _ _ => rfl)) (pe_ix ix_tup (pv 0) pe_int (fun _ _ => rfl))) (nomark _)))), ?_⟩
    exact ⟨_, rfl, _, _, _, _, rfl, rfl, SqT.of ha', at_of (j := 0) rfl rfl, _, rfl, _, _, _, _, rfl, rfl, SqT.of hb', at_of (j := 1) rfl rfl, _, _, rfl, rfl, fp.mul12 fq, _, rfl, _, _, _, _, rfl, rfl, SqT.of hb', at_of (j := 0) rfl rfl, _, rfl, _, _, _, _, rfl, rfl, SqT.of ha', at_of (j := 1) rfl rfl, _, _, rfl, rfl, fq.mul12 fp, _, _, rfl, rfl, k⟩
/-- a fraction is the one that is due -/
def spIs (C : Addr) : Sp := fun vs H Q _ => ∃ (I : Hp) (a b : V) (p q : Rat), vs = [a, b] ∧ Same I H ∧ iR C I a p ∧ iQ I b q ∧ ∀ H', Gr [] I H I H' → Q (.bl (decide (p = q))) H'
theorem sc_is : FnScope ["ratio", "due"] ["ratio", "due"] (defScope s__law_is) := ⟨rfl, rfl, rfl, by decide +kernel, rfl, by decide +kernel, by decide +kernel⟩
theorem ok_is (D : Dt K mg) : Has P w K mg base 3 (He.ga K "_law_is") ["ratio", "due"] [] (spIs (CR K)) := by
  obtain ⟨fd, F⟩ := fd__law_is D
  have H__law_same := ok_same (P := P) (w := w) (base := base) D 1
  refine hasN F (F.bindsN fun _ _ _ _ _ _ us hl => match us, hl with | [_, _], _ => rfl) sc_is (fun vs H Q E h => ?_) (fun cdv A outer s H vs Q E hr h => ?_)
  · obtain ⟨I, a, b, p, q, rfl, _⟩ := h; rfl
  · obtain ⟨I, va, vb, p, q, rfl, s0, ⟨a, dx, rfl, ha⟩, ⟨b, rfl, hb⟩, k⟩ := h
    have ha' := s0 _ _ ha
    have hb' := s0 _ _ hb
    refine ⟨_, (pss_one (ps_ret (pe_and (pe_callB call_isi rfl (free_isinstance D) (by decide +kernel) (pa_cons (pv 0) (pa_cons (pe_glob (v := .ref (He.ga K "Ratio")) rfl (glo_Ratio D) rfl) pa_nil))) (pe_one (pe_callH H__law_same (hr.mono (by decide)) rfl (glo__law_same D) passL (pa_cons (pe_lst (pa_cons (pe_fld (pv 0) rfl) (pa_cons (pe_fld (pv 0) rfl) pa_nil))) (pa_cons (pe_callTy call_list_of rfl (free_list D) (by decide +kernel) (pa_cons (pv 1) pa_nil)) pa_nil))))))), ?_⟩
    refine ⟨_, rfl, _, _, _, _, true, rfl, .own _, (inst_Ratio D).ty (cls_Ratio D) ha', kit_self, _, rfl, iteT ?_⟩
    refine ⟨_, rfl, _, _, _, _, _, rfl, ha', cls_Ratio D, na_Ratio_num D, rf_num p, _, rfl, _, _, _, _, _, rfl, ha', cls_Ratio D, na_Ratio_den D, rf_den p, (by show 2 ≤ sizeLine; decide), fun l hl => ?_⟩
    have hb'' := sNew (o := .lst [.int p.num, .int p.den]) hl _ _ hb'
    refine ⟨_, rfl, b, _, rfl, .inr (SqT.of hb''), fun m hm => ?_⟩
    have r1 : dR (upd (upd H l (.lst [.int p.num, .int p.den])) m (.lst [.int q.num, .int q.den])) (.ref l) (.lst [.int p.num, .int p.den]) := by
      simp only [dR, dRs]
      exact ⟨l, _, rfl, sNew hm _ _ upd_same, _, _, rfl, rfl, _, _, rfl, rfl, rfl⟩
    have r2 : dR (upd (upd H l (.lst [.int p.num, .int p.den])) m (.lst [.int q.num, .int q.den])) (.ref m) (.lst [.int q.num, .int q.den]) := by
      simp only [dR, dRs]
      exact ⟨m, _, rfl, upd_same, _, _, rfl, rfl, _, _, rfl, rfl, rfl⟩
    refine ⟨_, _, _, _, rfl, r1, r2, by simp [dep, deps], by simp [tame, tames], by simp [tame, tames], ?_⟩
    have e : eqd (.lst [.int p.num, .int p.den]) (.lst [.int q.num, .int q.den]) = decide (p = q) := by
      rw [Bool.eq_iff_iff, eqd_iff, decide_eq_true_iff, eq_parts]; simp
    rw [e]
    exact k _ ((Gr.tmp s0 hl).trans (Gr.tmp (sUnder s0 (s0.free hl)) hm))
end
end K

set_option Elab.async false
set_option linter.all false
set_option maxRecDepth 100000
set_option maxHeartbeats 4000000
set_option exponentiation.threshold 5000
namespace K
open PySem PySem.Spec PyProof.Rows L2 Tk Hd Mt
section
variable {P : Program} {w : World} {K : PySem.W.Frag} {mg : Str → Option Value} {base : Heap}
/-! ### _law_refused -/
def spRef (C : Addr) : Sp := fun vs H Q _ => ∃ (I : Hp) (a b : V), vs = [a, b] ∧ Same I H ∧ ((b = .non ∧ ∃ n d, iZ I a (n, d) ∧ d ≤ 0 ∧ Sm d) ∨ ∃ p, iR C I b p ∧ Fit p) ∧ ∀ H', Gr [] I H I H' → Q (.bl true) H'
theorem sc_ref : FnScope ["pair", "by", "e"] ["pair", "by"] (defScope s__law_refused) := ⟨rfl, rfl, rfl, by decide +kernel, rfl, by decide +kernel, by decide +kernel⟩
theorem kit4 (D : Dt K mg) : PySem.W.kitAny K (.ref (CB K)) [.ref (He.ga K "BadMachine"), .ref (He.ga K "BadPaper"), .ref (He.ga K "BadText"), .ref (He.ga K "TooLarge")] = some false := by
  simp only [PySem.W.kitAny, kit_BadRatio_BadMachine D, kit_BadRatio_BadPaper D, kit_BadRatio_BadText D, kit_BadRatio_TooLarge D]
theorem ok_ref (D : Dt K mg) : Has P w K mg base 4 (He.ga K "_law_refused") ["pair", "by"] [] (spRef (CR K)) := by
  obtain ⟨fd, F⟩ := fd__law_refused D
  have H_Ratio_init := has_init (P := P) (w := w) (base := base) D
  have H_Ratio_init1 := has_init1 (P := P) (w := w) (base := base) D
  have H_Ratio_by := ok_by (P := P) (w := w) (base := base) D
  refine hasN F (F.bindsN fun _ _ _ _ _ _ us hl => match us, hl with | [_, _], _ => rfl) sc_ref (fun vs H Q E h => ?_) (fun cdv A outer s H vs Q E hr h => ?_)
  · obtain ⟨I, a, b, rfl, _⟩ := h; rfl
  · obtain ⟨I, va, vb, rfl, s0, hc, k⟩ := h
    refine ⟨_, pss_cons (ps_try_as (i := 2) (Wout := fun _ _ _ _ => False) rfl rfl sc_ref.nd rfl rfl ⟨rfl, by decide, .inl (glo_TestError D)⟩ takes0
      (tb := fun W => tIfS (tTest (tOp (fun x y H Q => y = .non ∧ Q (.bl (decide (x = .non))) H) (tVar 1) (tC .non)))
          (tDrop (tMakeS (CR K) (spInit (CR K) (CB K)) [] (WE W) (tCons (tOp (rIxT K) (tVar 0) (tC (.int 0))) (tCons (tOp (rIxT K) (tVar 0) (tC (.int 1))) tNil))))
          (tDrop (tMethS (CR K) "by" (spBy (CR K) (CB K)) [] (WE W) (tVar 1) (tCons (tMake (CR K) (spInit (CR K) (CB K)) [.int 1] E0 (tCons (tC (.int 0)) tNil)) tNil))))
      (fun W pn xe tk _ => pss_one (ps_if (pt_cmpR op_isN (pv 1) pe_non (nomark _))
        (pss_one (ps_expr (pe_makeSH (mkr_Ratio D) H_Ratio_init (hr.mono (by decide)) rfl (glo_Ratio D) (fun σ => passAt tk σ) (pa_cons (pe_ix ix_tup (pv 0) pe_int (fun _ _ => rfl)) (pa_cons (pe_ix ix_tup (pv 0) pe_int (fun _ _ => rfl)) pa_nil)))))
        (pss_one (ps_expr (pe_methSH (pv 1) (cls_Ratio D) (me_Ratio_by D) H_Ratio_by (hr.mono (by decide)) (fun σ => passAt tk σ) (pa_cons (pe_makeH (mkr_Ratio D) H_Ratio_init1 (hr.mono (by decide)) rfl (glo_Ratio D) passL (pa_cons pe_int pa_nil)) pa_nil))))))
      (fun a oe cls d pn hz hf => pss_one (ps_ret (pe_and (pe_callB (call_isEq (isE_BadRatio D) hz hf) rfl (free_isinstance D) (by decide +kernel) (pa_cons (pv 2) (pa_cons (pe_glob (v := .ref (CB K)) rfl (glo_BadRatio D) rfl) pa_nil)))
        (pe_and (pe_not (pe_callB (call_isET (isE_BadRatio D) hz hf) rfl (free_isinstance D) (by decide +kernel) (pa_cons (pv 2) (pa_cons (pe_tup (pa_cons (pe_glob (v := .ref (He.ga K "BadMachine")) rfl (glo_BadMachine D) rfl) (pa_cons (pe_glob (v := .ref (He.ga K "BadPaper")) rfl (glo_BadPaper D) rfl) (pa_cons (pe_glob (v := .ref (He.ga K "BadText")) rfl (glo_BadText D) rfl) (pa_cons (pe_glob (v := .ref (He.ga K "TooLarge")) rfl (glo_TooLarge D) rfl) pa_nil))))) pa_nil))))
        (pe_one (pe_callB (call_isEq (isE_BadRatio D) hz hf) rfl (free_isinstance D) (by decide +kernel) (pa_cons (pv 2) (pa_cons (pe_bltn (v := .ty "ValueError") rfl (free_ValueError D) (by decide +kernel) rfl) pa_nil)))))))))
      (pss_one (ps_ret pe_bl)), ?_⟩
    -- the suite's reading, at any heap that has grown
    have suite : ∀ {H' : Hp} {a : Addr} {Q' : VK}, (∀ H'', Same H' H'' → (∀ x o, H' x = some o → H'' x = some o) → Gr [] I H' I H'' → Q' (.bl true) H'') → Same I H' →
        (tAndV (tCB (rIsEq K (CB K) a (.ref (CB K)) none) (tCons (tVar 2) (tCons (tC (.ref (CB K))) tNil)))
          (tAndV (tNotV (tCB (rIsET K (CB K) a (.ref (CB K)) none) (tCons (tVar 2) (tCons (tTup (tCons (tC (.ref (He.ga K "BadMachine"))) (tCons (tC (.ref (He.ga K "BadPaper"))) (tCons (tC (.ref (He.ga K "BadText"))) (tCons (tC (.ref (He.ga K "TooLarge"))) tNil))))) tNil))))
            (tCB (rIsEq K (CB K) a (.ref (CB K)) none) (tCons (tVar 2) (tCons (tC (.ty "ValueError")) tNil))))) [some va, some vb, some (.ref a)] H' Q' := by
      intro H' a Q' q s1
      refine ⟨_, rfl, rfl, rfl, _, _, true, rfl, (fun u r => r), kit_BadRatio_BadRatio D, _, rfl, iteT ?_⟩
      refine ⟨_, rfl, (by show 4 ≤ sizeLine; decide), fun T hT => ?_⟩
      refine ⟨rfl, rfl, T, _, _, false, rfl, upd_same, .cons (.own _) (.cons (.own _) (.cons (.own _) (.cons (.own _) .nil))), kit4 D, _, rfl, _, rfl, iteT ?_⟩
      refine ⟨_, rfl, rfl, rfl, _, _, true, rfl, (fun u r => r), kitV_BadRatio D, ?_⟩
      exact q _ (sNew hT) (sNew hT) (Gr.tmp s1 hT)
    have fin : ∀ {H' : Hp} {a : Addr}, Gr [] I H I H' → _ := fun {H' a} g => suite (H' := H') (a := a) (Q' := Q) (fun H'' _ _ g' => k _ (g.trans g')) g.ih
    rcases hc with ⟨rfl, n, d, ⟨a, rfl, ha⟩, hd, sd⟩ | ⟨p, ⟨b, db, rfl, hb⟩, fp⟩
    · have ha' := s0 _ _ ha
      refine ⟨_, rfl, rfl, _, rfl, ifT rfl ?_⟩
      refine ⟨_, rfl, _, _, _, _, rfl, rfl, SqT.of ha', at_of (j := 0) rfl rfl, _, rfl, _, _, _, _, rfl, rfl, SqT.of ha', at_of (j := 1) rfl rfl, fun x dx nx nd ne => ?_⟩
      refine ⟨x, dx, _, _, rfl, upd_same, sd, fun h => absurd h (by omega), fun _ => ?_⟩
      refine ⟨true, exm_BadRatio_TestError D, fun _ e he => ?_, fun q => nomatch q⟩
      refine fin ((Gr.tmp s0 nd).trans (Gr.tmp (sUnder s0 (s0.free nd)) ?_))
      rw [upd_ne (Ne.symm ne)]; exact nx
    · have hb' := s0 _ _ hb
      refine ⟨_, rfl, rfl, _, rfl, ifF (by simp) ?_⟩
      refine ⟨_, rfl, b, db, _, rfl, hb', rf_no p (by decide +kernel) (by decide +kernel), fun x dx nx nd ne => ?_⟩
      refine ⟨x, dx, _, _, rfl, upd_same, sm_of (by decide) (by decide), fun _ => ⟨rfl, ?_⟩, fun h => absurd h (by decide)⟩
      obtain ⟨g, r⟩ := rat_new (ms := []) (C := CR K) (q := rt 0 1) s0 nx nd ne
      have z : rt 0 1 = 0 := by rfl
      rw [z] at g r
      rw [z]
      refine ⟨_, _, _, p, 0, rfl, g.ih, ⟨b, db, rfl, g.ii _ _ hb⟩, r, fp, ⟨by decide, by decide⟩, fun h => absurd rfl h, fun _ => ?_⟩
      refine ⟨true, exm_BadRatio_TestError D, fun _ e he => ?_, fun q => nomatch q⟩
      refine suite (fun H'' h1 h2 g' => k _ ?_) ?_
      · exact ⟨Same.refl I, s0.trans (Same.trans (fun a o n => g.hh a o (by simp) n) h1), fun a o n e => h2 _ _ (g.hh a o n e), fun a o e => ⟨o, h2 _ _ (g.hh a o (by simp) e)⟩, fun a o e _ => e⟩
      · exact s0.trans (fun a o n => g.hh a o (by simp) n)
end
end K

set_option Elab.async false
set_option linter.all false
set_option maxRecDepth 100000
set_option maxHeartbeats 8000000
set_option exponentiation.threshold 5000
namespace K
open PySem PySem.Spec PyProof.Rows L2 Tk Hd Mt
section
variable {P : Program} {w : World} {K : PySem.W.Frag} {mg : Str → Option Value} {base : Heap}
theorem has_initK (D : Dt K mg) : ∃ (fd : FuncData) (g : List Value → List Value → List Value), KBn K fd ["self", "num", "den"] 1 ["num", "den"] g (fun vs zs => vs ++ zs) ∧ FnOk P w K mg base (L2.CX P w) 1 (He.ma K (CR K) "__init__") fd ["self", "num", "den"] (spInit (CR K) (CB K)) := by
  obtain ⟨fd, F⟩ := fd_Ratio_init D
  obtain ⟨its, h⟩ := FunD.kbindsD (ps := ["self", "num", "den"]) F 1 ["num", "den"] (fun us _ ws => us ++ ws) (by simp) (fun r1 _ r3 => r1.append r3)
    (fun T kV doc pm an cdv ct us its ws hu hi hw => match us, hu, its, hi, ws, hw with | [_], _, [_], _, [_, _], _ => ⟨_, rfl, rfl⟩)
  exact ⟨fd, _, h, ok_init D F⟩
theorem PoolOk.ne {I H : Hp} {p t : Addr} (h : PoolOk I H p) (n : H t = none) : t ≠ p := by
  obtain ⟨_, c, cells, pos, b, s, l, u, _, _, _, h4⟩ := h
  exact Ne.symm (ne_of_none h4 n)
/-- what stands in a turn behind the draws -/
structure Wd (K : PySem.W.Frag) (p : Addr) (v4 v5 v6 v7 v8 : V) (n1 d1 n2 d2 : Int) (I H : Hp) : Prop where
  s : Same I H
  po : PoolOk I H p
  o4 : iZ I v4 (n1, d1)
  o5 : iZ I v5 (n2, d2)
  o6 : iR (CR K) I v6 (rt n1 d1)
  o7 : iR (CR K) I v7 (rt n2 d2)
  o8 : iQ I v8 (rt n1 d1)
theorem Wd.up {p : Addr} {v4 v5 v6 v7 v8 : V} {n1 d1 n2 d2 : Int} {I H I' H' : Hp} (W : Wd K p v4 v5 v6 v7 v8 n1 d1 n2 d2 I H) (g : Gr [] I H I' H') : Wd K p v4 v5 v6 v7 v8 n1 d1 n2 d2 I' H' :=
  ⟨g.ih, W.po.up g (by simp), Tk.up g.ii W.o4, Tk.up g.ii W.o5, Tk.up g.ii W.o6, Tk.up g.ii W.o7, Tk.up g.ii W.o8⟩
structure Bd (n1 d1 n2 d2 : Int) : Prop where
  a : -1000000 ≤ n1
  b : n1 ≤ 1000000
  c : 0 < d1
  d : d1 ≤ 1000000
  e : -1000000 ≤ n2
  f : n2 ≤ 1000000
  g : 0 < d2
  h : d2 ≤ 1000000
theorem rt_bnd {n d : Int} (h : 0 < d) (B : Int) (h1 : -B ≤ n) (h2 : n ≤ B) : -B ≤ (rt n d).num ∧ (rt n d).num ≤ B ∧ ((rt n d).den : Int) ≤ d := by
  rw [rt_num h, rt_den h]
  have g0 := gz_pos (n := n) h
  refine ⟨?_, ?_, ?_⟩
  · have := Int.mul_ediv_add_emod n (gz n d)
    by_cases hn : 0 ≤ n
    · have := Int.ediv_nonneg hn (Int.le_of_lt g0); omega
    · have e : -(n / gz n d) ≤ -n := by
        have hd : (gz n d) ∣ n := by unfold gz; exact Int.ofNat_dvd_left.mpr (Nat.gcd_dvd_left _ _)
        rw [← Int.neg_ediv_of_dvd hd]
        exact Int.ediv_le_self _ (by omega)
      omega
  · by_cases hn : 0 ≤ n
    · have := Int.ediv_le_self (gz n d) hn; omega
    · have := Int.ediv_neg_of_neg_of_pos (a := n) (b := gz n d) (by omega) (by omega); omega
  · exact Int.ediv_le_self _ (by omega)
theorem fit_of {q : Rat} (h1 : -1000000 ≤ q.num) (h2 : q.num ≤ 1000000) (h3 : (q.den : Int) ≤ 1000000) : Fit q := by
  have z : (1000000 : Nat) < 2 ^ 900 := by decide
  exact ⟨by omega, by omega⟩
theorem fz_of {n d : Int} (h1 : -1000000 ≤ n) (h2 : n ≤ 1000000) (h3 : 0 < d) (h4 : d ≤ 1000000) : Fz (n, d) := by
  have z : (1000000 : Nat) < 2 ^ 900 := by decide
  exact ⟨by show n.natAbs < _; omega, by show d.natAbs < _; omega, h3⟩
theorem few_of {i : Int} (h1 : -1000000 ≤ i) (h2 : i ≤ 1000000) : Few i := by
  have z : (1000000 : Nat) < 10 ^ 64 := by decide
  show i.natAbs < _; omega
theorem rt_addz {n1 d1 n2 d2 : Int} (h1 : 0 < d1) (h2 : 0 < d2) : rt (n1 * d2 + n2 * d1) (d1 * d2) = rt n1 d1 + rt n2 d2 := (Rat.divInt_add_divInt _ _ (by omega) (by omega)).symm
theorem rt_subz {n1 d1 n2 d2 : Int} (h1 : 0 < d1) (h2 : 0 < d2) : rt (n1 * d2 - n2 * d1) (d1 * d2) = rt n1 d1 - rt n2 d2 := by
  have e : rt n1 d1 - rt n2 d2 = rt n1 d1 + rt (-n2) d2 := by
    rw [show rt (-n2) d2 = -(rt n2 d2) from by unfold rt; rw [Rat.neg_divInt]]; exact Rat.sub_eq_add_neg _ _
  rw [e, ← rt_addz h1 h2, Int.neg_mul]; rfl
theorem rt_mulz {n1 d1 n2 d2 : Int} : rt (n1 * n2) (d1 * d2) = rt n1 d1 * rt n2 d2 := (Rat.divInt_mul_divInt _ _).symm
theorem rt_pos {d : Int} (n : Int) (h : 0 < d) : n = (rt n d).num * gz n d ∧ d = (rt n d).den * gz n d ∧ 0 < gz n d := by
  rw [rt_num h, rt_den h]
  refine ⟨(Int.ediv_mul_cancel ?_).symm, (Int.ediv_mul_cancel ?_).symm, gz_pos h⟩
  · unfold gz; exact Int.ofNat_dvd_left.mpr (Nat.gcd_dvd_left _ _)
  · unfold gz; exact Int.ofNat_dvd_left.mpr (Nat.gcd_dvd_right _ _)
theorem rt_lt {n1 d1 n2 d2 : Int} (h1 : 0 < d1) (h2 : 0 < d2) : (rt n1 d1 < rt n2 d2) ↔ n1 * d2 < n2 * d1 := by
  rw [Rat.lt_iff]
  obtain ⟨a1, a2, a3⟩ := rt_pos n1 h1
  obtain ⟨b1, b2, b3⟩ := rt_pos n2 h2
  generalize (rt n1 d1).num = x at *
  generalize ((rt n1 d1).den : Int) = y at *
  generalize (rt n2 d2).num = z at *
  generalize ((rt n2 d2).den : Int) = u at *
  generalize gz n1 d1 = g at *
  generalize gz n2 d2 = h at *
  subst a1 a2 b1 b2
  have e1 : x * g * (u * h) = (x * u) * (g * h) := by grind
  have e2 : z * h * (y * g) = (z * y) * (g * h) := by grind
  rw [e1, e2]
  have gh : 0 < g * h := Int.mul_pos a3 b3
  constructor
  · intro q; exact Int.mul_lt_mul_of_pos_right q gh
  · intro q; exact Int.lt_of_mul_lt_mul_right q (Int.le_of_lt gh)
theorem rt_zero {n d : Int} (h : 0 < d) : rt n d = 0 ↔ n = 0 := by
  constructor
  · intro e
    obtain ⟨a1, _, _⟩ := rt_pos n h
    rw [e] at a1
    rw [a1]; simp
  · rintro rfl; exact Rat.zero_divInt d
theorem rt_divz {n1 d1 n2 d2 s : Int} (h1 : 0 < d1) (h2 : 0 < d2) (h0 : n2 ≠ 0) (hs : s = 1 ∧ 0 < n2 ∨ s = -1 ∧ n2 < 0) : rt (n1 * d2 * s) (d1 * n2 * s) = rt n1 d1 / rt n2 d2 := by
  have e : rt n1 d1 / rt n2 d2 = rt (n1 * d2) (d1 * n2) := by
    unfold rt
    rw [Rat.div_def, Rat.inv_divInt, Rat.divInt_mul_divInt]
  rw [e]
  rcases hs with ⟨rfl, _⟩ | ⟨rfl, _⟩
  · rw [Int.mul_one, Int.mul_one]
  · unfold rt
    rw [Int.mul_neg, Int.mul_neg, Int.mul_one, Int.mul_one, Rat.neg_divInt_neg]
def spLaw (K : PySem.W.Frag) : Sp := fun vs H Q _ => ∃ (a : Addr) (ns : List Int), vs = [.ref a] ∧ SqL K H a (ns.map V.int) ∧ ns.length ≤ 63 ∧ ∀ H', Q (.bl true) H'
theorem sc_law : FnScope ["script", "pool", "k", "bound", "one", "other", "a", "b", "due", "text", "sign", "turn"] ["script"] (defScope s_law) := ⟨rfl, rfl, rfl, by decide +kernel, rfl, by decide +kernel, by decide +kernel⟩
theorem ok_law (D : Dt K mg) {fd : FuncData} (F : FnP K "law" "law" s_law [] (He.ga K "law") fd) : FnOk P w K mg base (L2.CX P w) 8 (He.ga K "law") fd ["script"] (spLaw K) := by
  have H__law_pool := ok_pool (P := P) (w := w) (base := base) D
  have H__law_draw := ok_draw (P := P) (w := w) (base := base) D
  have H_Ratio_init := has_init (P := P) (w := w) (base := base) D
  have H_Ratio_init1 := has_init1 (P := P) (w := w) (base := base) D
  have H__law_less := ok_ls (P := P) (w := w) (base := base) D
  have H_Ratio_eq := ok_eq (P := P) (w := w) (base := base) D
  have H_Ratio_str := ok_str (P := P) (w := w) (base := base) D
  have H__law_is := ok_is (P := P) (w := w) (base := base) D
  have H__law_minus := ok_minus (P := P) (w := w) (base := base) D
  have H_Ratio_sub := ok_sub (P := P) (w := w) (base := base) D
  have H__law_plus := ok_plus (P := P) (w := w) (base := base) D
  have H_Ratio_add := ok_add (P := P) (w := w) (base := base) D
  have H__law_below := ok_below (P := P) (w := w) (base := base) D
  have H_Ratio_less := ok_less (P := P) (w := w) (base := base) D
  have H__law_times := ok_times (P := P) (w := w) (base := base) D
  have H_Ratio_mul := ok_mul (P := P) (w := w) (base := base) D
  have H__law_refused := ok_ref (P := P) (w := w) (base := base) D
  have H_Ratio_by := ok_by (P := P) (w := w) (base := base) D
  have H__law_same := ok_same (P := P) (w := w) (base := base) D 0
  obtain ⟨fdK, gK, KB, FK⟩ := has_initK (P := P) (w := w) (base := base) D
  refine fnN F sc_law (fun vs H Q E h => ?_) (fun cdv A outer s H vs Q E hr h => ?_)
  · obtain ⟨a, ns, rfl, _⟩ := h; rfl
  · obtain ⟨a, ns, rfl, hS, hlen, k⟩ := h
    refine ⟨_, (pss_cons (ps_set (i := 1) sc_law.nd rfl (Or.inl rfl) (pe_callH H__law_pool (hr.mono (by decide)) rfl (glo__law_pool D) passL (pa_cons (pv 0) (pa_cons pe_int pa_nil))))
      (pss_cons (ps_for PassesOwn.never rfl (pi_range1 rfl (free_range D) (pa_cons (pe_op op_add pe_int (pe_op op_fdiv (pe_callB call_len rfl (free_len D) PySem.boot_len (pa_cons (pv 0) pa_nil)) pe_int)) pa_nil)) (pg_name (i := 2) sc_law.nd rfl (Or.inl rfl))
      (pss_cons (ps_set (i := 3) sc_law.nd rfl (Or.inl rfl) (pe_ix ix_tup (pe_tup (pa_cons pe_int (pa_cons pe_int (pa_cons (pe_op op_pow pe_int pe_int) pa_nil)))) (pe_callH H__law_draw (hr.mono (by decide)) rfl (glo__law_draw D) passL (pa_cons (pv 1) (pa_cons pe_int pa_nil))) (fun _ _ => rfl)))
      (pss_cons (ps_set (i := 4) sc_law.nd rfl (Or.inl rfl) (pe_tup (pa_cons (pe_op op_sub (pe_callH H__law_draw (hr.mono (by decide)) rfl (glo__law_draw D) passL (pa_cons (pv 1) (pa_cons (pe_op op_mul pe_int (pv 3)) pa_nil))) (pv 3)) (pa_cons (pe_op op_add pe_int (pe_callH H__law_draw (hr.mono (by decide)) rfl (glo__law_draw D) passL (pa_cons (pv 1) (pa_cons (pv 3) pa_nil)))) pa_nil))))
      (pss_cons (ps_set (i := 5) sc_law.nd rfl (Or.inl rfl) (pe_tup (pa_cons (pe_op op_sub (pe_callH H__law_draw (hr.mono (by decide)) rfl (glo__law_draw D) passL (pa_cons (pv 1) (pa_cons (pe_op op_mul pe_int (pv 3)) pa_nil))) (pv 3)) (pa_cons (pe_op op_add pe_int (pe_callH H__law_draw (hr.mono (by decide)) rfl (glo__law_draw D) passL (pa_cons (pv 1) (pa_cons (pv 3) pa_nil)))) pa_nil))))
      (pss_cons (ps_set (i := 6) sc_law.nd rfl (Or.inl rfl) (pe_makeH (mkr_Ratio D) H_Ratio_init (hr.mono (by decide)) rfl (glo_Ratio D) passL (pa_cons (pe_ix ix_tup (pv 4) pe_int (fun _ _ => rfl)) (pa_cons (pe_ix ix_tup (pv 4) pe_int (fun _ _ => rfl)) pa_nil))))
      (pss_cons (ps_set (i := 7) sc_law.nd rfl (Or.inl rfl) (pe_makeK0 (mkr_Ratio D) FK (hr.mono (by decide)) rfl (glo_Ratio D) KB passL (pk_cons (pe_ix ix_tup (pv 5) pe_int (fun _ _ => rfl)) (pk_cons (pe_ix ix_tup (pv 5) pe_int (fun _ _ => rfl)) pk_nil))))
      (pss_cons (ps_set (i := 8) sc_law.nd rfl (Or.inl rfl) (pe_callH H__law_less (hr.mono (by decide)) rfl (glo__law_less D) passL (pa_cons (pe_ix ix_tup (pv 4) pe_int (fun _ _ => rfl)) (pa_cons (pe_ix ix_tup (pv 4) pe_int (fun _ _ => rfl)) pa_nil))))
      (pss_cons (ps_set (i := 9) sc_law.nd rfl (Or.inl rfl) (pe_callTy call_str_int rfl (free_str D) (by decide +kernel) (pa_cons (pe_ix ix_tup (pv 8) pe_int (fun _ _ => rfl)) pa_nil)))
      (pss_cons (ps_if (pt_cmpR op_gt (pe_ix ix_tup (pv 8) pe_int (fun _ _ => rfl)) pe_int (nomark _))
      (pss_one (ps_set (i := 9) sc_law.nd rfl (Or.inl rfl) (pe_op op_add_str (pe_op op_add_str (pv 9) pe_str) (pe_callTy call_str_int rfl (free_str D) (by decide +kernel) (pa_cons (pe_ix ix_tup (pv 8) pe_int (fun _ _ => rfl)) pa_nil)))))
      pss_nil)
      (pss_cons (ps_if (PW.pt (pw_or (pt_not (pt_val (pe_callH H__law_is (hr.mono (by decide)) rfl (glo__law_is D) passL (pa_cons (pv 6) (pa_cons (pv 8) pa_nil))))) (pw_or (pt_cmpR op_ne (pe_callTy (call_strOwnH H_Ratio_str (hr.mono (by decide)) passL (me_Ratio_str D)) rfl (free_str D) (by decide +kernel) (pa_cons (pv 6) pa_nil)) (pv 9) (nomark _)) (pw_or1 (pt_not (pt_val (pe_callH H__law_same (hr.mono (by decide)) rfl (glo__law_same D) passL (pa_cons (pe_cmpR (op_eqOwnH H_Ratio_eq (hr.mono (by decide)) passL (me_Ratio_eq D)) (pv 6) (pv 7) (nomark _)) (pa_cons (pe_cmpR (op_eqD hr.units) (pv 8) (pe_callH H__law_less (hr.mono (by decide)) rfl (glo__law_less D) passL (pa_cons (pe_ix ix_tup (pv 5) pe_int (fun _ _ => rfl)) (pa_cons (pe_ix ix_tup (pv 5) pe_int (fun _ _ => rfl)) pa_nil))) (nomark _)) pa_nil)))))))))
      (pss_one (ps_ret pe_bl))
      pss_nil)
      (pss_cons (ps_if (PW.pt (pw_or (pt_not (pt_val (pe_callH H__law_is (hr.mono (by decide)) rfl (glo__law_is D) passL (pa_cons (pe_op (op_ownH H_Ratio_add (hr.mono (by decide)) passL (self_Ratio D) (me_Ratio_add D)) (pv 6) (pv 7)) (pa_cons (pe_callH H__law_plus (hr.mono (by decide)) rfl (glo__law_plus D) passL (pa_cons (pv 4) (pa_cons (pv 5) pa_nil))) pa_nil))))) (pw_or1 (pt_not (pt_val (pe_callH H__law_is (hr.mono (by decide)) rfl (glo__law_is D) passL (pa_cons (pe_op (op_ownH H_Ratio_sub (hr.mono (by decide)) passL (self_Ratio D) (me_Ratio_sub D)) (pv 6) (pv 7)) (pa_cons (pe_callH H__law_minus (hr.mono (by decide)) rfl (glo__law_minus D) passL (pa_cons (pv 4) (pa_cons (pv 5) pa_nil))) pa_nil))))))))
      (pss_one (ps_ret pe_bl))
      pss_nil)
      (pss_cons (ps_if (PW.pt (pw_or (pt_not (pt_val (pe_callH H__law_is (hr.mono (by decide)) rfl (glo__law_is D) passL (pa_cons (pe_op (op_ownH H_Ratio_mul (hr.mono (by decide)) passL (self_Ratio D) (me_Ratio_mul D)) (pv 6) (pv 7)) (pa_cons (pe_callH H__law_times (hr.mono (by decide)) rfl (glo__law_times D) passL (pa_cons (pv 4) (pa_cons (pv 5) pa_nil))) pa_nil))))) (pw_or1 (pt_not (pt_val (pe_callH H__law_same (hr.mono (by decide)) rfl (glo__law_same D) passL (pa_cons (pe_methH (pv 6) (cls_Ratio D) (me_Ratio_less D) H_Ratio_less (hr.mono (by decide)) passL (pa_cons (pv 7) pa_nil)) (pa_cons (pe_callH H__law_below (hr.mono (by decide)) rfl (glo__law_below D) passL (pa_cons (pv 4) (pa_cons (pv 5) pa_nil))) pa_nil))))))))
      (pss_one (ps_ret pe_bl))
      pss_nil)
      (pss_cons (ps_set (i := 10) sc_law.nd rfl (Or.inl rfl) (pe_op op_sub pe_int (pe_op op_mul pe_int (pe_callTy call_int1 rfl (free_int D) (by decide +kernel) (pa_cons (pe_cmpR op_lt (pe_ix ix_tup (pv 5) pe_int (fun _ _ => rfl)) pe_int (nomark _)) pa_nil)))))
      (pss_cons (ps_if (pt_cmpR op_eq (pe_ix ix_tup (pv 5) pe_int (fun _ _ => rfl)) pe_int (nomark _))
      (pss_one (ps_if (pt_not (pt_val (pe_callH H__law_refused (hr.mono (by decide)) rfl (glo__law_refused D) passL (pa_cons (pv 4) (pa_cons (pv 6) pa_nil)))))
      (pss_one (ps_ret pe_bl))
      pss_nil))
      (pss_one (ps_if (pt_not (pt_val (pe_callH H__law_is (hr.mono (by decide)) rfl (glo__law_is D) passL (pa_cons (pe_methH (pv 6) (cls_Ratio D) (me_Ratio_by D) H_Ratio_by (hr.mono (by decide)) passL (pa_cons (pv 7) pa_nil)) (pa_cons (pe_callH H__law_less (hr.mono (by decide)) rfl (glo__law_less D) passL (pa_cons (pe_op op_mul (pe_op op_mul (pe_ix ix_tup (pv 4) pe_int (fun _ _ => rfl)) (pe_ix ix_tup (pv 5) pe_int (fun _ _ => rfl))) (pv 10)) (pa_cons (pe_op op_mul (pe_op op_mul (pe_ix ix_tup (pv 4) pe_int (fun _ _ => rfl)) (pe_ix ix_tup (pv 5) pe_int (fun _ _ => rfl))) (pv 10)) pa_nil))) pa_nil)))))
      (pss_one (ps_ret pe_bl))
      pss_nil)))
      (pss_one (ps_if (PW.pt (pw_or (pt_not (pt_val (pe_callH H__law_is (hr.mono (by decide)) rfl (glo__law_is D) passL (pa_cons (pv 6) (pa_cons (pv 8) pa_nil))))) (pw_or1 (pt_not (pt_val (pe_callH H__law_is (hr.mono (by decide)) rfl (glo__law_is D) passL (pa_cons (pv 7) (pa_cons (pe_callH H__law_less (hr.mono (by decide)) rfl (glo__law_less D) passL (pa_cons (pe_ix ix_tup (pv 5) pe_int (fun _ _ => rfl)) (pa_cons (pe_ix ix_tup (pv 5) pe_int (fun _ _ => rfl)) pa_nil))) pa_nil))))))))
      (pss_one (ps_ret pe_bl))
      pss_nil))))))))))))))))
      (pss_cons (ps_for PassesOwn.never rfl (pi_range1 rfl (free_range D) (pa_cons pe_int pa_nil)) (pg_name (i := 11) sc_law.nd rfl (Or.inl rfl))
      (pss_one (ps_if (pt_not (pt_val (pe_callH H__law_refused (hr.mono (by decide)) rfl (glo__law_refused D) passL (pa_cons (pe_tup (pa_cons (pe_op op_sub (pe_callH H__law_draw (hr.mono (by decide)) rfl (glo__law_draw D) passL (pa_cons (pv 1) (pa_cons pe_int pa_nil))) pe_int) (pa_cons (pe_op op_sub pe_int (pe_ix ix_tup (pe_tup (pa_cons (pe_callH H__law_draw (hr.mono (by decide)) rfl (glo__law_draw D) passL (pa_cons (pv 1) (pa_cons pe_int pa_nil))) (pa_cons (pe_callH H__law_draw (hr.mono (by decide)) rfl (glo__law_draw D) passL (pa_cons (pv 1) (pa_cons pe_int pa_nil))) pa_nil))) (pv 11) (fun _ _ => rfl))) pa_nil))) (pa_cons pe_non pa_nil)))))
      (pss_one (ps_ret pe_bl))
      pss_nil)))
      (pss_one (ps_ret (pe_callH H__law_is (hr.mono (by decide)) rfl (glo__law_is D) passL (pa_cons (pe_makeH (mkr_Ratio D) H_Ratio_init1 (hr.mono (by decide)) rfl (glo_Ratio D) passL (pa_cons pe_int pa_nil)) (pa_cons (pe_tup (pa_cons pe_int (pa_cons pe_int pa_nil))) pa_nil)))))))), ?_⟩
    refine ⟨_, rfl, fun _ => none, a, ns, 0, rfl, (fun _ _ z => nomatch z), hS, by omega, fun I0 H0 p g0 po0 hp0 => ?_⟩
    have hS0 : SqL K H0 a (ns.map V.int) := Same.seq (fun x o e => g0.at e (by simp)) hS
    have hl : (ns.map V.int).length = ns.length := List.length_map _
    (try dsimp only)
    refine seq_cut (fun σ' H' => ∃ (I : Hp) (v2 v3 v4 v5 v6 v7 v8 v9 v10 v11 : Option V), σ' = [some (.ref a), some (.ref p), v2, v3, v4, v5, v6, v7, v8, v9, v10, v11] ∧ Same I H' ∧ PoolOk I H' p) (fun nx q => ?_) ?_
    · -- for k in range(1 + len(script) // 2)
      refine ⟨_, rfl, _, ns.length, rfl, .inl ⟨_, hS0, hl.symm⟩, _, _, rfl, rfl, ⟨by decide, by decide⟩, _, _, rfl, rfl, _, rfl, by omega, by omega, ?_⟩
      refine for_range (n := (1 + (ns.length : Int) / 2).toNat) (fun i σ' H' => ∃ (I : Hp) (v2 v3 v4 v5 v6 v7 v8 v9 v10 v11 : Option V), σ' = [some (.ref a), some (.ref p), v2, v3, v4, v5, v6, v7, v8, v9, v10, v11] ∧ Same I H' ∧ PoolOk I H' p)
        ⟨I0, none, none, none, none, none, none, none, none, none, none, rfl, g0.ih, po0⟩ (fun i σ' H' hi h => ?_) (fun σ' H' h => q σ' H' h)
      obtain ⟨I, v2, v3, v4, v5, v6, v7, v8, v9, v10, v11, rfl, s1, po⟩ := h
      -- bound
      (try dsimp only)
      refine seq_cut (fun σ' H' => ∃ (I : Hp) (bd : Int) (v2 v4 v5 v6 v7 v8 v9 v10 v11 : Option V), σ' = [some (.ref a), some (.ref p), v2, some (.int bd), v4, v5, v6, v7, v8, v9, v10, v11] ∧ Same I H' ∧ PoolOk I H' p ∧ 0 < bd ∧ bd ≤ 1000000) (fun nx q => ?_) ?_
      · refine ⟨_, _, rfl, rfl, ⟨by decide, by decide, by decide⟩, (by show 3 ≤ sizeLine; decide), fun t ht => ?_⟩
        have po1 := po.up (Gr.tmp (ms := []) (o := .tup [.int 5, .int 100, .int (10 ^ 6)]) s1 ht) (by simp)
        refine ⟨_, rfl, I, p, 3, rfl, sUnder s1 (s1.free ht), po1, by decide, by decide, fun v H2 hv0 hv1 g2 po2 => ?_⟩
        have ht2 : H2 t = some (.tup [.int 5, .int 100, .int (10 ^ 6)]) := g2.at upd_same (by simpa using po.ne ht)
        obtain ⟨j, bd, hj, hv, hb0, hb1⟩ : ∃ (j : Nat) (bd : Int), ([V.int 5, V.int 100, V.int (10 ^ 6)] : List V)[j]? = some (.int bd) ∧ v = (j : Int) ∧ 0 < bd ∧ bd ≤ 1000000 := by
          have : v = 0 ∨ v = 1 ∨ v = 2 := by omega
          rcases this with rfl | rfl | rfl
          · exact ⟨0, 5, rfl, rfl, by decide, by decide⟩
          · exact ⟨1, 100, rfl, rfl, by decide, by decide⟩
          · exact ⟨2, 10 ^ 6, rfl, rfl, by decide, by decide⟩
        refine ⟨_, _, _, _, rfl, rfl, SqT.of ht2, at_of hv hj, ?_⟩
        exact q _ _ ⟨I, bd, _, _, _, _, _, _, _, _, _, rfl, g2.ih, po2, hb0, hb1⟩
      clear po s1 v2 v3 v4 v5 v6 v7 v8 v9 v10 v11 I
      rintro σ' H' ⟨I, bd, v2, v4, v5, v6, v7, v8, v9, v10, v11, rfl, s1, po, hb0, hb1⟩
      -- one, other, a, b, due, text
      (try dsimp only)
      refine seq_cut (fun σ' H' => ∃ (I : Hp) (n1 d1 : Int) (u4 : V) (v2 v5 v6 v7 v8 v9 v10 v11 : Option V), σ' = [some (.ref a), some (.ref p), v2, some (.int bd), some u4, v5, v6, v7, v8, v9, v10, v11] ∧ Same I H' ∧ PoolOk I H' p ∧ iZ I u4 (n1, d1) ∧ -1000000 ≤ n1 ∧ n1 ≤ 1000000 ∧ 0 < d1 ∧ d1 ≤ 1000000) (fun nx q => ?_) ?_
      · refine ⟨_, rfl, _, rfl, _, _, rfl, rfl, .inl ⟨by decide, by decide⟩, I, p, 2 * bd, rfl, s1, po, by omega, by omega, fun v H1 hv0 hv1 g1 po1 => ?_⟩
        refine ⟨_, rfl, _, _, rfl, rfl, _, rfl, _, rfl, I, p, bd, rfl, g1.ih, po1, by omega, by omega, fun u H2 hu0 hu1 g2 po2 => ?_⟩
        refine ⟨_, _, rfl, rfl, (by show 2 ≤ sizeLine; decide), fun t ht => ?_⟩
        have g3 := Gr.new (ms := []) (o := .tup [.int (v - bd), .int (1 + u)]) g2.ih ht
        exact q _ _ ⟨_, v - bd, 1 + u, _, _, _, _, _, _, _, _, _, rfl, g3.ih, po2.up g3 (by simp), ⟨t, rfl, upd_same⟩, by omega, by omega, by omega, by omega⟩
      clear po s1 v2 v4 v5 v6 v7 v8 v9 v10 v11 I
      rintro σ' H' ⟨I, n1, d1, u4, v2, v5, v6, v7, v8, v9, v10, v11, rfl, s1, po, o4, bA, bB, bC, bD⟩
      (try dsimp only)
      refine seq_cut (fun σ' H' => ∃ (I : Hp) (n2 d2 : Int) (u5 : V) (v2 v6 v7 v8 v9 v10 v11 : Option V), σ' = [some (.ref a), some (.ref p), v2, some (.int bd), some u4, some u5, v6, v7, v8, v9, v10, v11] ∧ Same I H' ∧ PoolOk I H' p ∧ iZ I u4 (n1, d1) ∧ iZ I u5 (n2, d2) ∧ -1000000 ≤ n2 ∧ n2 ≤ 1000000 ∧ 0 < d2 ∧ d2 ≤ 1000000) (fun nx q => ?_) ?_
      · refine ⟨_, rfl, _, rfl, _, _, rfl, rfl, .inl ⟨by decide, by decide⟩, I, p, 2 * bd, rfl, s1, po, by omega, by omega, fun v H1 hv0 hv1 g1 po1 => ?_⟩
        refine ⟨_, rfl, _, _, rfl, rfl, _, rfl, _, rfl, I, p, bd, rfl, g1.ih, po1, by omega, by omega, fun u H2 hu0 hu1 g2 po2 => ?_⟩
        refine ⟨_, _, rfl, rfl, (by show 2 ≤ sizeLine; decide), fun t ht => ?_⟩
        have g3 := Gr.new (ms := []) (o := .tup [.int (v - bd), .int (1 + u)]) g2.ih ht
        exact q _ _ ⟨_, v - bd, 1 + u, _, _, _, _, _, _, _, _, rfl, g3.ih, po2.up g3 (by simp), Tk.up g3.ii o4, ⟨t, rfl, upd_same⟩, by omega, by omega, by omega, by omega⟩
      clear po s1 o4 v2 v5 v6 v7 v8 v9 v10 v11 I
      rintro σ' H' ⟨I, n2, d2, u5, v2, v6, v7, v8, v9, v10, v11, rfl, s1, po, o4, o5, bE, bF, bG, bH⟩
      have B : Bd n1 d1 n2 d2 := ⟨bA, bB, bC, bD, bE, bF, bG, bH⟩
      (try dsimp only)
      refine seq_cut (fun σ' H' => ∃ (I : Hp) (u6 : V) (v2 v7 v8 v9 v10 v11 : Option V), σ' = [some (.ref a), some (.ref p), v2, some (.int bd), some u4, some u5, some u6, v7, v8, v9, v10, v11] ∧ Same I H' ∧ PoolOk I H' p ∧ iZ I u4 (n1, d1) ∧ iZ I u5 (n2, d2) ∧ iR (CR K) I u6 (rt n1 d1)) (fun nx q => ?_) ?_
      · obtain ⟨e4, rfl, h4⟩ := id o4
        have h4' := s1 _ _ h4
        refine ⟨_, rfl, _, _, _, _, rfl, rfl, SqT.of h4', at_of (j := 0) rfl rfl, _, rfl, _, _, _, _, rfl, rfl, SqT.of h4', at_of (j := 1) rfl rfl, fun x dx nx nd ne => ⟨x, dx, _, _, rfl, upd_same, sm_of (by omega) (by omega), fun _ => ⟨rfl, ?_⟩, fun h => absurd h (by show ¬ d1 ≤ 0; omega)⟩⟩
        obtain ⟨ga, o6⟩ := rat_new (ms := []) (C := CR K) (q := rt n1 d1) s1 nx nd ne
        exact q _ _ ⟨_, _, _, _, _, _, _, _, rfl, ga.ih, po.up ga (by simp), Tk.up ga.ii o4, Tk.up ga.ii o5, o6⟩
      clear po s1 o4 o5 v2 v6 v7 v8 v9 v10 v11 I
      rintro σ' H' ⟨I, u6, v2, v7, v8, v9, v10, v11, rfl, s1, po, o4, o5, o6⟩
      (try dsimp only)
      refine seq_cut (fun σ' H' => ∃ (I : Hp) (u7 : V) (v2 v8 v9 v10 v11 : Option V), σ' = [some (.ref a), some (.ref p), v2, some (.int bd), some u4, some u5, some u6, some u7, v8, v9, v10, v11] ∧ Same I H' ∧ PoolOk I H' p ∧ iZ I u4 (n1, d1) ∧ iZ I u5 (n2, d2) ∧ iR (CR K) I u6 (rt n1 d1) ∧ iR (CR K) I u7 (rt n2 d2)) (fun nx q => ?_) ?_
      · obtain ⟨e5, rfl, h5⟩ := id o5
        have h5' := s1 _ _ h5
        refine ⟨_, rfl, _, _, _, _, rfl, rfl, SqT.of h5', at_of (j := 0) rfl rfl, _, rfl, _, _, _, _, rfl, rfl, SqT.of h5', at_of (j := 1) rfl rfl, rfl, rfl, fun x dx nx nd ne => ⟨x, dx, _, _, rfl, upd_same, sm_of (by omega) (by omega), fun _ => ⟨rfl, ?_⟩, fun h => absurd h (by show ¬ d2 ≤ 0; omega)⟩⟩
        obtain ⟨ga, o7⟩ := rat_new (ms := []) (C := CR K) (q := rt n2 d2) s1 nx nd ne
        exact q _ _ ⟨_, _, _, _, _, _, _, rfl, ga.ih, po.up ga (by simp), Tk.up ga.ii o4, Tk.up ga.ii o5, Tk.up ga.ii o6, o7⟩
      clear po s1 o4 o5 o6 v2 v7 v8 v9 v10 v11 I
      rintro σ' H' ⟨I, u7, v2, v8, v9, v10, v11, rfl, s1, po, o4, o5, o6, o7⟩
      (try dsimp only)
      refine seq_cut (fun σ' H' => ∃ (I : Hp) (u8 : V) (v2 v9 v10 v11 : Option V), σ' = [some (.ref a), some (.ref p), v2, some (.int bd), some u4, some u5, some u6, some u7, some u8, v9, v10, v11] ∧ Wd K p u4 u5 u6 u7 u8 n1 d1 n2 d2 I H') (fun nx q => ?_) ?_
      · obtain ⟨e4, rfl, h4⟩ := id o4
        have h4' := s1 _ _ h4
        refine ⟨_, rfl, _, _, _, _, rfl, rfl, SqT.of h4', at_of (j := 0) rfl rfl, _, rfl, _, _, _, _, rfl, rfl, SqT.of h4', at_of (j := 1) rfl rfl, I, _, _, rfl, s1, bC, by omega, fun I3 H3 u8 g3 o8 => ?_⟩
        exact q _ _ ⟨_, _, _, _, _, _, rfl, g3.ih, po.up g3 (by simp), Tk.up g3.ii o4, Tk.up g3.ii o5, Tk.up g3.ii o6, Tk.up g3.ii o7, o8⟩
      clear po s1 o4 o5 o6 o7 v2 v8 v9 v10 v11 I
      rintro σ' H' ⟨I, u8, v2, v9, v10, v11, rfl, W⟩
      -- text
      obtain ⟨c1, c2, c3⟩ := rt_bnd (n := n1) bC 1000000 bA bB
      obtain ⟨c4, c5, c6⟩ := rt_bnd (n := n2) bG 1000000 bE bF
      have dp1 := den_pos (rt n1 d1)
      have dp2 := den_pos (rt n2 d2)
      have F1 : Fit (rt n1 d1) := fit_of c1 c2 (by omega)
      have F2 : Fit (rt n2 d2) := fit_of c4 c5 (by omega)
      have Z1 : Fz (n1, d1) := fz_of bA bB bC bD
      have Z2 : Fz (n2, d2) := fz_of bE bF bG bH
      have w1 : Few (rt n1 d1).num := few_of c1 c2
      have w2 : Few (rt n1 d1).den := few_of (by omega) (by omega)
      (try dsimp only)
      refine seq_cut (fun σ' H2 => H2 = H' ∧ ∃ (v2 v10 v11 : Option V), σ' = [some (.ref a), some (.ref p), v2, some (.int bd), some u4, some u5, some u6, some u7, some u8, some (.str (PySem.Str.ofString (toString (rt n1 d1).num))), v10, v11]) (fun nx q => ?_) ?_
      · obtain ⟨e8, rfl, h8⟩ := W.o8
        have h8' := W.s _ _ h8
        refine ⟨_, rfl, _, _, _, _, rfl, rfl, SqT.of h8', at_of (j := 0) rfl rfl, _, rfl, w1.log, ?_⟩
        exact q _ _ ⟨rfl, _, _, _, rfl⟩
      clear v2 v9 v10 v11
      rintro σ' H2 ⟨rfl, v2, v10, v11, rfl⟩
      (try dsimp only)
      refine seq_cut (fun σ' H3 => H3 = H2 ∧ ∃ (v2 v10 v11 : Option V), σ' = [some (.ref a), some (.ref p), v2, some (.int bd), some u4, some u5, some u6, some u7, some u8, some (.str (rtext (rt n1 d1))), v10, v11]) (fun nx q => ?_) ?_
      · obtain ⟨e8, rfl, h8⟩ := W.o8
        have h8' := W.s _ _ h8
        refine ⟨_, rfl, _, _, _, _, rfl, rfl, SqT.of h8', at_of (j := 1) rfl rfl, _, _, rfl, rfl, _, rfl, ifD (fun h => ?_) (fun h => ?_)⟩
        · have l1 := txt_len w1
          have l2 := txt_len w2
          have l3 : ("/" : Str).length ≤ 1 := by decide
          refine ⟨_, rfl, _, _, rfl, rfl, line_of (by omega), _, rfl, _, _, _, _, rfl, rfl, SqT.of h8', at_of (j := 1) rfl rfl, _, rfl, w2.log, _, _, rfl, rfl, line_of (by rw [app_len]; omega), ?_⟩
          refine q _ _ ⟨rfl, v2, v10, v11, ?_⟩
          have e : rtext (rt n1 d1) = PySem.Str.ofString (toString (rt n1 d1).num) ++ ("/" : Str) ++ PySem.Str.ofString (toString ((rt n1 d1).den : Int)) := by unfold rtext; rw [if_pos (by show (1 : Int) < _; exact h)]
          rw [e]; rfl
        · refine q _ _ ⟨rfl, v2, v10, v11, ?_⟩
          have e : rtext (rt n1 d1) = PySem.Str.ofString (toString (rt n1 d1).num) := by unfold rtext; rw [if_neg (by show ¬ (1 : Int) < _; exact h)]
          rw [e]
      clear v2 v10 v11
      rintro σ' H3 ⟨rfl, v2, v10, v11, rfl⟩
      -- the tests
      (try dsimp only)
      refine seq_cut (fun σ' H' => ∃ (I : Hp) (v2 v10 v11 : Option V), σ' = [some (.ref a), some (.ref p), v2, some (.int bd), some u4, some u5, some u6, some u7, some u8, some (.str (rtext (rt n1 d1))), v10, v11] ∧ Wd K p u4 u5 u6 u7 u8 n1 d1 n2 d2 I H') (fun nx q => ?_) ?_
      · refine ⟨_, rfl, _, rfl, I, u6, u8, _, _, rfl, W.s, W.o6, W.o8, fun H4 g4 => ?_⟩
        have W4 := W.up g4
        refine ⟨_, rfl, ?_⟩
        rw [decide_eq_true rfl]
        refine iteF ?_
        obtain ⟨e6, d6, rfl, h6⟩ := id W.o6
        obtain ⟨e7, d7, rfl, h7⟩ := id W.o7
        refine ⟨_, rfl, e6, d6, _, rfl, W4.s _ _ h6, I, _, _, rfl, W4.s, W4.o6, w1, w2, ⟨_, rfl⟩, _, rfl, rfl, _, rfl, ?_⟩
        refine ifF (by simp) ?_
        refine ⟨_, rfl, _, rfl, e6, e7, d6, d7, _, _, rfl, rfl, W4.s _ _ h6, W4.s _ _ h7, I, _, _, _, _, rfl, W4.s, W4.o6, W4.o7, ?_⟩
        obtain ⟨e5, rfl, h5⟩ := id W.o5
        have h5' := W4.s _ _ h5
        refine ⟨_, rfl, _, rfl, _, _, _, _, rfl, rfl, SqT.of h5', at_of (j := 0) rfl rfl, _, rfl, _, _, _, _, rfl, rfl, SqT.of h5', at_of (j := 1) rfl rfl, I, _, _, rfl, W4.s, bG, by omega, fun I5 H5 u5 g5 o5 => ?_⟩
        have W5 := W4.up g5
        obtain ⟨e8, rfl, h8⟩ := id W5.o8
        obtain ⟨x5, rfl, hx5⟩ := id o5
        have h8' := W5.s _ _ h8
        have hx5' := W5.s _ _ hx5
        refine ⟨.tuple [.int (rt n1 d1).num, .int (rt n1 d1).den], .tuple [.int (rt n2 d2).num, .int (rt n2 d2).den], .tup (SqT.of h8') (.cons (.int _) (.cons (.int _) .nil)), .tup (SqT.of hx5') (.cons (.int _) (.cons (.int _) .nil)), rfl, rfl, ?_⟩
        have e : PyData.eqv (.tuple [.int (rt n1 d1).num, .int (rt n1 d1).den]) (.tuple [.int (rt n2 d2).num, .int (rt n2 d2).den]) = decide (rt n1 d1 = rt n2 d2) := by
          rw [Bool.eq_iff_iff, decide_eq_true_iff, eq_parts]
          simp [PyData.eqv, PyData.eqvAll]
        rw [e]
        refine ⟨_, _, .bl (decide (rt n1 d1 = rt n2 d2)), .bl (decide (rt n1 d1 = rt n2 d2)), rfl, by simp [dR], by simp [dR], Nat.zero_le _, trivial, trivial, _, rfl, ?_⟩
        refine ifF (by rw [show eqd (.bl (decide (rt n1 d1 = rt n2 d2))) (.bl (decide (rt n1 d1 = rt n2 d2))) = true from (eqd_iff _ _).mpr rfl]; rfl) ?_
        exact q _ _ ⟨I5, v2, v10, v11, rfl, W5⟩
      clear v2 v10 v11 W I
      rintro σ' H' ⟨I, v2, v10, v11, rfl, W⟩
      (try dsimp only)
      refine seq_cut (fun σ' H' => ∃ (I : Hp) (v2 v10 v11 : Option V), σ' = [some (.ref a), some (.ref p), v2, some (.int bd), some u4, some u5, some u6, some u7, some u8, some (.str (rtext (rt n1 d1))), v10, v11] ∧ Wd K p u4 u5 u6 u7 u8 n1 d1 n2 d2 I H') (fun nx q => ?_) ?_
      · obtain ⟨e6, d6, rfl, h6⟩ := id W.o6
        obtain ⟨e7, d7, rfl, h7⟩ := id W.o7
        refine ⟨_, rfl, _, rfl, e6, e7, d6, d7, _, _, rfl, rfl, W.s _ _ h6, W.s _ _ h7, I, _, _, _, _, rfl, W.s, W.o6, W.o7, F1, F2, fun I4 H4 va g4 ra => ?_⟩
        refine ⟨_, rfl, _, rfl, I4, _, _, _, _, rfl, g4.ih, (W.up g4).o4, (W.up g4).o5, Z1, Z2, fun I5 H5 vb g5 rb => ?_⟩
        refine ⟨I5, _, _, _, _, rfl, g5.ih, Tk.up g5.ii ra, rb, fun H6 g6 => ⟨_, rfl, ?_⟩⟩
        replace W := ((W.up g4).up g5).up g6
        refine ifF (by rw [decide_eq_true ((rt_addz bC bG).symm)]; rfl) ?_
        clear h6 h7 g4 g5 g6 ra rb
        obtain ⟨_, d6, e6, h6⟩ := id W.o6
        obtain ⟨_, d7, e7, h7⟩ := id W.o7
        refine ⟨_, rfl, _, rfl, _, _, d6, d7, _, _, e6, e7, W.s _ _ h6, W.s _ _ h7, _, _, _, _, _, rfl, W.s, W.o6, W.o7, F1, F2, fun J4 H4 va g4 ra => ?_⟩
        refine ⟨_, rfl, _, rfl, J4, _, _, _, _, rfl, g4.ih, (W.up g4).o4, (W.up g4).o5, Z1, Z2, fun J5 H5 vb g5 rb => ?_⟩
        refine ⟨J5, _, _, _, _, rfl, g5.ih, Tk.up g5.ii ra, rb, fun H6 g6 => ⟨_, rfl, ?_⟩⟩
        replace W := ((W.up g4).up g5).up g6
        refine ifF (by rw [decide_eq_true ((rt_subz bC bG).symm)]; rfl) ?_
        clear h6 h7 g4 g5 g6 ra rb
        exact q _ _ ⟨_, v2, v10, v11, rfl, W⟩
      clear v2 v10 v11 W I
      rintro σ' H' ⟨I, v2, v10, v11, rfl, W⟩
      (try dsimp only)
      refine seq_cut (fun σ' H' => ∃ (I : Hp) (v2 v10 v11 : Option V), σ' = [some (.ref a), some (.ref p), v2, some (.int bd), some u4, some u5, some u6, some u7, some u8, some (.str (rtext (rt n1 d1))), v10, v11] ∧ Wd K p u4 u5 u6 u7 u8 n1 d1 n2 d2 I H') (fun nx q => ?_) ?_
      · obtain ⟨e6, d6, rfl, h6⟩ := id W.o6
        obtain ⟨e7, d7, rfl, h7⟩ := id W.o7
        refine ⟨_, rfl, _, rfl, e6, e7, d6, d7, _, _, rfl, rfl, W.s _ _ h6, W.s _ _ h7, I, _, _, _, _, rfl, W.s, W.o6, W.o7, F1, F2, fun I4 H4 va g4 ra => ?_⟩
        refine ⟨_, rfl, _, rfl, I4, _, _, _, _, rfl, g4.ih, (W.up g4).o4, (W.up g4).o5, Z1, Z2, fun I5 H5 vb g5 rb => ?_⟩
        refine ⟨I5, _, _, _, _, rfl, g5.ih, Tk.up g5.ii ra, rb, fun H6 g6 => ⟨_, rfl, ?_⟩⟩
        replace W := ((W.up g4).up g5).up g6
        refine ifF (by rw [decide_eq_true (rt_mulz.symm)]; rfl) ?_
        clear h6 h7 g4 g5 g6 ra rb
        obtain ⟨_, d6, e6, h6⟩ := id W.o6
        obtain ⟨_, d7, e7, h7⟩ := id W.o7
        refine ⟨_, rfl, _, d6, _, e6, W.s _ _ h6, rf_no _ (by decide +kernel) (by decide +kernel), _, rfl, _, _, _, _, _, rfl, W.s, W.o6, W.o7, F1, F2, ?_⟩
        refine ⟨_, rfl, _, rfl, _, _, _, _, _, rfl, W.s, W.o4, W.o5, Z1, Z2, ?_⟩
        refine ⟨_, _, .bl (decide (rt n1 d1 < rt n2 d2)), .bl (decide ((n1, d1).1 * (n2, d2).2 < (n2, d2).1 * (n1, d1).2)), rfl, by simp [dR], by simp [dR], Nat.zero_le _, trivial, trivial, _, rfl, ?_⟩
        have e : decide (rt n1 d1 < rt n2 d2) = decide ((n1, d1).1 * (n2, d2).2 < (n2, d2).1 * (n1, d1).2) := decide_eq_decide.mpr (rt_lt bC bG)
        refine ifF (by rw [e, show eqd (.bl (decide ((n1, d1).1 * (n2, d2).2 < (n2, d2).1 * (n1, d1).2))) (.bl (decide ((n1, d1).1 * (n2, d2).2 < (n2, d2).1 * (n1, d1).2))) = true from (eqd_iff _ _).mpr rfl]; rfl) ?_
        exact q _ _ ⟨_, v2, v10, v11, rfl, W⟩
      clear v2 v10 v11 W I
      rintro σ' H' ⟨I, v2, v10, v11, rfl, W⟩
      -- sign
      obtain ⟨sg, hsg⟩ : ∃ sg : Int, sg = 1 - 2 * (if decide (n2 < 0) = true then 1 else 0) := ⟨_, rfl⟩
      have sg1 : n2 < 0 → sg = -1 := fun h => by rw [hsg, decide_eq_true h]; rfl
      have sg2 : ¬ n2 < 0 → sg = 1 := fun h => by rw [hsg, decide_eq_false h]; rfl
      (try dsimp only)
      refine seq_cut (fun σ' H2 => H2 = H' ∧ ∃ (v2 v11 : Option V), σ' = [some (.ref a), some (.ref p), v2, some (.int bd), some u4, some u5, some u6, some u7, some u8, some (.str (rtext (rt n1 d1))), some (.int sg), v11]) (fun nx q => ?_) ?_
      · obtain ⟨e5, rfl, h5⟩ := id W.o5
        have h5' := W.s _ _ h5
        refine ⟨_, rfl, _, _, _, _, rfl, rfl, SqT.of h5', at_of (j := 0) rfl rfl, _, _, rfl, rfl, .inr ⟨_, rfl, _, _, rfl, rfl, .inl ⟨by decide, by decide⟩, _, _, rfl, rfl, ?_⟩⟩
        exact q _ _ ⟨rfl, v2, v11, by rw [hsg]; rfl⟩
      clear v2 v10 v11
      rintro σ' H2 ⟨rfl, v2, v11, rfl⟩
      (try dsimp only)
      refine seq_cut (fun σ' H' => ∃ (I : Hp) (v2 v10 v11 : Option V), σ' = [some (.ref a), some (.ref p), v2, some (.int bd), some u4, some u5, some u6, some u7, some u8, some (.str (rtext (rt n1 d1))), v10, v11] ∧ Wd K p u4 u5 u6 u7 u8 n1 d1 n2 d2 I H') (fun nx q => ?_) ?_
      · obtain ⟨e5, rfl, h5⟩ := id W.o5
        have h5' := W.s _ _ h5
        refine ⟨_, rfl, _, _, _, _, rfl, rfl, SqT.of h5', at_of (j := 0) rfl rfl, rfl, _, rfl, ifD (fun h0 => ?_) (fun h0 => ?_)⟩
        · refine ⟨_, rfl, _, rfl, I, _, _, rfl, W.s, .inr ⟨_, W.o6, F1⟩, fun H' g => ⟨_, rfl, iteF ?_⟩⟩
          exact q _ _ ⟨_, v2, _, v11, rfl, W.up g⟩
        · have hn : n2 ≠ 0 := fun h => h0 (by rw [h])
          have hq : rt n2 d2 ≠ 0 := fun h => hn ((rt_zero bG).mp h)
          have hs : sg = 1 ∧ 0 < n2 ∨ sg = -1 ∧ n2 < 0 := by
            by_cases h : n2 < 0
            · exact .inr ⟨sg1 h, h⟩
            · exact .inl ⟨sg2 h, by omega⟩
          obtain ⟨e6, d6, rfl, h6⟩ := id W.o6
          refine ⟨_, rfl, e6, d6, _, rfl, W.s _ _ h6, rf_no _ (by decide +kernel) (by decide +kernel), _, rfl, I, _, _, _, _, rfl, W.s, W.o6, W.o7, F1, F2, fun _ I4 H4 va g4 ra => ?_, fun h => absurd h hq⟩
          have W4 := W.up g4
          obtain ⟨e4, rfl, h4⟩ := id W4.o4
          have h4' := W4.s _ _ h4
          have h5'' := g4.at h5' (by simp)
          have sb : -(2 ^ 64) < sg ∧ sg < 2 ^ 64 := by rcases hs with h | h <;> omega
          refine ⟨_, rfl, _, _, _, _, rfl, rfl, SqT.of h4', at_of (j := 0) rfl rfl, _, rfl, _, _, _, _, rfl, rfl, SqT.of h5'', at_of (j := 1) rfl rfl, _, _, rfl, rfl, .inl ⟨by show -(2 ^ 64) < n1; omega, by show n1 < 2 ^ 64; omega⟩, _, rfl, _, _, rfl, rfl, .inr sb, ?_⟩
          refine ⟨_, rfl, _, _, _, _, rfl, rfl, SqT.of h4', at_of (j := 1) rfl rfl, _, rfl, _, _, _, _, rfl, rfl, SqT.of h5'', at_of (j := 0) rfl rfl, _, _, rfl, rfl, .inl ⟨by show -(2 ^ 64) < d1; omega, by show d1 < 2 ^ 64; omega⟩, _, rfl, _, _, rfl, rfl, .inr sb, ?_⟩
          have pos : 0 < d1 * n2 * sg := by
            rcases hs with ⟨rfl, h⟩ | ⟨rfl, h⟩
            · rw [Int.mul_one]; exact Int.mul_pos bC h
            · rw [Int.mul_neg, Int.mul_one]; have := Int.mul_neg_of_pos_of_neg bC h; omega
          have small : d1 * n2 * sg < 2 ^ 1999 := by
            have h1 : d1.natAbs < 2 ^ 20 := by omega
            have h2 : n2.natAbs < 2 ^ 20 := by omega
            have h3 : sg.natAbs < 2 ^ 2 := by rcases hs with h | h <;> omega
            have h4 := fit_lt (k := 40) h1 h2 (by decide)
            have h5 := fit_lt (k := 42) h4 h3 (by decide)
            have h6 : (2 : Nat) ^ 42 < 2 ^ 1999 := by decide
            omega
          refine ⟨I4, _, _, rfl, g4.ih, pos, small, fun I5 H5 vb g5 rb => ?_⟩
          refine ⟨I5, _, _, _, _, rfl, g5.ih, Tk.up g5.ii ra, rb, fun H6 g6 => ⟨_, rfl, ?_⟩⟩
          refine ifF (by rw [decide_eq_true (rt_divz bC bG hn hs).symm]; rfl) ?_
          exact q _ _ ⟨_, v2, _, v11, rfl, (W4.up g5).up g6⟩
      clear v2 v11 W I hsg sg1 sg2 sg
      rintro σ' H' ⟨I, v2, v10, v11, rfl, W⟩
      refine ⟨_, rfl, _, rfl, I, _, _, _, _, rfl, W.s, W.o6, W.o8, fun H4 g4 => ⟨_, rfl, ?_⟩⟩
      replace W := W.up g4
      refine ifF (by rw [decide_eq_true rfl]; rfl) ?_
      obtain ⟨e5, e5e, h5⟩ := id W.o5
      have h5' := W.s _ _ h5
      subst e5e
      refine ⟨_, rfl, _, rfl, _, _, _, _, rfl, rfl, SqT.of h5', at_of (j := 0) rfl rfl, _, rfl, _, _, _, _, rfl, rfl, SqT.of h5', at_of (j := 1) rfl rfl, I, _, _, rfl, W.s, bG, by omega, fun I5 H5 vb g5 rb => ?_⟩
      refine ⟨I5, _, _, _, _, rfl, g5.ih, (W.up g5).o7, rb, fun H6 g6 => ⟨_, rfl, ?_⟩⟩
      refine ifF (by rw [decide_eq_true rfl]; rfl) ?_
      have W6 := (W.up g5).up g6
      exact ⟨_, _, _, _, _, _, _, _, _, _, _, rfl, W6.s, W6.po⟩
    · rintro σ' H' ⟨I, v2, v3, v4, v5, v6, v7, v8, v9, v10, v11, rfl, s1, po⟩
      (try dsimp only)
      refine seq_cut (fun σ' H' => ∃ (I : Hp) (v2 v3 v4 v5 v6 v7 v8 v9 v10 v11 : Option V), σ' = [some (.ref a), some (.ref p), v2, v3, v4, v5, v6, v7, v8, v9, v10, v11] ∧ Same I H' ∧ PoolOk I H' p) (fun nx q => ?_) ?_
      · refine ⟨2, rfl, by decide, by decide, ?_⟩
        refine for_range (n := 2) (fun i σ' H' => ∃ (I : Hp) (v2 v3 v4 v5 v6 v7 v8 v9 v10 v11 : Option V), σ' = [some (.ref a), some (.ref p), v2, v3, v4, v5, v6, v7, v8, v9, v10, v11] ∧ Same I H' ∧ PoolOk I H' p)
          ⟨I, v2, v3, v4, v5, v6, v7, v8, v9, v10, v11, rfl, s1, po⟩ (fun i σ' H' hi h => ?_) (fun σ' H' h => q σ' H' h)
        clear po s1 v2 v3 v4 v5 v6 v7 v8 v9 v10 v11 I
        obtain ⟨I, v2, v3, v4, v5, v6, v7, v8, v9, v10, v11, rfl, s1, po⟩ := h
        refine ⟨_, rfl, I, p, 9, rfl, s1, po, by decide, by decide, fun v H1 hv0 hv1 g1 po1 => ⟨_, _, rfl, rfl, ?_⟩⟩
        refine ⟨_, rfl, I, p, 3, rfl, g1.ih, po1, by decide, by decide, fun x H2 hx0 hx1 g2 po2 => ?_⟩
        refine ⟨_, rfl, I, p, 1001, rfl, g2.ih, po2, by decide, by decide, fun y H3 hy0 hy1 g3 po3 => ⟨(by show 2 ≤ sizeLine; decide), fun t ht => ?_⟩⟩
        obtain ⟨z, hz, hz0, hz1⟩ : ∃ z : Int, ([V.int x, V.int y] : List V)[i]? = some (.int z) ∧ 0 ≤ z ∧ z < 2000 := by
          have : i = 0 ∨ i = 1 := by omega
          rcases this with rfl | rfl
          · exact ⟨x, rfl, hx0, by omega⟩
          · exact ⟨y, rfl, hy0, by omega⟩
        have g4 := Gr.tmp (ms := [p]) (o := .tup [.int x, .int y]) g3.ih ht
        refine ⟨_, rfl, _, _, _, _, rfl, rfl, SqT.of upd_same, at_of (j := i) (by omega) hz, _, _, rfl, rfl, (by show 2 ≤ sizeLine; decide), fun t2 ht2 => ?_⟩
        have g5 := Gr.new (ms := [p]) (o := .tup [.int (v - 4), .int (0 - z)]) g4.ih ht2
        have po5 := (po3.up (Gr.tmp (ms := []) (o := .tup [.int x, .int y]) g3.ih ht) (by simp)).up (Gr.new (ms := []) (o := .tup [.int (v - 4), .int (0 - z)]) g4.ih ht2) (by simp)
        refine ⟨_, _, _, rfl, g5.ih, .inl ⟨rfl, v - 4, 0 - z, ⟨t2, rfl, upd_same⟩, by omega, sm_of (by omega) (by omega)⟩, fun H6 g6 => ⟨_, rfl, iteF ?_⟩⟩
        exact ⟨_, _, _, _, _, _, _, _, _, _, _, rfl, g6.ih, po5.up g6 (by simp)⟩
      clear po s1 v2 v3 v4 v5 v6 v7 v8 v9 v10 v11 I
      rintro σ' H' ⟨I, v2, v3, v4, v5, v6, v7, v8, v9, v10, v11, rfl, s1, po⟩
      refine fun x dx nx nd ne => ⟨x, dx, _, _, rfl, upd_same, sm_of (by decide) (by decide), fun _ => ⟨rfl, ?_⟩, fun h => absurd h (by decide)⟩
      obtain ⟨ga, ra⟩ := rat_new (ms := []) (C := CR K) (q := rt 7 1) s1 nx nd ne
      refine ⟨(by show 2 ≤ sizeLine; decide), fun t ht => ?_⟩
      have gb := Gr.new (ms := []) (o := .tup [.int (rt 7 1).num, .int (rt 7 1).den]) ga.ih ht
      refine ⟨_, _, _, _, _, rfl, gb.ih, Tk.up gb.ii ra, ⟨t, rfl, upd_same⟩, fun H6 g6 => ?_⟩
      rw [decide_eq_true rfl]
      exact k _
end
end K

set_option Elab.async false
set_option linter.all false
set_option maxRecDepth 100000
namespace K
open PySem PySem.Spec PyProof.Rows L2 Tk Hd
theorem facts {P : Program} {w : World} {K : PySem.W.Frag} {h : Heap} {mg : Str → Option Value} {f : Addr} (X : K.In h) (G : h.Ns mainGlobals mg) (hfa : mg ("law" : Str) = some (.ref f)) (c : SaysY ex fn K) :
    ∃ fd : FuncData, (∀ (s : Shared) (v : Value), BindsTo s fd ⟨[v], []⟩ [("script", v)]) ∧ ∀ base : Heap, K.In base → base.Ns mainGlobals mg → FnOk P w K mg base CX0 8 f fd ["script"] (fun vs H Q _ => spLaw K vs H Q E0) := by
  have D : Dt K mg := ⟨c, h, X, G⟩
  obtain ⟨fd, F⟩ := fd_law D
  have e := hfa.symm.trans (glo_law D)
  cases e
  have b := FunD.bindsA (ps := ["script"]) F fun _ _ _ _ _ _ us hl => match us, hl with | [_], _ => rfl
  exact ⟨fd, fun s v => b s [v] rfl, fun base _ _ => fn0 (ok_law D F)⟩
end K
open PySem PySem.W PySem.Calls PyProof.Rows
set_option maxHeartbeats 0 in
theorem PySem.Challenge.cw_notesttells_k00_fractions_holds : PySem.Challenge.rw_notesttells_k00_fractions.Holds := by
  w_on; o_law
  refine HandSHeadRun.head_imp (r := Hd.R) (q := Hd.vw) (H := Hd.hk) (ob := Hd.ob) (M := 20000) (loose := Hd.loose) (d := HandSHeadRun.topDef Hd.R.prog 23) (kwd := []) Hd.ob_eq Hd.run
    (by kernel_rfl) (by kernel_rfl) (by kernel_rfl) (by rfl) (by first | assumption | decide +kernel) (by decide +kernel) ⟨rfl, rfl, rfl, rfl, rfl, by decide +kernel⟩ ?hw ?hc
  case hw => w_witness2
  case hc =>
    refine L2.walk_ofE (l := PySem.Challenge.rw_notesttells_k00_fractions) (n := 63) (k := 8) (x := "script") (CX := L2.CX0) rfl (by decide) (by kernel_rfl) ⟨rfl, by decide, by decide⟩ ?F (fun _ _ _ _ z => z)
    intro w mg fa h Y G hmg0
    obtain ⟨Kf, KX, c⟩ := Y
    have hmg : mg ("law" : PySem.Str) = some (.ref fa) := by
      have e : (HandSHeadRun.topDef Hd.R.prog 23).name = ("law" : PySem.Str) := by kernel_rfl
      rw [← e]
      exact hmg0
    obtain ⟨fd, hb, hF⟩ := K.facts (P := (PySem.Challenge.rw_notesttells_k00_fractions).prog) (w := w) KX G hmg c
    exact ⟨Kf, fd, _, KX, hb, fun H a ns hl _ hS => ⟨a, ns, rfl, hS, hl, fun _ => rfl⟩, hF⟩

