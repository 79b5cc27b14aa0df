import PyProof.Rows.All
import Wide.All
import OpenK.AllK
import Wide.FinOn
import KE.KCallOwn
import HandS.ForExc
import HandS.Gcd
import HandS.Wide
import HandS.Defaults
import HandS.ExcIs
import HandS.IsInst
import HandS.HeadEnd
import HandS.HeadHook2
import HandS.Head3
import HandS.MakeKwOnly
import HandS.MakeKw
import HandS.FStr
import HandS.CallSlots
import HandS.ForMost
import HandS.Comp
import HandS.Zip
import HandS.ForList
import KE.GoesMore
import KE.GoesZip
import HandS.TupAny
import HandS.ExcInit
import HandS.ExcField
import KE.KExcIs
import PyProof.FitsInt
import PyProof.Rows.StrDigitsNeg
import HandS.Star
import HandS.Text
import HandS.StrMore
import HandS.RaiseMore
import PySem.Challenge.RW_notesttells_k52_bounds_of_boxes
set_option Elab.async false
set_option linter.all false
set_option maxRecDepth 100000
set_option maxHeartbeats 4000000
namespace Tk
open PySem PySem.Spec PyProof.Rows L2

section
variable {X : Cx} {CXx : CXT} {k : Nat} {f C : Addr} {fd : FuncData} {ps : List Str} {sp : Sp} {E : XK}

/-- a def runs at any depth of this body -/
theorem runAt {A' : Around} {pins : List (Addr × Obj)} {σ : L2.St} {H : Hp} {s : Shared} {Q : VK} {us ds : List Value} {vs dvs : List V}
    (F : FnOk X.prog X.w X.K X.mg X.base CXx k f fd ps sp) (hr : Room k A') (he : Env0 X.prog X.w X.K X.mg X.base A' X.stack s H)
    (hb : Binds X.K fd ps ds) (hd : Vals dvs ds) (hx : Passes CXx X E) (I : Inv X pins σ H s) (r : Vals vs us) (h : sp (vs ++ dvs) H Q E) :
    wpAny (model X.prog X.w) A' (call (.ref f) us) (EP X pins σ Q) X.xe s := by
  have r2 := r.append hd
  have hl := r2.length.symm.trans (F.len _ _ _ _ h)
  refine wpAny_call (codeAny_mono (F.run A' X.stack s H ⟨us, []⟩ (us ++ ds) (vs ++ dvs) Q E hr he (hb s us I.kIn hl) r2 h) ?_)
  intro res s' z
  cases res with
  | error e => exact hx _ _ _ _ _ _ I z
  | ok fl => cases fl with
    | ret u => exact I.after z
    | _ => exact False.elim z

/-- what an operator of a class's own asks: both instances of it, the def's promise -/
def rOwn (C : Addr) (sp : Sp) (E : XK) : R2 := fun x y H Q => ∃ a b dx dy fs gs, x = .ref a ∧ y = .ref b ∧ H a = some (.ins C dx fs) ∧ H b = some (.ins C dy gs) ∧ sp [x, y] H Q E

theorem notNI {v : V} {u : Value} (r : RelV v u) : u ≠ .notImplemented := by
  intro e; subst e
  cases v with
  | non => cases (show Value.notImplemented = Value.none from r)
  | bl b => cases (show Value.notImplemented = Value.bool b from r)
  | int i => obtain ⟨t, e⟩ := (show ∃ t, Value.notImplemented = Value.int i t from r); cases e
  | str x => obtain ⟨t, e⟩ := (show ∃ t, Value.notImplemented = Value.str x t from r); cases e
  | byt b => obtain ⟨t, e⟩ := (show ∃ t, Value.notImplemented = Value.bytes b t from r); cases e
  | flt b => obtain ⟨t, e⟩ := (show ∃ t, Value.notImplemented = Value.float b t from r); cases e
  | ref a => cases (show Value.notImplemented = Value.ref a from r)
  | ty n => cases (show Value.notImplemented = Value.type n from r)
theorem cmpBack_of {Q : Value → Shared → Prop} {u : Value} {s : Shared} (n : u ≠ .notImplemented) (q : Q u s) : PySem.W.CmpBack Q u s := by
  cases u <;> first | exact absurd rfl n | exact q
theorem inst_of {pins : List (Addr × Obj)} {σ : L2.St} {H : Hp} {s : Shared} (I : Inv X pins σ H s) {a dx : Addr} {fs : List (Str × V)} (e : H a = some (.ins C dx fs)) : ∃ od, PySem.W.InstAt s.heap a (PySem.W.instObj C dx) C (some od) := by
  obtain ⟨mA, O, _⟩ := ins_get I.hok e
  obtain ⟨od, J, _⟩ := O.look
  exact ⟨od, J⟩

/-- a + b and the like by the class's own __add__ and the like -/
theorem op_own {op : Operator} (F : FnOk X.prog X.w X.K X.mg X.base CXx k f fd ps sp) (hr : Room k X.A) (hb : Binds X.K fd ps []) (hx : Passes CXx X E)
    (hc : PySem.W.selfFirst X.K C = true) (hs : PySem.W.findIn X.K (.ref C) (PySem.dunder op.info.2) = some (some (.ref f))) (hf : PySem.W.isFn X.K (.ref f) = true) :
    OpR X (binaryOp op) (rOwn C sp E) := by
  intro pins s σ H x y v u Q I rx ry h
  obtain ⟨a, b, dx, dy, fs, gs, rfl, rfl, ea, eb, h⟩ := h
  cases rx; cases ry
  obtain ⟨od, J⟩ := inst_of I ea
  obtain ⟨od', J'⟩ := inst_of I eb
  have KX := I.kIn
  obtain ⟨cd, hcd, hm⟩ := PySem.W.any_some hc
  obtain ⟨rest, hm⟩ : ∃ rest, cd.mro = .ref C :: rest := by
    cases q : cd.mro with
    | nil => rw [q] at hm; cases hm
    | cons z r => rw [q] at hm; rw [List.head?_cons] at hm; exact ⟨r, by rw [Option.some.inj (eq_of_beq hm)]⟩
  unfold binaryOp
  refine wpAny_holding (wpAny_bind ?_)
  unfold binaryOp1
  refine wpAny_bind (J.type.here (wpAny_bind (J'.type.here (wpAny_bind ((PySem.W.fills_K KX hcd hm hs).here ?_)))))
  simp only [beq_self_eq_true, if_true]
  refine wpAny_bind (wpAny_pure ?_)
  simp only [Bool.and_false, Bool.false_eq_true, if_false, Bool.false_and]
  refine wpAny_bind (wpAny_pure ?_)
  simp only [Bool.false_eq_true, if_false]
  refine wpAny_bind (m := tryMethod (.ref a) _ (.ref b)) ?_
  unfold tryMethod
  refine wpAny_bind (PySem.W.special_fn KX J hs (beq_iff_eq.mp hf) (wpAny_mono (runAt (vs := [.ref a, .ref b]) (dvs := []) F hr I.env0 hb .nil hx I (.cons rfl (.cons rfl .nil)) h) (fun r s' hv => ?_) fun _ _ e => e))
  obtain ⟨v', H', I', rv, q⟩ := hv
  have hn := notNI rv
  cases r <;> first | exact absurd rfl hn | exact wpAny_pure (wpAny_pure (wpAny_pure ⟨v', H', I', rv, q⟩))

/-- a == b by the class's own __eq__; b is of the same class -/
theorem rc_own {op : CmpOp} (F : FnOk X.prog X.w X.K X.mg X.base CXx k f fd ps sp) (hr : Room k X.A) (hb : Binds X.K fd ps []) (hx : Passes CXx X E)
    (hs : PySem.W.findIn X.K (.ref C) (cmpInfo op).2.1 = some (some (.ref f))) (hf : PySem.W.isFn X.K (.ref f) = true) :
    OpR X (richCompare op) (rOwn C sp E) := by
  intro pins s σ H x y v u Q I rx ry h
  obtain ⟨a, b, dx, dy, fs, gs, rfl, rfl, ea, eb, h⟩ := h
  cases rx; cases ry
  obtain ⟨od, J⟩ := inst_of I ea
  obtain ⟨od', J'⟩ := inst_of I eb
  have KX := I.kIn
  have one : wpAny (model X.prog X.w) X.A (tryCompare (.ref a) (cmpInfo op).2.1 (.ref b)) (fun r s' => ∃ v, r = some v ∧ EP X pins σ Q v s') X.xe s := by
    unfold tryCompare
    refine wpAny_bind (PySem.W.ifBound_K KX J hs hf (wpAny_mono (runAt (vs := [.ref a, .ref b]) (dvs := []) F hr I.env0 hb .nil hx I (.cons rfl (.cons rfl .nil)) h) (fun r s' hv => ?_) fun _ _ e => e))
    obtain ⟨v', H', I', rv, q⟩ := hv
    have hn := notNI rv
    cases r <;> first | exact absurd rfl hn | exact wpAny_pure ⟨_, rfl, v', H', I', rv, q⟩
  unfold richCompare
  simp only [oneThing_ref]
  refine wpAny_holding (wpAny_bind (wpAny_cRoomFor hr.units0 ?_))
  refine wpAny_bind (J.type.here (wpAny_bind (J'.type.here ?_)))
  split
  · rename_i q
    exact absurd q (by simp)
  · refine wpAny_bind (wpAny_pure ?_)
    simp only [Bool.false_eq_true, if_false]
    refine wpAny_bind (wpAny_mono one (fun r s' z => ?_) fun _ _ e => e)
    obtain ⟨v, rfl, hq⟩ := z
    exact wpAny_pure hq
theorem op_eqOwn (F : FnOk X.prog X.w X.K X.mg X.base CXx k f fd ps sp) (hr : Room k X.A) (hb : Binds X.K fd ps []) (hx : Passes CXx X E)
    (hs : PySem.W.findIn X.K (.ref C) "__eq__" = some (some (.ref f))) (hf : PySem.W.isFn X.K (.ref f) = true) : OpR X (compareOp .Eq) (rOwn C sp E) :=
  rc_own (op := .Eq) F hr hb hx hs hf

/-- str(x) by the class's own __str__, which hands back a text -/
def rStrOwn (C : Addr) (sp : Sp) (E : XK) : List V → Hp → VK → Prop := fun xs H Q => ∃ a dx fs, xs = [.ref a] ∧ H a = some (.ins C dx fs) ∧ sp [.ref a] H (fun v H' => (∃ z, v = .str z) ∧ Q v H') E
theorem call_strOwn (F : FnOk X.prog X.w X.K X.mg X.base CXx k f fd ps sp) (hr : Room (k + 2) X.A) (hb : Binds X.K fd ps []) (hx : Passes CXx X E)
    (hs : PySem.W.findIn X.K (.ref C) "__str__" = some (some (.ref f))) (hf : PySem.W.isFn X.K (.ref f) = true) : CallR X (.type "str") (rStrOwn C sp E) := by
  intro pins s σ H xs us Q I r h
  obtain ⟨a, dx, fs, rfl, ea, h⟩ := h
  obtain ⟨u, rfl, ru⟩ := vals1 r
  cases ru
  obtain ⟨od, J⟩ := inst_of I ea
  have r1 : Room (k + 1) X.A.in1 := hr.in1
  have r2 : Room k X.A.in1.in1 := r1.in1
  refine PySem.W.kso_call r2.units0 I.kIn J hs hf (wpAny_mono (runAt (vs := [.ref a]) (dvs := []) F r2 I.env0.in1.in1 hb .nil hx I (.cons rfl .nil) h) (fun r s' hv => ?_) fun _ _ e => e)
  obtain ⟨v', H', I', rv, ⟨z, rfl⟩, q⟩ := hv
  obtain ⟨t, rfl⟩ := rv
  exact ⟨.str z, H', I', ⟨t, rfl⟩, q⟩
end
end Tk

set_option Elab.async false
set_option linter.all false
set_option maxRecDepth 100000
set_option maxHeartbeats 4000000
/-! Heaps that grow: I is the part that never changes again, H all of it; ms may change. -/
namespace Tk
open PySem PySem.Spec PyProof.Rows L2

structure Gr (ms : List Addr) (I H I' H' : Hp) : Prop where
  ii : Same I I'
  ih : Same I' H'
  hh : ∀ a o, a ∉ ms → H a = some o → H' a = some o
  th : ∀ a o, H a = some o → ∃ o', H' a = some o'
  nw : ∀ a o, I a = none → H a = some o → I' a = none
section
variable {ms ns : List Addr} {I H I' H' I'' H'' : Hp} {p m : Addr} {o o' : HO}
theorem sNew (h : H p = none) : Same H (upd H p o) := fun a u e => by rw [upd_ne (ne_of_none e h)]; exact e
theorem sBoth (s : Same I H) : Same (upd I p o) (upd H p o) := fun a u e => by
  by_cases q : a = p
  · subst q; rw [upd_same] at e ⊢; exact e
  · rw [upd_ne q] at e ⊢; exact s a u e
theorem sUnder (s : Same I H) (h : I p = none) : Same I (upd H p o) := fun a u e => by
  rw [upd_ne (ne_of_none e h)]; exact s a u e
theorem sNone (s : Same I H) (h : H p = none) : I p = none := s.free h
theorem Gr.refl (s : Same I H) : Gr ms I H I H := ⟨Same.refl I, s, fun _ _ _ e => e, fun _ o e => ⟨o, e⟩, fun _ _ e _ => e⟩
theorem Gr.trans (a : Gr ms I H I' H') (b : Gr ms I' H' I'' H'') : Gr ms I H I'' H'' :=
  ⟨a.ii.trans b.ii, b.ih, fun x o n e => b.hh x o n (a.hh x o n e), fun x o e => by obtain ⟨u, q⟩ := a.th x o e; exact b.th x u q,
    fun x o e1 e2 => by obtain ⟨u, q⟩ := a.th x o e2; exact b.nw x u (a.nw x o e1 e2) q⟩
theorem Gr.mono (a : Gr ms I H I' H') (h : ∀ x ∈ ms, x ∈ ns) : Gr ns I H I' H' := ⟨a.ii, a.ih, fun x o n e => a.hh x o (fun z => n (h x z)) e, a.th, a.nw⟩
theorem Gr.nil (a : Gr [] I H I' H') : Gr ms I H I' H' := a.mono (fun _ z => nomatch z)
/-- a new thing that stays as it is -/
theorem Gr.new (s : Same I H) (h : H p = none) : Gr ms I H (upd I p o) (upd H p o) :=
  ⟨sNew (s.free h), sBoth s, fun _ _ _ e => sNew h _ _ e, fun _ u e => ⟨u, sNew h _ _ e⟩, fun a u e1 e2 => by rw [upd_ne (ne_of_none e2 h)]; exact e1⟩
/-- a new thing that may change -/
theorem Gr.tmp (s : Same I H) (h : H p = none) : Gr ms I H I (upd H p o) :=
  ⟨Same.refl I, sUnder s (s.free h), fun _ _ _ e => sNew h _ _ e, fun _ u e => ⟨u, sNew h _ _ e⟩, fun a u e1 _ => e1⟩
/-- a change -/
theorem Gr.mut (s : Same I H) (hi : I m = none) (hm : m ∈ ms) : Gr ms I H I (upd H m o) :=
  ⟨Same.refl I, sUnder s hi, fun a u n e => by rw [upd_ne (fun (z : a = m) => n (z ▸ hm))]; exact e,
    fun a u e => by
      by_cases q : a = m
      · subst q; exact ⟨_, upd_same⟩
      · exact ⟨u, by rw [upd_ne q]; exact e⟩, fun a u e1 _ => e1⟩
/-- what was new and may have changed stays from here on as it is -/
theorem Gr.frz (g : Gr (m :: ms) I H I' H') (s : Same I H) (h : H m = none) (e : H' m = some o) : Gr ms I H (upd I' m o) H' := by
  have h1 : ∀ a u, H a = some u → a ≠ m := fun a u q => ne_of_none q h
  refine ⟨fun a u q => ?_, fun a u q => ?_, fun a u n q => ?_, g.th, fun a u e1 e2 => ?_⟩
  · rw [upd_ne (h1 a u (s a u q))]; exact g.ii a u q
  · by_cases z : a = m
    · subst z; rw [upd_same] at q; rw [← q]; exact e
    · rw [upd_ne z] at q; exact g.ih a u q
  · exact g.hh a u (fun z => (List.mem_cons.mp z).elim (h1 a u q) n) q
  · rw [upd_ne (h1 a u e2)]; exact g.nw a u e1 e2
/-- a mutable thing that is not in I stays out of it -/
theorem Gr.out (g : Gr ms I H I' H') (hi : I m = none) (h : H m = some o) : I' m = none := g.nw m o hi h
theorem Gr.at (g : Gr ms I H I' H') (h : H m = some o) (n : m ∉ ms) : H' m = some o := g.hh m o n h
end

/-! What a value is, by the part that stays. -/
abbrev Rp (α : Type) := Hp → V → α → Prop
class Mono {α : Type} (R : Rp α) : Prop where
  up : ∀ {H H' : Hp} {v : V} {x : α}, Same H H' → R H v x → R H' v x
section
variable {α β : Type}
def iI : Rp Int := fun _ v i => v = .int i
def iN : Rp Nat := fun _ v i => v = .int (i : Int)
def iB : Rp Bool := fun _ v b => v = .bl b
def iS : Rp Str := fun _ v z => v = .str z
/-- a list, a tuple of things of one kind -/
inductive All2 (R : V → α → Prop) : List V → List α → Prop where
  | nil : All2 R [] []
  | cons {v : V} {x : α} {vs : List V} {xs : List α} (h : R v x) (t : All2 R vs xs) : All2 R (v :: vs) (x :: xs)
def iL (R : Rp α) : Rp (List α) := fun H v xs => ∃ a vs, v = .ref a ∧ H a = some (.lst vs) ∧ All2 (R H) vs xs
def iT (R : Rp α) : Rp (List α) := fun H v xs => ∃ a vs, v = .ref a ∧ H a = some (.tup vs) ∧ All2 (R H) vs xs
def iP (R : Rp α) (S : Rp β) : Rp (α × β) := fun H v p => ∃ a x y, v = .ref a ∧ H a = some (.tup [x, y]) ∧ R H x p.1 ∧ S H y p.2
theorem All2.mono {R S : V → α → Prop} (h : ∀ v x, R v x → S v x) : ∀ {vs : List V} {xs : List α}, All2 R vs xs → All2 S vs xs
  | _, _, .nil => .nil
  | _, _, .cons a t => .cons (h _ _ a) (t.mono h)
theorem All2.len {R : V → α → Prop} : ∀ {vs : List V} {xs : List α}, All2 R vs xs → vs.length = xs.length
  | _, _, .nil => rfl
  | _, _, .cons _ t => congrArg Nat.succ t.len
theorem All2.get {R : V → α → Prop} : ∀ {vs : List V} {xs : List α} {i : Nat} {v : V}, All2 R vs xs → vs[i]? = some v → ∃ x, xs[i]? = some x ∧ R v x
  | _, _, _, _, .nil, e => by simp at e
  | _, _, 0, _, .cons a t, e => by simp at e; subst e; exact ⟨_, rfl, a⟩
  | _, _, i + 1, v, .cons a t, e => by
    obtain ⟨x, h1, h2⟩ := All2.get (i := i) (v := v) t (by simpa using e)
    exact ⟨x, by simpa using h1, h2⟩
theorem All2.get' {R : V → α → Prop} : ∀ {vs : List V} {xs : List α} {i : Nat} {x : α}, All2 R vs xs → xs[i]? = some x → ∃ v, vs[i]? = some v ∧ R v x
  | _, _, _, _, .nil, e => by simp at e
  | _, _, 0, _, .cons a t, e => by simp at e; subst e; exact ⟨_, rfl, a⟩
  | _, _, i + 1, v, .cons a t, e => by
    obtain ⟨x, h1, h2⟩ := All2.get' (i := i) (x := v) t (by simpa using e)
    exact ⟨x, by simpa using h1, h2⟩
theorem All2.append {R : V → α → Prop} : ∀ {vs ws : List V} {xs ys : List α}, All2 R vs xs → All2 R ws ys → All2 R (vs ++ ws) (xs ++ ys)
  | _, _, _, _, .nil, h => h
  | _, _, _, _, .cons a t, h => .cons a (t.append h)
theorem All2.set {R : V → α → Prop} : ∀ {vs : List V} {xs : List α} (i : Nat) {v : V} {x : α}, All2 R vs xs → R v x → All2 R (vs.set i v) (xs.set i x)
  | _, _, _, _, _, .nil, _ => .nil
  | _, _, 0, _, _, .cons _ t, h => .cons h t
  | _, _, i + 1, _, _, .cons a t, h => .cons a (t.set i h)
theorem All2.ints : ∀ {xs : List Int} {vs : List V}, All2 (fun v x => v = V.int x) vs xs → vs = xs.map V.int
  | _, _, .nil => rfl
  | _, _, .cons a t => by rw [a, t.ints]; rfl
theorem All2.ofInts {H : Hp} : ∀ (xs : List Int), All2 (iI H) (xs.map V.int) xs
  | [] => .nil
  | x :: r => .cons rfl (All2.ofInts r)
instance : Mono iI := ⟨fun _ h => h⟩
instance : Mono iN := ⟨fun _ h => h⟩
instance : Mono iB := ⟨fun _ h => h⟩
instance : Mono iS := ⟨fun _ h => h⟩
instance {R : Rp α} [m : Mono R] : Mono (iL R) := ⟨fun s ⟨a, vs, e, h, t⟩ => ⟨a, vs, e, s _ _ h, t.mono fun _ _ => m.up s⟩⟩
instance {R : Rp α} [m : Mono R] : Mono (iT R) := ⟨fun s ⟨a, vs, e, h, t⟩ => ⟨a, vs, e, s _ _ h, t.mono fun _ _ => m.up s⟩⟩
instance {R : Rp α} {S : Rp β} [m : Mono R] [n : Mono S] : Mono (iP R S) := ⟨fun s ⟨a, x, y, e, h, p, q⟩ => ⟨a, x, y, e, s _ _ h, m.up s p, n.up s q⟩⟩
theorem up {R : Rp α} [m : Mono R] {H H' : Hp} {v : V} {x : α} (s : Same H H') (h : R H v x) : R H' v x := m.up s h
end
end Tk

set_option Elab.async false
set_option linter.all false
set_option maxRecDepth 100000
set_option maxHeartbeats 4000000
/-! The head: what the top leaves, told by one Bool and the defs' own texts. -/
namespace Tk
open PySem PySem.Spec PyProof.Rows L2
def obsY (ex : PySem.W.Frag → Bool) (fn : List He.DefD) (K : PySem.W.Frag) : He.AlD := (ex K && fn.all fun d => d.ok K, fn.map fun d => He.fnW K d.at_)
def SaysY (ex : PySem.W.Frag → Bool) (fn : List He.DefD) (K : PySem.W.Frag) : Prop := obsY ex fn K = He.valD fn
def obsYG (n : Nat) (ex : PySem.W.Frag → Bool) (fn : List He.DefD) (g : Addr → Option Obj) : He.AlD := obsY ex fn (He.frG g (He.asD g n))
def hookY (n : Nat) (ex : PySem.W.Frag → Bool) (fn : List He.DefD) : PySem.W.Hook :=
  { α := He.AlD, obs := fun s => obsYG n ex fn s.heap.get?, val := fun _ => He.valD fn, says := fun _ h => ∃ K : PySem.W.Frag, K.In h ∧ SaysY ex fn K,
    of := fun _ _ e => ⟨_, He.frG_in, e⟩, keeps := fun _ _ _ z k => by obtain ⟨K, hK, c⟩ := z; exact ⟨K, PySem.W.Frag.In.keeps hK k, c⟩ }
theorem obsYG_eq {n : Nat} {ex : PySem.W.Frag → Bool} {fn : List He.DefD} {g : Addr → Option Obj} {s : Shared} (h : ∀ a, g a = s.heap.get? a) : obsYG n ex fn g = (hookY n ex fn).obs s := by
  rw [show g = s.heap.get? from funext h]; rfl
section
variable {ex : PySem.W.Frag → Bool} {fn : List He.DefD} {K : PySem.W.Frag}
theorem SaysY.more (c : SaysY ex fn K) : ex K = true := (He.ba (show (ex K && fn.all fun d => d.ok K) = true from congrArg (fun z : He.AlD => z.1) c)).1
theorem SaysY.get (c : SaysY ex fn K) (i : Nat) {d : He.DefD} (h : fn[i]? = some d := by rfl) : ∃ fd, FunD K d.name d.qual d.params d.body d.scope (d.dvs K) (d.kws K) (He.fAd K d.at_) fd := by
  have c2 := (He.ba (show (ex K && fn.all fun d => d.ok K) = true from congrArg (fun z : He.AlD => z.1) c)).2
  have e : fn.map (fun d => He.fnW K d.at_) = fn.map He.DefD.val := congrArg (fun z : He.AlD => z.2) c
  have e2 := congrArg (fun l : List He.FnW => l[i]?) e
  simp only [List.getElem?_map, h] at e2
  exact He.DefD.funD (Option.some.inj e2) (List.all_eq_true.mp c2 d (List.mem_of_getElem? h))
end
def blB (K : PySem.W.Frag) (x : Str) (id : String) : Bool := He.eqO (PySem.W.nsIn K mainGlobals x) (some (some (.builtin id)))
def instB (K : PySem.W.Frag) (x : Str) : Bool :=
  He.eqO (PySem.W.findIn K (.ref (He.ga K x)) "__class__") (some (some (.builtin "object.__class__"))) &&
  (He.eqO (PySem.W.specialIn K (.builtin "object.__class__") "__get__") (some (some (.builtin "getset_descriptor.__get__"))) &&
  (decide (PySem.W.takesIn K (.builtin "object.__class__") = some true) && decide (PySem.W.mroIn K (He.ga K x) (.type "object") = some true)))
def isEB (K : PySem.W.Frag) (x : Str) : Bool :=
  He.eqO (PySem.W.findIn K (.ref (He.ga K x)) "__getattribute__") (some (some (.builtin "BaseException.__getattribute__"))) &&
  (He.eqO (PySem.W.findIn K (.ref (He.ga K x)) "__getattr__") (some none) &&
  (decide (PySem.W.subIn K (.ref (He.ga K x)) (.type "BaseException") = some true) && (PySem.W.hasDictIn K (He.ga K x) && instB K x)))
section
variable {K : PySem.W.Frag} {h : Heap} {mg : Str → Option Value} {x : Str} {id : String}
theorem blB_ok (X : K.In h) (G : h.Ns mainGlobals mg) (c : blB K x id = true) : mg x = some (.builtin id) := PySem.W.mg_of X G (He.eqO_ok c)
structure InstC (K : PySem.W.Frag) (C : Addr) : Prop where
  ha : PySem.W.findIn K (.ref C) "__class__" = some (some (.builtin "object.__class__"))
  hn : PySem.W.specialIn K (.builtin "object.__class__") "__get__" = some (some (.builtin "getset_descriptor.__get__"))
  ht : PySem.W.takesIn K (.builtin "object.__class__") = some true
  hm : PySem.W.mroIn K C (.type "object") = some true
theorem instB_ok (c : instB K x = true) : InstC K (He.ga K x) := by
  obtain ⟨c1, c⟩ := He.ba c
  obtain ⟨c2, c⟩ := He.ba c
  obtain ⟨c3, c4⟩ := He.ba c
  exact ⟨He.eqO_ok c1, He.eqO_ok c2, of_decide_eq_true c3, of_decide_eq_true c4⟩
theorem isEB_ok (c : isEB K x = true) : ExcC K (He.ga K x) := by
  obtain ⟨c1, c⟩ := He.ba c
  obtain ⟨c2, c⟩ := He.ba c
  obtain ⟨c3, c⟩ := He.ba c
  obtain ⟨c4, c5⟩ := He.ba c
  have i := instB_ok c5
  exact { hg := He.eqO_ok c1, hk := He.eqO_ok c2, hs := of_decide_eq_true c3, hd := c4, ha := i.ha, hn := i.hn, ht := i.ht, hm := i.hm }
theorem InstC.ty {H : Hp} {C a dx : Addr} {fs : List (Str × V)} (i : InstC K C) (cl : Cls K C) (e : H a = some (.ins C dx fs)) : TyX K H (.ref a) (.ref C) := .base (.ins e cl i.ha i.hn i.ht i.hm)
end
end Tk

set_option Elab.async false
set_option linter.all false
set_option maxRecDepth 100000
set_option maxHeartbeats 4000000
/-! A def that stands and keeps its promise; how it is called. -/
namespace Tk
open PySem PySem.Spec PyProof.Rows L2
def Has (P : Program) (w : World) (K : PySem.W.Frag) (mg : Str → Option Value) (base : Heap) (k : Nat) (f : Addr) (ps : List Str) (dvs : List V) (sp : Sp) : Prop :=
  PySem.W.keepIn K (.ref f) = true ∧ ∃ (fd : FuncData) (ds : List Value), Vals dvs ds ∧ Binds K fd ps ds ∧ FnOk P w K mg base (L2.CX P w) k f fd ps sp
theorem Has.mono {P : Program} {w : World} {K : PySem.W.Frag} {mg : Str → Option Value} {base : Heap} {j k : Nat} {f : Addr} {ps : List Str} {dvs : List V} {sp : Sp} (h : Has P w K mg base j f ps dvs sp) (l : j ≤ k) : Has P w K mg base k f ps dvs sp := by
  obtain ⟨a, fd, ds, b, c, F⟩ := h
  exact ⟨a, fd, ds, b, c, F.mono l⟩
section
variable {X : Cx} {k : Nat} {f C : Addr} {ps : List Str} {sp : Sp} {dvs : List V} {E : XK} {x m : Str} {p pos apos : Pos} {e o : Expr} {es : List Expr} {ta : TE} {t : TA}
abbrev HasX (X : Cx) := Has X.prog X.w X.K X.mg X.base
theorem pe_callH (h : HasX X k f ps dvs sp) (hr : Room k X.A) (hg : Gl X x) (hm : X.mg x = some (.ref f)) (hx : Passes (L2.CX X.prog X.w) X E) (ha : PA X (e :: es) t)
    (hdb : (x == ("__debug__" : Str)) = false := by decide) (he : starEach (e :: es) X.env = (false, eval e X.env) :: starEach es X.env := by rfl) (hpl : (backTo pos (starEach es X.env)).any (·.1) = false := by rfl) :
    PE X (.Call (.Name x p) (e :: es) [] pos) (tCall sp dvs E t) := by
  obtain ⟨hk, fd, ds, hd, hb, F⟩ := h
  exact pe_call F hr hg hm hk hb hd hx ha hdb he hpl
theorem pe_methH {pl : Sem Bool} (he : PE X o ta) (c : Cls X.K C) (hm : Meth X.K C m f) (h : HasX X k f ps dvs sp) (hr : Room k X.A) (hx : Passes (L2.CX X.prog X.w) X E) (ha : PA X (e :: es) t)
    (hst : starEach (e :: es) X.env = (false, eval e X.env) :: starEach es X.env := by rfl) (hpl : (backTo pos (starEach es X.env)).any (·.1) = false := by rfl)
    (ht : eval (.Call (.Attribute o m apos) (e :: es) [] pos) X.env = (do
      let ov ← eval o X.env
      standAt apos.atName
      let (f, first) ← holding [ov] (getMethod ov m pl)
      callWith pos f first (backTo pos (starEach (e :: es) X.env)) (backToKw pos (keywordEach [] X.env))) := by rfl) :
    PE X (.Call (.Attribute o m apos) (e :: es) [] pos) (tMeth C m sp dvs E ta t) := by
  obtain ⟨hk, fd, ds, hd, hb, F⟩ := h
  exact pe_meth (pl := pl) he c hm F hr hb hd hx ha hst hpl ht
theorem pe_makeH (M : Mk X.K C f) (h : HasX X k f ps dvs sp) (hr : Room (k + 1) X.A) (hg : Gl X x) (hm : X.mg x = some (.ref C)) (hx : Passes (L2.CX X.prog X.w) X E) (ha : PA X (e :: es) t)
    (hdb : (x == ("__debug__" : Str)) = false := by decide) (he : starEach (e :: es) X.env = (false, eval e X.env) :: starEach es X.env := by rfl) (hpl : (backTo pos (starEach es X.env)).any (·.1) = false := by rfl) :
    PE X (.Call (.Name x p) (e :: es) [] pos) (tMake C sp dvs E t) := by
  obtain ⟨hk, fd, ds, hd, hb, F⟩ := h
  exact pe_make M F hr hg hm hb hd hx ha hdb he hpl
theorem op_ownH {op : Operator} (h : HasX X k f ps [] sp) (hr : Room k X.A) (hx : Passes (L2.CX X.prog X.w) X E)
    (hc : PySem.W.selfFirst X.K C = true) (hm : Meth X.K C (PySem.dunder op.info.2) f) : OpR X (binaryOp op) (rOwn C sp E) := by
  obtain ⟨hk, fd, ds, hd, hb, F⟩ := h
  cases hd
  exact op_own F hr hb hx hc hm.at_ hm.fn
theorem op_eqOwnH (h : HasX X k f ps [] sp) (hr : Room k X.A) (hx : Passes (L2.CX X.prog X.w) X E) (hm : Meth X.K C "__eq__" f) : OpR X (compareOp .Eq) (rOwn C sp E) := by
  obtain ⟨hk, fd, ds, hd, hb, F⟩ := h
  cases hd
  exact op_eqOwn F hr hb hx hm.at_ hm.fn
theorem call_strOwnH (h : HasX X k f ps [] sp) (hr : Room (k + 2) X.A) (hx : Passes (L2.CX X.prog X.w) X E) (hm : Meth X.K C "__str__" f) : CallR X (.type "str") (rStrOwn C sp E) := by
  obtain ⟨hk, fd, ds, hd, hb, F⟩ := h
  cases hd
  exact call_strOwn F hr hb hx hm.at_ hm.fn
/-- a class called with keywords alone -/
def HasK (P : Program) (w : World) (K : PySem.W.Frag) (mg : Str → Option Value) (base : Heap) (k : Nat) (f : Addr) (ps : List Str) (n : Nat) (ks : List Str) (gV : List V → List V → List V) (sp : Sp) : Prop :=
  ∃ (fd : FuncData) (g : List Value → List Value → List Value), KBn K fd ps n ks g gV ∧ FnOk P w K mg base (L2.CX P w) k f fd ps sp
/-- the law's own def, as the end wants it -/
def IsLaw (P : Program) (w : World) (K : PySem.W.Frag) (mg : Str → Option Value) (base : Heap) (k : Nat) (f : Addr) (fd : FuncData) (ps : List Str) (sp : Sp) : Prop := FnOk P w K mg base (L2.CX P w) k f fd ps sp
end

/-! a def of no defaults: from its body to what it is -/
section
variable {P : Program} {w : World} {K : PySem.W.Frag} {mg : Str → Option Value} {base : Heap} {x qual : Str} {st : Stmt} {f : Addr} {fd : FuncData} {N ps : List Str} {k : Nat} {sp : Sp}
abbrev FnQ (K : PySem.W.Frag) (x q : Str) (st : Stmt) (ds : List V) (f : Addr) (fd : FuncData) : Prop := FunD K x q (defArgs st) (defBody st) (defScope st) ds [] f fd
/-- nothing is raised -/
theorem hasN (F : FnQ K x qual st [] f fd) (b : Binds K fd ps []) (S : FnScope N ps (defScope st)) (len : ∀ vs H Q E, sp vs H Q E → vs.length = ps.length)
    (hbody : ∀ (cdv : Value) (A : Around) (outer : List Env) (s : Shared) (H : Hp) (vs : List V) (Q : VK) (E : XK), Room k (A.deeper (envOfC qual (defScope st) s.heap.objs.size f cdv)) → sp vs H Q E →
      ∃ t, PSs (cxOf (L2.CX P w) P w K mg base N qual (defScope st) f cdv A outer s H E).nox (defBody st) t ∧ t { nx := fun _ H' => Q .non H', rt := Q } (start N vs) H) :
    Has P w K mg base (k + 1) f ps [] sp :=
  ⟨F.kp, fd, [], .nil, b, F.ok S len fun cdv A outer s H vs Q E hr h => by obtain ⟨t, h1, h2⟩ := hbody cdv A outer s H vs Q E hr h; exact ⟨t, h1.nox, h2⟩⟩
theorem hasX (F : FnQ K x qual st [] f fd) (b : Binds K fd ps []) (S : FnScope N ps (defScope st)) (len : ∀ vs H Q E, sp vs H Q E → vs.length = ps.length)
    (hbody : ∀ (cdv : Value) (A : Around) (outer : List Env) (s : Shared) (H : Hp) (vs : List V) (Q : VK) (E : XK), Room k (A.deeper (envOfC qual (defScope st) s.heap.objs.size f cdv)) → sp vs H Q E →
      ∃ t, PSs (cxOf (L2.CX P w) P w K mg base N qual (defScope st) f cdv A outer s H E) (defBody st) t ∧ t { nx := fun _ H' => Q .non H', rt := Q } (start N vs) H) :
    Has P w K mg base (k + 1) f ps [] sp :=
  ⟨F.kp, fd, [], .nil, b, F.ok S len hbody⟩
end

/-! one step of a reading -/
theorem ifT {c : Bool} {A B : Prop} (hc : c = true) (h : A) : if c = true then A else B := by rw [if_pos hc]; exact h
theorem ifF {c : Bool} {A B : Prop} (hc : c = false) (h : B) : if c = true then A else B := by rw [hc]; exact iteF h
theorem ifD {p : Prop} [Decidable p] {A B : Prop} (h1 : p → A) (h2 : ¬ p → B) : if (decide p) = true then A else B := by
  by_cases h : p
  · rw [if_pos (decide_eq_true h)]; exact h1 h
  · rw [if_neg (by rw [decide_eq_false h]; exact Bool.false_ne_true)]; exact h2 h
theorem ifB {c : Bool} {A B : Prop} (h1 : c = true → A) (h2 : c = false → B) : if c = true then A else B := by
  cases c with
  | true => exact iteT (h1 rfl)
  | false => exact iteF (h2 rfl)
end Tk

set_option Elab.async false
set_option linter.all false
set_option maxRecDepth 100000
set_option maxHeartbeats 4000000
/-! Cuts: what holds between two statements, behind a loop. -/
namespace Tk
open PySem PySem.Spec PyProof.Rows L2
theorem seq_cut {s1 s2 : TS} {D : Ends} {σ : L2.St} {H : Hp} (Mid : L2.St → Hp → Prop) (h1 : ∀ nx : L2.St → Hp → Prop, (∀ σ' H', Mid σ' H' → nx σ' H') → s1 { D with nx := nx } σ H) (h2 : ∀ σ' H', Mid σ' H' → s2 D σ' H') : tSeq s1 s2 D σ H :=
  h1 (s2 D) h2
theorem for_rangeP {lo : Int} {n : Nat} {g : TG} {tb : TS} {D : Ends} {σ : L2.St} {H : Hp} (Post : L2.St → Hp → Prop) (Pv : Nat → L2.St → Hp → Prop) (h0 : Pv 0 σ H)
    (hs : ∀ nx : L2.St → Hp → Prop, (∀ σ' H', Post σ' H' → nx σ' H') → ∀ i σ H, i < n → Pv i σ H → g (.int (lo + i)) σ H fun σ2 H2 => tb { D with nx := Pv (i + 1), ct := Pv (i + 1), bk := nx } σ2 H2)
    (hd : ∀ σ H, Pv n σ H → Post σ H) (fin : ∀ σ' H', Post σ' H' → D.nx σ' H') :
    ∃ W : Nat → Nat → L2.St → Hp → Prop, (∃ m, W 0 m σ H) ∧ ∀ i m σ H, W i m σ H →
      ((Itr lo n).stop i H ∧ D.nx σ H) ∨ ((Itr lo n).go i H ∧ ∃ N : L2.St → Hp → Prop, (∀ σ' H', N σ' H' → ∃ m', m' < m ∧ W (i + 1) m' σ' H') ∧ ∀ x H', (Itr lo n).yld i H x H' → g x σ H' fun σ2 H2 => tb { D with nx := N, ct := N, bk := D.nx } σ2 H2) :=
  for_range Pv h0 (hs D.nx fin) (fun σ H p => fin σ H (hd σ H p))
theorem ix_l {K : PySem.W.Frag} {H : Hp} {a : Addr} {xs : List V} {j : Nat} {v : V} {i : Int} {Q : VK} (h : SqL K H a xs) (e : i = (j : Int)) (hj : xs[j]? = some v) (k : Q v H) : rIxL K (.ref a) (.int i) H Q := ⟨a, xs, i, v, rfl, rfl, h, at_of e hj, k⟩
theorem ix_t {K : PySem.W.Frag} {H : Hp} {a : Addr} {xs : List V} {j : Nat} {v : V} {i : Int} {Q : VK} (h : SqT K H a xs) (e : i = (j : Int)) (hj : xs[j]? = some v) (k : Q v H) : rIxT K (.ref a) (.int i) H Q := ⟨a, xs, i, v, rfl, rfl, h, at_of e hj, k⟩
end Tk
namespace Tk
open PySem PySem.Spec PyProof.Rows L2
section
variable {P : Program} {w : World} {K : PySem.W.Frag} {mg : Str → Option Value} {base : Heap} {x qual : Str} {st : Stmt} {f : Addr} {fd : FuncData} {N ps : List Str} {k : Nat} {sp sp' : Sp} {CX : CXT}
theorem fnOr (A : FnOk P w K mg base CX k f fd ps sp) (B : FnOk P w K mg base CX k f fd ps sp') : FnOk P w K mg base CX k f fd ps (fun vs H Q E => sp vs H Q E ∨ sp' vs H Q E) :=
  ⟨fun vs H Q E h => h.elim (A.len vs H Q E) (B.len vs H Q E), fun A' outer s H args us vs Q E hr he hb hv h => h.elim (A.run A' outer s H args us vs Q E hr he hb hv) (B.run A' outer s H args us vs Q E hr he hb hv)⟩
theorem fnN (F : FnQ K x qual st [] f fd) (S : FnScope N ps (defScope st)) (len : ∀ vs H Q E, sp vs H Q E → vs.length = ps.length)
    (hbody : ∀ (cdv : Value) (A : Around) (outer : List Env) (s : Shared) (H : Hp) (vs : List V) (Q : VK) (E : XK), Room k (A.deeper (envOfC qual (defScope st) s.heap.objs.size f cdv)) → sp vs H Q E →
      ∃ t, PSs (cxOf (L2.CX P w) P w K mg base N qual (defScope st) f cdv A outer s H E).nox (defBody st) t ∧ t { nx := fun _ H' => Q .non H', rt := Q } (start N vs) H) :
    FnOk P w K mg base (L2.CX P w) (k + 1) f fd ps sp :=
  F.ok S len fun cdv A outer s H vs Q E hr h => by obtain ⟨t, h1, h2⟩ := hbody cdv A outer s H vs Q E hr h; exact ⟨t, h1.nox, h2⟩
end
end Tk

set_option Elab.async false
set_option linter.all false
set_option maxRecDepth 100000
set_option maxHeartbeats 4000000
/-! Errors: calls in a try, isinstance of what was caught. -/
namespace Tk
open PySem PySem.Spec PyProof.Rows L2
section
variable {X : Cx} {k : Nat} {f C : Addr} {ps : List Str} {sp : Sp} {dvs : List V} {E : L2.St → XK} {x m : Str} {p pos apos : Pos} {e o : Expr} {es : List Expr} {ta : TE} {t : TA}
/-- C(e, ..) in a try: what is raised is wished for at the slots as they are -/
def tMakeS (C : Addr) (sp : Sp) (dvs : List V) (E : L2.St → XK) (t : TA) : TE := fun σ H Q => t σ H fun vs H1 => ∀ x dx, H1 x = none → H1 dx = none → dx ≠ x →
  sp (.ref x :: (vs ++ dvs)) (upd (upd H1 dx (.own x)) x (.ins C dx [])) (fun v H2 => v = .non ∧ Q (.ref x) H2) (E σ)
theorem pe_makeSH (M : Mk X.K C f) (h : HasX X k f ps dvs sp) (hr : Room (k + 1) X.A) (hg : Gl X x) (hm : X.mg x = some (.ref C)) (hx : ∀ σ, PassesAt (L2.CX X.prog X.w) X σ (E σ)) (ha : PA X (e :: es) t)
    (hdb : (x == ("__debug__" : Str)) = false := by decide) (he : starEach (e :: es) X.env = (false, eval e X.env) :: starEach es X.env := by rfl) (hpl : (backTo pos (starEach es X.env)).any (·.1) = false := by rfl) :
    PE X (.Call (.Name x p) (e :: es) [] pos) (tMakeS C sp dvs E t) := by
  obtain ⟨_, fd, ds, hd, hb, F⟩ := h
  constructor
  intro pins s σ H Q I hq0
  refine wpAny_Call_Name_kw (ld_glob I hg hm (PySem.W.callWith_K (h₀ := X.base) I.ok.mod.kin M.kp (thn (ha.run pos pins s σ H _ I hq0) ?_) he hpl) hdb)
  rintro us s1 ⟨vs, H1, I1, r, q⟩
  refine ⟨I1.kIn, ?_⟩
  have q' := q (s1.heap.objs.size + 1) s1.heap.objs.size (I1.hok.fresh (Nat.le_succ _)) (I1.hok.fresh (Nat.le_refl _)) (Nat.ne_of_lt (Nat.lt_succ_self _))
  have I2 := Inv.made (C := C) I1
  have rr : Vals (V.ref (s1.heap.objs.size + 1) :: (vs ++ dvs)) (Value.ref (s1.heap.objs.size + 1) :: us ++ ds) := .cons rfl (r.append hd)
  have hl := rr.length.symm.trans (F.len _ _ _ _ q')
  have go := F.run _ X.stack _ _ ⟨Value.ref (s1.heap.objs.size + 1) :: us, []⟩ _ _ _ _ (hr.make C us []) (I2.env0.make C us []) (hb _ _ I2.kIn hl) rr q'
  refine wpAny_call (make_map (f := f) I1.kIn M.makes M.init (beq_iff_eq.mp M.fn) (codeAny_mono go ?_))
  intro res s' z
  cases res with
  | error err => exact hx σ pins _ _ err s' I2 z
  | ok fl => cases fl with
    | ret u =>
      obtain ⟨v, H', I3, rv, ev, q3⟩ := I2.after z
      subst ev
      exact ⟨rv, V.ref (s1.heap.objs.size + 1), H', I3, rfl, q3⟩
    | _ => exact False.elim z
/-- o.m(e, ..) in a try -/
def tMethS (C : Addr) (m : Str) (sp : Sp) (dvs : List V) (E : L2.St → XK) (ta : TE) (t : TA) : TE := fun σ H Q => ta σ H fun x H1 => ∃ a dx fs, x = .ref a ∧ H1 a = some (.ins C dx fs) ∧ fs.lookup m = none ∧
  t σ H1 fun vs H2 => sp (x :: (vs ++ dvs)) H2 Q (E σ)
theorem pe_methSH {pl : Sem Bool} (he : PE X o ta) (c : Cls X.K C) (hm : Meth X.K C m f) (h : HasX X k f ps dvs sp) (hr : Room k X.A) (hx : ∀ σ, PassesAt (L2.CX X.prog X.w) X σ (E σ)) (ha : PA X (e :: es) t)
    (hst : starEach (e :: es) X.env = (false, eval e X.env) :: starEach es X.env := by rfl) (hpl : (backTo pos (starEach es X.env)).any (·.1) = false := by rfl)
    (ht : eval (.Call (.Attribute o m apos) (e :: es) [] pos) X.env = (do
      let ov ← eval o X.env
      standAt apos.atName
      let (f, first) ← holding [ov] (getMethod ov m pl)
      callWith pos f first (backTo pos (starEach (e :: es) X.env)) (backToKw pos (keywordEach [] X.env))) := by rfl) :
    PE X (.Call (.Attribute o m apos) (e :: es) [] pos) (tMethS C m sp dvs E ta t) := by
  obtain ⟨_, fd, ds, hd, hb, F⟩ := h
  constructor
  intro pins s σ H Q I hq0
  refine PySem.W.methodCall_KW (pl := pl) (thn (he.run pins s σ H _ I hq0) ?_) ht
  rintro u s1 ⟨x, H1, I1, rx, a, dx, fs, rfl, ea, l, q⟩
  cases rx
  refine getmeth_ok I1 ea c hm l (PySem.W.callWith_K (first := [.ref a]) (h₀ := X.base) I.ok.mod.kin hm.kp (thn (ha.run pos pins s1 σ H1 _ I1 q) ?_) hst hpl)
  rintro us s2 ⟨vs, H2, I2, r, q2⟩
  exact ⟨I2.kIn, run_fnSD (us := .ref a :: us) (vs := .ref a :: vs) F hr hb hd (hx σ) I2 (.cons rfl r) q2⟩
/-- isinstance of the caught exception, its class D (no fields) told by the reading -/
def rIsEq (K : PySem.W.Frag) (D a : Addr) (cls : Value) (d : Option Addr) : List V → Hp → VK → Prop := fun xs H Q => cls = .ref D ∧ d = none ∧ rIsE K D a xs H Q
theorem call_isEq {a D : Addr} {oe : Obj} {cls : Value} {d : Option Addr} {pn : List (Addr × Obj)} (c : ExcC X.K D) (hz : Zc cls d oe) (hf : ∃ vs, oe.data = .fields vs) : CallR (X.suite a ((a, oe) :: pn)) (.builtin "isinstance") (rIsEq X.K D a cls d) := by
  intro pins s σ H xs us Q I r h
  obtain ⟨rfl, rfl, h⟩ := h
  exact call_isE (X := X) (a := a) (oe := oe) (pn := pn) c hz hf pins s σ H xs us Q I r h
def rIsET (K : PySem.W.Frag) (D a : Addr) (cls : Value) (d : Option Addr) : List V → Hp → VK → Prop := fun xs H Q => cls = .ref D ∧ d = none ∧ ∃ (tp : Addr) (cs : List V) (us : List Value) (b : Bool), xs = [.ref a, .ref tp] ∧ H tp = some (.tup cs) ∧ Paired ClsV cs us ∧ PySem.W.kitAny K (.ref D) us = some b ∧ Q (.bl b) H
theorem call_isET {a D : Addr} {oe : Obj} {cls : Value} {d : Option Addr} {pn : List (Addr × Obj)} (c : ExcC X.K D) (hz : Zc cls d oe) (hf : ∃ vs, oe.data = .fields vs) : CallR (X.suite a ((a, oe) :: pn)) (.builtin "isinstance") (rIsET X.K D a cls d) := by
  intro pins s σ H xs us Q I r h
  obtain ⟨rfl, rfl, tp, cs, ws, b, rfl, htp, hcs, e, q⟩ := h
  obtain ⟨u1, u2, rfl, r1, r2⟩ := vals2 r
  cases r1; cases r2
  obtain ⟨hget, _⟩ := I.pin (a, oe) (List.mem_append.mpr (.inl List.mem_cons_self))
  obtain ⟨vs, hv⟩ := hf
  have J : PySem.W.InstAt s.heap a oe D none := by
    obtain ⟨oc, od, oda, osl⟩ := oe
    obtain ⟨h1, h2⟩ := hz
    dsimp only at h1 h2 hv
    subst h1 h2 hv
    exact ⟨hget, rfl, rfl, trivial⟩
  have ob : ObjOk X.prog X.w H s.heap tp (.tup cs) := I.hok tp _ htp
  obtain ⟨_, its, rv, ⟨oc, od, oda, osl⟩, g1, g2, n, g3⟩ := ob
  dsimp only at g2 g3
  subst g2 g3
  have ew := ClsV.all hcs rv
  subst ew
  exact PySem.W.kia_tup (PySem.W.handS_kitx_exc c.hg c.hk c.hs c.hd c.ha c.hn c.ht c.hm) I.kIn J g1 e (fun z => nomatch z) fun tk => ⟨.bl b, H, I.kept (t' := tk) fun _ _ z => z, rfl, q⟩
end
end Tk
namespace Tk
open PySem PySem.Spec PyProof.Rows L2
theorem cx_none {P : Program} {w : World} {outer : List Env} {H : Hp} {s s' : Shared} {e : Value} (h : L2.CX P w outer H s E0 e s') : False := by
  obtain ⟨_, _, _, _, _, _, _, _, _, _, _, _, z⟩ := h
  exact z
/-- a def that raises nothing, seen so -/
theorem fn0 {P : Program} {w : World} {K : PySem.W.Frag} {mg : Str → Option Value} {base : Heap} {k : Nat} {f : Addr} {fd : FuncData} {ps : List Str} {sp : Sp} (F : FnOk P w K mg base (L2.CX P w) k f fd ps sp) :
    FnOk P w K mg base CX0 k f fd ps (fun vs H Q _ => sp vs H Q E0) :=
  ⟨fun vs H Q _ h => F.len vs H Q E0 h, fun A outer s H args us vs Q E hr he hb hv h => codeAny_mono (F.run A outer s H args us vs Q E0 hr he hb hv h) (fun r s' z => by
    cases r with
    | error e => exact (cx_none z).elim
    | ok fl => cases fl <;> exact z)⟩
end Tk

set_option Elab.async false
set_option linter.all false
set_option maxRecDepth 100000
set_option maxHeartbeats 4000000
/-! Walks over things that stay; the lists that comprehensions make of them. -/
namespace Tk
open PySem PySem.Spec PyProof.Rows L2
/-- a thing walked in n turns, at turn i the value xs i -/
structure Wk (J : It) (n : Nat) (xs : Nat → V) (I : Hp) : Prop where
  go : ∀ i H, Same I H → i < n → J.go i H
  stop : ∀ H, Same I H → J.stop n H
  yld : ∀ i H x H', Same I H → i < n → J.yld i H x H' → x = xs i ∧ H' = H
def gv (vs : List V) (i : Nat) : V := vs.getD i .non
theorem gv_at {vs : List V} {i : Nat} (h : i < vs.length) : vs[i]? = some (gv vs i) := by
  unfold gv; rw [List.getD_eq_getElem?_getD, List.getElem?_eq_getElem h]; rfl
theorem gv_of {vs : List V} {i : Nat} {v : V} (h : vs[i]? = some v) : gv vs i = v := by
  unfold gv; rw [List.getD_eq_getElem?_getD, h]; rfl
section
variable {K : PySem.W.Frag} {I : Hp} {a : Addr} {vs : List V}
theorem wk_list (h : I a = some (.lst vs)) : Wk (Itl K a) vs.length (gv vs) I :=
  ⟨fun i H s hi => ⟨vs, _, SqL.of (s _ _ h), gv_at hi⟩, fun H s => ⟨vs, SqL.of (s _ _ h), Nat.le_refl _⟩,
    fun i H x H' s hi y => ⟨(gv_of (y.2 vs (SqL.of (s _ _ h)))).symm, y.1⟩⟩
theorem wk_tup (h : I a = some (.tup vs)) : Wk (Itt K a) vs.length (gv vs) I :=
  ⟨fun i H s hi => ⟨vs, _, SqT.of (s _ _ h), gv_at hi⟩, fun H s => ⟨vs, SqT.of (s _ _ h), Nat.le_refl _⟩,
    fun i H x H' s hi y => ⟨(gv_of (y.2 vs (SqT.of (s _ _ h)))).symm, y.1⟩⟩
theorem wk_range {lo : Int} {n : Nat} : Wk (Itr lo n) n (fun i => .int (lo + i)) I :=
  ⟨fun i H s hi => hi, fun H s => Nat.le_refl _, fun i H x H' s hi y => ⟨y.2, y.1⟩⟩
/-- a list or a tuple -/
def LtR (K : PySem.W.Frag) (x : V) (H1 : Hp) (R : It → Hp → Prop) : Prop := ∃ a, x = .ref a ∧ (((∃ xs, SqL K H1 a xs) ∧ R (Itl K a) H1) ∨ ((∃ xs, SqT K H1 a xs) ∧ R (Itt K a) H1))
def iLT (K : PySem.W.Frag) (tl : TE) : TI := fun σ H R => tl σ H fun x H1 => LtR K x H1 R
theorem pi_lt {X : Cx} {tg l : Expr} {tl : TE} (hl : PE X l tl) : PI X tg l (iLT X.K tl) := by
  refine ⟨fun pins s σ H R Iv h => ?_⟩
  refine thn (hl.run pins s σ H _ Iv h) fun v s1 q => ?_
  obtain ⟨x, H1, I1, r1, b, rfl, q⟩ := q
  cases r1
  rcases q with ⟨⟨xs, hq⟩, q⟩ | ⟨⟨xs, hq⟩, q⟩
  · have z : ∀ (te : TE) (v : V), True := fun _ _ => trivial
    obtain ⟨its, rv, p, hz⟩ := I1.list hq
    refine wpAny_pyIter_list p.isList ?_
    have ne : ∀ b' o, s1.heap.get? b' = some o → (s1.heap.push { cls := .type "list_iterator", data := .fields #[.ref b, .int 0 0] }).get? b' = some o := fun b' o e => Heap.get?_push_of_some _ e
    refine ⟨s1.heap.objs.size, [s1.heap.objs.size], _, _, H1, rfl, I1.kept (t' := s1.toks) ne, turn_list b s1.heap.objs.size, ⟨_, Heap.get?_push_size _ rfl, rfl, rfl⟩, fun b' hb => ?_, q⟩
    have e : b' = s1.heap.objs.size := by simpa using hb
    subst e
    exact I1.fpOk (Nat.le_refl _) (I1.hok.fresh (Nat.le_refl _))
  · obtain ⟨its, rv, p, hz⟩ := I1.tuple hq
    refine wpAny_pyIter_tuple p ?_
    have ne : ∀ b' o, s1.heap.get? b' = some o → (s1.heap.push { cls := .type "tuple_iterator", data := .fields #[.ref b, .int 0 0] }).get? b' = some o := fun b' o e => Heap.get?_push_of_some _ e
    refine ⟨s1.heap.objs.size, [s1.heap.objs.size], _, _, H1, rfl, I1.kept (t' := s1.toks) ne, turn_tuple b s1.heap.objs.size, ⟨_, Heap.get?_push_size _ rfl, rfl, rfl⟩, fun b' hb => ?_, q⟩
    have e : b' = s1.heap.objs.size := by simpa using hb
    subst e
    exact I1.fpOk (Nat.le_refl _) (I1.hok.fresh (Nat.le_refl _))
end
theorem lt_of {K : PySem.W.Frag} {I H : Hp} {a : Addr} {vs : List V} {R : It → Hp → Prop} (h : I a = some (.lst vs) ∨ I a = some (.tup vs)) (s : Same I H) (k : ∀ J, Wk J vs.length (gv vs) I → R J H) : LtR K (.ref a) H R :=
  ⟨a, rfl, h.elim (fun h => .inl ⟨⟨vs, SqL.of (s _ _ h)⟩, k _ (wk_list h)⟩) fun h => .inr ⟨⟨vs, SqT.of (s _ _ h)⟩, k _ (wk_tup h)⟩⟩
/-- a loop over such a thing -/
theorem for_wk {J : It} {n : Nat} {xs : Nat → V} {I : Hp} {g : TG} {tb : TS} {D : Ends} {σ : L2.St} {H : Hp} (W : Wk J n xs I) (Post : L2.St → Hp → Prop) (Pv : Nat → L2.St → Hp → Prop) (hS : ∀ i σ H, Pv i σ H → Same I H) (h0 : Pv 0 σ H)
    (hs : ∀ nx : L2.St → Hp → Prop, (∀ σ' H', Post σ' H' → nx σ' H') → ∀ i σ H, i < n → Pv i σ H → g (xs i) σ H fun σ2 H2 => tb { D with nx := Pv (i + 1), ct := Pv (i + 1), bk := nx } σ2 H2)
    (hd : ∀ σ H, Pv n σ H → Post σ H) (fin : ∀ σ' H', Post σ' H' → D.nx σ' H') :
    ∃ Wz : Nat → Nat → L2.St → Hp → Prop, (∃ m, Wz 0 m σ H) ∧ ∀ i m σ H, Wz i m σ H →
      (J.stop i H ∧ D.nx σ H) ∨ (J.go i H ∧ ∃ N : L2.St → Hp → Prop, (∀ σ' H', N σ' H' → ∃ m', m' < m ∧ Wz (i + 1) m' σ' H') ∧ ∀ x H', J.yld i H x H' → g x σ H' fun σ2 H2 => tb { D with nx := N, ct := N, bk := D.nx } σ2 H2) := by
  refine ⟨fun i m σ H => m = n - i ∧ i ≤ n ∧ Pv i σ H, ⟨n, rfl, Nat.zero_le _, h0⟩, ?_⟩
  rintro i m σ H ⟨rfl, hi, p⟩
  have s := hS i σ H p
  by_cases hlt : i < n
  · refine .inr ⟨W.go i H s hlt, Pv (i + 1), fun σ' H' p' => ⟨n - (i + 1), by omega, rfl, hlt, p'⟩, fun x H' y => ?_⟩
    obtain ⟨rfl, rfl⟩ := W.yld i H x H' s hlt y
    exact hs D.nx fin i σ _ hlt p
  · have e : i = n := by omega
    subst e
    exact .inl ⟨W.stop H s, fin σ H (hd σ H p)⟩
/-- the rest of a comprehension's reading, behind its iterator -/
abbrev LcR (J : It) (g : TG) (tt : TT) (te : TE) (vs : List Nat) (σ : L2.St) (H1 : Hp) (D : Addr) (Qd : Hp → Prop) : Prop :=
  ∃ W : Nat → Nat → Hp → Prop, (∃ m, W 0 m (upd H1 D (.lst []))) ∧ ∀ i m H, W i m H →
      (J.stop i H ∧ Qd H) ∨ (J.go i H ∧ ∃ Nx : Hp → Prop, (∀ H', Nx H' → ∃ m', m' < m ∧ W (i + 1) m' H') ∧ ∀ x H', J.yld i H x H' → g x (wipe σ vs) H' fun σ2 H2 => wipe σ2 vs = wipe σ vs ∧ tt σ2 H2 fun b H3 =>
        if b = true then te σ2 H3 fun y H4 => ∃ acc, H4 D = some (.lst acc) ∧ acc.length < sizeLine ∧ Nx (upd H4 D (.lst (acc ++ [y]))) else Nx H3)
theorem All2.snoc {α : Type} {R : V → α → Prop} {vs : List V} {xs : List α} {v : V} {x : α} (h : All2 R vs xs) (r : R v x) : All2 R (vs ++ [v]) (xs ++ [x]) := h.append (.cons r .nil)
/-- what a heap's own rule bears: the list under way at D, and that it stays from then on -/
structure Stb (Jv : Hp → Hp → Prop) (D : Addr) : Prop where
  chg : ∀ {I H : Hp} {l : List V}, I D = none → Jv I H → Jv I (upd H D (.lst l))
  frz : ∀ {I H : Hp} {o : HO}, I D = none → Jv I H → Jv (upd I D o) H
theorem stb_true {D : Addr} : Stb (fun _ _ => True) D := ⟨fun _ _ => trivial, fun _ _ => trivial⟩
theorem Gr.drop {m : Addr} {ms : List Addr} {I H I' H' : Hp} (g : Gr (m :: ms) I H I' H') (h : H m = none) : Gr ms I H I' H' :=
  ⟨g.ii, g.ih, fun a o n e => g.hh a o (fun z => (List.mem_cons.mp z).elim (fun q => by rw [q, h] at e; cases e) n) e, g.th, g.nw⟩
/-- a comprehension without tests over such a thing: one element a turn, what it is told by Rl -/
theorem lc_wk {β : Type} {J : It} {n : Nat} {xs : Nat → V} {I H1 : Hp} {g : TG} {tt : TT} {te : TE} {vs : List Nat} {σ : L2.St} {D : Addr} {Qd : Hp → Prop} (ms : List Addr) (Sy : Rp β) [Mono Sy] (Rl : Nat → β → Prop) (Jv : Hp → Hp → Prop)
    (W : Wk J n xs I) (s0 : Same I H1) (hD : H1 D = none) (hm : D ∉ ms) (hn : n < sizeLine) (st : Stb Jv D) (j0 : Jv I H1)
    (step : ∀ (i : Nat) (I' H' : Hp) (Nx : Hp → Prop) (Qk : VK), i < n → Same I I' → Same I' H' → Jv I' H' → (∀ I'' H'' y z, Gr ms I' H' I'' H'' → Jv I'' H'' → Sy I'' y z → Rl i z → Qk y H'') →
      g (xs i) (wipe σ vs) H' fun σ2 H2 => wipe σ2 vs = wipe σ vs ∧ tt σ2 H2 fun b H3 => if b = true then te σ2 H3 Qk else Nx H3)
    (hd : ∀ I' H' ys zs, Gr ms I H1 I' H' → I' D = some (.lst ys) → All2 (Sy I') ys zs → zs.length = n → (∀ i z, zs[i]? = some z → Rl i z) → Jv I' H' → Qd H') :
    LcR J g tt te vs σ H1 D Qd := by
  refine ⟨fun i m H => m = n - i ∧ i ≤ n ∧ ∃ I' ys zs, Gr ms I H1 I' H ∧ I' D = none ∧ H D = some (.lst ys) ∧ All2 (Sy I') ys zs ∧ zs.length = i ∧ (∀ i z, zs[i]? = some z → Rl i z) ∧ Jv I' H,
    ⟨n, rfl, Nat.zero_le _, I, [], [], (Gr.tmp s0 hD), s0.free hD, upd_same, .nil, rfl, fun i z h => by simp at h, st.chg (s0.free hD) j0⟩, ?_⟩
  rintro i m H ⟨rfl, hi, I', ys, zs, gr, hI, hH, a2, hl, rl, jv⟩
  have s : Same I H := gr.ii.trans gr.ih
  by_cases hlt : i < n
  · refine .inr ⟨W.go i H s hlt, fun H' => i + 1 ≤ n ∧ ∃ I' ys zs, Gr ms I H1 I' H' ∧ I' D = none ∧ H' D = some (.lst ys) ∧ All2 (Sy I') ys zs ∧ zs.length = i + 1 ∧ (∀ i z, zs[i]? = some z → Rl i z) ∧ Jv I' H',
      fun H' p => ⟨n - (i + 1), by omega, rfl, p.1, p.2⟩, fun x H' y => ?_⟩
    obtain ⟨rfl, rfl⟩ := W.yld i H x H' s hlt y
    refine step i I' H' _ _ hlt gr.ii gr.ih jv fun I'' H'' y z g2 jv2 sy r => ?_
    have hD2 : H'' D = some (.lst ys) := g2.at hH hm
    have hI2 : I'' D = none := g2.out hI hH
    refine ⟨ys, hD2, by rw [a2.len, hl]; omega, hlt, I'', ys ++ [y], zs ++ [z], ?_, hI2, upd_same, (a2.mono fun _ _ => up g2.ii).snoc sy, by rw [List.length_append, hl]; rfl, fun j u hu => ?_, st.chg hI2 jv2⟩
    · have g3 := gr.trans g2
      exact ((g3.mono (ns := D :: ms) fun _ z => List.mem_cons_of_mem _ z).trans (Gr.mut g3.ih hI2 List.mem_cons_self)).drop hD
    · by_cases hj : j < zs.length
      · rw [List.getElem?_append_left hj] at hu; exact rl j u hu
      · rw [List.getElem?_append_right (by omega)] at hu
        have : j - zs.length = 0 := by
          rcases Nat.eq_zero_or_pos (j - zs.length) with h | h
          · exact h
          · rw [List.getElem?_eq_none (by simp; omega)] at hu; cases hu
        rw [this] at hu
        simp at hu
        subst hu
        have : j = i := by omega
        rw [this]; exact r
  · have e : i = n := by omega
    subst e
    refine .inl ⟨W.stop H s, hd (upd I' D (.lst ys)) H ys zs (gr.mono (fun _ z => List.mem_cons_of_mem _ z) |>.frz s0 hD hH) upd_same (a2.mono fun _ _ => up (sNew hI)) hl rl (st.frz hI jv)⟩
end Tk

set_option Elab.async false
set_option linter.all false
set_option maxRecDepth 100000
set_option maxHeartbeats 4000000
/-! zip of a list or a tuple with a tuple. -/
namespace Tk
open PySem PySem.Spec PyProof.Rows L2
def SqB (K : PySem.W.Frag) (l : Bool) (H : Hp) (a : Addr) (xs : List V) : Prop := match l with
  | true => SqL K H a xs
  | false => SqT K H a xs
def ItB (l : Bool) (h : Heap) (i a : Addr) (k : Nat) : Prop := match l with
  | true => h.IsListIter i a k
  | false => h.IsTupleIter i a k
def IsB (l : Bool) (h : Heap) (a : Addr) (its : Array Value) : Prop := match l with
  | true => h.IsList a its
  | false => h.IsTuple a its
theorem ItB.fld {l : Bool} {h : Heap} {i a : Addr} {k : Nat} (t : ItB l h i a k) : ∃ o, h.get? i = some o ∧ ∀ v, o.data ≠ .cell v := by
  cases l with
  | true => obtain ⟨o, e, _, d⟩ := t; exact ⟨o, e, fun v q => by rw [d] at q; cases q⟩
  | false => obtain ⟨o, e, _, d⟩ := t; exact ⟨o, e, fun v q => by rw [d] at q; cases q⟩
theorem ItB.keep {l : Bool} {h h' : Heap} {i a : Addr} {k : Nat} (t : ItB l h i a k) (e : ∀ o, h.get? i = some o → h'.get? i = some o) : ItB l h' i a k := by
  cases l with
  | true => exact Heap.IsListIter.at t e
  | false => exact Heap.IsTupleIter.at t e
theorem drawsB {prog : Program} {w : World} {A : Around} (hh : A.handled = none) (l : Bool) (it a : Addr) (hne : a ≠ it) (its : Array Value) :
    Draws prog w A it [it, a] its.size (fun i v => its[i]? = some v) (fun i h => ItB l h it a i ∧ IsB l h a its) := by
  cases l with
  | true => exact Draws.list hh it a hne its
  | false => exact Draws.tuple hh it a hne its
section
variable {X : Cx} {pins : List (Addr × Obj)} {σ : L2.St} {H : Hp} {s : Shared}
theorem sqB_at {l : Bool} {a : Addr} {xs : List V} (I : Inv X pins σ H s) (h : SqB X.K l H a xs) : ∃ its : List Value, Vals xs its ∧ IsB l s.heap a its.toArray ∧ a < s.heap.objs.size := by
  cases l with
  | true => obtain ⟨its, r, p, _⟩ := I.list h; exact ⟨its, r, p.isList, p.lt⟩
  | false =>
    obtain ⟨its, r, p, _⟩ := I.tuple h
    obtain ⟨o, e, _⟩ := id p
    exact ⟨its, r, p, Heap.lt_size e⟩
theorem sqB_inj {l : Bool} {a : Addr} {xs ys : List V} (I : Inv X pins σ H s) (h : SqB X.K l H a xs) (k : SqB X.K l H a ys) : xs = ys := by
  cases l with
  | true => exact I.list_inj h k
  | false => exact I.tuple_inj h k
end
/-- new pairs of what stands at a and at b -/
def ItzM (K : PySem.W.Frag) (l m : Bool) (a b : Addr) : It :=
  ⟨fun i H => ∃ xs ys x y, (SqB K l H a xs ∧ xs[i]? = some x) ∧ SqB K m H b ys ∧ ys[i]? = some y,
    fun i H v H' => ∃ t x y, v = .ref t ∧ H t = none ∧ H' = upd H t (.tup [x, y]) ∧ (∀ xs, SqB K l H a xs → xs[i]? = some x) ∧ ∀ ys, SqB K m H b ys → ys[i]? = some y,
    fun i H => ∃ xs ys, SqB K l H a xs ∧ SqB K m H b ys ∧ i ≤ xs.length ∧ i ≤ ys.length ∧ (i = xs.length ∨ i = ys.length)⟩
/-- where the five objects of a zip lie -/
structure Zs (z TI TO i1 i2 a b : Addr) : Prop where
  sep : ZipSep2 z TI TO i1 i2 [i1, a] [i2, b]
  a1 : a ≠ i1
  b2 : b ≠ i2
theorem two_not {c x y : Addr} (h1 : c ≠ x) (h2 : c ≠ y) : c ∉ [x, y] := fun h => by
  rcases List.mem_cons.mp h with e | h
  · exact h1 e
  · rcases List.mem_cons.mp h with e | h
    · exact h2 e
    · exact nomatch h
theorem zs_new {n a b : Addr} (ha : a < n) (hb : b < n) : Zs (n + 4) (n + 2) (n + 3) n (n + 1) a b := by
  have D := PySem.W.ktu_apart n a b ha hb
  exact ⟨⟨D.TIz, D.TOz, D.TITO, D.TIi1, List.mem_cons_self, two_not D.i1z.symm D.l1z.symm, two_not D.TOi1 D.l1TO.symm, D.TIi2, List.mem_cons_self, two_not D.i2z.symm D.l2z.symm, two_not D.TOi2 D.l2TO.symm, two_not D.i12 D.l2i1.symm, two_not D.i12.symm D.l1i2.symm⟩, D.l1i1, D.l2i2⟩
theorem turn_zipM {P : Program} {w : World} {K : PySem.W.Frag} {elts : List Expr} {kk : Nat} {tpos : Pos} {l m : Bool} {a b z TI TO i1 i2 : Addr} (Z : Zs z TI TO i1 i2 a b) :
    Turn P w K (.Tuple elts kk tpos) (ItzM K l m a b) [z, TI, TO, i1, i2] z (fun i h => (IsZip h z TI TO .none ∧ IsPair h TI (.ref i1) (.ref i2) ∧ ∃ x y, IsPair h TO x y) ∧ ItB l h i1 a i ∧ ItB m h i2 b i) where
  mem := List.mem_cons_self
  obj := fun i h ⟨⟨hz, hI, x, y, hO⟩, h1, h2⟩ c hc => by
    simp only [List.mem_cons, List.not_mem_nil, or_false] at hc
    rcases hc with rfl | rfl | rfl | rfl | rfl
    · exact ⟨_, hz, nofun⟩
    · exact ⟨_, hI, nofun⟩
    · exact ⟨_, hO, nofun⟩
    · exact h1.fld
    · exact h2.fld
  keep := fun i h h' ⟨⟨hz, hI, x, y, hO⟩, h1, h2⟩ k =>
    ⟨⟨k _ (by simp) _ hz, k _ (by simp) _ hI, x, y, k _ (by simp) _ hO⟩, h1.keep (k _ (by simp)), h2.keep (k _ (by simp))⟩
  item := by
    rintro X rfl rfl rfl hc i pins s σ H E Iv hf ⟨⟨hz, hI, x0, y0, hO⟩, h1, h2⟩ ⟨xs, ys, x, y, ⟨qx, hx⟩, qy, hy⟩
    obtain ⟨its, rv, p1, _⟩ := sqB_at Iv qx
    obtain ⟨jts, rw', p2, _⟩ := sqB_at Iv qy
    obtain ⟨u, hu, ru⟩ := rv.get hx
    obtain ⟨u2, hu2, ru2⟩ := rw'.get hy
    have hh : X.A.in1.handled = none := Iv.ok.hd hc
    have lz := Heap.lt_size hz
    have b1 : i < its.toArray.size := by
      have := (List.getElem?_eq_some_iff.mp hu).1; simpa using this
    have b2 : i < jts.toArray.size := by
      have := (List.getElem?_eq_some_iff.mp hu2).1; simpa using this
    refine wpAny_pyNext_zipD2_item Z.sep (drawsB (A := X.A.in1) hh l i1 a Z.a1 its.toArray) (drawsB (A := X.A.in1) hh m i2 b Z.b2 jts.toArray) hz hI hO ⟨h1, p1⟩ ⟨h2, p2⟩ b1 b2 fun v1 v2 h' tk e1 e2 z' O' d1 d2 hT hs hk => ?_
    have e1' : u = v1 := by
      have : its.toArray[i]? = some u := by simpa using hu
      rw [this] at e1; exact Option.some.inj e1
    have e2' : u2 = v2 := by
      have : jts.toArray[i]? = some u2 := by simpa using hu2
      rw [this] at e2; exact Option.some.inj e2
    subst e1' e2'
    refine ⟨_, rfl, wpAny_letOwnedTupleGo_zip (s := { s with heap := h', toks := tk }) z' fun h'' z'' sb => ?_⟩
    have hT2 : h''.get? s.heap.objs.size = some { cls := .type "tuple", data := .seq #[u, u2] } := (sb.2 _ (Nat.ne_of_gt lz)).trans hT
    have hn : H s.heap.objs.size = none := Iv.hok.fresh (Nat.le_refl _)
    have kp : ∀ c o, c ∉ [z, TI, TO, i1, i2] → s.heap.get? c = some o → h''.get? c = some o := fun c o hcn q => by
      simp only [List.mem_cons, List.not_mem_nil, or_false, not_or] at hcn
      exact (sb.2 c hcn.1).trans (hk c o hcn.1 hcn.2.2.1 hcn.2.2.2.1 hcn.2.2.2.2 q)
    have I1 : Inv X pins σ (upd H s.heap.objs.size (.tup [x, y])) { s with heap := h'', toks := tk } :=
      Iv.turnedNew (t' := tk) (ch := [z, TI, TO, i1, i2]) kp hf (Nat.le_refl _) ⟨by show 2 ≤ sizeLine; decide, [u, u2], .cons ru (.cons ru2 .nil), ⟨_, hT2, rfl, _, rfl⟩⟩
    have S := Z.sep
    refine ⟨.ref s.heap.objs.size, _, I1, rfl, ⟨_, x, y, rfl, hn, rfl, fun l hl => by rw [sqB_inj Iv hl qx]; exact hx, fun l hl => by rw [sqB_inj Iv hl qy]; exact hy⟩,
      ⟨⟨z'', (sb.2 _ S.TIz).trans (hk _ _ S.TIz S.TITO S.TIi1 S.TIi2 hI), u, u2, (sb.2 _ S.TOz).trans O'⟩, d1.1.keep fun o q => (sb.2 _ S.zi1.symm).trans q, d2.1.keep fun o q => (sb.2 _ S.zi2.symm).trans q⟩, fun c hcm => ?_⟩
    have hlt : c ≠ s.heap.objs.size := by
      simp only [List.mem_cons, List.not_mem_nil, or_false] at hcm
      rcases hcm with rfl | rfl | rfl | rfl | rfl
      · exact Nat.ne_of_lt lz
      · exact Nat.ne_of_lt (Heap.lt_size hI)
      · exact Nat.ne_of_lt (Heap.lt_size hO)
      · obtain ⟨_, e, _⟩ := h1.fld; exact Nat.ne_of_lt (Heap.lt_size e)
      · obtain ⟨_, e, _⟩ := h2.fld; exact Nat.ne_of_lt (Heap.lt_size e)
    rw [upd_ne hlt]
    exact (hf c hcm).1
  done := by
    rintro X rfl rfl rfl hc i pins s σ H E Iv hf ⟨⟨hz, hI, x0, y0, hO⟩, h1, h2⟩ ⟨xs, ys, qx, qy, l1, l2, hend⟩
    obtain ⟨its, rv, p1, _⟩ := sqB_at Iv qx
    obtain ⟨jts, rw', p2, _⟩ := sqB_at Iv qy
    have hh : X.A.in1.handled = none := Iv.ok.hd hc
    have n1 := rv.length
    have n2 := rw'.length
    refine wpAny_pyNext_zipD2_end Z.sep (drawsB (A := X.A.in1) hh l i1 a Z.a1 its.toArray) (drawsB (A := X.A.in1) hh m i2 b Z.b2 jts.toArray) hz hI hO ⟨h1, p1⟩ ⟨h2, p2⟩ (by simp; omega) (by simp; omega)
      (by simp only [List.size_toArray]; omega) fun h' tk hk => ⟨rfl, Iv.turnedL (t' := tk) (ch := [z, TI, TO, i1, i2]) (fun c o hcn q => ?_) hf⟩
    simp only [List.mem_cons, List.not_mem_nil, or_false, not_or] at hcn
    exact hk c o hcn.1 hcn.2.2.1 hcn.2.2.2.1 hcn.2.2.2.2 q
  self := fun A i s Q E st h => wpAny_pyIter_zip st.1.1 h
def iZipM (K : PySem.W.Frag) (ta : TA) : TI := fun σ H R => ta σ H fun vs H1 => ∃ (l m : Bool) (a b : Addr) (xs ys : List V), vs = [.ref a, .ref b] ∧ SqB K l H1 a xs ∧ SqB K m H1 b ys ∧ R (ItzM K l m a b) H1
theorem beginsB (l : Bool) (a : Addr) (its : Array Value) : ∃ o : Obj, Begins (.ref a) o (fun h => IsB l h a its) ∧ ∀ h i, h.get? i = some o → ItB l h i a 0 := by
  cases l with
  | true => exact ⟨_, begins_list a its, fun h i e => ⟨_, e, rfl, rfl⟩⟩
  | false => exact ⟨_, begins_tuple a its, fun h i e => ⟨_, e, rfl, rfl⟩⟩
theorem pi_zipM {X : Cx} {e e2 : Expr} {ta : TA} {p pos tpos : Pos} {elts : List Expr} {kk : Nat} (hg : Gl X "zip") (hm : X.mg "zip" = none) (ha : PA X [e, e2] ta)
    (hs : starEach [e, e2] X.env = (false, eval e X.env) :: starEach [e2] X.env := by rfl) (hpl : (backTo pos (starEach [e2] X.env)).any (·.1) = false := by rfl) :
    PI X (.Tuple elts kk tpos) (.Call (.Name "zip" p) [e, e2] [] pos) (iZipM X.K ta) := by
  refine ⟨fun pins s σ H R Iv h => ?_⟩
  refine Call_ (ld_blt Iv hg hm PyProof.Rows.boot_zip (PyProof.Rows.callWith_type1 (thn (ha.run pos pins s σ H _ Iv h) fun us s1 q1 => ?_) hs hpl))
  obtain ⟨vs, H1, I1, r1, l, m, a, b, xs, ys, rfl, qx, qy, q⟩ := q1
  cases r1 with
  | cons ra rr =>
    cases rr with
    | cons rb rr =>
      cases rr
      cases ra
      cases rb
      obtain ⟨its, _, p1, la⟩ := sqB_at I1 qx
      obtain ⟨jts, _, p2, lb⟩ := sqB_at I1 qy
      obtain ⟨o1, B1, k1⟩ := beginsB l a its.toArray
      obtain ⟨o2, B2, k2⟩ := beginsB m b jts.toArray
      refine zip_begins2 B1 B2 p1 p2 fun h' hz hI hO g1 g2 hsz hk => wpAny_pyIter_zip hz ?_
      refine ⟨_, _, _, _, H1, rfl, I1.kept (t' := s1.toks) hk, turn_zipM (zs_new la lb), ⟨⟨hz, hI, _, _, hO⟩, k1 _ _ g1, k2 _ _ g2⟩, fun c hcm => ?_, q⟩
      have hle : s1.heap.objs.size ≤ c := by
        simp only [List.mem_cons, List.not_mem_nil, or_false] at hcm
        rcases hcm with rfl | rfl | rfl | rfl | rfl
        · exact Nat.le_add_right _ _
        · exact Nat.le_add_right _ _
        · exact Nat.le_add_right _ _
        · exact Nat.le_refl _
        · exact Nat.le_add_right _ _
      exact I1.fpOk hle (I1.hok.fresh hle)
end Tk

set_option Elab.async false
set_option linter.all false
set_option maxRecDepth 100000
set_option maxHeartbeats 4000000
/-! Rules that name K itself (in a comprehension's block the context's K is no name that the reading could keep). -/
namespace Tk
open PySem PySem.Spec PyProof.Rows L2
structure rTup (K : PySem.W.Frag) (xs : List V) (H : Hp) (Q : VK) : Prop where
  h : ∃ p ys, xs = [.ref p] ∧ ((SqL K H p ys ∧ ∀ l, H l = none → Q (.ref l) (upd H l (.tup ys))) ∨ (SqT K H p ys ∧ Q (.ref p) H))
section
variable {X : Cx} (K : PySem.W.Frag) {e l : Expr} {ta : TE} {f : Str} {pos p tpos : Pos} {tg : Expr} {tl : TE}
theorem pe_fldK (he : PE X e ta) (hb : attributeBase e f X.env (eval e X.env) = eval e X.env) (hK : X.K = K := by rfl) : PE X (.Attribute e f pos) (tFld K ta f) := hK ▸ pe_fld he hb
theorem ix_listK (hK : X.K = K := by rfl) : IxR X (rIxL K) := hK ▸ ix_list
theorem ix_tupK (hK : X.K = K := by rfl) : IxR X (rIxT K) := hK ▸ ix_tup
theorem sl_listK (hK : X.K = K := by rfl) : SlR X (rSlL K) := hK ▸ sl_list
theorem call_lenK (hK : X.K = K := by rfl) : CallR X (.builtin "len") (fun xs H Q => ∃ x n, xs = [x] ∧ LenV K x H n ∧ Q (.int n) H) := hK ▸ call_len
theorem call_list_ofK (hK : X.K = K := by rfl) : CallR X (.type "list") (fun xs H Q => ∃ p ys, xs = [.ref p] ∧ (SqL K H p ys ∨ SqT K H p ys) ∧ ∀ l, H l = none → Q (.ref l) (upd H l (.lst ys))) := hK ▸ call_list_of
theorem call_tuple_ofK (hK : X.K = K := by rfl) : CallR X (.type "tuple") (rTup K) := by
  subst hK
  intro pins s σ H vs us Q I r h
  exact call_tuple_of pins s σ H vs us Q I r h.h
theorem op_catTK (hK : X.K = K := by rfl) : OpR X (binaryOp .Add) (rCatT K) := hK ▸ op_catT
theorem op_neDK (hu : X.A.units + 64 < cLine) (hK : X.K = K := by rfl) : OpR X (compareOp .NotEq) (rNeD K) := hK ▸ op_neD hu
theorem op_eqDK (hu : X.A.units + 64 < cLine) (hK : X.K = K := by rfl) : OpR X (compareOp .Eq) (rEqD K) := hK ▸ op_eqD hu
theorem pg_tupK {es : List Expr} {k : Nat} {t : TGs} {n : Nat} (hc : X.calm = true) (h : PGs X es t) (hK : X.K = K := by rfl)
    (hn : (assignEach es X.env).length = n := by rfl) (hst : (assignEach es X.env).findIdx? (·.1) = none := by rfl) : PG X (.Tuple es k pos) (gTup K n t) := hK ▸ pg_tup hc h hn hst
theorem pi_listK (hl : PE X l tl) (hK : X.K = K := by rfl) : PI X tg l (iList K tl) := hK ▸ pi_list hl
theorem pi_tupK (hl : PE X l tl) (hK : X.K = K := by rfl) : PI X tg l (iTup K tl) := hK ▸ pi_tup hl
theorem pi_ltK (hl : PE X l tl) (hK : X.K = K := by rfl) : PI X tg l (iLT K tl) := hK ▸ pi_lt hl
theorem pi_zipMK {e2 : Expr} {t2 : TA} {elts : List Expr} {kk : Nat} (hg : Gl X "zip") (hm : X.mg "zip" = none) (ha : PA X [e, e2] t2) (hK : X.K = K := by rfl)
    (hs : starEach [e, e2] X.env = (false, eval e X.env) :: starEach [e2] X.env := by rfl) (hpl : (backTo pos (starEach [e2] X.env)).any (·.1) = false := by rfl) :
    PI X (.Tuple elts kk tpos) (.Call (.Name "zip" p) [e, e2] [] pos) (iZipM K t2) := hK ▸ pi_zipM hg hm ha hs hpl
theorem cr_allK (hc : X.calm = true) (hK : X.K = K := by rfl) : CallR X (.builtin "all") (rAll K) := hK ▸ cr_all hc
theorem cr_anyK (hc : X.calm = true) (hK : X.K = K := by rfl) : CallR X (.builtin "any") (rAny K) := hK ▸ cr_any hc
theorem cr_sumK (hc : X.calm = true) (hK : X.K = K := by rfl) : CallR X (.builtin "sum") (rSum K) := hK ▸ cr_sum hc
theorem call_isiK (hK : X.K = K := by rfl) : CallR X (.builtin "isinstance") (rIsi K) := hK ▸ call_isi
end
end Tk

set_option Elab.async false
set_option linter.all false
set_option maxRecDepth 100000
set_option maxHeartbeats 4000000
/-! Two clauses: all elements in one list. -/
namespace Tk
open PySem PySem.Spec PyProof.Rows L2
def flat {β : Type} (ks : Nat → Nat) (f : Nat → Nat → β) (n : Nat) : List β := (List.range n).flatMap fun i => (List.range (ks i)).map (f i)
theorem flat_succ {β : Type} {ks : Nat → Nat} {f : Nat → Nat → β} {n : Nat} : flat ks f (n + 1) = flat ks f n ++ (List.range (ks n)).map (f n) := by
  unfold flat; rw [List.range_succ, List.flatMap_append]; simp
theorem flat_le {β : Type} {ks : Nat → Nat} {f : Nat → Nat → β} {i n : Nat} (h : i ≤ n) : (flat ks f i).length ≤ (flat ks f n).length := by
  induction n with
  | zero => have : i = 0 := by omega
            subst this; exact Nat.le_refl _
  | succ n ih =>
    by_cases e : i = n + 1
    · subst e; exact Nat.le_refl _
    · refine Nat.le_trans (ih (by omega)) ?_
      rw [flat_succ, List.length_append]; omega
theorem flat_lt {β : Type} {ks : Nat → Nat} {f : Nat → Nat → β} {i j n : Nat} (h : i < n) (hj : j < ks i) : (flat ks f i ++ (List.range j).map (f i)).length < (flat ks f n).length := by
  have := flat_le (ks := ks) (f := f) (i := i + 1) (n := n) h
  rw [flat_succ] at this
  simp only [List.length_append, List.length_map, List.length_range] at this ⊢
  omega
abbrev LcR2 (J : It) (g : TG) (tt : TT) (wi1 : TI) (g1 : TG) (tt1 : TT) (te : TE) (vs vs1 : List Nat) (σ : L2.St) (H1 : Hp) (D : Addr) (Qd : Hp → Prop) : Prop :=
  ∃ W : Nat → Nat → Hp → Prop, (∃ m, W 0 m (upd H1 D (.lst []))) ∧ ∀ i m H, W i m H →
  (J.stop i H ∧ Qd H) ∨ (J.go i H ∧ ∃ Nx : Hp → Prop, (∀ H', Nx H' → ∃ m', m' < m ∧ W (i + 1) m' H') ∧ ∀ x H', J.yld i H x H' → g x (wipe σ vs) H' fun σ2 H2 => wipe σ2 vs = wipe σ vs ∧ tt σ2 H2 fun b H3 =>
    if b = true then wi1 σ2 H3 fun J1 H4 => ∃ W1 : Nat → Nat → Hp → Prop, (∃ m, W1 0 m H4) ∧ ∀ j k H, W1 j k H →
      (J1.stop j H ∧ Nx H) ∨ (J1.go j H ∧ ∃ Nx1 : Hp → Prop, (∀ H', Nx1 H' → ∃ k', k' < k ∧ W1 (j + 1) k' H') ∧ ∀ x H', J1.yld j H x H' → g1 x (wipe σ2 vs1) H' fun σ3 H5 => wipe σ3 vs1 = wipe σ2 vs1 ∧ tt1 σ3 H5 fun b H6 =>
        if b = true then te σ3 H6 fun y H7 => ∃ acc, H7 D = some (.lst acc) ∧ acc.length < sizeLine ∧ Nx1 (upd H7 D (.lst (acc ++ [y]))) else Nx1 H6)
    else Nx H3)
theorem lc2_wk {β : Type} {J : It} {n : Nat} {xs : Nat → V} {I H1 : Hp} {g g1 : TG} {tt tt1 : TT} {te : TE} {wi1 : TI} {vs vs1 : List Nat} {σ : L2.St} {D : Addr} {Qd : Hp → Prop} (Sy : Rp β) [Mono Sy] (ks : Nat → Nat) (f : Nat → Nat → β)
    (W : Wk J n xs I) (s0 : Same I H1) (hD : H1 D = none) (hn : (flat ks f n).length ≤ sizeLine)
    (step : ∀ (i : Nat) (I' H' : Hp) (Nx : Hp → Prop) (R2 : L2.St → It → Hp → Prop), i < n → Same I I' → Same I' H' →
      (∀ (σ2 : L2.St) (J1 : It) (xs1 : Nat → V), Wk J1 (ks i) xs1 I' →
        (∀ (j : Nat) (I2 H2 : Hp) (Nx1 : Hp → Prop) (Qk : VK), j < ks i → Same I' I2 → Same I2 H2 → (∀ I'' H'' y, Gr [] I2 H2 I'' H'' → Sy I'' y (f i j) → Qk y H'') →
          g1 (xs1 j) (wipe σ2 vs1) H2 fun σ3 H5 => wipe σ3 vs1 = wipe σ2 vs1 ∧ tt1 σ3 H5 fun b H6 => if b = true then te σ3 H6 Qk else Nx1 H6) → R2 σ2 J1 H') →
      g (xs i) (wipe σ vs) H' fun σ2 H2 => wipe σ2 vs = wipe σ vs ∧ tt σ2 H2 fun b H3 => if b = true then wi1 σ2 H3 (R2 σ2) else Nx H3)
    (hd : ∀ I' H' ys, Gr [] I H1 I' H' → I' D = some (.lst ys) → All2 (Sy I') ys (flat ks f n) → Qd H') :
    LcR2 J g tt wi1 g1 tt1 te vs vs1 σ H1 D Qd := by
  let Mid : List β → Hp → Prop := fun zs H => ∃ I' ys, Gr [] I H1 I' H ∧ I' D = none ∧ H D = some (.lst ys) ∧ All2 (Sy I') ys zs
  refine ⟨fun i m H => m = n - i ∧ i ≤ n ∧ Mid (flat ks f i) H, ⟨n, rfl, Nat.zero_le _, I, [], (Gr.tmp s0 hD), s0.free hD, upd_same, .nil⟩, ?_⟩
  rintro i m H ⟨rfl, hi, I', ys, gr, hI, hH, a2⟩
  have s : Same I H := gr.ii.trans gr.ih
  by_cases hlt : i < n
  · refine .inr ⟨W.go i H s hlt, fun H' => i + 1 ≤ n ∧ Mid (flat ks f (i + 1)) H', fun H' p => ⟨n - (i + 1), by omega, rfl, p.1, p.2⟩, fun x H' y => ?_⟩
    obtain ⟨rfl, rfl⟩ := W.yld i H x H' s hlt y
    refine step i I' H' _ (fun σ2 J1 H4 => ∃ W1 : Nat → Nat → Hp → Prop, (∃ m, W1 0 m H4) ∧ ∀ j k H, W1 j k H → _) hlt gr.ii gr.ih fun σ2 J1 xs1 W1 st => ?_
    refine ⟨fun j k H => k = ks i - j ∧ j ≤ ks i ∧ ∃ I2 ys, Gr [] I H1 I2 H ∧ Same I' I2 ∧ I2 D = none ∧ H D = some (.lst ys) ∧ All2 (Sy I2) ys (flat ks f i ++ (List.range j).map (f i)),
      ⟨ks i, rfl, Nat.zero_le _, I', ys, gr, Same.refl _, hI, hH, by simpa using a2⟩, ?_⟩
    rintro j k H2 ⟨rfl, hj, I2, ys2, gr2, s2, hI2, hH2, a22⟩
    by_cases hjl : j < ks i
    · refine .inr ⟨W1.go j H2 (s2.trans gr2.ih) hjl, fun H => j + 1 ≤ ks i ∧ ∃ I2 ys, Gr [] I H1 I2 H ∧ Same I' I2 ∧ I2 D = none ∧ H D = some (.lst ys) ∧ All2 (Sy I2) ys (flat ks f i ++ (List.range (j + 1)).map (f i)),
        fun H p => ⟨ks i - (j + 1), by omega, rfl, p.1, p.2⟩, fun x H3 y => ?_⟩
      obtain ⟨rfl, rfl⟩ := W1.yld j H2 x H3 (s2.trans gr2.ih) hjl y
      refine st j I2 H3 _ _ hjl s2 gr2.ih fun I3 H4 y g3 sy => ?_
      have hD4 := g3.at hH2 (by simp)
      have hI3 := g3.out hI2 hH2
      have ll := a22.len
      refine ⟨ys2, hD4, Nat.lt_of_lt_of_le (by rw [ll]; exact flat_lt hlt hjl) hn, hjl, I3, ys2 ++ [y], ?_, s2.trans g3.ii, hI3, upd_same, ?_⟩
      · have g4 := gr2.trans g3
        exact ((g4.mono (ns := [D]) fun _ z => nomatch z).trans (Gr.mut g4.ih hI3 List.mem_cons_self)).drop hD
      · rw [List.range_succ, List.map_append, ← List.append_assoc]
        exact (a22.mono fun _ _ => up g3.ii).snoc sy
    · have e : j = ks i := by omega
      subst e
      exact .inl ⟨W1.stop H2 (s2.trans gr2.ih), hlt, I2, ys2, gr2, hI2, hH2, by rw [flat_succ]; exact a22⟩
  · have e : i = n := by omega
    subst e
    exact .inl ⟨W.stop H s, hd (upd I' D (.lst ys)) H ys (gr.mono (ns := [D]) (fun _ z => nomatch z) |>.frz s0 hD hH) upd_same (a2.mono fun _ _ => up (sNew hI))⟩
end Tk
namespace Tk
open PySem PySem.Spec PyProof.Rows L2
section
variable {α β : Type} {K : PySem.W.Frag}
def iA (R : Rp α) : Rp (List α) := fun H v xs => ∃ a vs, v = .ref a ∧ (H a = some (.lst vs) ∨ H a = some (.tup vs)) ∧ All2 (R H) vs xs
instance {R : Rp α} [m : Mono R] : Mono (iA R) := ⟨fun s ⟨a, vs, e, h, t⟩ => ⟨a, vs, e, h.elim (fun h => .inl (s _ _ h)) (fun h => .inr (s _ _ h)), t.mono fun _ _ => m.up s⟩⟩
theorem iA.l {R : Rp α} {H : Hp} {v : V} {xs : List α} (h : iL R H v xs) : iA R H v xs := by
  obtain ⟨a, vs, e, h, t⟩ := h; exact ⟨a, vs, e, .inl h, t⟩
theorem iA.t {R : Rp α} {H : Hp} {v : V} {xs : List α} (h : iT R H v xs) : iA R H v xs := by
  obtain ⟨a, vs, e, h, t⟩ := h; exact ⟨a, vs, e, .inr h, t⟩
theorem All2.imp {R S : V → α → Prop} {vs : List V} {xs : List α} (h : All2 R vs xs) (k : ∀ v x, R v x → S v x) : All2 S vs xs := h.mono k
theorem gv2 {R : V → α → Prop} {vs : List V} {xs : List α} {i : Nat} {x : α} (h : All2 R vs xs) (e : xs[i]? = some x) : R (gv vs i) x := by
  obtain ⟨v, h1, h2⟩ := h.get' e
  rw [gv_of h1]; exact h2
/-- tuple(v) -/
theorem tup_of {R : Rp α} [Mono R] {I H : Hp} {v : V} {xs : List α} {Q : VK} (h : iA R I v xs) (s : Same I H) (k : ∀ I' H' v', Gr [] I H I' H' → iT R I' v' xs → Q v' H') :
    rTup K [v] H Q := by
  obtain ⟨a, vs, rfl, h, t⟩ := h
  refine ⟨⟨a, vs, rfl, h.elim (fun h => .inl ⟨SqL.of (s _ _ h), fun l hl => ?_⟩) (fun h => .inr ⟨SqT.of (s _ _ h), k _ _ _ (Gr.refl s) ⟨a, vs, rfl, h, t⟩⟩)⟩⟩
  have g := Gr.new (ms := []) (o := .tup vs) s hl
  exact k _ _ _ g ⟨l, vs, rfl, upd_same, t.mono fun _ _ => up g.ii⟩
theorem len_of {R : Rp α} {I H : Hp} {v : V} {xs : List α} (h : iA R I v xs) (s : Same I H) : LenV K v H xs.length := by
  obtain ⟨a, vs, rfl, h, t⟩ := h
  rw [← t.len]
  exact h.elim (fun h => .inl ⟨_, SqL.of (s _ _ h), rfl⟩) fun h => .inr ⟨_, SqT.of (s _ _ h), rfl⟩
/-- a new list of what stands for the same things -/
theorem lc_id {J : It} {R Sy : Rp α} [Mono R] [Mono Sy] {vs : List V} {xs : List α} {I H1 : Hp} {g : TG} {tt : TT} {te : TE} {vz : List Nat} {σ : L2.St} {D : Addr} {Qd : Hp → Prop}
    (W : Wk J vs.length (gv vs) I) (a2 : All2 (R I) vs xs) (s0 : Same I H1) (hD : H1 D = none) (hn : xs.length < sizeLine)
    (step : ∀ (i : Nat) (x : α) (I' H' : Hp) (Nx : Hp → Prop) (Qk : VK), xs[i]? = some x → R I' (gv vs i) x → Same I' H' → (∀ I'' H'' y, Gr [] I' H' I'' H'' → Sy I'' y x → Qk y H'') →
      g (gv vs i) (wipe σ vz) H' fun σ2 H2 => wipe σ2 vz = wipe σ vz ∧ tt σ2 H2 fun b H3 => if b = true then te σ2 H3 Qk else Nx H3)
    (hd : ∀ I' H', Gr [] I H1 I' H' → iL Sy I' (.ref D) xs → Qd H') : LcR J g tt te vz σ H1 D Qd := by
  have hl := a2.len
  refine lc_wk [] Sy (fun i z => xs[i]? = some z) (fun _ _ => True) W s0 hD (by simp) (by rw [hl]; exact hn) stb_true trivial (fun i I' H' Nx Qk hi s1 s2 _ kk => ?_) (fun I' H' ys zs g1 hD' b2 hz rl _ => ?_)
  · obtain ⟨x, hx⟩ : ∃ x, xs[i]? = some x := ⟨xs[i]'(by omega), List.getElem?_eq_getElem (by omega)⟩
    exact step i x I' H' Nx Qk hx (up s1 (gv2 a2 hx)) s2 fun I'' H'' y g2 sy => kk _ _ _ _ g2 trivial sy hx
  · have e : zs = xs := by
      refine List.ext_getElem? fun i => ?_
      by_cases hi : i < zs.length
      · rw [rl i _ (List.getElem?_eq_getElem hi), List.getElem?_eq_getElem hi]
      · rw [List.getElem?_eq_none (by omega), List.getElem?_eq_none (by omega)]
    subst e
    exact hd I' H' g1 ⟨D, ys, rfl, hD', b2⟩
theorem map_of {xs : List α} {zs : List β} {f : α → β} (h : zs.length = xs.length) (r : ∀ (i : Nat) (z : β), zs[i]? = some z → ∃ x, xs[i]? = some x ∧ z = f x) : zs = xs.map f := by
  refine List.ext_getElem? fun i => ?_
  by_cases hi : i < zs.length
  · obtain ⟨x, h1, h2⟩ := r i _ (List.getElem?_eq_getElem hi)
    rw [List.getElem?_map, h1, List.getElem?_eq_getElem hi, h2]; rfl
  · rw [List.getElem?_eq_none (by omega), List.getElem?_eq_none (by simp; omega)]
end
end Tk
namespace Tk
open PySem PySem.Spec PyProof.Rows L2
section
variable {α : Type} {K : PySem.W.Frag}
theorem bls_of {H : Hp} : ∀ {vs : List V} {bs : List Bool}, All2 (iB H) vs bs → vs = bs.map V.bl
  | _, _, .nil => rfl
  | _, _, .cons a t => by rw [a, bls_of t]; rfl
theorem all_any {bs : List Bool} {xs : List α} {p : α → Prop} [DecidablePred p] (h : bs.length = xs.length) (r : ∀ (i : Nat) (b : Bool), bs[i]? = some b → ∃ x, xs[i]? = some x ∧ b = decide (p x)) :
    bs.all id = decide (∀ x ∈ xs, p x) ∧ bs.any id = decide (∃ x ∈ xs, p x) := by
  have e : bs = xs.map fun x => decide (p x) := map_of h r
  subst e
  constructor
  · rw [Bool.eq_iff_iff, List.all_eq_true, decide_eq_true_iff]
    simp
  · rw [Bool.eq_iff_iff, List.any_eq_true, decide_eq_true_iff]
    simp
theorem lc_bool {J : It} {R : Rp α} [Mono R] {p : α → Prop} [DecidablePred p] {vs : List V} {xs : List α} {I H1 : Hp} {g : TG} {tt : TT} {te : TE} {vz : List Nat} {σ : L2.St} {D : Addr} {Qd : Hp → Prop}
    (W : Wk J vs.length (gv vs) I) (a2 : All2 (R I) vs xs) (s0 : Same I H1) (hD : H1 D = none) (hn : xs.length < sizeLine)
    (step : ∀ (i : Nat) (x : α) (I' H' : Hp) (Nx : Hp → Prop) (Qk : VK), xs[i]? = some x → R I' (gv vs i) x → Same I I' → Same I' H' → (∀ I'' H'', Gr [] I' H' I'' H'' → Qk (.bl (decide (p x))) H'') →
      g (gv vs i) (wipe σ vz) H' fun σ2 H2 => wipe σ2 vz = wipe σ vz ∧ tt σ2 H2 fun b H3 => if b = true then te σ2 H3 Qk else Nx H3)
    (hd : ∀ I' H' (bs : List Bool), Gr [] I H1 I' H' → SqL K H' D (bs.map V.bl) → bs.all id = decide (∀ x ∈ xs, p x) → bs.any id = decide (∃ x ∈ xs, p x) → Qd H') : LcR J g tt te vz σ H1 D Qd := by
  have hl := a2.len
  refine lc_wk [] iB (fun i b => ∃ x, xs[i]? = some x ∧ b = decide (p x)) (fun _ _ => True) W s0 hD (by simp) (by rw [hl]; exact hn) stb_true trivial (fun i I' H' Nx Qk hi s1 s2 _ kk => ?_) (fun I' H' ys zs g1 hD' b2 hz rl _ => ?_)
  · obtain ⟨x, hx⟩ : ∃ x, xs[i]? = some x := ⟨xs[i]'(by omega), List.getElem?_eq_getElem (by omega)⟩
    exact step i x I' H' Nx Qk hx (up s1 (gv2 a2 hx)) s1 s2 fun I'' H'' g2 => kk _ _ _ _ g2 trivial rfl ⟨x, hx, rfl⟩
  · have e := all_any (p := p) (by rw [hz, hl]) rl
    exact hd I' H' zs g1 (SqL.of (g1.ih _ _ (by rw [← bls_of b2]; exact hD'))) e.1 e.2
end
end Tk
namespace Tk
open PySem PySem.Spec PyProof.Rows L2
theorem All2.up {α : Type} {R : Rp α} [Mono R] {I I' : Hp} {vs : List V} {xs : List α} (h : All2 (R I) vs xs) (s : Same I I') : All2 (R I') vs xs := h.mono fun _ _ => Tk.up s
end Tk
namespace Tk
open PySem PySem.Spec PyProof.Rows L2
section
variable {β : Type} {K : PySem.W.Frag}
theorem range_of {n : Nat} {f : Nat → β} {zs : List β} (hl : zs.length = n) (r : ∀ (i : Nat) (z : β), zs[i]? = some z → z = f i) : zs = (List.range n).map f := by
  refine map_of (by rw [hl, List.length_range]) fun i z h => ⟨i, ?_, r i z h⟩
  have : i < zs.length := (List.getElem?_eq_some_iff.mp h).1
  rw [List.getElem?_range (by omega)]
/-- over a zip: new pairs -/
theorem lc_zip {l m : Bool} {a b : Addr} {vs us : List V} {n : Nat} {I H1 : Hp} {g : TG} {tt : TT} {te : TE} {vz : List Nat} {σ : L2.St} {D : Addr} {Qd : Hp → Prop} (Sy : Rp β) [Mono Sy] (f : Nat → β)
    (qa : ∀ H, Same I H → SqB K l H a vs) (qb : ∀ H, Same I H → SqB K m H b us) (la : vs.length = n) (lb : us.length = n) (s0 : Same I H1) (hD : H1 D = none) (hn : n < sizeLine)
    (step : ∀ (i : Nat) (t : Addr) (I' H' : Hp) (Nx : Hp → Prop) (Qk : VK), i < n → Same I I' → Same I' H' → H' t = some (.tup [gv vs i, gv us i]) → (∀ I'' H'' y, Gr [] I' H' I'' H'' → Sy I'' y (f i) → Qk y H'') →
      g (.ref t) (wipe σ vz) H' fun σ2 H2 => wipe σ2 vz = wipe σ vz ∧ tt σ2 H2 fun b H3 => if b = true then te σ2 H3 Qk else Nx H3)
    (hd : ∀ I' H', Gr [] I H1 I' H' → iL Sy I' (.ref D) ((List.range n).map f) → Qd H') : LcR (ItzM K l m a b) g tt te vz σ H1 D Qd := by
  refine ⟨fun i k H => k = n - i ∧ i ≤ n ∧ ∃ I' ys zs, Gr [] I H1 I' H ∧ I' D = none ∧ H D = some (.lst ys) ∧ All2 (Sy I') ys zs ∧ zs.length = i ∧ ∀ i z, zs[i]? = some z → z = f i,
    ⟨n, rfl, Nat.zero_le _, I, [], [], (Gr.tmp s0 hD), s0.free hD, upd_same, .nil, rfl, fun i z h => by simp at h⟩, ?_⟩
  rintro i k H ⟨rfl, hi, I', ys, zs, gr, hI, hH, a2, hl, rl⟩
  have s : Same I H := gr.ii.trans gr.ih
  by_cases hlt : i < n
  · refine .inr ⟨⟨vs, us, _, _, ⟨qa H s, gv_at (by omega)⟩, qb H s, gv_at (by omega)⟩, fun H' => i + 1 ≤ n ∧ ∃ I' ys zs, Gr [] I H1 I' H' ∧ I' D = none ∧ H' D = some (.lst ys) ∧ All2 (Sy I') ys zs ∧ zs.length = i + 1 ∧ ∀ i z, zs[i]? = some z → z = f i,
      fun H' p => ⟨n - (i + 1), by omega, rfl, p.1, p.2⟩, fun x H' y => ?_⟩
    obtain ⟨t, u, v, rfl, ht, rfl, y1, y2⟩ := y
    have e1 := gv_of (y1 vs (qa H s))
    have e2 := gv_of (y2 us (qb H s))
    subst e1 e2
    have g1 : Gr [] I' H I' (upd H t (.tup [gv vs i, gv us i])) := Gr.tmp gr.ih ht
    refine step i t I' _ _ _ hlt gr.ii g1.ih upd_same fun I'' H'' y g2 sy => ?_
    have g3 := g1.trans g2
    have hD2 : H'' D = some (.lst ys) := g3.at hH (by simp)
    have hI2 : I'' D = none := g3.out hI hH
    refine ⟨ys, hD2, by rw [a2.len, hl]; omega, hlt, I'', ys ++ [y], zs ++ [f i], ?_, hI2, upd_same, (a2.mono fun _ _ => up g2.ii).snoc sy, by rw [List.length_append, hl]; rfl, fun j w hw => ?_⟩
    · have g4 := gr.trans g3
      exact ((g4.mono (ns := [D]) fun _ z => nomatch z).trans (Gr.mut g4.ih hI2 List.mem_cons_self)).drop hD
    · by_cases hj : j < zs.length
      · rw [List.getElem?_append_left hj] at hw; exact rl j w hw
      · rw [List.getElem?_append_right (by omega)] at hw
        have h0 : j - zs.length = 0 := by
          rcases Nat.eq_zero_or_pos (j - zs.length) with h | h
          · exact h
          · rw [List.getElem?_eq_none (by simp; omega)] at hw; cases hw
        rw [h0] at hw
        simp at hw
        have : j = i := by omega
        rw [this]; exact hw.symm
  · have e : i = n := by omega
    subst e
    refine .inl ⟨⟨vs, us, qa H s, qb H s, by omega, by omega, .inl la.symm⟩, hd (upd I' D (.lst ys)) H (gr.mono (ns := [D]) (fun _ z => nomatch z) |>.frz s0 hD hH) ⟨D, ys, rfl, upd_same, ?_⟩⟩
    rw [← range_of hl rl]
    exact a2.mono fun _ _ => up (sNew hI)
/-- over numbers: what is told of each -/
theorem lc_range1 {lo : Int} {n : Nat} {I H1 : Hp} {g : TG} {tt : TT} {te : TE} {vz : List Nat} {σ : L2.St} {D : Addr} {Qd : Hp → Prop} (Sy : Rp β) [Mono Sy] (f : Nat → β) (s0 : Same I H1) (hD : H1 D = none) (hn : n < sizeLine)
    (step : ∀ (i : Nat) (I' H' : Hp) (Nx : Hp → Prop) (Qk : VK), i < n → Same I I' → Same I' H' → (∀ I'' H'' y, Gr [] I' H' I'' H'' → Sy I'' y (f i) → Qk y H'') →
      g (.int (lo + i)) (wipe σ vz) H' fun σ2 H2 => wipe σ2 vz = wipe σ vz ∧ tt σ2 H2 fun b H3 => if b = true then te σ2 H3 Qk else Nx H3)
    (hd : ∀ I' H', Gr [] I H1 I' H' → iL Sy I' (.ref D) ((List.range n).map f) → Qd H') : LcR (Itr lo n) g tt te vz σ H1 D Qd := by
  refine lc_wk [] Sy (fun i z => z = f i) (fun _ _ => True) (wk_range (I := I)) s0 hD (by simp) hn stb_true trivial (fun i I' H' Nx Qk hi s1 s2 _ kk => ?_) (fun I' H' ys zs g1 hD' b2 hz rl _ => ?_)
  · exact step i I' H' Nx Qk hi s1 s2 fun I'' H'' y g2 sy => kk _ _ _ _ g2 trivial sy rfl
  · exact hd I' H' g1 ⟨D, ys, rfl, hD', by rw [← range_of hz rl]; exact b2⟩
end
end Tk

set_option Elab.async false
set_option linter.all false
set_option maxRecDepth 100000
set_option maxHeartbeats 4000000
namespace Tk
open PySem PySem.Spec PyProof.Rows L2
section
variable {α β : Type} {K : PySem.W.Frag}
/-- a new list of what is made of each -/
theorem lc_map {J : It} {R : Rp α} {Sy : Rp β} [Mono R] [Mono Sy] (f : α → β) {vs : List V} {xs : List α} {I H1 : Hp} {g : TG} {tt : TT} {te : TE} {vz : List Nat} {σ : L2.St} {D : Addr} {Qd : Hp → Prop}
    (W : Wk J vs.length (gv vs) I) (a2 : All2 (R I) vs xs) (s0 : Same I H1) (hD : H1 D = none) (hn : xs.length < sizeLine)
    (step : ∀ (i : Nat) (x : α) (I' H' : Hp) (Nx : Hp → Prop) (Qk : VK), xs[i]? = some x → R I' (gv vs i) x → Same I I' → Same I' H' → (∀ I'' H'' y, Gr [] I' H' I'' H'' → Sy I'' y (f x) → Qk y H'') →
      g (gv vs i) (wipe σ vz) H' fun σ2 H2 => wipe σ2 vz = wipe σ vz ∧ tt σ2 H2 fun b H3 => if b = true then te σ2 H3 Qk else Nx H3)
    (hd : ∀ I' H', Gr [] I H1 I' H' → iL Sy I' (.ref D) (xs.map f) → Qd H') : LcR J g tt te vz σ H1 D Qd := by
  have hl := a2.len
  refine lc_wk [] Sy (fun i z => ∃ x, xs[i]? = some x ∧ z = f x) (fun _ _ => True) W s0 hD (by simp) (by rw [hl]; exact hn) stb_true trivial (fun i I' H' Nx Qk hi s1 s2 _ kk => ?_) (fun I' H' ys zs g1 hD' b2 hz rl _ => ?_)
  · obtain ⟨x, hx⟩ : ∃ x, xs[i]? = some x := ⟨xs[i]'(by omega), List.getElem?_eq_getElem (by omega)⟩
    exact step i x I' H' Nx Qk hx (up s1 (gv2 a2 hx)) s1 s2 fun I'' H'' y g2 sy => kk _ _ _ _ g2 trivial sy ⟨x, hx, rfl⟩
  · have e : zs = xs.map f := map_of (by rw [hz, hl]) rl
    subst e
    exact hd I' H' g1 ⟨D, ys, rfl, hD', b2⟩
theorem All2.cut {R : V → α → Prop} : ∀ {vs : List V} {xs : List α} (a n : Nat), All2 R vs xs → All2 R ((vs.drop a).take n) ((xs.drop a).take n)
  | _, _, a, n, .nil => by simp; exact .nil
  | v :: vs, x :: xs, 0, 0, .cons h t => by simp; exact .nil
  | v :: vs, x :: xs, 0, n + 1, .cons h t => by
    have := All2.cut 0 n t
    simp only [List.drop_zero] at this ⊢
    exact .cons h this
  | v :: vs, x :: xs, a + 1, n, .cons h t => by
    have := All2.cut a n t
    simpa using this
theorem cutV_nat {xs : List V} {a n : Nat} (h : a + n ≤ xs.length) : cutV xs (some (a : Int)) (some ((a : Int) + n)) = (xs.drop a).take n := by
  unfold cutV
  rw [show ((a : Int) + n) = ((a + n : Nat) : Int) from by omega, HT.sIx_nat, HT.sIx_nat]
  congr 1
  · omega
  · congr 1; omega
theorem slice_of {R : Rp α} [Mono R] {I H : Hp} {v : V} {xs : List α} {a n : Nat} {Q : VK} (h : iL R I v xs) (s : Same I H) (hn : a + n ≤ xs.length) (k : ∀ I' H' v', Gr [] I H I' H' → iL R I' v' ((xs.drop a).take n) → Q v' H') :
    rSlL K v (some (a : Int)) (some ((a : Int) + n)) H Q := by
  obtain ⟨p, vs, rfl, hp, a2⟩ := h
  refine ⟨p, vs, rfl, SqL.of (s _ _ hp), fun l hl => ?_⟩
  rw [cutV_nat (by rw [a2.len]; exact hn)]
  have g := Gr.new (ms := []) (o := .lst ((vs.drop a).take n)) s hl
  exact k _ _ _ g ⟨l, _, rfl, upd_same, (a2.cut a n).up g.ii⟩
end
end Tk
namespace Tk
open PySem PySem.Spec PyProof.Rows L2
theorem Gr.none {ms : List Addr} {I H I' H' : Hp} {a : Addr} (g : Gr ms I H I' H') (h : H' a = Option.none) : H a = Option.none := by
  cases e : H a with
  | none => rfl
  | some o => obtain ⟨o', e'⟩ := g.th a o e; rw [h] at e'; cases e'
end Tk
namespace Tk
open PySem PySem.Spec PyProof.Rows L2
section
variable {α β : Type} {K : PySem.W.Frag}
/-- over numbers, with tests; the list stays open -/
theorem lc_flt {lo : Int} {n : Nat} {I H1 : Hp} {g : TG} {tt : TT} {te : TE} {vz : List Nat} {σ : L2.St} {D : Addr} {Qd : Hp → Prop} (Sy : Rp β) [Mono Sy] (p : Nat → Bool) (f : Nat → β) (s0 : Same I H1) (hD : H1 D = none) (hn : n < sizeLine)
    (step : ∀ (i : Nat) (I' H' : Hp) (Nx : Hp → Prop) (Qk : VK), i < n → Same I I' → Same I' H' → (p i = true → ∀ I'' H'' y, Gr [] I' H' I'' H'' → Sy I'' y (f i) → Qk y H'') → (p i = false → Nx H') →
      g (.int (lo + i)) (wipe σ vz) H' fun σ2 H2 => wipe σ2 vz = wipe σ vz ∧ tt σ2 H2 fun b H3 => if b = true then te σ2 H3 Qk else Nx H3)
    (hd : ∀ I' H' ys, Gr [] I H1 I' H' → I' D = none → H' D = some (.lst ys) → All2 (Sy I') ys (((List.range n).filter p).map f) → Qd H') : LcR (Itr lo n) g tt te vz σ H1 D Qd := by
  let Mid : Nat → Hp → Prop := fun i H => ∃ I' ys, Gr [] I H1 I' H ∧ I' D = none ∧ H D = some (.lst ys) ∧ All2 (Sy I') ys (((List.range i).filter p).map f)
  refine ⟨fun i m H => m = n - i ∧ i ≤ n ∧ Mid i H, ⟨n, rfl, Nat.zero_le _, I, [], (Gr.tmp s0 hD), s0.free hD, upd_same, .nil⟩, ?_⟩
  rintro i m H ⟨rfl, hi, I', ys, gr, hI, hH, a2⟩
  by_cases hlt : i < n
  · refine .inr ⟨hlt, fun H' => i + 1 ≤ n ∧ Mid (i + 1) H', fun H' z => ⟨n - (i + 1), by omega, rfl, z.1, z.2⟩, fun x H' y => ?_⟩
    obtain ⟨rfl, rfl⟩ := y
    refine step i I' _ _ _ hlt gr.ii gr.ih (fun hp I'' H'' y g2 sy => ?_) (fun hp => ⟨hlt, I', ys, gr, hI, hH, ?_⟩)
    · have hD2 := g2.at hH (by simp)
      have hI2 := g2.out hI hH
      have ll : ys.length ≤ i := by
        rw [a2.len, List.length_map]
        exact Nat.le_trans (List.length_filter_le _ _) (by simp)
      refine ⟨ys, hD2, by omega, hlt, I'', ys ++ [y], ?_, hI2, upd_same, ?_⟩
      · have g3 := gr.trans g2
        exact ((g3.mono (ns := [D]) fun _ z => nomatch z).trans (Gr.mut g3.ih hI2 List.mem_cons_self)).drop hD
      · rw [List.range_succ, List.filter_append, List.filter_cons_of_pos hp, List.filter_nil, List.map_append]
        exact (a2.up g2.ii).snoc sy
    · rw [List.range_succ, List.filter_append, List.filter_cons_of_neg (by rw [hp]; exact Bool.false_ne_true), List.filter_nil, List.append_nil]
      exact a2
  · have e : i = n := by omega
    subst e
    exact .inl ⟨Nat.le_refl _, hd I' H ys gr hI hH a2⟩
theorem All2.unsnoc {R : V → α → Prop} : ∀ {xs : List α} {vs : List V} {x : α}, All2 R vs (xs ++ [x]) → ∃ us u, vs = us ++ [u] ∧ All2 R us xs ∧ R u x
  | [], _, x, .cons h .nil => ⟨[], _, rfl, .nil, h⟩
  | y :: r, _, x, .cons h t => by
    obtain ⟨us, u, rfl, t2, hu⟩ := All2.unsnoc t
    exact ⟨_ :: us, u, rfl, .cons h t2, hu⟩
end
end Tk
namespace Tk
open PySem PySem.Spec PyProof.Rows L2
theorem op_catAK {X : Cx} (K : PySem.W.Frag) (hK : X.K = K := by rfl) : OpR X (binaryOp .Add) (rCatA K) := hK ▸ op_catA
end Tk

set_option Elab.async false
set_option linter.all false
set_option maxRecDepth 100000
set_option maxHeartbeats 4000000
/-! Errors with fields: what was caught is asked for its class and read. -/
namespace Tk
open PySem PySem.Spec PyProof.Rows L2
section
variable {X : Cx}
theorem xd_inst {a D dd : Addr} {oe : Obj} {pn : List (Addr × Obj)} {fs : List (Str × V)} {pins : List (Addr × Obj)} {σ : L2.St} {H : Hp} {s : Shared} (I : Inv (X.suite a ((a, oe) :: pn)) pins σ H s)
    (hz : Zc (.ref D) (some dd) oe) (hf : ∃ vs, oe.data = .fields vs) (h : H dd = some (.xd fs)) : ∃ od, PySem.W.InstAt s.heap a oe D (some od) := by
  obtain ⟨hget, _⟩ := I.pin (a, oe) (List.mem_append.mpr (.inl List.mem_cons_self))
  obtain ⟨vs, hv⟩ := hf
  have hx : ObjOk X.prog X.w H s.heap dd (.xd fs) := I.hok dd _ h
  obtain ⟨mA, hns, hr⟩ := hx
  obtain ⟨od, ho, hl⟩ := lookIn_ns hns
  exact ⟨od, hget, hz.1, by unfold PySem.W.notCls; rw [hv] <;> rfl, by rw [hz.2]; exact ho⟩
theorem exc_cls {K : PySem.W.Frag} {D : Addr} (c : ExcC K D) : (PySem.W.clsIn K D).isSome = true := by
  obtain ⟨cd, hc, _⟩ := PySem.W.any_some c.hd
  rw [hc]; rfl
/-- isinstance of the caught exception, one that has fields -/
def rIsEd (K : PySem.W.Frag) (D a : Addr) (cls : Value) (d : Option Addr) : List V → Hp → VK → Prop := fun xs H Q => cls = .ref D ∧ (∃ dd fs, d = some dd ∧ H dd = some (.xd fs)) ∧ rIsE K D a xs H Q
theorem call_isEd {a D : Addr} {oe : Obj} {cls : Value} {d : Option Addr} {pn : List (Addr × Obj)} (c : ExcC X.K D) (hz : Zc cls d oe) (hf : ∃ vs, oe.data = .fields vs) : CallR (X.suite a ((a, oe) :: pn)) (.builtin "isinstance") (rIsEd X.K D a cls d) := by
  intro pins s σ H xs us Q I r h
  obtain ⟨rfl, ⟨dd, fs, rfl, hd⟩, cc, cv, b, rfl, hcv, e, q⟩ := h
  obtain ⟨u1, u2, rfl, r1, r2⟩ := vals2 r
  cases r1
  have ec := hcv _ r2
  subst ec
  obtain ⟨od, J⟩ := xd_inst I hz hf hd
  exact PySem.W.kia_one (PySem.W.kitx_exc (exc_cls c) c.hg c.hk c.hs c.ha c.hn c.ht c.hm) I.kIn J e (fun z => nomatch z) fun tk => ⟨.bl b, H, I.kept (t' := tk) fun _ _ z => z, rfl, q⟩
def rIsETd (K : PySem.W.Frag) (D a : Addr) (cls : Value) (d : Option Addr) : List V → Hp → VK → Prop := fun xs H Q => cls = .ref D ∧ (∃ dd fs, d = some dd ∧ H dd = some (.xd fs)) ∧ ∃ (tp : Addr) (cs : List V) (us : List Value) (b : Bool), xs = [.ref a, .ref tp] ∧ H tp = some (.tup cs) ∧ Paired ClsV cs us ∧ PySem.W.kitAny K (.ref D) us = some b ∧ Q (.bl b) H
theorem call_isETd {a D : Addr} {oe : Obj} {cls : Value} {d : Option Addr} {pn : List (Addr × Obj)} (c : ExcC X.K D) (hz : Zc cls d oe) (hf : ∃ vs, oe.data = .fields vs) : CallR (X.suite a ((a, oe) :: pn)) (.builtin "isinstance") (rIsETd X.K D a cls d) := by
  intro pins s σ H xs us Q I r h
  obtain ⟨rfl, ⟨dd, fs, rfl, hd⟩, tp, cs, ws, b, rfl, htp, hcs, e, q⟩ := h
  obtain ⟨u1, u2, rfl, r1, r2⟩ := vals2 r
  cases r1; cases r2
  obtain ⟨od, J⟩ := xd_inst I hz hf hd
  have ob : ObjOk X.prog X.w H s.heap tp (.tup cs) := I.hok tp _ htp
  obtain ⟨_, its, rv, ⟨oc, od', oda, osl⟩, g1, g2, n, g3⟩ := ob
  dsimp only at g2 g3
  subst g2 g3
  have ew := ClsV.all hcs rv
  subst ew
  exact PySem.W.kia_tup (PySem.W.kitx_exc (exc_cls c) c.hg c.hk c.hs c.ha c.hn c.ht c.hm) I.kIn J g1 e (fun z => nomatch z) fun tk => ⟨.bl b, H, I.kept (t' := tk) fun _ _ z => z, rfl, q⟩
end
/-- an error class over ValueError, as it lies there -/
def clsO (C : Addr) (o : Obj) : Bool := match o.data with
  | .cls cd => decide (o.cls = .type "type") && (decide (cd.mro.head? = some (.ref C)) && (HandSPX.refsVE cd.mro.tail && (decide (o.slots.size = 6) && (decide (o.slots[4]? = some (some (.builtin "ValueError.__new__"))) && (cd.hasDict && !cd.hasDel)))))
  | _ => false
theorem six {α : Type} {l : List α} (h : l.length = 6) : ∃ a b c d e f, l = [a, b, c, d, e, f] := by
  match l, h with
  | [a, b, c, d, e, f], _ => exact ⟨a, b, c, d, e, f, rfl⟩
theorem clsO_ok {C : Addr} {o : Obj} (h : clsO C o = true) : ∃ nm q N bs bm sn sub ab col dd k0 k1 k2 k3 k5, o = excClassObj nm q C N bs bm true sn sub ab col dd k0 k1 k2 k3 k5 "ValueError.__new__" ∧ HandSPX.refsVE bm = true := by
  obtain ⟨oc, od, oda, osl⟩ := o
  unfold clsO at h
  split at h
  case h_2 => cases h
  rename_i cd e
  dsimp only at e
  subst e
  obtain ⟨h1, h⟩ := He.ba h
  obtain ⟨h2, h⟩ := He.ba h
  obtain ⟨h3, h⟩ := He.ba h
  obtain ⟨h4, h⟩ := He.ba h
  obtain ⟨h5, h⟩ := He.ba h
  obtain ⟨h6, h7⟩ := He.ba h
  replace h1 := of_decide_eq_true h1
  replace h2 := of_decide_eq_true h2
  replace h4 := of_decide_eq_true h4
  replace h5 := of_decide_eq_true h5
  obtain ⟨nm, bs, mro, ns, qn, hd, sn, sub, ab, col, del⟩ := cd
  dsimp only at h1 h2 h3 h4 h5 h6 h7
  obtain ⟨l⟩ := osl
  obtain ⟨k0, k1, k2, k3, k4, k5, rfl⟩ := six (show l.length = 6 from h4)
  replace h5 : k4 = some (.builtin "ValueError.__new__") := by simpa using h5
  cases mro with
  | nil => cases h2
  | cons m bm =>
    replace h2 : m = .ref C := by simpa using h2
    subst h1 h2 h5 h6
    replace h7 : del = false := by simpa using h7
    subst h7
    exact ⟨nm, qn, ns, bs, bm, sn, sub, ab, col, od, k0, k1, k2, k3, k5, rfl, h3⟩
/-- what the head tells of such a class with its own __init__ and a field -/
structure OexF (K : PySem.W.Frag) (C f : Addr) (fld : Str) : Prop where
  T : OexC K C
  iC : PySem.W.findIn K (.ref C) "__init__" = some (some (.ref f))
  tI : PySem.W.typeIn K (.ref f) = some (.type "function")
  no : PySem.W.findIn K (.ref C) fld = some none
  xf : XfC K C
def oexB (K : PySem.W.Frag) (x fld : Str) : Bool :=
  (match K.lookup (He.ga K x) with
    | some o => clsO (He.ga K x) o
    | none => false) &&
  (decide (PySem.W.findIn K (.ref (He.ga K x)) "__setattr__" = some (some (.builtin "object.__setattr__"))) &&
  (decide (PySem.W.subIn K (.ref (He.ga K x)) (.type "BaseException") = some true) &&
  (decide (PySem.W.typeIn K (.ref (He.ga K x)) = some (.type "type")) &&
  (PySem.W.keepIn K (.ref (He.ga K x)) &&
  (decide (PySem.W.findIn K (.ref (He.ga K x)) "__init__" = some (some (.ref (He.ma K (He.ga K x) "__init__")))) &&
  (decide (PySem.W.typeIn K (.ref (He.ma K (He.ga K x) "__init__")) = some (.type "function")) &&
  (decide (PySem.W.findIn K (.ref (He.ga K x)) fld = some none) && xfB K (He.ga K x))))))))
theorem oexB_ok {K : PySem.W.Frag} {x fld : Str} (h : oexB K x fld = true) : OexF K (He.ga K x) (He.ma K (He.ga K x) "__init__") fld := by
  obtain ⟨h1, h⟩ := He.ba h
  obtain ⟨h2, h⟩ := He.ba h
  obtain ⟨h3, h⟩ := He.ba h
  obtain ⟨h4, h⟩ := He.ba h
  obtain ⟨h5, h⟩ := He.ba h
  obtain ⟨h6, h⟩ := He.ba h
  obtain ⟨h7, h⟩ := He.ba h
  obtain ⟨h8, h9⟩ := He.ba h
  have hc : ∃ nm q N bs bm sn sub ab col dd k0 k1 k2 k3 k5, K.lookup (He.ga K x) = some (excClassObj nm q (He.ga K x) N bs bm true sn sub ab col dd k0 k1 k2 k3 k5 "ValueError.__new__") ∧ HandSPX.refsVE bm = true := by
    cases e : K.lookup (He.ga K x) with
    | none => rw [e] at h1; cases h1
    | some o =>
      rw [e] at h1
      obtain ⟨nm, q, N, bs, bm, sn, sub, ab, col, dd, k0, k1, k2, k3, k5, eo, hb⟩ := clsO_ok h1
      exact ⟨nm, q, N, bs, bm, sn, sub, ab, col, dd, k0, k1, k2, k3, k5, by rw [eo], hb⟩
  exact ⟨⟨hc, of_decide_eq_true h2, of_decide_eq_true h3, of_decide_eq_true h4, h5⟩, of_decide_eq_true h6, of_decide_eq_true h7, of_decide_eq_true h8, xfB_ok h9⟩
end Tk

set_option Elab.async false
set_option linter.all false
set_option maxRecDepth 100000
set_option maxHeartbeats 4000000
/-! Tuples of texts that the top leaves. -/
namespace Tk
open PySem PySem.Spec PyProof.Rows L2
def strsB : List Value → List Str → Bool
  | [], [] => true
  | .str x _ :: r, y :: s => decide (x = y) && strsB r s
  | _, _ => false
theorem strsB_ok : ∀ {us : List Value} {ys : List Str}, strsB us ys = true → Vals (ys.map V.str) us := by
  intro us
  induction us with
  | nil =>
    intro ys h
    cases ys with
    | nil => exact .nil
    | cons y s => cases h
  | cons u r ih =>
    intro ys h
    cases ys with
    | nil => cases u <;> cases h
    | cons y s =>
      cases u with
      | str x t =>
        obtain ⟨h1, h2⟩ := He.ba (show (decide (x = y) && strsB r s) = true from h)
        have e := of_decide_eq_true h1
        subst e
        exact .cons ⟨t, rfl⟩ (ih h2)
      | _ => cases h
def tupO (o : Obj) (l : List Str) : Bool := match o.data with
  | .seq its n => decide (o.cls = .type "tuple") && (decide (its.size ≤ sizeLine) && strsB its.toList l)
  | _ => false
def tupB (K : PySem.W.Frag) (x : Str) (l : List Str) : Bool := match K.lookup (He.ga K x) with
  | some o => tupO o l
  | none => false
theorem tupO_ok {o : Obj} {l : List Str} (h : tupO o l = true) : ∃ its n, o.cls = .type "tuple" ∧ o.data = .seq its n ∧ its.size ≤ sizeLine ∧ Vals (l.map V.str) its.toList := by
  unfold tupO at h
  split at h
  · rename_i its n q
    obtain ⟨h1, h⟩ := He.ba h
    obtain ⟨h2, h3⟩ := He.ba h
    exact ⟨its, n, of_decide_eq_true h1, q, of_decide_eq_true h2, strsB_ok h3⟩
  · cases h
theorem tupB_ok {K : PySem.W.Frag} {x : Str} {l : List Str} (h : tupB K x l = true) (H : Hp) : SqT K H (He.ga K x) (l.map V.str) := by
  unfold tupB at h
  cases e : K.lookup (He.ga K x) with
  | none => rw [e] at h; cases h
  | some o =>
    rw [e] at h
    obtain ⟨its, n, h1, h2, h3, h4⟩ := tupO_ok h
    exact .inr ⟨o, its, n, e, h1, h2, h3, h4⟩
end Tk

set_option Elab.async false
set_option linter.all false
set_option maxRecDepth 100000
set_option maxHeartbeats 4000000
/-! Data as the law compares it. -/
namespace Tk
open PySem PySem.Spec PyProof.Rows L2
inductive Da where
  | non | bl (b : Bool) | int (i : Int) | str (s : Str) | lst (l : List Da) | tup (l : List Da)
mutual
def eqd : Da → Da → Bool
  | .non, .non => true
  | .bl a, .bl b => decide (a = b)
  | .int a, .int b => decide (a = b)
  | .str a, .str b => decide (a = b)
  | .lst a, .lst b => eqds a b
  | .tup a, .tup b => eqds a b
  | _, _ => false
def eqds : List Da → List Da → Bool
  | [], [] => true
  | a :: r, b :: s => eqd a b && eqds r s
  | _, _ => false
end
mutual
def dep : Da → Nat
  | .lst l => deps l + 1
  | .tup l => deps l + 1
  | _ => 0
def deps : List Da → Nat
  | [] => 0
  | a :: r => max (dep a) (deps r)
end
mutual
def tame : Da → Prop
  | .lst l => l.length ≤ 1000000 ∧ tames l
  | .tup l => l.length ≤ 1000000 ∧ tames l
  | _ => True
def tames : List Da → Prop
  | [] => True
  | a :: r => tame a ∧ tames r
end
mutual
def dR (H : Hp) : V → Da → Prop
  | v, .non => v = .non
  | v, .bl b => v = .bl b
  | v, .int i => v = .int i
  | v, .str s => v = .str s
  | v, .lst l => ∃ a vs, v = .ref a ∧ H a = some (.lst vs) ∧ dRs H vs l
  | v, .tup l => ∃ a vs, v = .ref a ∧ H a = some (.tup vs) ∧ dRs H vs l
def dRs (H : Hp) : List V → List Da → Prop
  | vs, [] => vs = []
  | vs, d :: ds => ∃ v r, vs = v :: r ∧ dR H v d ∧ dRs H r ds
end
mutual
theorem dR_up {H H' : Hp} (s : Same H H') : ∀ (v : V) (d : Da), dR H v d → dR H' v d
  | v, .non, h => h
  | v, .bl _, h => h
  | v, .int _, h => h
  | v, .str _, h => h
  | v, .lst l, h => by
    simp only [dR] at h ⊢
    obtain ⟨a, vs, e, h1, h2⟩ := h
    exact ⟨a, vs, e, s _ _ h1, dRs_up s vs l h2⟩
  | v, .tup l, h => by
    simp only [dR] at h ⊢
    obtain ⟨a, vs, e, h1, h2⟩ := h
    exact ⟨a, vs, e, s _ _ h1, dRs_up s vs l h2⟩
theorem dRs_up {H H' : Hp} (s : Same H H') : ∀ (vs : List V) (ds : List Da), dRs H vs ds → dRs H' vs ds
  | vs, [], h => by simp only [dRs] at h ⊢; exact h
  | vs, d :: ds, h => by
    simp only [dRs] at h ⊢
    obtain ⟨v, r, e, h1, h2⟩ := h
    exact ⟨v, r, e, dR_up s v d h1, dRs_up s r ds h2⟩
end
theorem dRs_len {H : Hp} : ∀ {vs : List V} {ds : List Da}, dRs H vs ds → vs.length = ds.length
  | vs, [], h => by simp only [dRs] at h; subst h; rfl
  | vs, d :: ds, h => by
    simp only [dRs] at h
    obtain ⟨v, r, rfl, _, h2⟩ := h
    simp [dRs_len h2]
theorem dRs_at {H : Hp} : ∀ {vs : List V} {ds : List Da} {i : Nat} {d : Da}, dRs H vs ds → ds[i]? = some d → ∃ v, vs[i]? = some v ∧ dR H v d
  | _, [], _, _, _, e => by simp at e
  | vs, d :: ds, 0, x, h, e => by
    simp only [dRs] at h
    obtain ⟨v, r, rfl, h1, _⟩ := h
    simp at e; subst e
    exact ⟨v, rfl, h1⟩
  | vs, d :: ds, i + 1, x, h, e => by
    simp only [dRs] at h
    obtain ⟨v, r, rfl, _, h2⟩ := h
    obtain ⟨u, h3, h4⟩ := dRs_at (i := i) (d := x) h2 (by simpa using e)
    exact ⟨u, by simpa using h3, h4⟩
theorem tames_at : ∀ {ds : List Da} {i : Nat} {d : Da}, tames ds → ds[i]? = some d → tame d
  | [], _, _, _, e => by simp at e
  | d :: ds, 0, x, h, e => by simp at e; subst e; exact h.1
  | d :: ds, i + 1, x, h, e => tames_at (ds := ds) (i := i) h.2 (by simpa using e)
theorem deps_at : ∀ {ds : List Da} {i : Nat} {d : Da}, ds[i]? = some d → dep d ≤ deps ds
  | [], _, _, e => by simp at e
  | d :: ds, 0, x, e => by simp at e; subst e; simp only [deps]; omega
  | d :: ds, i + 1, x, e => by
    have := deps_at (ds := ds) (i := i) (d := x) (by simpa using e)
    simp only [deps]; omega
mutual
theorem eqd_iff : ∀ a b : Da, eqd a b = true ↔ a = b
  | .non, b => by cases b <;> simp [eqd]
  | .bl x, b => by cases b <;> simp [eqd]
  | .int x, b => by cases b <;> simp [eqd]
  | .str x, b => by cases b <;> simp [eqd]
  | .lst x, b => by cases b <;> simp [eqd]; exact eqds_iff _ _
  | .tup x, b => by cases b <;> simp [eqd]; exact eqds_iff _ _
theorem eqds_iff : ∀ a b : List Da, eqds a b = true ↔ a = b
  | [], b => by cases b <;> simp [eqds]
  | a :: r, b => by
    cases b with
    | nil => simp [eqds]
    | cons b s => simp [eqds, eqd_iff a b, eqds_iff r s]
end
theorem eqds_len : ∀ {a b : List Da}, a.length ≠ b.length → eqds a b = false
  | [], [], h => absurd rfl h
  | [], _ :: _, _ => rfl
  | _ :: _, [], _ => rfl
  | a :: r, b :: s, h => by
    have := eqds_len (a := r) (b := s) (by simpa using h)
    simp [eqds, this]
theorem eqds_false : ∀ {a b : List Da} {i : Nat} {x y : Da}, a[i]? = some x → b[i]? = some y → eqd x y = false → eqds a b = false
  | [], _, _, _, _, h, _, _ => by simp at h
  | _ :: _, [], _, _, _, _, h, _ => by simp at h
  | a :: r, b :: s, 0, x, y, h1, h2, h3 => by simp at h1 h2; subst h1 h2; simp [eqds, h3]
  | a :: r, b :: s, i + 1, x, y, h1, h2, h3 => by
    have := eqds_false (a := r) (b := s) (i := i) (by simpa using h1) (by simpa using h2) h3
    simp [eqds, this]
theorem eqds_true : ∀ {a b : List Da}, a.length = b.length → (∀ (i : Nat) (x y : Da), a[i]? = some x → b[i]? = some y → eqd x y = true) → eqds a b = true
  | [], [], _, _ => rfl
  | [], _ :: _, h, _ => by simp at h
  | _ :: _, [], h, _ => by simp at h
  | a :: r, b :: s, h, k => by
    simp only [eqds, Bool.and_eq_true]
    exact ⟨k 0 a b rfl rfl, eqds_true (by simpa using h) fun i x y h1 h2 => k (i + 1) x y (by simpa using h1) (by simpa using h2)⟩
/-- its kind -/
def knd : Da → String
  | .non => "NoneType" | .bl _ => "bool" | .int _ => "int" | .str _ => "str" | .lst _ => "list" | .tup _ => "tuple"
def isT : Da → String → Bool
  | .non, _ => false
  | .bl _, T => T == "bool" || T == "int"
  | .int _, T => T == "int"
  | .str _, T => T == "str"
  | .lst _, T => T == "list"
  | .tup _, T => T == "tuple"
theorem knd_ty {K : PySem.W.Frag} {H : Hp} {v : V} {d : Da} (h : dR H v d) : TyX K H v (.type (knd d)) := by
  cases d with
  | non => simp only [dR] at h; subst h; exact .base .non
  | bl b => simp only [dR] at h; subst h; exact .base (.bl b)
  | int b => simp only [dR] at h; subst h; exact .base (.int b)
  | str b => simp only [dR] at h; subst h; exact .base (.str b)
  | lst l => simp only [dR] at h; obtain ⟨a, vs, rfl, h1, _⟩ := h; exact .base (.lst h1)
  | tup l => simp only [dR] at h; obtain ⟨a, vs, rfl, h1, _⟩ := h; exact .base (.tup h1)
theorem knd_tuple {K : PySem.W.Frag} (d : Da) : PySem.W.kitOne K (.type (knd d)) (.type "tuple") = some (isT d "tuple") := by cases d <;> rfl
theorem knd_list {K : PySem.W.Frag} (d : Da) : PySem.W.kitOne K (.type (knd d)) (.type "list") = some (isT d "list") := by cases d <;> rfl
theorem knd_bool {K : PySem.W.Frag} (d : Da) : PySem.W.kitOne K (.type (knd d)) (.type "bool") = some (isT d "bool") := by cases d <;> rfl
theorem knd_int {K : PySem.W.Frag} (d : Da) : PySem.W.kitOne K (.type (knd d)) (.type "int") = some (isT d "int") := by cases d <;> rfl
theorem knd_str {K : PySem.W.Frag} (d : Da) : PySem.W.kitOne K (.type (knd d)) (.type "str") = some (isT d "str") := by cases d <;> rfl
def isNon : Da → Bool
  | .non => true
  | _ => false
theorem non_dec {H : Hp} {v : V} {d : Da} (h : dR H v d) : decide (v = V.non) = isNon d := by
  cases d with
  | non => simp only [dR] at h; subst h; rfl
  | bl b => simp only [dR] at h; subst h; rfl
  | int b => simp only [dR] at h; subst h; rfl
  | str b => simp only [dR] at h; subst h; rfl
  | lst l => simp only [dR] at h; obtain ⟨a, vs, rfl, h1, _⟩ := h; rfl
  | tup l => simp only [dR] at h; obtain ⟨a, vs, rfl, h1, _⟩ := h; rfl
end Tk

set_option Elab.async false
set_option linter.all false
set_option maxRecDepth 100000
set_option maxHeartbeats 0
/-! ### the text by places, the head -/
namespace Hd
open PySem PySem.Spec PyProof.Rows L2 Tk
def top (i : Nat) : Stmt := PySem.Challenge.pw_notesttells_k52_bounds_of_boxes.main.body.getD i (.Pass ⟨0, 0, 0, 0⟩)
abbrev s_words_of : Stmt := top 6
abbrev s_number_of : Stmt := top 7
abbrev s__is_name : Stmt := top 22
abbrev s__kept : Stmt := top 25
abbrev s_read_box : Stmt := top 26
abbrev s_read_around : Stmt := top 27
abbrev s__read : Stmt := top 28
abbrev s_box_text : Stmt := top 29
abbrev s__block_words : Stmt := top 30
abbrev s__statement_text : Stmt := top 31
abbrev s__choice_text : Stmt := top 32
abbrev s__expression_text : Stmt := top 33
abbrev s__law_pool : Stmt := top 35
abbrev s__law_draw : Stmt := top 36
abbrev s__law_same : Stmt := top 37
abbrev s__law_told : Stmt := top 38
abbrev s__law_numbers : Stmt := top 39
abbrev s__law_many : Stmt := top 40
abbrev s_law : Stmt := top 41
abbrev s_BadText_init : Stmt := inClass (top 2) 0
abbrev s_Reader_init : Stmt := inClass (top 21) 0
abbrev s_Reader_read : Stmt := inClass (top 21) 1
abbrev s_Reader__here : Stmt := inClass (top 21) 2
abbrev s_Reader__go_on : Stmt := inClass (top 21) 3
abbrev s_Reader__take : Stmt := inClass (top 21) 4
abbrev s_Reader__number : Stmt := inClass (top 21) 5
abbrev s_Reader__new_name : Stmt := inClass (top 21) 6
abbrev s_Reader__variable : Stmt := inClass (top 21) 7
abbrev s_Reader__is_variable : Stmt := inClass (top 21) 8
abbrev s_Reader__may_begin : Stmt := inClass (top 21) 9
abbrev s_Reader__statements : Stmt := inClass (top 21) 10
abbrev s_Reader__statement : Stmt := inClass (top 21) 11
abbrev s_Reader__choice : Stmt := inClass (top 21) 12
abbrev s_Reader__expression : Stmt := inClass (top 21) 13
abbrev s_Reader__leaf : Stmt := inClass (top 21) 14
abbrev s_Box_init : Stmt := inClass (top 24) 0
abbrev s_Box_eq : Stmt := inClass (top 24) 1
abbrev FnP (K : PySem.W.Frag) (x q : Str) (st : Stmt) (ds : List V) (f : Addr) (fd : FuncData) : Prop := FunD K x q (defArgs st) (defBody st) (defScope st) ds [] f fd
def d_words_of : He.DefD := ⟨("words_of", none), "words_of", "words_of", defArgs s_words_of, defBody s_words_of, defScope s_words_of, [], []⟩
def d_number_of : He.DefD := ⟨("number_of", none), "number_of", "number_of", defArgs s_number_of, defBody s_number_of, defScope s_number_of, [], []⟩
def d__is_name : He.DefD := ⟨("_is_name", none), "_is_name", "_is_name", defArgs s__is_name, defBody s__is_name, defScope s__is_name, [], []⟩
def d__kept : He.DefD := ⟨("_kept", none), "_kept", "_kept", defArgs s__kept, defBody s__kept, defScope s__kept, [], []⟩
def d_read_box : He.DefD := ⟨("read_box", none), "read_box", "read_box", defArgs s_read_box, defBody s_read_box, defScope s_read_box, [], []⟩
def d_read_around : He.DefD := ⟨("read_around", none), "read_around", "read_around", defArgs s_read_around, defBody s_read_around, defScope s_read_around, [], []⟩
def d__read : He.DefD := ⟨("_read", none), "_read", "_read", defArgs s__read, defBody s__read, defScope s__read, [], []⟩
def d_box_text : He.DefD := ⟨("box_text", none), "box_text", "box_text", defArgs s_box_text, defBody s_box_text, defScope s_box_text, [], []⟩
def d__block_words : He.DefD := ⟨("_block_words", none), "_block_words", "_block_words", defArgs s__block_words, defBody s__block_words, defScope s__block_words, [], []⟩
def d__statement_text : He.DefD := ⟨("_statement_text", none), "_statement_text", "_statement_text", defArgs s__statement_text, defBody s__statement_text, defScope s__statement_text, [], []⟩
def d__choice_text : He.DefD := ⟨("_choice_text", none), "_choice_text", "_choice_text", defArgs s__choice_text, defBody s__choice_text, defScope s__choice_text, [], []⟩
def d__expression_text : He.DefD := ⟨("_expression_text", none), "_expression_text", "_expression_text", defArgs s__expression_text, defBody s__expression_text, defScope s__expression_text, [], []⟩
def d__law_pool : He.DefD := ⟨("_law_pool", none), "_law_pool", "_law_pool", defArgs s__law_pool, defBody s__law_pool, defScope s__law_pool, [], []⟩
def d__law_draw : He.DefD := ⟨("_law_draw", none), "_law_draw", "_law_draw", defArgs s__law_draw, defBody s__law_draw, defScope s__law_draw, [], []⟩
def d__law_same : He.DefD := ⟨("_law_same", none), "_law_same", "_law_same", defArgs s__law_same, defBody s__law_same, defScope s__law_same, [], []⟩
def d__law_told : He.DefD := ⟨("_law_told", none), "_law_told", "_law_told", defArgs s__law_told, defBody s__law_told, defScope s__law_told, [], []⟩
def d__law_numbers : He.DefD := ⟨("_law_numbers", none), "_law_numbers", "_law_numbers", defArgs s__law_numbers, defBody s__law_numbers, defScope s__law_numbers, [], []⟩
def d__law_many : He.DefD := ⟨("_law_many", none), "_law_many", "_law_many", defArgs s__law_many, defBody s__law_many, defScope s__law_many, [], []⟩
def d_law : He.DefD := ⟨("law", none), "law", "law", defArgs s_law, defBody s_law, defScope s_law, [], []⟩
def d_BadText_init : He.DefD := ⟨("BadText", some "__init__"), "__init__", "BadText.__init__", defArgs s_BadText_init, defBody s_BadText_init, defScope s_BadText_init, [], []⟩
def d_Reader_init : He.DefD := ⟨("Reader", some "__init__"), "__init__", "Reader.__init__", defArgs s_Reader_init, defBody s_Reader_init, defScope s_Reader_init, [], []⟩
def d_Reader_read : He.DefD := ⟨("Reader", some "read"), "read", "Reader.read", defArgs s_Reader_read, defBody s_Reader_read, defScope s_Reader_read, [], []⟩
def d_Reader__here : He.DefD := ⟨("Reader", some "_here"), "_here", "Reader._here", defArgs s_Reader__here, defBody s_Reader__here, defScope s_Reader__here, [], []⟩
def d_Reader__go_on : He.DefD := ⟨("Reader", some "_go_on"), "_go_on", "Reader._go_on", defArgs s_Reader__go_on, defBody s_Reader__go_on, defScope s_Reader__go_on, [], []⟩
def d_Reader__take : He.DefD := ⟨("Reader", some "_take"), "_take", "Reader._take", defArgs s_Reader__take, defBody s_Reader__take, defScope s_Reader__take, [], []⟩
def d_Reader__number : He.DefD := ⟨("Reader", some "_number"), "_number", "Reader._number", defArgs s_Reader__number, defBody s_Reader__number, defScope s_Reader__number, [], []⟩
def d_Reader__new_name : He.DefD := ⟨("Reader", some "_new_name"), "_new_name", "Reader._new_name", defArgs s_Reader__new_name, defBody s_Reader__new_name, defScope s_Reader__new_name, [], []⟩
def d_Reader__variable : He.DefD := ⟨("Reader", some "_variable"), "_variable", "Reader._variable", defArgs s_Reader__variable, defBody s_Reader__variable, defScope s_Reader__variable, [], []⟩
def d_Reader__is_variable : He.DefD := ⟨("Reader", some "_is_variable"), "_is_variable", "Reader._is_variable", defArgs s_Reader__is_variable, defBody s_Reader__is_variable, defScope s_Reader__is_variable, [], []⟩
def d_Reader__may_begin : He.DefD := ⟨("Reader", some "_may_begin"), "_may_begin", "Reader._may_begin", defArgs s_Reader__may_begin, defBody s_Reader__may_begin, defScope s_Reader__may_begin, [], []⟩
def d_Reader__statements : He.DefD := ⟨("Reader", some "_statements"), "_statements", "Reader._statements", defArgs s_Reader__statements, defBody s_Reader__statements, defScope s_Reader__statements, [], []⟩
def d_Reader__statement : He.DefD := ⟨("Reader", some "_statement"), "_statement", "Reader._statement", defArgs s_Reader__statement, defBody s_Reader__statement, defScope s_Reader__statement, [], []⟩
def d_Reader__choice : He.DefD := ⟨("Reader", some "_choice"), "_choice", "Reader._choice", defArgs s_Reader__choice, defBody s_Reader__choice, defScope s_Reader__choice, [], []⟩
def d_Reader__expression : He.DefD := ⟨("Reader", some "_expression"), "_expression", "Reader._expression", defArgs s_Reader__expression, defBody s_Reader__expression, defScope s_Reader__expression, [], []⟩
def d_Reader__leaf : He.DefD := ⟨("Reader", some "_leaf"), "_leaf", "Reader._leaf", defArgs s_Reader__leaf, defBody s_Reader__leaf, defScope s_Reader__leaf, [], []⟩
def d_Box_init : He.DefD := ⟨("Box", some "__init__"), "__init__", "Box.__init__", defArgs s_Box_init, defBody s_Box_init, defScope s_Box_init, [], []⟩
def d_Box_eq : He.DefD := ⟨("Box", some "__eq__"), "__eq__", "Box.__eq__", defArgs s_Box_eq, defBody s_Box_eq, defScope s_Box_eq, [], []⟩
def fn : List He.DefD := [d_words_of, d_number_of, d__is_name, d__kept, d_read_box, d_read_around, d__read, d_box_text, d__block_words, d__statement_text, d__choice_text, d__expression_text, d__law_pool, d__law_draw, d__law_same, d__law_told, d__law_numbers, d__law_many, d_law, d_BadText_init, d_Reader_init, d_Reader_read, d_Reader__here, d_Reader__go_on, d_Reader__take, d_Reader__number, d_Reader__new_name, d_Reader__variable, d_Reader__is_variable, d_Reader__may_begin, d_Reader__statements, d_Reader__statement, d_Reader__choice, d_Reader__expression, d_Reader__leaf, d_Box_init, d_Box_eq]
def fas (K : PySem.W.Frag) : List Bool := [(He.Fa.free "ValueError").ok K,
  (He.Fa.free "any").ok K,
  (He.Fa.free "bool").ok K,
  (He.Fa.free "int").ok K,
  (He.Fa.free "isinstance").ok K,
  (He.Fa.free "len").ok K,
  (He.Fa.free "list").ok K,
  (He.Fa.free "range").ok K,
  (He.Fa.free "str").ok K,
  (He.Fa.free "tuple").ok K,
  (He.Fa.glo "words_of").ok K,
  (He.Fa.glo "number_of").ok K,
  (He.Fa.glo "_is_name").ok K,
  (He.Fa.glo "_kept").ok K,
  (He.Fa.glo "read_box").ok K,
  (He.Fa.glo "read_around").ok K,
  (He.Fa.glo "_read").ok K,
  (He.Fa.glo "box_text").ok K,
  (He.Fa.glo "_block_words").ok K,
  (He.Fa.glo "_statement_text").ok K,
  (He.Fa.glo "_choice_text").ok K,
  (He.Fa.glo "_expression_text").ok K,
  (He.Fa.glo "_law_pool").ok K,
  (He.Fa.glo "_law_draw").ok K,
  (He.Fa.glo "_law_same").ok K,
  (He.Fa.glo "_law_told").ok K,
  (He.Fa.glo "_law_numbers").ok K,
  (He.Fa.glo "_law_many").ok K,
  (He.Fa.glo "law").ok K,
  (He.Fa.int "MOST_BUTTONS" (4)).ok K,
  (He.Fa.int "MOST_ANSWERS" (4)).ok K,
  (He.Fa.glo "STATEMENTS").ok K,
  tupB K "STATEMENTS" ["set", "draw", "use", "say", "if"],
  (He.Fa.glo "OPERATORS").ok K,
  tupB K "OPERATORS" ["+", "-", "*", "/", "mod", "<", "="],
  (He.Fa.glo "RESERVED").ok K,
  tupB K "RESERVED" ["buttons", "answers", "var", "start", "press", "set", "draw", "use", "say", "if", "else", "end", "mod"],
  (He.Fa.int "MOST_VARIABLES" (4)).ok K,
  (He.Fa.int "MOST_LETTERS" (8)).ok K,
  (He.Fa.int "MOST_SIZE" (12)).ok K,
  (He.Fa.int "MOST_DRAWN" (6)).ok K,
  (He.Fa.int "MOST_DRAWS" (3)).ok K,
  (He.Fa.int "MOST_USES" (24)).ok K,
  (He.Fa.int "MOST_NUMBER" (65535)).ok K,
  (He.Fa.int "DEEPEST_IF" (4)).ok K,
  (He.Fa.int "DEEPEST_EXPRESSION" (5)).ok K,
  (He.Fa.glo "TestError").ok K,
  (He.Fa.keep "TestError").ok K,
  (He.Fa.exc "TestError").ok K,
  isEB K "TestError",
  (He.Fa.glo "BadText").ok K,
  (He.Fa.keep "BadText").ok K,
  isEB K "BadText",
  oexB K "BadText" "at",
  (He.Fa.glo "Reader").ok K,
  (He.Fa.keep "Reader").ok K,
  (He.Fa.cls "Reader").ok K,
  instB K "Reader",
  (He.Fa.mkr "Reader").ok K,
  PySem.W.selfFirst K (He.ga K "Reader"),
  (He.Fa.meth "Reader" "__init__").ok K,
  (He.Fa.meth "Reader" "read").ok K,
  (He.Fa.meth "Reader" "_here").ok K,
  (He.Fa.meth "Reader" "_go_on").ok K,
  (He.Fa.meth "Reader" "_take").ok K,
  (He.Fa.meth "Reader" "_number").ok K,
  (He.Fa.meth "Reader" "_new_name").ok K,
  (He.Fa.meth "Reader" "_variable").ok K,
  (He.Fa.meth "Reader" "_is_variable").ok K,
  (He.Fa.meth "Reader" "_may_begin").ok K,
  (He.Fa.meth "Reader" "_statements").ok K,
  (He.Fa.meth "Reader" "_statement").ok K,
  (He.Fa.meth "Reader" "_choice").ok K,
  (He.Fa.meth "Reader" "_expression").ok K,
  (He.Fa.meth "Reader" "_leaf").ok K,
  (He.Fa.noat "Reader" "words").ok K,
  (He.Fa.noat "Reader" "at").ok K,
  (He.Fa.noat "Reader" "around").ok K,
  (He.Fa.noat "Reader" "variables").ok K,
  (He.Fa.noat "Reader" "draws").ok K,
  (He.Fa.noat "Reader" "uses").ok K,
  (He.Fa.noat "Reader" "pressed").ok K,
  (He.Fa.glo "Box").ok K,
  (He.Fa.keep "Box").ok K,
  (He.Fa.cls "Box").ok K,
  instB K "Box",
  (He.Fa.mkr "Box").ok K,
  PySem.W.selfFirst K (He.ga K "Box"),
  (He.Fa.meth "Box" "__init__").ok K,
  (He.Fa.meth "Box" "__eq__").ok K,
  (He.Fa.noat "Box" "buttons").ok K,
  (He.Fa.noat "Box" "answers").ok K,
  (He.Fa.noat "Box" "variables").ok K,
  (He.Fa.noat "Box" "start").ok K,
  (He.Fa.noat "Box" "block").ok K,
  decide (PySem.W.kitOne K (.ref (He.ga K "BadText")) (.type "ValueError") = some true),
  decide (PySem.W.kitOne K (.ref (He.ga K "BadText")) (.ref (He.ga K "TestError")) = some true),
  decide (PySem.W.exmOne K (.ref (He.ga K "BadText")) (.ref (He.ga K "TestError")) = some true),
  decide (PySem.W.kitOne K (.ref (He.ga K "BadText")) (.ref (He.ga K "BadText")) = some true),
  decide (PySem.W.exmOne K (.ref (He.ga K "BadText")) (.ref (He.ga K "BadText")) = some true)]
def ex (K : PySem.W.Frag) : Bool := (fas K).all id
theorem fas_at {K : PySem.W.Frag} (c : ex K = true) (i : Nat) {b : Bool} (h : (fas K)[i]? = some b) : b = true := List.all_eq_true.mp c b (List.mem_of_getElem? h)
structure Dt (K : PySem.W.Frag) (mg : Str → Option Value) : Prop where
  s : SaysY ex fn K
  n : ∃ h : Heap, K.In h ∧ h.Ns mainGlobals mg
section
variable {K : PySem.W.Frag} {mg : Str → Option Value}
theorem free_ValueError (D : Dt K mg) : mg "ValueError" = none := by obtain ⟨h, X, G⟩ := D.n; exact He.free_ok X G (fas_at D.s.more 0 rfl)
theorem free_any (D : Dt K mg) : mg "any" = none := by obtain ⟨h, X, G⟩ := D.n; exact He.free_ok X G (fas_at D.s.more 1 rfl)
theorem free_bool (D : Dt K mg) : mg "bool" = none := by obtain ⟨h, X, G⟩ := D.n; exact He.free_ok X G (fas_at D.s.more 2 rfl)
theorem free_int (D : Dt K mg) : mg "int" = none := by obtain ⟨h, X, G⟩ := D.n; exact He.free_ok X G (fas_at D.s.more 3 rfl)
theorem free_isinstance (D : Dt K mg) : mg "isinstance" = none := by obtain ⟨h, X, G⟩ := D.n; exact He.free_ok X G (fas_at D.s.more 4 rfl)
theorem free_len (D : Dt K mg) : mg "len" = none := by obtain ⟨h, X, G⟩ := D.n; exact He.free_ok X G (fas_at D.s.more 5 rfl)
theorem free_list (D : Dt K mg) : mg "list" = none := by obtain ⟨h, X, G⟩ := D.n; exact He.free_ok X G (fas_at D.s.more 6 rfl)
theorem free_range (D : Dt K mg) : mg "range" = none := by obtain ⟨h, X, G⟩ := D.n; exact He.free_ok X G (fas_at D.s.more 7 rfl)
theorem free_str (D : Dt K mg) : mg "str" = none := by obtain ⟨h, X, G⟩ := D.n; exact He.free_ok X G (fas_at D.s.more 8 rfl)
theorem free_tuple (D : Dt K mg) : mg "tuple" = none := by obtain ⟨h, X, G⟩ := D.n; exact He.free_ok X G (fas_at D.s.more 9 rfl)
theorem glo_words_of (D : Dt K mg) : mg "words_of" = some (.ref (He.ga K "words_of")) := by obtain ⟨h, X, G⟩ := D.n; exact He.glo_ok X G (fas_at D.s.more 10 rfl)
theorem glo_number_of (D : Dt K mg) : mg "number_of" = some (.ref (He.ga K "number_of")) := by obtain ⟨h, X, G⟩ := D.n; exact He.glo_ok X G (fas_at D.s.more 11 rfl)
theorem glo__is_name (D : Dt K mg) : mg "_is_name" = some (.ref (He.ga K "_is_name")) := by obtain ⟨h, X, G⟩ := D.n; exact He.glo_ok X G (fas_at D.s.more 12 rfl)
theorem glo__kept (D : Dt K mg) : mg "_kept" = some (.ref (He.ga K "_kept")) := by obtain ⟨h, X, G⟩ := D.n; exact He.glo_ok X G (fas_at D.s.more 13 rfl)
theorem glo_read_box (D : Dt K mg) : mg "read_box" = some (.ref (He.ga K "read_box")) := by obtain ⟨h, X, G⟩ := D.n; exact He.glo_ok X G (fas_at D.s.more 14 rfl)
theorem glo_read_around (D : Dt K mg) : mg "read_around" = some (.ref (He.ga K "read_around")) := by obtain ⟨h, X, G⟩ := D.n; exact He.glo_ok X G (fas_at D.s.more 15 rfl)
theorem glo__read (D : Dt K mg) : mg "_read" = some (.ref (He.ga K "_read")) := by obtain ⟨h, X, G⟩ := D.n; exact He.glo_ok X G (fas_at D.s.more 16 rfl)
theorem glo_box_text (D : Dt K mg) : mg "box_text" = some (.ref (He.ga K "box_text")) := by obtain ⟨h, X, G⟩ := D.n; exact He.glo_ok X G (fas_at D.s.more 17 rfl)
theorem glo__block_words (D : Dt K mg) : mg "_block_words" = some (.ref (He.ga K "_block_words")) := by obtain ⟨h, X, G⟩ := D.n; exact He.glo_ok X G (fas_at D.s.more 18 rfl)
theorem glo__statement_text (D : Dt K mg) : mg "_statement_text" = some (.ref (He.ga K "_statement_text")) := by obtain ⟨h, X, G⟩ := D.n; exact He.glo_ok X G (fas_at D.s.more 19 rfl)
theorem glo__choice_text (D : Dt K mg) : mg "_choice_text" = some (.ref (He.ga K "_choice_text")) := by obtain ⟨h, X, G⟩ := D.n; exact He.glo_ok X G (fas_at D.s.more 20 rfl)
theorem glo__expression_text (D : Dt K mg) : mg "_expression_text" = some (.ref (He.ga K "_expression_text")) := by obtain ⟨h, X, G⟩ := D.n; exact He.glo_ok X G (fas_at D.s.more 21 rfl)
theorem glo__law_pool (D : Dt K mg) : mg "_law_pool" = some (.ref (He.ga K "_law_pool")) := by obtain ⟨h, X, G⟩ := D.n; exact He.glo_ok X G (fas_at D.s.more 22 rfl)
theorem glo__law_draw (D : Dt K mg) : mg "_law_draw" = some (.ref (He.ga K "_law_draw")) := by obtain ⟨h, X, G⟩ := D.n; exact He.glo_ok X G (fas_at D.s.more 23 rfl)
theorem glo__law_same (D : Dt K mg) : mg "_law_same" = some (.ref (He.ga K "_law_same")) := by obtain ⟨h, X, G⟩ := D.n; exact He.glo_ok X G (fas_at D.s.more 24 rfl)
theorem glo__law_told (D : Dt K mg) : mg "_law_told" = some (.ref (He.ga K "_law_told")) := by obtain ⟨h, X, G⟩ := D.n; exact He.glo_ok X G (fas_at D.s.more 25 rfl)
theorem glo__law_numbers (D : Dt K mg) : mg "_law_numbers" = some (.ref (He.ga K "_law_numbers")) := by obtain ⟨h, X, G⟩ := D.n; exact He.glo_ok X G (fas_at D.s.more 26 rfl)
theorem glo__law_many (D : Dt K mg) : mg "_law_many" = some (.ref (He.ga K "_law_many")) := by obtain ⟨h, X, G⟩ := D.n; exact He.glo_ok X G (fas_at D.s.more 27 rfl)
theorem glo_law (D : Dt K mg) : mg "law" = some (.ref (He.ga K "law")) := by obtain ⟨h, X, G⟩ := D.n; exact He.glo_ok X G (fas_at D.s.more 28 rfl)
theorem int_MOST_BUTTONS (D : Dt K mg) : ∃ t, mg "MOST_BUTTONS" = some (.int (4) t) := by obtain ⟨h, X, G⟩ := D.n; exact He.int_ok X G (fas_at D.s.more 29 rfl)
theorem int_MOST_ANSWERS (D : Dt K mg) : ∃ t, mg "MOST_ANSWERS" = some (.int (4) t) := by obtain ⟨h, X, G⟩ := D.n; exact He.int_ok X G (fas_at D.s.more 30 rfl)
theorem glo_STATEMENTS (D : Dt K mg) : mg "STATEMENTS" = some (.ref (He.ga K "STATEMENTS")) := by obtain ⟨h, X, G⟩ := D.n; exact He.glo_ok X G (fas_at D.s.more 31 rfl)
theorem tup_STATEMENTS (D : Dt K mg) (H : Hp) : SqT K H (He.ga K "STATEMENTS") ((["set", "draw", "use", "say", "if"] : List Str).map V.str) := tupB_ok (fas_at D.s.more 32 rfl) H
theorem glo_OPERATORS (D : Dt K mg) : mg "OPERATORS" = some (.ref (He.ga K "OPERATORS")) := by obtain ⟨h, X, G⟩ := D.n; exact He.glo_ok X G (fas_at D.s.more 33 rfl)
theorem tup_OPERATORS (D : Dt K mg) (H : Hp) : SqT K H (He.ga K "OPERATORS") ((["+", "-", "*", "/", "mod", "<", "="] : List Str).map V.str) := tupB_ok (fas_at D.s.more 34 rfl) H
theorem glo_RESERVED (D : Dt K mg) : mg "RESERVED" = some (.ref (He.ga K "RESERVED")) := by obtain ⟨h, X, G⟩ := D.n; exact He.glo_ok X G (fas_at D.s.more 35 rfl)
theorem tup_RESERVED (D : Dt K mg) (H : Hp) : SqT K H (He.ga K "RESERVED") ((["buttons", "answers", "var", "start", "press", "set", "draw", "use", "say", "if", "else", "end", "mod"] : List Str).map V.str) := tupB_ok (fas_at D.s.more 36 rfl) H
theorem int_MOST_VARIABLES (D : Dt K mg) : ∃ t, mg "MOST_VARIABLES" = some (.int (4) t) := by obtain ⟨h, X, G⟩ := D.n; exact He.int_ok X G (fas_at D.s.more 37 rfl)
theorem int_MOST_LETTERS (D : Dt K mg) : ∃ t, mg "MOST_LETTERS" = some (.int (8) t) := by obtain ⟨h, X, G⟩ := D.n; exact He.int_ok X G (fas_at D.s.more 38 rfl)
theorem int_MOST_SIZE (D : Dt K mg) : ∃ t, mg "MOST_SIZE" = some (.int (12) t) := by obtain ⟨h, X, G⟩ := D.n; exact He.int_ok X G (fas_at D.s.more 39 rfl)
theorem int_MOST_DRAWN (D : Dt K mg) : ∃ t, mg "MOST_DRAWN" = some (.int (6) t) := by obtain ⟨h, X, G⟩ := D.n; exact He.int_ok X G (fas_at D.s.more 40 rfl)
theorem int_MOST_DRAWS (D : Dt K mg) : ∃ t, mg "MOST_DRAWS" = some (.int (3) t) := by obtain ⟨h, X, G⟩ := D.n; exact He.int_ok X G (fas_at D.s.more 41 rfl)
theorem int_MOST_USES (D : Dt K mg) : ∃ t, mg "MOST_USES" = some (.int (24) t) := by obtain ⟨h, X, G⟩ := D.n; exact He.int_ok X G (fas_at D.s.more 42 rfl)
theorem int_MOST_NUMBER (D : Dt K mg) : ∃ t, mg "MOST_NUMBER" = some (.int (65535) t) := by obtain ⟨h, X, G⟩ := D.n; exact He.int_ok X G (fas_at D.s.more 43 rfl)
theorem int_DEEPEST_IF (D : Dt K mg) : ∃ t, mg "DEEPEST_IF" = some (.int (4) t) := by obtain ⟨h, X, G⟩ := D.n; exact He.int_ok X G (fas_at D.s.more 44 rfl)
theorem int_DEEPEST_EXPRESSION (D : Dt K mg) : ∃ t, mg "DEEPEST_EXPRESSION" = some (.int (5) t) := by obtain ⟨h, X, G⟩ := D.n; exact He.int_ok X G (fas_at D.s.more 45 rfl)
theorem glo_TestError (D : Dt K mg) : mg "TestError" = some (.ref (He.ga K "TestError")) := by obtain ⟨h, X, G⟩ := D.n; exact He.glo_ok X G (fas_at D.s.more 46 rfl)
theorem kp_TestError (D : Dt K mg) : PySem.W.keepIn K (.ref (He.ga K "TestError")) = true := He.keep_ok (fas_at D.s.more 47 rfl)
theorem exc_TestError (D : Dt K mg) : PySem.W.excIn K (He.ga K "TestError") He.veBase "ValueError.__new__" = true ∧ PySem.W.keepIn K (.ref (He.ga K "TestError")) = true ∧ PySem.W.subIn K (.ref (He.ga K "TestError")) (.type "BaseException") = some true ∧ PySem.W.typeIn K (.ref (He.ga K "TestError")) = some (.type "type") := He.exc_ok (fas_at D.s.more 48 rfl)
theorem isE_TestError (D : Dt K mg) : ExcC K (He.ga K "TestError") := isEB_ok (fas_at D.s.more 49 rfl)
theorem glo_BadText (D : Dt K mg) : mg "BadText" = some (.ref (He.ga K "BadText")) := by obtain ⟨h, X, G⟩ := D.n; exact He.glo_ok X G (fas_at D.s.more 50 rfl)
theorem kp_BadText (D : Dt K mg) : PySem.W.keepIn K (.ref (He.ga K "BadText")) = true := He.keep_ok (fas_at D.s.more 51 rfl)
theorem isE_BadText (D : Dt K mg) : ExcC K (He.ga K "BadText") := isEB_ok (fas_at D.s.more 52 rfl)
theorem oex_BadText (D : Dt K mg) : OexF K (He.ga K "BadText") (He.ma K (He.ga K "BadText") "__init__") "at" := oexB_ok (fas_at D.s.more 53 rfl)
theorem glo_Reader (D : Dt K mg) : mg "Reader" = some (.ref (He.ga K "Reader")) := by obtain ⟨h, X, G⟩ := D.n; exact He.glo_ok X G (fas_at D.s.more 54 rfl)
theorem kp_Reader (D : Dt K mg) : PySem.W.keepIn K (.ref (He.ga K "Reader")) = true := He.keep_ok (fas_at D.s.more 55 rfl)
theorem cls_Reader (D : Dt K mg) : Cls K (He.ga K "Reader") := He.cls_ok (fas_at D.s.more 56 rfl)
theorem inst_Reader (D : Dt K mg) : InstC K (He.ga K "Reader") := instB_ok (fas_at D.s.more 57 rfl)
theorem mkr_Reader (D : Dt K mg) : Mk K (He.ga K "Reader") (He.ma K (He.ga K "Reader") "__init__") := He.mkr_ok (fas_at D.s.more 58 rfl)
theorem self_Reader (D : Dt K mg) : PySem.W.selfFirst K (He.ga K "Reader") = true := fas_at D.s.more 59 rfl
theorem me_Reader_init (D : Dt K mg) : Meth K (He.ga K "Reader") "__init__" (He.ma K (He.ga K "Reader") "__init__") := He.meth_ok (fas_at D.s.more 60 rfl)
theorem me_Reader_read (D : Dt K mg) : Meth K (He.ga K "Reader") "read" (He.ma K (He.ga K "Reader") "read") := He.meth_ok (fas_at D.s.more 61 rfl)
theorem me_Reader__here (D : Dt K mg) : Meth K (He.ga K "Reader") "_here" (He.ma K (He.ga K "Reader") "_here") := He.meth_ok (fas_at D.s.more 62 rfl)
theorem me_Reader__go_on (D : Dt K mg) : Meth K (He.ga K "Reader") "_go_on" (He.ma K (He.ga K "Reader") "_go_on") := He.meth_ok (fas_at D.s.more 63 rfl)
theorem me_Reader__take (D : Dt K mg) : Meth K (He.ga K "Reader") "_take" (He.ma K (He.ga K "Reader") "_take") := He.meth_ok (fas_at D.s.more 64 rfl)
theorem me_Reader__number (D : Dt K mg) : Meth K (He.ga K "Reader") "_number" (He.ma K (He.ga K "Reader") "_number") := He.meth_ok (fas_at D.s.more 65 rfl)
theorem me_Reader__new_name (D : Dt K mg) : Meth K (He.ga K "Reader") "_new_name" (He.ma K (He.ga K "Reader") "_new_name") := He.meth_ok (fas_at D.s.more 66 rfl)
theorem me_Reader__variable (D : Dt K mg) : Meth K (He.ga K "Reader") "_variable" (He.ma K (He.ga K "Reader") "_variable") := He.meth_ok (fas_at D.s.more 67 rfl)
theorem me_Reader__is_variable (D : Dt K mg) : Meth K (He.ga K "Reader") "_is_variable" (He.ma K (He.ga K "Reader") "_is_variable") := He.meth_ok (fas_at D.s.more 68 rfl)
theorem me_Reader__may_begin (D : Dt K mg) : Meth K (He.ga K "Reader") "_may_begin" (He.ma K (He.ga K "Reader") "_may_begin") := He.meth_ok (fas_at D.s.more 69 rfl)
theorem me_Reader__statements (D : Dt K mg) : Meth K (He.ga K "Reader") "_statements" (He.ma K (He.ga K "Reader") "_statements") := He.meth_ok (fas_at D.s.more 70 rfl)
theorem me_Reader__statement (D : Dt K mg) : Meth K (He.ga K "Reader") "_statement" (He.ma K (He.ga K "Reader") "_statement") := He.meth_ok (fas_at D.s.more 71 rfl)
theorem me_Reader__choice (D : Dt K mg) : Meth K (He.ga K "Reader") "_choice" (He.ma K (He.ga K "Reader") "_choice") := He.meth_ok (fas_at D.s.more 72 rfl)
theorem me_Reader__expression (D : Dt K mg) : Meth K (He.ga K "Reader") "_expression" (He.ma K (He.ga K "Reader") "_expression") := He.meth_ok (fas_at D.s.more 73 rfl)
theorem me_Reader__leaf (D : Dt K mg) : Meth K (He.ga K "Reader") "_leaf" (He.ma K (He.ga K "Reader") "_leaf") := He.meth_ok (fas_at D.s.more 74 rfl)
theorem na_Reader_words (D : Dt K mg) : NoAttr K (He.ga K "Reader") "words" := He.noat_ok (fas_at D.s.more 75 rfl)
theorem na_Reader_at (D : Dt K mg) : NoAttr K (He.ga K "Reader") "at" := He.noat_ok (fas_at D.s.more 76 rfl)
theorem na_Reader_around (D : Dt K mg) : NoAttr K (He.ga K "Reader") "around" := He.noat_ok (fas_at D.s.more 77 rfl)
theorem na_Reader_variables (D : Dt K mg) : NoAttr K (He.ga K "Reader") "variables" := He.noat_ok (fas_at D.s.more 78 rfl)
theorem na_Reader_draws (D : Dt K mg) : NoAttr K (He.ga K "Reader") "draws" := He.noat_ok (fas_at D.s.more 79 rfl)
theorem na_Reader_uses (D : Dt K mg) : NoAttr K (He.ga K "Reader") "uses" := He.noat_ok (fas_at D.s.more 80 rfl)
theorem na_Reader_pressed (D : Dt K mg) : NoAttr K (He.ga K "Reader") "pressed" := He.noat_ok (fas_at D.s.more 81 rfl)
theorem glo_Box (D : Dt K mg) : mg "Box" = some (.ref (He.ga K "Box")) := by obtain ⟨h, X, G⟩ := D.n; exact He.glo_ok X G (fas_at D.s.more 82 rfl)
theorem kp_Box (D : Dt K mg) : PySem.W.keepIn K (.ref (He.ga K "Box")) = true := He.keep_ok (fas_at D.s.more 83 rfl)
theorem cls_Box (D : Dt K mg) : Cls K (He.ga K "Box") := He.cls_ok (fas_at D.s.more 84 rfl)
theorem inst_Box (D : Dt K mg) : InstC K (He.ga K "Box") := instB_ok (fas_at D.s.more 85 rfl)
theorem mkr_Box (D : Dt K mg) : Mk K (He.ga K "Box") (He.ma K (He.ga K "Box") "__init__") := He.mkr_ok (fas_at D.s.more 86 rfl)
theorem self_Box (D : Dt K mg) : PySem.W.selfFirst K (He.ga K "Box") = true := fas_at D.s.more 87 rfl
theorem me_Box_init (D : Dt K mg) : Meth K (He.ga K "Box") "__init__" (He.ma K (He.ga K "Box") "__init__") := He.meth_ok (fas_at D.s.more 88 rfl)
theorem me_Box_eq (D : Dt K mg) : Meth K (He.ga K "Box") "__eq__" (He.ma K (He.ga K "Box") "__eq__") := He.meth_ok (fas_at D.s.more 89 rfl)
theorem na_Box_buttons (D : Dt K mg) : NoAttr K (He.ga K "Box") "buttons" := He.noat_ok (fas_at D.s.more 90 rfl)
theorem na_Box_answers (D : Dt K mg) : NoAttr K (He.ga K "Box") "answers" := He.noat_ok (fas_at D.s.more 91 rfl)
theorem na_Box_variables (D : Dt K mg) : NoAttr K (He.ga K "Box") "variables" := He.noat_ok (fas_at D.s.more 92 rfl)
theorem na_Box_start (D : Dt K mg) : NoAttr K (He.ga K "Box") "start" := He.noat_ok (fas_at D.s.more 93 rfl)
theorem na_Box_block (D : Dt K mg) : NoAttr K (He.ga K "Box") "block" := He.noat_ok (fas_at D.s.more 94 rfl)
theorem kitV_BadText (D : Dt K mg) : PySem.W.kitOne K (.ref (He.ga K "BadText")) (.type "ValueError") = some true := of_decide_eq_true (fas_at D.s.more 95 rfl)
theorem kit_BadText_TestError (D : Dt K mg) : PySem.W.kitOne K (.ref (He.ga K "BadText")) (.ref (He.ga K "TestError")) = some true := of_decide_eq_true (fas_at D.s.more 96 rfl)
theorem exm_BadText_TestError (D : Dt K mg) : PySem.W.exmOne K (.ref (He.ga K "BadText")) (.ref (He.ga K "TestError")) = some true := of_decide_eq_true (fas_at D.s.more 97 rfl)
theorem kit_BadText_BadText (D : Dt K mg) : PySem.W.kitOne K (.ref (He.ga K "BadText")) (.ref (He.ga K "BadText")) = some true := of_decide_eq_true (fas_at D.s.more 98 rfl)
theorem exm_BadText_BadText (D : Dt K mg) : PySem.W.exmOne K (.ref (He.ga K "BadText")) (.ref (He.ga K "BadText")) = some true := of_decide_eq_true (fas_at D.s.more 99 rfl)
theorem fd_words_of (D : Dt K mg) : ∃ fd, FnP K "words_of" "words_of" s_words_of [] (He.ga K "words_of") fd := D.s.get 0 (d := d_words_of) rfl
theorem fd_number_of (D : Dt K mg) : ∃ fd, FnP K "number_of" "number_of" s_number_of [] (He.ga K "number_of") fd := D.s.get 1 (d := d_number_of) rfl
theorem fd__is_name (D : Dt K mg) : ∃ fd, FnP K "_is_name" "_is_name" s__is_name [] (He.ga K "_is_name") fd := D.s.get 2 (d := d__is_name) rfl
theorem fd__kept (D : Dt K mg) : ∃ fd, FnP K "_kept" "_kept" s__kept [] (He.ga K "_kept") fd := D.s.get 3 (d := d__kept) rfl
theorem fd_read_box (D : Dt K mg) : ∃ fd, FnP K "read_box" "read_box" s_read_box [] (He.ga K "read_box") fd := D.s.get 4 (d := d_read_box) rfl
theorem fd_read_around (D : Dt K mg) : ∃ fd, FnP K "read_around" "read_around" s_read_around [] (He.ga K "read_around") fd := D.s.get 5 (d := d_read_around) rfl
theorem fd__read (D : Dt K mg) : ∃ fd, FnP K "_read" "_read" s__read [] (He.ga K "_read") fd := D.s.get 6 (d := d__read) rfl
theorem fd_box_text (D : Dt K mg) : ∃ fd, FnP K "box_text" "box_text" s_box_text [] (He.ga K "box_text") fd := D.s.get 7 (d := d_box_text) rfl
theorem fd__block_words (D : Dt K mg) : ∃ fd, FnP K "_block_words" "_block_words" s__block_words [] (He.ga K "_block_words") fd := D.s.get 8 (d := d__block_words) rfl
theorem fd__statement_text (D : Dt K mg) : ∃ fd, FnP K "_statement_text" "_statement_text" s__statement_text [] (He.ga K "_statement_text") fd := D.s.get 9 (d := d__statement_text) rfl
theorem fd__choice_text (D : Dt K mg) : ∃ fd, FnP K "_choice_text" "_choice_text" s__choice_text [] (He.ga K "_choice_text") fd := D.s.get 10 (d := d__choice_text) rfl
theorem fd__expression_text (D : Dt K mg) : ∃ fd, FnP K "_expression_text" "_expression_text" s__expression_text [] (He.ga K "_expression_text") fd := D.s.get 11 (d := d__expression_text) rfl
theorem fd__law_pool (D : Dt K mg) : ∃ fd, FnP K "_law_pool" "_law_pool" s__law_pool [] (He.ga K "_law_pool") fd := D.s.get 12 (d := d__law_pool) rfl
theorem fd__law_draw (D : Dt K mg) : ∃ fd, FnP K "_law_draw" "_law_draw" s__law_draw [] (He.ga K "_law_draw") fd := D.s.get 13 (d := d__law_draw) rfl
theorem fd__law_same (D : Dt K mg) : ∃ fd, FnP K "_law_same" "_law_same" s__law_same [] (He.ga K "_law_same") fd := D.s.get 14 (d := d__law_same) rfl
theorem fd__law_told (D : Dt K mg) : ∃ fd, FnP K "_law_told" "_law_told" s__law_told [] (He.ga K "_law_told") fd := D.s.get 15 (d := d__law_told) rfl
theorem fd__law_numbers (D : Dt K mg) : ∃ fd, FnP K "_law_numbers" "_law_numbers" s__law_numbers [] (He.ga K "_law_numbers") fd := D.s.get 16 (d := d__law_numbers) rfl
theorem fd__law_many (D : Dt K mg) : ∃ fd, FnP K "_law_many" "_law_many" s__law_many [] (He.ga K "_law_many") fd := D.s.get 17 (d := d__law_many) rfl
theorem fd_law (D : Dt K mg) : ∃ fd, FnP K "law" "law" s_law [] (He.ga K "law") fd := D.s.get 18 (d := d_law) rfl
theorem fd_BadText_init (D : Dt K mg) : ∃ fd, FnP K "__init__" "BadText.__init__" s_BadText_init [] (He.ma K (He.ga K "BadText") "__init__") fd := D.s.get 19 (d := d_BadText_init) rfl
theorem fd_Reader_init (D : Dt K mg) : ∃ fd, FnP K "__init__" "Reader.__init__" s_Reader_init [] (He.ma K (He.ga K "Reader") "__init__") fd := D.s.get 20 (d := d_Reader_init) rfl
theorem fd_Reader_read (D : Dt K mg) : ∃ fd, FnP K "read" "Reader.read" s_Reader_read [] (He.ma K (He.ga K "Reader") "read") fd := D.s.get 21 (d := d_Reader_read) rfl
theorem fd_Reader__here (D : Dt K mg) : ∃ fd, FnP K "_here" "Reader._here" s_Reader__here [] (He.ma K (He.ga K "Reader") "_here") fd := D.s.get 22 (d := d_Reader__here) rfl
theorem fd_Reader__go_on (D : Dt K mg) : ∃ fd, FnP K "_go_on" "Reader._go_on" s_Reader__go_on [] (He.ma K (He.ga K "Reader") "_go_on") fd := D.s.get 23 (d := d_Reader__go_on) rfl
theorem fd_Reader__take (D : Dt K mg) : ∃ fd, FnP K "_take" "Reader._take" s_Reader__take [] (He.ma K (He.ga K "Reader") "_take") fd := D.s.get 24 (d := d_Reader__take) rfl
theorem fd_Reader__number (D : Dt K mg) : ∃ fd, FnP K "_number" "Reader._number" s_Reader__number [] (He.ma K (He.ga K "Reader") "_number") fd := D.s.get 25 (d := d_Reader__number) rfl
theorem fd_Reader__new_name (D : Dt K mg) : ∃ fd, FnP K "_new_name" "Reader._new_name" s_Reader__new_name [] (He.ma K (He.ga K "Reader") "_new_name") fd := D.s.get 26 (d := d_Reader__new_name) rfl
theorem fd_Reader__variable (D : Dt K mg) : ∃ fd, FnP K "_variable" "Reader._variable" s_Reader__variable [] (He.ma K (He.ga K "Reader") "_variable") fd := D.s.get 27 (d := d_Reader__variable) rfl
theorem fd_Reader__is_variable (D : Dt K mg) : ∃ fd, FnP K "_is_variable" "Reader._is_variable" s_Reader__is_variable [] (He.ma K (He.ga K "Reader") "_is_variable") fd := D.s.get 28 (d := d_Reader__is_variable) rfl
theorem fd_Reader__may_begin (D : Dt K mg) : ∃ fd, FnP K "_may_begin" "Reader._may_begin" s_Reader__may_begin [] (He.ma K (He.ga K "Reader") "_may_begin") fd := D.s.get 29 (d := d_Reader__may_begin) rfl
theorem fd_Reader__statements (D : Dt K mg) : ∃ fd, FnP K "_statements" "Reader._statements" s_Reader__statements [] (He.ma K (He.ga K "Reader") "_statements") fd := D.s.get 30 (d := d_Reader__statements) rfl
theorem fd_Reader__statement (D : Dt K mg) : ∃ fd, FnP K "_statement" "Reader._statement" s_Reader__statement [] (He.ma K (He.ga K "Reader") "_statement") fd := D.s.get 31 (d := d_Reader__statement) rfl
theorem fd_Reader__choice (D : Dt K mg) : ∃ fd, FnP K "_choice" "Reader._choice" s_Reader__choice [] (He.ma K (He.ga K "Reader") "_choice") fd := D.s.get 32 (d := d_Reader__choice) rfl
theorem fd_Reader__expression (D : Dt K mg) : ∃ fd, FnP K "_expression" "Reader._expression" s_Reader__expression [] (He.ma K (He.ga K "Reader") "_expression") fd := D.s.get 33 (d := d_Reader__expression) rfl
theorem fd_Reader__leaf (D : Dt K mg) : ∃ fd, FnP K "_leaf" "Reader._leaf" s_Reader__leaf [] (He.ma K (He.ga K "Reader") "_leaf") fd := D.s.get 34 (d := d_Reader__leaf) rfl
theorem fd_Box_init (D : Dt K mg) : ∃ fd, FnP K "__init__" "Box.__init__" s_Box_init [] (He.ma K (He.ga K "Box") "__init__") fd := D.s.get 35 (d := d_Box_init) rfl
theorem fd_Box_eq (D : Dt K mg) : ∃ fd, FnP K "__eq__" "Box.__eq__" s_Box_eq [] (He.ma K (He.ga K "Box") "__eq__") fd := D.s.get 36 (d := d_Box_eq) rfl
end
abbrev R : PySem.W.OpenRow := PySem.W.OpenLaw.row PySem.Challenge.rw_notesttells_k52_bounds_of_boxes
abbrev hk : PySem.W.Hook := hookY 4 ex fn
def ob (s : PySem.W.SharedT) : He.AlD := obsYG 4 ex fn (HandSHeadRun.getT s)
theorem ob_eq (s : PySem.W.SharedT) : ob s = hk.obs s.abs := obsYG_eq (HandSHeadRun.getT_eq s)
def loose0 : List Str := ["__name__", "TestError", "BadText", "MOST_BUTTONS", "MOST_ANSWERS", "words_of", "number_of", "STATEMENTS", "OPERATORS", "RESERVED", "MOST_VARIABLES", "MOST_LETTERS", "MOST_SIZE", "MOST_DRAWN", "MOST_DRAWS", "MOST_USES", "MOST_NUMBER", "DEEPEST_IF", "DEEPEST_EXPRESSION", "Reader"]
def loose1 : List Str := ["_is_name", "Box", "_kept", "read_box", "read_around", "_read", "box_text", "_block_words", "_statement_text", "_choice_text", "_expression_text", "_law_pool", "_law_draw", "_law_same", "_law_told", "_law_numbers", "_law_many"]
def loose : List Str := loose0 ++ loose1
abbrev vw : Program := PySem.W.view R.prog [41]
theorem run (w : World) : HandSHeadRun.RunEq R vw hk ob 20000 loose w := by
  intro os
  kernel_rfl
end Hd


set_option Elab.async false
set_option linter.all false
set_option maxRecDepth 100000
set_option maxHeartbeats 4000000
set_option exponentiation.threshold 5000
namespace K
open PySem PySem.Spec PyProof.Rows L2 Tk Hd
/-- what is wanted of a def that hands back an x and leaves all else -/
def Ret {α : Type} (ms : List Addr) (I H : Hp) (R : Rp α) (x : α) (Q : VK) : Prop := ∀ I' H' v, Gr ms I H I' H' → R I' v x → Q v H'
theorem upd3 {H : Hp} {x : Addr} {a b c : HO} : upd (upd (upd H x a) x b) x c = upd H x c := by rw [upd_upd, upd_upd]
theorem kit_self {K : PySem.W.Frag} {t : Value} : PySem.W.kitOne K t t = some true := by
  unfold PySem.W.kitOne; rw [if_pos (by simp)]
theorem str_app (a b : String) : (PySem.Str.ofString (a ++ b)) = PySem.Str.ofString a ++ PySem.Str.ofString b := by
  rw [PySem.Str.ofString_eq_toList, PySem.Str.ofString_eq_toList, PySem.Str.ofString_eq_toList, String.toList_append, List.map_append]
  show _ = PySem.Str.append _ _
  simp [PySem.Str.append]
theorem empty_app (a : Str) : Str.empty ++ a = a := by
  show PySem.Str.append _ _ = _
  simp [PySem.Str.append, PySem.Str.empty]
theorem app_len (a b : Str) : (a ++ b).length = a.length + b.length := by
  show (PySem.Str.append a b).length = _
  simp [PySem.Str.append, PySem.Str.length]
theorem line_of {n : Nat} (h : n ≤ 1000000) : n ≤ sizeLine := Nat.le_trans h (by decide)
/-! ### the law's draws -/
def plist (c : Addr) (pos : Nat) (big seed left bud : Int) : List V := [.ref c, .int pos, .int big, .int seed, .int left, .int bud]
def PoolOk (I H : Hp) (p : Addr) : Prop := I p = none ∧ ∃ (c : Addr) (cells : List Int) (pos : Nat) (big seed left bud : Int), I c = some (.lst (cells.map V.int)) ∧ cells.length ≤ 1000000 ∧ pos ≤ cells.length ∧ H p = some (.lst (plist c pos big seed left bud))
theorem PoolOk.up {ms : List Addr} {I H I' H' : Hp} {p : Addr} (h : PoolOk I H p) (g : Gr ms I H I' H') (n : p ∉ ms) : PoolOk I' H' p := by
  obtain ⟨i, c, cells, pos, b, s, l, u, h1, h2, h3, h4⟩ := h
  exact ⟨g.out i h4, c, cells, pos, b, s, l, u, g.ii _ _ h1, h2, h3, g.at h4 n⟩
section
variable {P : Program} {w : World} {K : PySem.W.Frag} {mg : Str → Option Value} {base : Heap}
def spPool (K : PySem.W.Frag) : Sp := fun vs H Q _ => ∃ (I : Hp) (a : Addr) (ns : List Int) (b : Int), vs = [.ref a, .int b] ∧ Same I H ∧ SqL K H a (ns.map V.int) ∧ ns.length ≤ 1000000 ∧
  ∀ I' H' p, Gr [] I H I' H' → PoolOk I' H' p → H p = none → Q (.ref p) H'
theorem sc_pool : FnScope ["script", "budget"] ["script", "budget"] (defScope s__law_pool) := ⟨rfl, rfl, rfl, by decide +kernel, rfl, by decide +kernel, by decide +kernel⟩
theorem ok_pool (D : Dt K mg) : Has P w K mg base 1 (He.ga K "_law_pool") ["script", "budget"] [] (spPool K) := by
  obtain ⟨fd, F⟩ := fd__law_pool D
  refine hasN F (F.bindsN fun _ _ _ _ _ _ us hl => match us, hl with | [_, _], _ => rfl) sc_pool (fun vs H Q E h => ?_) (fun cdv A outer s H vs Q E hr h => ?_)
  · obtain ⟨I, a, ns, b, rfl, _⟩ := h; rfl
  · obtain ⟨I, a, ns, b, rfl, s0, hS, hl, k⟩ := h
    refine ⟨_, (pss_one (ps_ret (pe_lst (pa_cons (pe_callTy call_list_of rfl (free_list D) (by decide +kernel) (pa_cons (pv 0) pa_nil)) (pa_cons pe_int (pa_cons pe_int (pa_cons pe_int (pa_cons pe_int (pa_cons (pv 1) pa_nil))))))))), ?_⟩
    refine ⟨_, rfl, a, _, rfl, .inl hS, fun c hc => ?_⟩
    refine ⟨_, rfl, (by show 6 ≤ sizeLine; decide), fun p hp => ?_⟩
    have npc : p ≠ c := fun e => by rw [e, upd_same] at hp; cases hp
    have hp0 : H p = none := by rw [upd_ne npc] at hp; exact hp
    have g : Gr [] I H (upd I c (.lst (ns.map V.int))) (upd (upd H c (.lst (ns.map V.int))) p (.lst (plist c 0 0 1 0 b))) := (Gr.new s0 hc).trans (Gr.tmp (sBoth s0) hp)
    exact k _ _ p g ⟨by rw [upd_ne npc]; exact s0.free hp0, c, ns, 0, 0, 1, 0, b, upd_same, hl, Nat.zero_le _, upd_same⟩ hp0
def spDraw : Sp := fun vs H Q _ => ∃ (I : Hp) (p : Addr) (n : Int), vs = [.ref p, .int n] ∧ Same I H ∧ PoolOk I H p ∧ 0 < n ∧ n < 2 ^ 64 ∧
  ∀ (v : Int) H', 0 ≤ v → v < n → Gr [p] I H I H' → PoolOk I H' p → Q (.int v) H'
theorem sc_draw : FnScope ["pool", "size", "cell", "value"] ["pool", "size"] (defScope s__law_draw) := ⟨rfl, rfl, rfl, by decide +kernel, rfl, by decide +kernel, by decide +kernel⟩
theorem mulc {i : Int} {j : Int} (h1 : -(2 ^ 64) < j) (h2 : j < 2 ^ 64) : CMul i j := .inr ⟨h1, h2⟩
theorem ok_draw (D : Dt K mg) : Has P w K mg base 1 (He.ga K "_law_draw") ["pool", "size"] [] spDraw := by
  obtain ⟨fd, F⟩ := fd__law_draw D
  refine hasN F (F.bindsN fun _ _ _ _ _ _ us hl => match us, hl with | [_, _], _ => rfl) sc_draw (fun vs H Q E h => ?_) (fun cdv A outer s H vs Q E hr h => ?_)
  · obtain ⟨I, p, n, rfl, _⟩ := h; rfl
  · obtain ⟨I, p, n, rfl, s0, ⟨hI, c, cells, pos, big, seed, left, bud, hc, hl, hpos, hp⟩, hn0, hn1, k⟩ := h
    refine ⟨_, (pss_cons (ps_if (PW.pt (pw_and (pt_cmpR op_le (pe_ix ix_list (pv 0) pe_int (fun _ _ => rfl)) pe_int (nomark _)) (pw_and (pt_cmpR op_le (pe_ix ix_list (pv 0) pe_int (fun _ _ => rfl)) pe_int (nomark _)) (pw_and1 (pt_cmpR op_lt (pe_ix ix_list (pv 0) pe_int (fun _ _ => rfl)) (pe_callB call_len rfl (free_len D) PySem.boot_len (pa_cons (pe_ix ix_list (pv 0) pe_int (fun _ _ => rfl)) pa_nil)) (nomark _))))))
      (pss_cons (ps_set (i := 2) sc_draw.nd rfl (Or.inl rfl) (pe_ix ix_list (pe_ix ix_list (pv 0) pe_int (fun _ _ => rfl)) (pe_ix ix_list (pv 0) pe_int (fun _ _ => rfl)) (fun _ _ => rfl)))
      (pss_cons (ps_asg (pe_op op_add (pe_ix ix_list (pv 0) pe_int (fun _ _ => rfl)) pe_int) (pg_sub (pv 0) pe_int set_list))
      (pss_cons (ps_asg (pe_op op_mod (pe_callTy call_int1 rfl (free_int D) (by decide +kernel) (pa_cons (pe_op op_add (pe_op op_mul (pe_ix ix_list (pv 0) pe_int (fun _ _ => rfl)) pe_int) (pv 2)) pa_nil)) pe_int) (pg_sub (pv 0) pe_int set_list))
      (pss_cons (ps_asg pe_int (pg_sub (pv 0) pe_int set_list))
      (pss_one (ps_if (pt_cmpR op_ge (pv 2) (pe_op op_pow pe_int pe_int) (nomark _))
      (pss_one (ps_asg (pv 2) (pg_sub (pv 0) pe_int set_list)))
      pss_nil))))))
      pss_nil)
      (pss_cons (ps_if (pt_cmpR op_gt (pe_ix ix_list (pv 0) pe_int (fun _ _ => rfl)) pe_int (nomark _))
      (pss_cons (ps_set (i := 3) sc_draw.nd rfl (Or.inl rfl) (pe_op op_mod (pe_callTy call_int1 rfl (free_int D) (by decide +kernel) (pa_cons (pe_ix ix_list (pv 0) pe_int (fun _ _ => rfl)) pa_nil)) (pv 1)))
      (pss_cons (ps_asg (pe_op op_fdivW (pe_ix ix_list (pv 0) pe_int (fun _ _ => rfl)) (pv 1)) (pg_sub (pv 0) pe_int set_list))
      (pss_cons (ps_asg pe_int (pg_sub (pv 0) pe_int set_list))
      (pss_one (ps_ret (pv 3))))))
      pss_nil)
      (pss_cons (ps_asg (pe_op op_sub (pe_ix ix_list (pv 0) pe_int (fun _ _ => rfl)) pe_int) (pg_sub (pv 0) pe_int set_list))
      (pss_cons (ps_asg (pe_op op_mod (pe_callTy call_int1 rfl (free_int D) (by decide +kernel) (pa_cons (pe_op op_add (pe_op op_mul (pe_ix ix_list (pv 0) pe_int (fun _ _ => rfl)) pe_int) pe_int) pa_nil)) pe_int) (pg_sub (pv 0) pe_int set_list))
      (pss_one (ps_ret (pe_op op_mod (pe_op op_mod (pe_callTy call_int1 rfl (free_int D) (by decide +kernel) (pa_cons (pe_op op_add (pe_op op_mul (pe_ix ix_list (pv 0) pe_int (fun _ _ => rfl)) pe_int) pe_int) pa_nil)) pe_int) (pv 1)))))))), ?_⟩
    refine seq_cut (fun σ' H' => ∃ (v : Option V) (pos' : Nat) (big' seed' left' : Int), σ' = [some (.ref p), some (.int n), v, none] ∧ Gr [p] I H I H' ∧ pos' ≤ cells.length ∧ H' p = some (.lst (plist c pos' big' seed' left' bud))) (fun nx q => ?_) ?_
    · have hc' := s0 _ _ hc
      have stay : nx [some (.ref p), some (.int n), none, none] H := q _ _ ⟨none, pos, big, seed, left, rfl, Gr.refl s0, hpos, hp⟩
      refine ⟨_, rfl, _, _, _, _, rfl, rfl, SqL.of hp, at_of (j := 2) rfl rfl, _, _, rfl, rfl, _, rfl, ifD (fun _ => ?_) (fun _ => iteF stay)⟩
      refine ⟨_, rfl, _, _, _, _, rfl, rfl, SqL.of hp, at_of (j := 4) rfl rfl, _, _, rfl, rfl, _, rfl, ifD (fun _ => ?_) (fun _ => iteF stay)⟩
      refine ⟨_, rfl, _, _, _, _, rfl, rfl, SqL.of hp, at_of (j := 1) rfl rfl, _, rfl, _, _, _, _, rfl, rfl, SqL.of hp, at_of (j := 0) rfl rfl, _, cells.length, rfl, .inl ⟨_, SqL.of hc', by simp⟩, _, _, rfl, rfl, _, rfl, ?_⟩
      refine ifD (fun hlt => ?_) (fun _ => stay)
      have hlt' : pos < cells.length := by omega
      have hcell : (cells.map V.int)[pos]? = some (.int cells[pos]) := by rw [List.getElem?_map, List.getElem?_eq_getElem hlt']; rfl
      refine ⟨_, rfl, _, _, _, _, rfl, rfl, SqL.of hp, at_of (j := 0) rfl rfl, _, rfl, _, _, _, _, rfl, rfl, SqL.of hp, at_of (j := 1) rfl rfl, _, _, _, _, rfl, rfl, SqL.of hc', at_of rfl hcell, ?_⟩
      refine ⟨_, rfl, _, _, _, _, rfl, rfl, SqL.of hp, at_of (j := 1) rfl rfl, _, _, rfl, rfl, _, rfl, _, _, _, _, rfl, rfl, hp, (show ixN _ _ = some 1 from rfl), ?_⟩
      refine ⟨_, rfl, _, _, _, _, rfl, rfl, SqL.of upd_same, at_of (j := 3) rfl rfl, _, _, rfl, rfl, mulc (by decide) (by decide), _, rfl, _, _, rfl, rfl, .inl ⟨_, rfl, _, _, rfl, rfl, (by show (0 : Int) < 2147483647; decide), _, rfl, _, _, _, _, rfl, rfl, upd_same, (show ixN _ _ = some 3 from rfl), ?_⟩⟩
      refine ⟨_, rfl, _, _, _, _, rfl, rfl, upd_same, (show ixN _ _ = some 4 from rfl), ?_⟩
      have hg : ∀ l : List V, Gr [p] I H I (upd H p (.lst l)) := fun l => Gr.mut s0 hI (by simp)
      refine ⟨_, rfl, _, _, rfl, rfl, ⟨by decide, by decide, by decide⟩, _, _, rfl, rfl, _, rfl, ifD (fun _ => ?_) (fun _ => ?_)⟩
      · refine ⟨_, rfl, _, rfl, _, _, _, _, rfl, rfl, upd_same, (show ixN _ _ = some 2 from rfl), ?_⟩
        refine q _ _ ⟨some (.int cells[pos]), pos + 1, cells[pos], (seed * 31 + cells[pos]) % 2147483647, 7, rfl, ?_, by omega, ?_⟩
        · rw [upd_upd, upd_upd, upd_upd]; exact hg _
        · rw [upd_same]; rfl
      · refine q _ _ ⟨some (.int cells[pos]), pos + 1, big, (seed * 31 + cells[pos]) % 2147483647, 7, rfl, ?_, by omega, ?_⟩
        · rw [upd_upd, upd_upd]; exact hg _
        · rw [upd_same]; rfl
    · rintro σ' H' ⟨v, pos, big, seed, left, rfl, g, hpos, hp⟩
      have s1 : Same I H' := g.ih
      refine ⟨_, rfl, _, _, _, _, rfl, rfl, SqL.of hp, at_of (j := 2) rfl rfl, _, _, rfl, rfl, _, rfl, ifD (fun _ => ?_) (fun _ => ?_)⟩
      · refine ⟨_, rfl, _, _, _, _, rfl, rfl, SqL.of hp, at_of (j := 2) rfl rfl, .inl ⟨_, rfl, _, rfl, _, _, rfl, rfl, hn0, ?_⟩⟩
        refine ⟨_, rfl, _, _, _, _, rfl, rfl, SqL.of hp, at_of (j := 2) rfl rfl, _, rfl, _, _, rfl, rfl, wide_div hn0 (b := 64) (by omega) (by decide) (by decide), _, rfl, _, _, _, _, rfl, rfl, hp, (show ixN _ _ = some 2 from rfl), ?_⟩
        refine ⟨_, rfl, _, _, _, _, rfl, rfl, upd_same, (show ixN _ _ = some 4 from rfl), _, rfl, ?_⟩
        have hm := Int.emod_nonneg big (by omega : n ≠ 0)
        have hm2 := Int.emod_lt_of_pos big hn0
        rw [upd_upd]
        exact k _ _ hm hm2 (g.trans (Gr.mut s1 hI (by simp))) ⟨hI, c, cells, pos, big / n, seed, 0, bud, hc, hl, hpos, upd_same⟩
      · refine ⟨_, rfl, _, _, _, _, rfl, rfl, SqL.of hp, at_of (j := 4) rfl rfl, _, _, rfl, rfl, _, rfl, _, _, _, _, rfl, rfl, hp, (show ixN _ _ = some 4 from rfl), ?_⟩
        refine ⟨_, rfl, _, _, _, _, rfl, rfl, SqL.of upd_same, at_of (j := 3) rfl rfl, _, _, rfl, rfl, mulc (by decide) (by decide), _, _, rfl, rfl, .inl ⟨_, rfl, _, _, rfl, rfl, (by show (0 : Int) < 2147483647; decide), _, rfl, _, _, _, _, rfl, rfl, upd_same, (show ixN _ _ = some 3 from rfl), ?_⟩⟩
        refine ⟨_, rfl, _, _, _, _, rfl, rfl, SqL.of upd_same, at_of (j := 3) rfl rfl, _, _, rfl, rfl, mulc (by decide) (by decide), _, _, rfl, rfl, .inl ⟨_, rfl, _, _, rfl, rfl, (by show (0 : Int) < 2147483647; decide), _, rfl, _, _, rfl, rfl, hn0, ?_⟩⟩
        rw [upd_upd]
        exact k _ _ (Int.emod_nonneg _ (by omega)) (Int.emod_lt_of_pos _ hn0) (g.trans (Gr.mut s1 hI (by simp))) ⟨hI, c, cells, pos, big, _, left - 1, bud, hc, hl, hpos, upd_same⟩
/-! ### _law_same -/
def spSame (n : Nat) : Sp := fun vs H Q _ => ∃ (a d : V) (x y : Da), vs = [a, d] ∧ dR H a x ∧ dR H d y ∧ dep y ≤ n ∧ tame x ∧ tame y ∧ Q (.bl (eqd x y)) H
theorem sc_same : FnScope ["actual", "due", "k"] ["actual", "due"] (defScope s__law_same) := ⟨rfl, rfl, rfl, by decide +kernel, rfl, by decide +kernel, by decide +kernel⟩
theorem dec_bl' (a b : Bool) : decide (V.bl a = V.bl b) = (a == b) := dec_bl
/-- nothing in it: no list, no tuple -/
theorem ok_same0 (D : Dt K mg) {fd : FuncData} (F : FnP K "_law_same" "_law_same" s__law_same [] (He.ga K "_law_same") fd) : FnOk P w K mg base (L2.CX P w) 1 (He.ga K "_law_same") fd ["actual", "due"] (fun vs H Q _ => ∃ (a d : V) (x y : Da), vs = [a, d] ∧ dR H a x ∧ dR H d y ∧ isT y "tuple" = false ∧ isT y "list" = false ∧ Q (.bl (eqd x y)) H) := by
  refine fnN F sc_same (fun vs H Q E h => ?_) (fun cdv A outer s H vs Q E hr h => ?_)
  · obtain ⟨a, d, x, y, rfl, _⟩ := h; rfl
  · obtain ⟨a, d, x, y, rfl, hx, hy, y1, y2, k⟩ := h
    refine ⟨_, (pss_cons (ps_if (PW.pt (pw_or (pt_val (pe_callB call_isi rfl (free_isinstance D) (by decide +kernel) (pa_cons (pv 1) (pa_cons (pe_bltn (v := .ty "tuple") rfl (free_tuple D) (by decide +kernel) rfl) pa_nil)))) (pw_or1 (pt_val (pe_callB call_isi rfl (free_isinstance D) (by decide +kernel) (pa_cons (pv 1) (pa_cons (pe_bltn (v := .ty "list") rfl (free_list D) (by decide +kernel) rfl) pa_nil))))))) pss_never pss_nil)
      (pss_cons (ps_if (PW.pt (pw_or (pt_cmpR op_isN (pv 1) pe_non (nomark _)) (pw_or1 (pt_val (pe_callB call_isi rfl (free_isinstance D) (by decide +kernel) (pa_cons (pv 1) (pa_cons (pe_bltn (v := .ty "bool") rfl (free_bool D) (by decide +kernel) rfl) pa_nil)))))))
      (pss_one (ps_ret (pe_and (pe_cmpR op_eq (pe_cmpR op_isN (pv 0) pe_non (nomark _)) (pe_cmpR op_isN (pv 1) pe_non (nomark _)) (nomark _)) (pe_and (pe_or (pe_cmpR op_isN (pv 1) pe_non (nomark _)) (pe_one (pe_callB call_isi rfl (free_isinstance D) (by decide +kernel) (pa_cons (pv 0) (pa_cons (pe_bltn (v := .ty "bool") rfl (free_bool D) (by decide +kernel) rfl) pa_nil))))) (pe_one (pe_cmpR op_eq (pv 0) (pv 1) (nomark _)))))))
      pss_nil)
      (pss_cons (ps_if (pt_val (pe_callB call_isi rfl (free_isinstance D) (by decide +kernel) (pa_cons (pv 1) (pa_cons (pe_bltn (v := .ty "int") rfl (free_int D) (by decide +kernel) rfl) pa_nil))))
      (pss_one (ps_ret (pe_and (pe_callB call_isi rfl (free_isinstance D) (by decide +kernel) (pa_cons (pv 0) (pa_cons (pe_bltn (v := .ty "int") rfl (free_int D) (by decide +kernel) rfl) pa_nil))) (pe_and (pe_not (pe_callB call_isi rfl (free_isinstance D) (by decide +kernel) (pa_cons (pv 0) (pa_cons (pe_bltn (v := .ty "bool") rfl (free_bool D) (by decide +kernel) rfl) pa_nil)))) (pe_one (pe_cmpR op_eq (pv 0) (pv 1) (nomark _)))))))
      pss_nil)
      (pss_one (ps_ret (pe_and (pe_callB call_isi rfl (free_isinstance D) (by decide +kernel) (pa_cons (pv 0) (pa_cons (pe_bltn (v := .ty "str") rfl (free_str D) (by decide +kernel) rfl) pa_nil))) (pe_one (pe_cmpR op_eq (pv 0) (pv 1) (nomark _))))))))), ?_⟩
    have cv : ∀ T : String, ClsV (.ty T) (.type T) := fun T => .ty T
    refine ⟨_, rfl, _, _, _, _, _, rfl, cv _, knd_ty hy, knd_tuple y, _, rfl, ifF y1 ?_⟩
    refine ⟨_, rfl, _, _, _, _, _, rfl, cv _, knd_ty hy, knd_list y, _, rfl, ifF y2 ?_⟩
    have nx := non_dec hx
    have ny := non_dec hy
    refine ⟨_, rfl, rfl, _, rfl, ?_⟩
    rw [ny]
    have finN : isNon y = true ∨ isT y "bool" = true → ∀ σ : L2.St, True := fun _ _ => trivial
    cases y with
    | lst l => simp [isT] at y2
    | tup l => simp [isT] at y1
    | non =>
      refine iteT ?_
      simp only [dR] at hy
      subst hy
      refine ⟨_, rfl, rfl, _, rfl, rfl, rfl, _, rfl, ?_⟩
      rw [nx, ny]
      cases x with
      | non =>
        simp only [dR] at hx; subst hx
        refine iteT ⟨_, rfl, rfl, _, rfl, iteT ⟨_, rfl, iteT ⟨_, rfl, _, rfl, rfl, ?_⟩⟩⟩
        exact k
      | _ => exact iteF k
    | bl b =>
      refine iteF ⟨_, rfl, _, _, _, _, _, rfl, cv _, knd_ty hy, knd_bool (.bl b), _, rfl, iteT ?_⟩
      refine ⟨_, rfl, rfl, _, rfl, rfl, rfl, _, rfl, ?_⟩
      rw [nx, ny]
      simp only [dR] at hy
      subst hy
      cases x with
      | non => exact iteF k
      | bl c =>
        refine iteT ⟨_, rfl, rfl, _, rfl, iteF ⟨_, rfl, _, _, _, _, _, rfl, cv _, knd_ty hx, knd_bool (.bl c), _, rfl, iteT ?_⟩⟩
        simp only [dR] at hx
        subst hx
        refine ⟨_, rfl, _, rfl, rfl, ?_⟩
        have e : decide (V.bl c = V.bl b) = eqd (.bl c) (.bl b) := by simp [eqd]
        rw [← e] at k; exact k
      | int i => exact iteT ⟨_, rfl, rfl, _, rfl, iteF ⟨_, rfl, _, _, _, _, _, rfl, cv _, knd_ty hx, knd_bool (.int i), _, rfl, iteF k⟩⟩
      | str i => exact iteT ⟨_, rfl, rfl, _, rfl, iteF ⟨_, rfl, _, _, _, _, _, rfl, cv _, knd_ty hx, knd_bool (.str i), _, rfl, iteF k⟩⟩
      | lst i => exact iteT ⟨_, rfl, rfl, _, rfl, iteF ⟨_, rfl, _, _, _, _, _, rfl, cv _, knd_ty hx, knd_bool (.lst i), _, rfl, iteF k⟩⟩
      | tup i => exact iteT ⟨_, rfl, rfl, _, rfl, iteF ⟨_, rfl, _, _, _, _, _, rfl, cv _, knd_ty hx, knd_bool (.tup i), _, rfl, iteF k⟩⟩
    | int b =>
      refine iteF ⟨_, rfl, _, _, _, _, _, rfl, cv _, knd_ty hy, knd_bool (.int b), _, rfl, iteF ?_⟩
      refine ⟨_, rfl, _, _, _, _, _, rfl, cv _, knd_ty hy, knd_int (.int b), _, rfl, iteT ?_⟩
      simp only [dR] at hy
      subst hy
      cases x with
      | int c =>
        refine ⟨_, rfl, _, _, _, _, _, rfl, cv _, knd_ty hx, knd_int (.int c), _, rfl, iteT ?_⟩
        refine ⟨_, rfl, _, _, _, _, _, rfl, cv _, knd_ty hx, knd_bool (.int c), _, rfl, _, rfl, iteT ?_⟩
        simp only [dR] at hx
        subst hx
        refine ⟨_, rfl, _, rfl, rfl, ?_⟩
        have e : decide (V.int c = V.int b) = eqd (.int c) (.int b) := by simp [eqd]
        rw [← e] at k; exact k
      | bl c =>
        refine ⟨_, rfl, _, _, _, _, _, rfl, cv _, knd_ty hx, knd_int (.bl c), _, rfl, iteT ?_⟩
        exact ⟨_, rfl, _, _, _, _, _, rfl, cv _, knd_ty hx, knd_bool (.bl c), _, rfl, _, rfl, iteF k⟩
      | non => exact ⟨_, rfl, _, _, _, _, _, rfl, cv _, knd_ty hx, knd_int .non, _, rfl, iteF k⟩
      | str c => exact ⟨_, rfl, _, _, _, _, _, rfl, cv _, knd_ty hx, knd_int (.str c), _, rfl, iteF k⟩
      | lst c => exact ⟨_, rfl, _, _, _, _, _, rfl, cv _, knd_ty hx, knd_int (.lst c), _, rfl, iteF k⟩
      | tup c => exact ⟨_, rfl, _, _, _, _, _, rfl, cv _, knd_ty hx, knd_int (.tup c), _, rfl, iteF k⟩
    | str b =>
      refine iteF ⟨_, rfl, _, _, _, _, _, rfl, cv _, knd_ty hy, knd_bool (.str b), _, rfl, iteF ?_⟩
      refine ⟨_, rfl, _, _, _, _, _, rfl, cv _, knd_ty hy, knd_int (.str b), _, rfl, iteF ?_⟩
      simp only [dR] at hy
      subst hy
      cases x with
      | str c =>
        refine ⟨_, rfl, _, _, _, _, _, rfl, cv _, knd_ty hx, knd_str (.str c), _, rfl, iteT ?_⟩
        simp only [dR] at hx
        subst hx
        refine ⟨_, rfl, _, rfl, rfl, ?_⟩
        have e : decide (V.str c = V.str b) = eqd (.str c) (.str b) := by simp [eqd]
        rw [← e] at k; exact k
      | bl c => exact ⟨_, rfl, _, _, _, _, _, rfl, cv _, knd_ty hx, knd_str (.bl c), _, rfl, iteF k⟩
      | non => exact ⟨_, rfl, _, _, _, _, _, rfl, cv _, knd_ty hx, knd_str .non, _, rfl, iteF k⟩
      | int c => exact ⟨_, rfl, _, _, _, _, _, rfl, cv _, knd_ty hx, knd_str (.int c), _, rfl, iteF k⟩
      | lst c => exact ⟨_, rfl, _, _, _, _, _, rfl, cv _, knd_ty hx, knd_str (.lst c), _, rfl, iteF k⟩
      | tup c => exact ⟨_, rfl, _, _, _, _, _, rfl, cv _, knd_ty hx, knd_str (.tup c), _, rfl, iteF k⟩
/-- a list or a tuple -/
theorem ok_sameS (D : Dt K mg) (n : Nat) (HREC : Has P w K mg base (n + 1) (He.ga K "_law_same") ["actual", "due"] [] (spSame n)) {fd : FuncData} (F : FnP K "_law_same" "_law_same" s__law_same [] (He.ga K "_law_same") fd) :
    FnOk P w K mg base (L2.CX P w) (n + 2) (He.ga K "_law_same") fd ["actual", "due"] (fun vs H Q _ => ∃ (a d : V) (x y : Da), vs = [a, d] ∧ dR H a x ∧ dR H d y ∧ dep y ≤ n + 1 ∧ tame x ∧ tame y ∧ (isT y "tuple" = true ∨ isT y "list" = true) ∧ Q (.bl (eqd x y)) H) := by
  refine fnN F sc_same (fun vs H Q E h => ?_) (fun cdv A outer s H vs Q E hr h => ?_)
  · obtain ⟨a, d, x, y, rfl, _⟩ := h; rfl
  · obtain ⟨a, d, x, y, rfl, hx, hy, dy, tx, ty, yy, k⟩ := h
    refine ⟨_, (pss_cons (ps_if (PW.pt (pw_or (pt_val (pe_callB call_isi rfl (free_isinstance D) (by decide +kernel) (pa_cons (pv 1) (pa_cons (pe_bltn (v := .ty "tuple") rfl (free_tuple D) (by decide +kernel) rfl) pa_nil)))) (pw_or1 (pt_val (pe_callB call_isi rfl (free_isinstance D) (by decide +kernel) (pa_cons (pv 1) (pa_cons (pe_bltn (v := .ty "list") rfl (free_list D) (by decide +kernel) rfl) pa_nil)))))))
      (pss_cons (ps_if (PW.pt (pw_or (pt_cmpR op_ne (pe_callB call_isi rfl (free_isinstance D) (by decide +kernel) (pa_cons (pv 1) (pa_cons (pe_bltn (v := .ty "tuple") rfl (free_tuple D) (by decide +kernel) rfl) pa_nil))) (pe_callB call_isi rfl (free_isinstance D) (by decide +kernel) (pa_cons (pv 0) (pa_cons (pe_bltn (v := .ty "tuple") rfl (free_tuple D) (by decide +kernel) rfl) pa_nil))) (nomark _)) (pw_or1 (pt_cmpR op_ne (pe_callB call_isi rfl (free_isinstance D) (by decide +kernel) (pa_cons (pv 1) (pa_cons (pe_bltn (v := .ty "list") rfl (free_list D) (by decide +kernel) rfl) pa_nil))) (pe_callB call_isi rfl (free_isinstance D) (by decide +kernel) (pa_cons (pv 0) (pa_cons (pe_bltn (v := .ty "list") rfl (free_list D) (by decide +kernel) rfl) pa_nil))) (nomark _)))))
      (pss_one (ps_ret pe_bl))
      pss_nil)
      (pss_cons (ps_if (pt_cmpR op_ne (pe_callB call_len rfl (free_len D) PySem.boot_len (pa_cons (pv 0) pa_nil)) (pe_callB call_len rfl (free_len D) PySem.boot_len (pa_cons (pv 1) pa_nil)) (nomark _))
      (pss_one (ps_ret pe_bl))
      pss_nil)
      (pss_cons (ps_for PassesOwn.never rfl (pi_range1 rfl (free_range D) (pa_cons (pe_callB call_len rfl (free_len D) PySem.boot_len (pa_cons (pv 1) pa_nil)) pa_nil)) (pg_name (i := 2) sc_same.nd rfl (Or.inl rfl))
      (pss_one (ps_if (pt_not (pt_val (pe_callH HREC (hr.mono (by omega)) rfl (glo__law_same D) passL (pa_cons (pe_ix ix_seq (pv 0) (pv 2) (fun _ _ => rfl)) (pa_cons (pe_ix ix_seq (pv 1) (pv 2) (fun _ _ => rfl)) pa_nil)))))
      (pss_one (ps_ret pe_bl))
      pss_nil)))
      (pss_one (ps_ret pe_bl)))))
      pss_nil)
      pss_never), ?_⟩
    have cv : ∀ T : String, ClsV (.ty T) (.type T) := fun T => .ty T
    cases y with
    | non => simp [isT] at yy
    | bl b => simp [isT] at yy
    | int b => simp [isT] at yy
    | str b => simp [isT] at yy
    | lst l =>
      refine ⟨_, rfl, _, _, _, _, _, rfl, cv _, knd_ty hy, knd_tuple _, _, rfl, iteF ⟨_, rfl, _, _, _, _, _, rfl, cv _, knd_ty hy, knd_list _, _, rfl, iteT ?_⟩⟩
      refine ⟨_, rfl, _, _, _, _, _, rfl, cv _, knd_ty hy, knd_tuple _, _, rfl, _, _, _, _, _, rfl, cv _, knd_ty hx, knd_tuple x, rfl, _, rfl, ?_⟩
      cases x with
      | lst l' =>
        refine ifF rfl ?_
        refine ⟨_, rfl, _, _, _, _, _, rfl, cv _, knd_ty hy, knd_list _, _, rfl, _, _, _, _, _, rfl, cv _, knd_ty hx, knd_list _, rfl, _, rfl, ifF rfl ?_⟩
        simp only [dR] at hx hy
        obtain ⟨pa, va, rfl, ha, ra⟩ := hx
        obtain ⟨pd, vd, rfl, hd, rd⟩ := hy
        have la := dRs_len ra
        have ld := dRs_len rd
        have hl : l.length ≤ 1000000 := ty.1
        refine ⟨_, rfl, _, l'.length, rfl, .inl ⟨_, SqL.of ha, la.symm⟩, _, rfl, _, l.length, rfl, .inl ⟨_, SqL.of hd, ld.symm⟩, rfl, _, rfl, ?_⟩
        by_cases hlen : l'.length = l.length
        · refine ifF (by rw [hlen]; simp) ?_
          refine ⟨_, rfl, _, l.length, rfl, .inl ⟨_, SqL.of hd, ld.symm⟩, _, rfl, by omega, by omega, ?_⟩
          refine for_range (n := l.length) (fun i σ' H' => ∃ v : Option V, σ' = [some (.ref pa), some (.ref pd), v] ∧ H' = H ∧ ∀ (j : Nat) (x y : Da), j < i → l'[j]? = some x → l[j]? = some y → eqd x y = true)
            ⟨none, rfl, rfl, fun j _ _ h => absurd h (Nat.not_lt_zero j)⟩ (fun i σ' H' hi h => ?_) (fun σ' H' h => ?_)
          · obtain ⟨v, rfl, rfl, hj⟩ := h
            obtain ⟨u1, e1, r1⟩ := dRs_at ra (List.getElem?_eq_getElem (by omega : i < l'.length))
            obtain ⟨u2, e2, r2⟩ := dRs_at rd (List.getElem?_eq_getElem hi)
            refine ⟨_, rfl, _, rfl, .inl ⟨_, _, _, _, rfl, rfl, SqL.of ha, at_of (j := i) (by omega) e1, ?_⟩⟩
            refine ⟨_, rfl, _, rfl, .inl ⟨_, _, _, _, rfl, rfl, SqL.of hd, at_of (j := i) (by omega) e2, ?_⟩⟩
            have dd : dep l[i] ≤ n := by
              have := deps_at (List.getElem?_eq_getElem hi)
              simp only [dep] at dy; omega
            refine ⟨_, _, _, _, rfl, r1, r2, dd, tames_at tx.2 (List.getElem?_eq_getElem (by omega)), tames_at ty.2 (List.getElem?_eq_getElem hi), _, rfl, ?_⟩
            cases e : eqd l'[i] l[i] with
            | false =>
              refine iteT ?_
              have z : eqd (.lst l') (.lst l) = false := by simp only [eqd]; exact eqds_false (List.getElem?_eq_getElem (by omega)) (List.getElem?_eq_getElem hi) e
              rw [z] at k; exact k
            | true =>
              refine iteF ⟨_, rfl, rfl, fun j x y hji h1 h2 => ?_⟩
              by_cases q : j = i
              · subst q; rw [List.getElem?_eq_getElem (by omega)] at h1 h2; rw [← Option.some.inj h1, ← Option.some.inj h2]; exact e
              · exact hj j x y (by omega) h1 h2
          · obtain ⟨v, rfl, rfl, hj⟩ := h
            have z : eqd (.lst l') (.lst l) = true := by
              simp only [eqd]
              exact eqds_true hlen fun i x y h1 h2 => hj i x y (by have := (List.getElem?_eq_some_iff.mp h2).1; omega) h1 h2
            rw [z] at k; exact k
        · refine ifT (by simp; omega) ?_
          have z : eqd (.lst l') (.lst l) = false := by simp only [eqd]; exact eqds_len hlen
          rw [z] at k; exact k
      | non =>
        refine ifF rfl ⟨_, rfl, _, _, _, _, _, rfl, cv _, knd_ty hy, knd_list _, _, rfl, _, _, _, _, _, rfl, cv _, knd_ty hx, knd_list _, rfl, _, rfl, ifT rfl k⟩
      | bl b =>
        refine ifF rfl ⟨_, rfl, _, _, _, _, _, rfl, cv _, knd_ty hy, knd_list _, _, rfl, _, _, _, _, _, rfl, cv _, knd_ty hx, knd_list _, rfl, _, rfl, ifT rfl k⟩
      | int b =>
        refine ifF rfl ⟨_, rfl, _, _, _, _, _, rfl, cv _, knd_ty hy, knd_list _, _, rfl, _, _, _, _, _, rfl, cv _, knd_ty hx, knd_list _, rfl, _, rfl, ifT rfl k⟩
      | str b =>
        refine ifF rfl ⟨_, rfl, _, _, _, _, _, rfl, cv _, knd_ty hy, knd_list _, _, rfl, _, _, _, _, _, rfl, cv _, knd_ty hx, knd_list _, rfl, _, rfl, ifT rfl k⟩
      | tup b =>
        exact ifT rfl k
    | tup l =>
      refine ⟨_, rfl, _, _, _, _, _, rfl, cv _, knd_ty hy, knd_tuple _, _, rfl, iteT ?_⟩
      refine ⟨_, rfl, _, _, _, _, _, rfl, cv _, knd_ty hy, knd_tuple _, _, rfl, _, _, _, _, _, rfl, cv _, knd_ty hx, knd_tuple x, rfl, _, rfl, ?_⟩
      cases x with
      | tup l' =>
        refine ifF rfl ?_
        refine ⟨_, rfl, _, _, _, _, _, rfl, cv _, knd_ty hy, knd_list _, _, rfl, _, _, _, _, _, rfl, cv _, knd_ty hx, knd_list _, rfl, _, rfl, ifF rfl ?_⟩
        simp only [dR] at hx hy
        obtain ⟨pa, va, rfl, ha, ra⟩ := hx
        obtain ⟨pd, vd, rfl, hd, rd⟩ := hy
        have la := dRs_len ra
        have ld := dRs_len rd
        have hl : l.length ≤ 1000000 := ty.1
        refine ⟨_, rfl, _, l'.length, rfl, .inr ⟨_, SqT.of ha, la.symm⟩, _, rfl, _, l.length, rfl, .inr ⟨_, SqT.of hd, ld.symm⟩, rfl, _, rfl, ?_⟩
        by_cases hlen : l'.length = l.length
        · refine ifF (by rw [hlen]; simp) ?_
          refine ⟨_, rfl, _, l.length, rfl, .inr ⟨_, SqT.of hd, ld.symm⟩, _, rfl, by omega, by omega, ?_⟩
          refine for_range (n := l.length) (fun i σ' H' => ∃ v : Option V, σ' = [some (.ref pa), some (.ref pd), v] ∧ H' = H ∧ ∀ (j : Nat) (x y : Da), j < i → l'[j]? = some x → l[j]? = some y → eqd x y = true)
            ⟨none, rfl, rfl, fun j _ _ h => absurd h (Nat.not_lt_zero j)⟩ (fun i σ' H' hi h => ?_) (fun σ' H' h => ?_)
          · obtain ⟨v, rfl, rfl, hj⟩ := h
            obtain ⟨u1, e1, r1⟩ := dRs_at ra (List.getElem?_eq_getElem (by omega : i < l'.length))
            obtain ⟨u2, e2, r2⟩ := dRs_at rd (List.getElem?_eq_getElem hi)
            refine ⟨_, rfl, _, rfl, .inr (.inl ⟨_, _, _, _, rfl, rfl, SqT.of ha, at_of (j := i) (by omega) e1, ?_⟩)⟩
            refine ⟨_, rfl, _, rfl, .inr (.inl ⟨_, _, _, _, rfl, rfl, SqT.of hd, at_of (j := i) (by omega) e2, ?_⟩)⟩
            have dd : dep l[i] ≤ n := by
              have := deps_at (List.getElem?_eq_getElem hi)
              simp only [dep] at dy; omega
            refine ⟨_, _, _, _, rfl, r1, r2, dd, tames_at tx.2 (List.getElem?_eq_getElem (by omega)), tames_at ty.2 (List.getElem?_eq_getElem hi), _, rfl, ?_⟩
            cases e : eqd l'[i] l[i] with
            | false =>
              refine iteT ?_
              have z : eqd (.tup l') (.tup l) = false := by simp only [eqd]; exact eqds_false (List.getElem?_eq_getElem (by omega)) (List.getElem?_eq_getElem hi) e
              rw [z] at k; exact k
            | true =>
              refine iteF ⟨_, rfl, rfl, fun j x y hji h1 h2 => ?_⟩
              by_cases q : j = i
              · subst q; rw [List.getElem?_eq_getElem (by omega)] at h1 h2; rw [← Option.some.inj h1, ← Option.some.inj h2]; exact e
              · exact hj j x y (by omega) h1 h2
          · obtain ⟨v, rfl, rfl, hj⟩ := h
            have z : eqd (.tup l') (.tup l) = true := by
              simp only [eqd]
              exact eqds_true hlen fun i x y h1 h2 => hj i x y (by have := (List.getElem?_eq_some_iff.mp h2).1; omega) h1 h2
            rw [z] at k; exact k
        · refine ifT (by simp; omega) ?_
          have z : eqd (.tup l') (.tup l) = false := by simp only [eqd]; exact eqds_len hlen
          rw [z] at k; exact k
      | non =>
        exact ifT rfl k
      | bl b =>
        exact ifT rfl k
      | int b =>
        exact ifT rfl k
      | str b =>
        exact ifT rfl k
      | lst b =>
        exact ifT rfl k
theorem ok_same (D : Dt K mg) : ∀ n, Has P w K mg base (n + 1) (He.ga K "_law_same") ["actual", "due"] [] (spSame n)
  | 0 => by
    obtain ⟨fd, F⟩ := fd__law_same D
    have b := F.bindsN (ps := ["actual", "due"]) fun _ _ _ _ _ _ us hl => match us, hl with | [_, _], _ => rfl
    refine ⟨F.kp, fd, [], .nil, b, (ok_same0 D F).imp fun vs H Q E h => ?_⟩
    obtain ⟨x, y, dx, dy, h1, h2, h3, h4, _, _, k⟩ := h
    refine ⟨x, y, dx, dy, h1, h2, h3, ?_, ?_, k⟩ <;> cases dy <;> first | rfl | (simp only [dep] at h4; omega)
  | n + 1 => by
    obtain ⟨fd, F⟩ := fd__law_same D
    have b := F.bindsN (ps := ["actual", "due"]) fun _ _ _ _ _ _ us hl => match us, hl with | [_, _], _ => rfl
    refine ⟨F.kp, fd, [], .nil, b, (fnOr ((ok_same0 D F).mono (by omega)) (ok_sameS D n (ok_same D n) F)).imp fun vs H Q E h => ?_⟩
    obtain ⟨x, y, dx, dy, h1, h2, h3, h4, h5, h6, k⟩ := h
    by_cases q : isT dy "tuple" = true ∨ isT dy "list" = true
    · exact .inr ⟨x, y, dx, dy, h1, h2, h3, h4, h5, h6, q, k⟩
    · refine .inl ⟨x, y, dx, dy, h1, h2, h3, ?_, ?_, k⟩ <;> cases dy <;> first | rfl | exact absurd (by first | exact .inl rfl | exact .inr rfl) q
end
end K

set_option Elab.async false
set_option linter.all false
set_option maxRecDepth 100000
set_option maxHeartbeats 4000000
namespace Tk
open PySem PySem.Spec PyProof.Rows L2
section
variable {α : Type} {K : PySem.W.Frag}
/-- those of a list that a test keeps -/
theorem lc_keep {J : It} {R Sy : Rp α} [Mono R] [Mono Sy] (p : α → Bool) {vs : List V} {xs : List α} {I H1 : Hp} {g : TG} {tt : TT} {te : TE} {vz : List Nat} {σ : L2.St} {D : Addr} {Qd : Hp → Prop}
    (W : Wk J vs.length (gv vs) I) (a2 : All2 (R I) vs xs) (s0 : Same I H1) (hD : H1 D = none) (hn : xs.length < sizeLine)
    (step : ∀ (i : Nat) (x : α) (I' H' : Hp) (Nx : Hp → Prop) (Qk : VK), xs[i]? = some x → R I' (gv vs i) x → Same I I' → Same I' H' → (p x = true → ∀ I'' H'' y, Gr [] I' H' I'' H'' → Sy I'' y x → Qk y H'') → (p x = false → Nx H') →
      g (gv vs i) (wipe σ vz) H' fun σ2 H2 => wipe σ2 vz = wipe σ vz ∧ tt σ2 H2 fun b H3 => if b = true then te σ2 H3 Qk else Nx H3)
    (hd : ∀ I' H' ys, Gr [] I H1 I' H' → H' D = some (.lst ys) → All2 (Sy I') ys (xs.filter p) → Qd H') : LcR J g tt te vz σ H1 D Qd := by
  have hl := a2.len
  let Mid : Nat → Hp → Prop := fun i H => ∃ I' ys, Gr [] I H1 I' H ∧ I' D = none ∧ H D = some (.lst ys) ∧ All2 (Sy I') ys ((xs.take i).filter p)
  refine ⟨fun i m H => m = vs.length - i ∧ i ≤ vs.length ∧ Mid i H, ⟨vs.length, rfl, Nat.zero_le _, I, [], (Gr.tmp s0 hD), s0.free hD, upd_same, .nil⟩, ?_⟩
  rintro i m H ⟨rfl, hi, I', ys, gr, hI, hH, b2⟩
  have s : Same I H := gr.ii.trans gr.ih
  by_cases hlt : i < vs.length
  · have hx : xs[i]? = some (xs[i]'(by omega)) := List.getElem?_eq_getElem (by omega)
    generalize xs[i]'(by omega) = x at hx
    have et : xs.take (i + 1) = xs.take i ++ [x] := by rw [List.take_succ, hx]; rfl
    refine .inr ⟨W.go i H s hlt, fun H' => i + 1 ≤ vs.length ∧ Mid (i + 1) H', fun H' z => ⟨vs.length - (i + 1), by omega, rfl, z.1, z.2⟩, fun y H' hy => ?_⟩
    obtain ⟨rfl, rfl⟩ := W.yld i H y H' s hlt hy
    refine step i x I' _ _ _ hx (up gr.ii (gv2 a2 hx)) gr.ii gr.ih (fun hp I'' H'' y g2 sy => ?_) (fun hp => ⟨hlt, I', ys, gr, hI, hH, ?_⟩)
    · have hD2 := g2.at hH (by simp)
      have hI2 := g2.out hI hH
      have ll : ys.length ≤ i := by
        rw [b2.len]
        refine Nat.le_trans (List.length_filter_le _ _) ?_
        rw [List.length_take]; omega
      refine ⟨ys, hD2, by omega, hlt, I'', ys ++ [y], ?_, hI2, upd_same, ?_⟩
      · have g3 := gr.trans g2
        exact ((g3.mono (ns := [D]) fun _ z => nomatch z).trans (Gr.mut g3.ih hI2 List.mem_cons_self)).drop hD
      · rw [et, List.filter_append, List.filter_cons_of_pos hp, List.filter_nil]
        exact (b2.up g2.ii).snoc sy
    · rw [et, List.filter_append, List.filter_cons_of_neg (by rw [hp]; exact Bool.false_ne_true), List.filter_nil, List.append_nil]
      exact b2
  · have e : i = vs.length := by omega
    subst e
    refine .inl ⟨W.stop H s, hd I' H ys gr hH ?_⟩
    rw [List.take_of_length_le (by omega)] at b2
    exact b2
end
end Tk

set_option Elab.async false
set_option linter.all false
set_option maxRecDepth 100000
set_option maxHeartbeats 4000000
/-! More rules that name K; membership; two rules for one thing. -/
namespace Tk
open PySem PySem.Spec PyProof.Rows L2
section
variable {X : Cx} (K : PySem.W.Frag) {e : Expr} {es : List Expr} {te : TE} {t : TA} {p : Pos}
theorem call_isiTK (hK : X.K = K := by rfl) : CallR X (.builtin "isinstance") (rIsiT K) := hK ▸ call_isiT
theorem op_in_seqK (hK : X.K = K := by rfl) : OpR X (compareOp .In) (rIn K false) := hK ▸ op_in_seq
theorem op_notIn_seqK (hK : X.K = K := by rfl) : OpR X (compareOp .NotIn) (rIn K true) := hK ▸ op_notIn_seq
theorem pa_starK (he : PE X e te) (hr : PA X es t) (hK : X.K = K := by rfl) (hs : starEach (.Starred e p :: es) X.env = (true, eval e X.env) :: starEach es X.env := by rfl) : PA X (.Starred e p :: es) (StX.tStar K te t) := hK ▸ StX.pa_star he hr hs
end
theorem call_or {X : Cx} {f : Value} {r1 r2 : List V → Hp → VK → Prop} (h1 : CallR X f r1) (h2 : CallR X f r2) : CallR X f (fun xs H Q => r1 xs H Q ∨ r2 xs H Q) := by
  intro pins s σ H xs us Q I r h
  rcases h with h | h
  · exact h1 pins s σ H xs us Q I r h
  · exact h2 pins s σ H xs us Q I r h
theorem call_strAny {X : Cx} : CallR X (.type "str") (fun xs H Q => (∃ i, xs = [.int i] ∧ i.natAbs.log2 < 1920 ∧ Q (.str (toString i)) H) ∨ ∃ a, xs = [.str a] ∧ Q (.str a) H) := call_or call_str_int SkE.call_str_str
theorem pe_or {X : Cx} {e : Expr} {t1 t2 : TE} (h1 : PE X e t1) (h2 : PE X e t2) : PE X e (fun σ H Q => t1 σ H Q ∨ t2 σ H Q) :=
  ⟨fun pins s σ H Q I h => h.elim (h1.run pins s σ H Q I) (h2.run pins s σ H Q I)⟩
/-- in a list of texts -/
theorem inV_strs (x : Str) : ∀ l : List Str, inV (.str x) (l.map V.str) = decide (x ∈ l)
  | [] => rfl
  | y :: r => by
    have ih := inV_strs x r
    unfold inV at ih ⊢
    rw [List.map_cons, List.any_cons, ih]
    by_cases h : x = y
    · subst h
      rw [show eqV (V.str x) (V.str x) = true from by simp [eqV]]
      simp
    · have e : eqV (V.str y) (V.str x) = false := by
        have : ¬ (y = x) := fun z => h z.symm
        simp [eqV, this]
      rw [e, Bool.false_or]
      simp [h]
theorem flat_strs (l : List Str) : (l.map V.str).all flatV = true := by
  rw [List.all_map, List.all_eq_true]; intro x _; rfl
end Tk

set_option Elab.async false
set_option linter.all false
set_option maxRecDepth 100000
set_option maxHeartbeats 4000000
namespace Tk
open PySem PySem.Spec PyProof.Rows L2
theorem pmk_oexH {X : Cx} {k : Nat} {f C : Addr} {fld : Str} {ps : List Str} {sp : Sp} {dvs : List V} {x : Str} {e : Expr} {es : List Expr} {ta : TA} {p pos : Pos} (T : OexF X.K C f fld) (h : HasX X k f ps dvs sp) (hr : Room (k + 1) X.A) (hg : Gl X x) (hm : X.mg x = some (.ref C)) (ha : PA X (e :: es) ta)
    (hdb : (x == ("__debug__" : Str)) = false := by decide) (he : starEach (e :: es) X.env = (false, eval e X.env) :: starEach es X.env := by rfl) (hpl : (backTo pos (starEach es X.env)).any (·.1) = false := by rfl) :
    PMk X (.Call (.Name x p) (e :: es) [] pos) (tMkO C sp dvs ta) := by
  obtain ⟨_, fd, ds, hd, hb, F⟩ := h
  exact pmk_oex T.T T.iC T.tI F hr hb hd passL hg hm ha hdb he hpl
theorem pe_methH0 {X : Cx} {k : Nat} {f C : Addr} {ps : List Str} {sp : Sp} {dvs : List V} {E : XK} {m : Str} {pos apos : Pos} {o : Expr} {ta : TE} {pl : Sem Bool} (he : PE X o ta) (c : Cls X.K C) (hm : Meth X.K C m f) (h : HasX X k f ps dvs sp) (hr : Room k X.A) (hx : Passes (L2.CX X.prog X.w) X E)
    (ht : eval (.Call (.Attribute o m apos) [] [] pos) X.env = (do
      let ov ← eval o X.env
      standAt apos.atName
      let (f, first) ← holding [ov] (getMethod ov m pl)
      callWith pos f first (backTo pos (starEach [] X.env)) (backToKw pos (keywordEach [] X.env))) := by rfl) :
    PE X (.Call (.Attribute o m apos) [] [] pos) (tMeth C m sp dvs E ta tNil) := by
  obtain ⟨_, fd, ds, hd, hb, F⟩ := h
  exact pe_meth0 (pl := pl) he c hm F hr hb hd hx ht

theorem pe_callSH {X : Cx} {k : Nat} {f : Addr} {ps : List Str} {sp : Sp} {E : L2.St → XK} {x : Str} {p pos : Pos} {e : Expr} {es : List Expr} {t : TA} (h : HasX X k f ps [] sp) (hr : Room k X.A) (hg : Gl X x) (hm : X.mg x = some (.ref f)) (hx : ∀ σ, PassesAt (L2.CX X.prog X.w) X σ (E σ)) (ha : PA X (e :: es) t)
    (hdb : (x == ("__debug__" : Str)) = false := by decide) (he : starEach (e :: es) X.env = (false, eval e X.env) :: starEach es X.env := by rfl) (hpl : (backTo pos (starEach es X.env)).any (·.1) = false := by rfl) :
    PE X (.Call (.Name x p) (e :: es) [] pos) (tCallS sp E t) := by
  obtain ⟨hk, fd, ds, hd, hb, F⟩ := h
  cases hd
  exact pe_callS F hr hg hm hk hb hx ha hdb he hpl
/-- the part that stays may be seen smaller -/
theorem Gr.low {ms : List Addr} {I I2 H I' H' : Hp} (g : Gr ms I2 H I' H') (s : Same I I2) : Gr ms I H I H' :=
  ⟨Same.refl _, s.trans (g.ii.trans g.ih), g.hh, g.th, fun a o e _ => e⟩
theorem All2.strs {H : Hp} : ∀ {vs : List V} {xs : List Str}, All2 (iS H) vs xs → vs = xs.map V.str
  | _, _, .nil => rfl
  | _, _, .cons a t => by rw [a, t.strs]; rfl
theorem All2.ofStrs {H : Hp} : ∀ (xs : List Str), All2 (iS H) (xs.map V.str) xs
  | [] => .nil
  | x :: r => .cons rfl (All2.ofStrs r)
/-- a list that may change, seen as it stands now -/
theorem same_now {I H : Hp} {a : Addr} {o : HO} (s : Same I H) (h : H a = some o) : Same (upd I a o) H := fun b u e => by
  by_cases q : b = a
  · subst q; rw [upd_same] at e; rw [h]; exact e
  · rw [upd_ne q] at e; exact s b u e
theorem same_to {I : Hp} {a : Addr} {o : HO} (hi : I a = none) : Same I (upd I a o) := sNew hi
end Tk

set_option Elab.async false
set_option linter.all false
set_option maxRecDepth 100000
set_option maxHeartbeats 4000000
/-! Words, numbers and names as they are read; the mathematics of decimal texts. -/
namespace Rd
open PySem PyProof.Rows TL
/-! decimal texts -/
def dec (n : Nat) : Str := Str.ofString (toString ((n : Nat) : Int))
theorem tl_dec (n : Nat) : tl (dec n) = numL n := tl_num n
theorem dec_inj {m n : Nat} (h : dec m = dec n) : m = n := numL_inj (by rw [← tl_dec, ← tl_dec, h])
theorem ext_dec {w : Str} {n : Nat} (h : tl w = numL n) : w = dec n := ext_tl (by rw [h, tl_dec])
theorem numL_len_step {n : Nat} (h : 10 ≤ n) : (numL n).length = (numL (n / 10)).length + 1 := by rw [numL_step h]; simp
theorem numL_mono : ∀ (n m : Nat), n ≤ m → (numL n).length ≤ (numL m).length := by
  intro n
  induction n using Nat.strongRecOn with
  | _ n ih =>
    intro m h
    by_cases hn : n < 10
    · rw [numL_lt hn]
      have := List.length_pos_iff.mpr (numL_ne m)
      show 1 ≤ _; omega
    · rw [numL_len_step (by omega), numL_len_step (n := m) (by omega)]
      have := ih (n / 10) (by omega) (m / 10) (by omega)
      omega
theorem numL_head : ∀ (n : Nat), 0 < n → ∀ c r, numL n = c :: r → c ≠ 48 := by
  intro n
  induction n using Nat.strongRecOn with
  | _ n ih =>
    intro h c r e
    by_cases hn : n < 10
    · rw [numL_lt hn] at e
      injection e with e1 e2
      omega
    · rw [numL_step (by omega)] at e
      cases q : numL (n / 10) with
      | nil => exact absurd q (numL_ne _)
      | cons d s =>
        rw [q] at e
        injection e with e1 e2
        exact e1 ▸ ih (n / 10) (by omega) (by omega) d s q
theorem numL_zero : numL 0 = [48] := numL_lt (by decide)
theorem snocInd {α : Type} {P : List α → Prop} (h0 : P []) (hs : ∀ l a, P l → P (l ++ [a])) (l : List α) : P l := by
  have : ∀ m : List α, P m.reverse := by
    intro m
    induction m with
    | nil => exact h0
    | cons a m ih => rw [List.reverse_cons]; exact hs _ _ ih
  have := this l.reverse
  rwa [List.reverse_reverse] at this
def dv (l : List Nat) : Nat := NumText.digitsVal l
theorem dv_snoc (l : List Nat) (c : Nat) : dv (l ++ [c]) = dv l * 10 + (c - 48) := by
  unfold dv NumText.digitsVal; rw [List.foldl_append]; rfl
theorem dv_pos : ∀ (l : List Nat) (c : Nat), NumText.AllDigits (c :: l) → c ≠ 48 → 0 < dv (c :: l) := by
  intro l
  induction l using snocInd with
  | h0 =>
    intro c h hc
    have := h.head
    show 0 < 0 * 10 + (c - 48)
    omega
  | hs l d ih =>
    intro c h hc
    rw [← List.cons_append, dv_snoc]
    have := ih c (fun x hx => h x (by rw [← List.cons_append]; exact List.mem_append_left _ hx)) hc
    omega
/-- digits without a leading zero are a number's -/
theorem numL_dv : ∀ (l : List Nat) (c : Nat), NumText.AllDigits (c :: l) → (c ≠ 48 ∨ l = []) → numL (dv (c :: l)) = c :: l := by
  intro l
  induction l using snocInd with
  | h0 =>
    intro c h _
    have := h.head
    have e : dv [c] = c - 48 := by show 0 * 10 + (c - 48) = _; omega
    rw [e, numL_lt (by omega)]
    have : 48 + (c - 48) = c := by omega
    rw [this]
  | hs l d ih =>
    intro c h hc
    have hc : c ≠ 48 := by
      rcases hc with h | h
      · exact h
      · simp at h
    have hd := h d (by simp)
    have h1 : NumText.AllDigits (c :: l) := fun x hx => h x (by rw [← List.cons_append]; exact List.mem_append_left _ hx)
    have hp := dv_pos l c h1 hc
    rw [← List.cons_append, dv_snoc, numL_step (by omega)]
    have e1 : (dv (c :: l) * 10 + (d - 48)) / 10 = dv (c :: l) := by omega
    have e2 : 48 + (dv (c :: l) * 10 + (d - 48)) % 10 = d := by omega
    rw [e1, e2, ih c h1 (.inl hc)]
/-! numbers that words write -/
def isDig (c : Nat) : Bool := decide (48 ≤ c) && decide (c ≤ 57)
theorem isDig_iff {c : Nat} : isDig c = true ↔ 48 ≤ c ∧ c ≤ 57 := by unfold isDig; simp
theorem all_dig {l : List Nat} : l.all isDig = true ↔ NumText.AllDigits l := by
  rw [List.all_eq_true]; exact ⟨fun h c hc => isDig_iff.mp (h c hc), fun h c hc => isDig_iff.mpr (h c hc)⟩
def numOf (w : Str) (most : Nat) : Option Nat := if tl w = numL (dv (tl w)) ∧ dv (tl w) ≤ most then some (dv (tl w)) else none
theorem numOf_some {w : Str} {most n : Nat} : numOf w most = some n ↔ w = dec n ∧ n ≤ most := by
  unfold numOf
  constructor
  · intro h
    split at h
    · rename_i c
      cases h
      exact ⟨ext_dec c.1, c.2⟩
    · cases h
  · rintro ⟨rfl, h⟩
    have e : dv (tl (dec n)) = n := by rw [tl_dec]; exact numL_val n
    rw [e, tl_dec, if_pos ⟨rfl, h⟩]
theorem numOf_dec {most n : Nat} (h : n ≤ most) : numOf (dec n) most = some n := numOf_some.mpr ⟨rfl, h⟩
theorem numOf_none {w : Str} {most : Nat} : numOf w most = none ↔ ∀ n, n ≤ most → w ≠ dec n := by
  constructor
  · intro h n hn e
    rw [e, numOf_dec hn] at h; cases h
  · intro h
    cases e : numOf w most with
    | none => rfl
    | some n => obtain ⟨e1, e2⟩ := numOf_some.mp e; exact absurd e1 (h n e2)
/-- as number_of asks -/
theorem numOf_long {w : Str} {most : Nat} (h : w.length > (dec most).length) : numOf w most = none :=
  numOf_none.mpr fun n hn e => by
    have := numL_mono n most hn
    rw [e, len_tl, len_tl, tl_dec, tl_dec] at h
    omega
theorem numOf_digs {w : Str} {most : Nat} (h : ¬ (tl w ≠ [] ∧ (tl w).all isDig = true)) : numOf w most = none :=
  numOf_none.mpr fun n hn e => h (by rw [e, tl_dec]; exact ⟨numL_ne n, all_dig.mpr (numL_digits n)⟩)
theorem numOf_lead {w : Str} {most : Nat} {r : List Nat} (h : tl w = 48 :: r) (hr : r ≠ []) : numOf w most = none :=
  numOf_none.mpr fun n hn e => by
    rw [e, tl_dec] at h
    by_cases h0 : n = 0
    · subst h0; rw [numL_zero] at h; injection h with _ h2; exact hr h2.symm
    · exact numL_head n (by omega) _ _ h rfl
theorem numOf_else {w : Str} {most c : Nat} {r : List Nat} (h : tl w = c :: r) (hd : (tl w).all isDig = true) (hc : c ≠ 48 ∨ r = []) : numOf w most = if dv (tl w) ≤ most then some (dv (tl w)) else none := by
  unfold numOf
  have e := numL_dv r c (by rw [← h]; exact all_dig.mp hd) hc
  rw [← h] at e
  by_cases k : dv (tl w) ≤ most
  · rw [if_pos ⟨e.symm, k⟩, if_pos k]
  · rw [if_neg (fun z => k z.2), if_neg k]
theorem numOf_empty {most : Nat} : numOf Str.empty most = none := numOf_digs (fun h => h.1 rfl)
/-! characters -/
theorem uni_digit : ∀ c, c < 128 → Unicode.isDigit c = isDig c := by decide +kernel
theorem uni_alpha : ∀ c, c < 128 → Unicode.isAlpha c = (decide (65 ≤ c) && decide (c ≤ 90) || decide (97 ≤ c) && decide (c ≤ 122)) := by decide +kernel
theorem uni_lower : ∀ c, c < 128 → Unicode.isLower c = (decide (97 ≤ c) && decide (c ≤ 122)) := by decide +kernel
theorem uni_upper : ∀ c, c < 128 → (Unicode.isUpper c || Unicode.isTitle c) = (decide (65 ≤ c) && decide (c ≤ 90)) := by decide +kernel
theorem ascii_digit (w : Str) : (Txt.isascii w && Txt.isdigit w) = (decide (tl w ≠ []) && (tl w).all isDig) := by
  unfold Txt.isascii Txt.isdigit
  rw [← Array.all_toList, ← Array.all_toList]
  rw [show w.length = (tl w).length from len_tl w]
  show ((tl w).all _ && (decide ((tl w).length > 0) && (tl w).all _)) = _
  rw [Bool.eq_iff_iff]
  simp only [Bool.and_eq_true, List.all_eq_true, decide_eq_true_eq, isDig_iff]
  constructor
  · rintro ⟨h1, h2, h3⟩
    refine ⟨List.length_pos_iff.mp h2, fun c hc => ?_⟩
    have := h3 c hc
    rw [uni_digit c (h1 c hc)] at this
    exact isDig_iff.mp this
  · rintro ⟨h1, h2⟩
    refine ⟨fun c hc => ?_, List.length_pos_iff.mpr h1, fun c hc => ?_⟩
    · have := h2 c hc; omega
    · have := h2 c hc
      rw [uni_digit c (by omega)]; exact isDig_iff.mpr this
def isLow (c : Nat) : Bool := decide (97 ≤ c) && decide (c ≤ 122)
theorem isLow_iff {c : Nat} : isLow c = true ↔ 97 ≤ c ∧ c ≤ 122 := by unfold isLow; simp
theorem ascii_lower (w : Str) : (Txt.isascii w && (Txt.isalpha w && Txt.islower w)) = (decide (tl w ≠ []) && (tl w).all isLow) := by
  unfold Txt.isascii Txt.isalpha Txt.islower
  rw [← Array.all_toList, ← Array.all_toList, ← Array.any_toList, ← Array.any_toList]
  rw [show w.length = (tl w).length from len_tl w]
  show ((tl w).all _ && ((decide ((tl w).length > 0) && (tl w).all _) && ((tl w).any _ && !(tl w).any _))) = _
  rw [Bool.eq_iff_iff]
  simp only [Bool.and_eq_true, List.all_eq_true, List.any_eq_true, decide_eq_true_eq, Bool.not_eq_true', isLow_iff]
  constructor
  · rintro ⟨h1, ⟨h2, h3⟩, h4, h5⟩
    refine ⟨List.length_pos_iff.mp h2, fun c hc => ?_⟩
    have a := h3 c hc
    rw [uni_alpha c (h1 c hc)] at a
    have b := List.any_eq_false.mp h5 c hc
    rw [uni_upper c (h1 c hc)] at b
    simp only [Bool.or_eq_true, Bool.and_eq_true, decide_eq_true_eq] at a b
    omega
  · rintro ⟨h1, h2⟩
    have h128 : ∀ c ∈ tl w, c < 128 := fun c hc => by have := h2 c hc; omega
    refine ⟨h128, ⟨List.length_pos_iff.mpr h1, fun c hc => ?_⟩, ?_, ?_⟩
    · have := h2 c hc
      rw [uni_alpha c (h128 c hc)]; simp; omega
    · cases e : tl w with
      | nil => exact absurd e h1
      | cons c r =>
        have hc : c ∈ tl w := by rw [e]; exact List.mem_cons_self
        refine ⟨c, List.mem_cons_self, ?_⟩
        rw [uni_lower c (h128 c hc)]; simpa using h2 c hc
    · refine List.any_eq_false.mpr fun c hc => ?_
      rw [uni_upper c (h128 c hc)]
      have := h2 c hc
      simp; omega
/-! a word that begins with a sign -/
theorem starts1 (w : Str) (y : Str) (c : Nat) (hy : tl y = [c]) : Txt.startswith w y = ((tl w).head? == some c) := by
  unfold Txt.startswith
  rw [PySem.StrLaws.subAt_eq]
  have hl : y.length = 1 := by rw [len_tl, hy]; rfl
  rw [hl, len_tl]
  show (decide (0 + 1 ≤ (tl w).length) && ((tl w).drop 0).take 1 == tl y) = _
  rw [hy, List.drop_zero]
  cases tl w with
  | nil => rfl
  | cons d r => simp
end Rd

set_option Elab.async false
set_option linter.all false
set_option maxRecDepth 100000
set_option maxHeartbeats 4000000
/-! Reading the words of a box, as a function. -/
namespace Rd
open PySem PyProof.Rows TL
inductive Ex where
  | num (n : Nat) | var (x : Str) | press | op (o : Str) (a b : Ex)
  deriving DecidableEq
inductive Stm where
  | set (x : Str) (e : Ex) | draw (x : Str) (n : Nat) | use (x : Str) (e : Ex) | say (e : Ex) | ite (e : Ex) (s t : List Stm)
structure Bx where
  buttons : Nat
  answers : Nat
  vars : List (Str × Nat)
  start : List Stm
  block : List Stm
def ops : List Str := ["+", "-", "*", "/", "mod", "<", "="]
def sts : List Str := ["set", "draw", "use", "say", "if"]
def resv : List Str := ["buttons", "answers", "var", "start", "press", "set", "draw", "use", "say", "if", "else", "end", "mod"]
def isName (w : Str) : Bool := decide (w.length ≤ 8) && decide (w ∉ resv) && (decide (tl w ≠ []) && (tl w).all isLow)
/-- where the reader is -/
structure RS where
  pos : Nat
  vars : List (Str × Nat)
  draws : Nat
  uses : Nat
  pressed : Bool
inductive Res (α : Type) where
  | ok (x : α) (r : RS)
  | bad (n : Nat)
def Res.bind {α β : Type} (x : Res α) (f : α → RS → Res β) : Res β := match x with
  | .ok a r => f a r
  | .bad n => .bad n
theorem bind_ok {α β : Type} {x : Res α} {f : α → RS → Res β} {y : β} {r : RS} (h : x.bind f = .ok y r) : ∃ a r1, x = .ok a r1 ∧ f a r1 = .ok y r := by
  cases x with
  | ok a r1 => exact ⟨a, r1, rfl, h⟩
  | bad n => cases h
section
variable (ws : List Str)
def here (r : RS) : Str := ws.getD r.pos Str.empty
def RS.go (r : RS) : RS := { r with pos := r.pos + 1 }
def hasV (r : RS) (w : Str) : Bool := decide (w ∈ r.vars.map (·.1))
def takeR (w : Str) (r : RS) : Res Unit := if here ws r = w then .ok () r.go else .bad r.pos
def numR (lo hi : Nat) (r : RS) : Res Nat := match numOf (here ws r) hi with
  | some n => if lo ≤ n then .ok n r.go else .bad r.pos
  | none => .bad r.pos
def newR (r : RS) : Res Str := if isName (here ws r) = true ∧ hasV r (here ws r) = false then .ok (here ws r) r.go else .bad r.pos
def varR (r : RS) : Res Str := if hasV r (here ws r) = true then .ok (here ws r) r.go else .bad r.pos
def leafOf (r : RS) (w : Str) : Option Ex := match numOf w 65535 with
  | some n => some (.num n)
  | none => if hasV r w = true then some (.var w) else if w = "press" ∧ r.pressed = true then some .press else none
def leafR (r : RS) : Res Ex := match leafOf r (here ws r) with
  | some e => .ok e r.go
  | none => .bad r.pos
def exR : Nat → RS → Res Ex
  | 0, r => leafR ws r
  | k + 1, r => if here ws r ∈ ops then (exR k r.go).bind fun a r1 => (exR k r1).bind fun b r2 => .ok (.op (here ws r) a b) r2 else leafR ws r
variable (ar : Bool)
def mayR (w : Str) (d : Nat) (r : RS) : Bool :=
  if w = "if" then decide (d < 4) else if w = "say" then r.pressed else if w = "draw" ∧ 3 ≤ r.draws then false else
  if w = "use" ∧ (ar = false ∨ 24 ≤ r.uses) then false else decide (w ∈ (["set", "draw", "use"] : List Str)) && decide (0 < r.vars.length)
def stmtR (ch : RS → Res Stm) (r : RS) : Res Stm :=
  if here ws r = "if" then ch r.go else if here ws r = "say" then (exR ws 4 r.go).bind fun e r1 => .ok (.say e) r1 else
  (varR ws r.go).bind fun x r1 =>
    if here ws r = "draw" then (numR ws 1 6 { r1 with draws := r1.draws + 1 }).bind fun n r2 => .ok (.draw x n) r2 else
    if here ws r = "use" then (exR ws 4 { r1 with uses := r1.uses + 1 }).bind fun e r2 => .ok (.use x e) r2 else
    (exR ws 4 r1).bind fun e r2 => .ok (.set x e) r2
def loopR (d : Nat) (ch : RS → Res Stm) : Nat → List Stm → RS → Res (List Stm)
  | 0, acc, r => .ok acc r
  | n + 1, acc, r => if mayR ar (here ws r) d r = true then (stmtR ws ch r).bind fun s r1 => loopR d ch n (acc ++ [s]) r1 else .ok acc r
def stmtsR (d : Nat) (ch : RS → Res Stm) (r : RS) : Res (List Stm) := loopR ws ar d ch (ws.length + 1) [] r
def choice1 (d : Nat) (ch : RS → Res Stm) (r : RS) : Res Stm :=
  (exR ws 4 r).bind fun e r1 => (stmtsR ws ar d ch r1).bind fun s r2 =>
    if here ws r2 = "else" ∧ sts.any (fun w => mayR ar w d r2) = true then
      (stmtsR ws ar d ch r2.go).bind fun t r3 => if t.length = 0 then .bad r3.pos else (takeR ws "end" r3).bind fun _ r4 => .ok (.ite e s t) r4
    else (takeR ws "end" r2).bind fun _ r4 => .ok (.ite e s []) r4
/-- choices of the depth 4 - k -/
def choiceR : Nat → RS → Res Stm
  | 0 => choice1 ws ar 4 (fun r => .bad r.pos)
  | k + 1 => choice1 ws ar (4 - (k + 1)) (choiceR k)
/-- the statements inside 4 - k ifs -/
def blockR : Nat → RS → Res (List Stm)
  | 0 => stmtsR ws ar 4 (fun r => .bad r.pos)
  | k + 1 => stmtsR ws ar (4 - (k + 1)) (choiceR ws ar k)
def varsR : Nat → RS → Res Unit
  | 0, r => .ok () r
  | n + 1, r => if here ws r = "var" then (newR ws r.go).bind fun x r1 => (numR ws 1 12 r1).bind fun m r2 => varsR n { r2 with vars := r2.vars ++ [(x, m)] } else .ok () r
def r0 : RS := ⟨0, [], 0, 0, false⟩
def readR : Res Bx :=
  (takeR ws "buttons" r0).bind fun _ r => (numR ws 1 4 r).bind fun b r => (takeR ws "answers" r).bind fun _ r => (numR ws 1 4 r).bind fun a r =>
  (varsR ws 4 r).bind fun _ r => (takeR ws "start" r).bind fun _ r => (blockR ws ar 4 r).bind fun s r => (takeR ws "press" r).bind fun _ r =>
  (blockR ws ar 4 { r with pressed := true }).bind fun t r => if r.pos < ws.length then .bad r.pos else .ok ⟨b, a, r.vars, s, t⟩ r
end
/-! the words of a box -/
def wd (s : String) : Str := s
def Ex.words : Ex → List Str
  | .num n => [dec n]
  | .var x => [x]
  | .press => [wd "press"]
  | .op o a b => o :: (a.words ++ b.words)
mutual
def Stm.words : Stm → List Str
  | .set x e => wd "set" :: x :: e.words
  | .draw x n => [wd "draw", x, dec n]
  | .use x e => wd "use" :: x :: e.words
  | .say e => wd "say" :: e.words
  | .ite e s t => wd "if" :: (e.words ++ (blockWords s ++ ((if t.isEmpty = true then [] else wd "else" :: blockWords t) ++ [wd "end"])))
def blockWords : List Stm → List Str
  | [] => []
  | s :: r => s.words ++ blockWords r
end
def varWords : List (Str × Nat) → List Str
  | [] => []
  | (x, n) :: r => wd "var" :: x :: dec n :: varWords r
def Bx.words (b : Bx) : List Str := wd "buttons" :: dec b.buttons :: wd "answers" :: dec b.answers :: (varWords b.vars ++ wd "start" :: (blockWords b.start ++ wd "press" :: blockWords b.block))
end Rd

set_option Elab.async false
set_option linter.all false
set_option maxRecDepth 100000
set_option maxHeartbeats 4000000
/-! The words of a box that is right are read as that box. -/
namespace Rd
open PySem PyProof.Rows TL
/-! lists -/
theorem drop_at {α : Type} {l m : List α} {i : Nat} {x : α} (h : l.drop i = x :: m) : l[i]? = some x ∧ l.drop (i + 1) = m ∧ i < l.length := by
  have hl : i < l.length := by
    by_cases q : i < l.length
    · exact q
    · rw [List.drop_eq_nil_of_le (by omega)] at h; cases h
  rw [List.drop_eq_getElem_cons hl] at h
  injection h with h1 h2
  exact ⟨by rw [List.getElem?_eq_getElem hl, h1], h2, hl⟩
theorem drop_app {α : Type} {l m n : List α} {i : Nat} (h : l.drop i = m ++ n) : l.drop (i + m.length) = n := by
  rw [← List.drop_drop, h, List.drop_left]
theorem drop_len {α : Type} {l m : List α} {i : Nat} (h : l.drop i = m) (hm : m ≠ []) : i + m.length = l.length := by
  have := congrArg List.length h
  rw [List.length_drop] at this
  have : 0 < m.length := List.length_pos_iff.mpr hm
  omega
section
variable {ws : List Str} {ar : Bool}
theorem here_of {r : RS} {x : Str} {m : List Str} (h : ws.drop r.pos = x :: m) : here ws r = x := by
  unfold here; rw [List.getD_eq_getElem?_getD, (drop_at h).1]; rfl
theorem here_end {r : RS} (h : ws.drop r.pos = []) : here ws r = Str.empty := by
  unfold here; rw [List.getD_eq_getElem?_getD, List.getElem?_eq_none (by simpa using h)]; rfl
theorem go_drop {r : RS} {x : Str} {m : List Str} (h : ws.drop r.pos = x :: m) : ws.drop r.go.pos = m := (drop_at h).2.1
end
theorem bind_mk {α β : Type} {a : α} {r : RS} {f : α → RS → Res β} : (Res.ok a r).bind f = f a r := rfl
/-! what is right -/
def NmOk (vs : List (Str × Nat)) : Prop := ∀ p ∈ vs, isName p.1 = true
def okEx (nm : List Str) (pr : Bool) : Nat → Ex → Prop
  | _, .num n => n ≤ 65535
  | _, .var x => x ∈ nm
  | _, .press => pr = true
  | 0, .op _ _ _ => False
  | k + 1, .op o a b => o ∈ ops ∧ okEx nm pr k a ∧ okEx nm pr k b
mutual
def okSt (nm : List Str) (pr ar : Bool) (k : Nat) : Stm → Prop
  | .set x e => x ∈ nm ∧ okEx nm pr 4 e
  | .draw x n => x ∈ nm ∧ 1 ≤ n ∧ n ≤ 6
  | .use x e => ar = true ∧ x ∈ nm ∧ okEx nm pr 4 e
  | .say e => pr = true ∧ okEx nm pr 4 e
  | .ite e s t => 0 < k ∧ okEx nm pr 4 e ∧ okBl nm pr ar (k - 1) s ∧ okBl nm pr ar (k - 1) t
def okBl (nm : List Str) (pr ar : Bool) (k : Nat) : List Stm → Prop
  | [] => True
  | s :: r => okSt nm pr ar k s ∧ okBl nm pr ar k r
end
mutual
def nd : Stm → Nat
  | .draw _ _ => 1
  | .ite _ s t => nds s + nds t
  | _ => 0
def nds : List Stm → Nat
  | [] => 0
  | s :: r => nd s + nds r
end
mutual
def nu : Stm → Nat
  | .use _ _ => 1
  | .ite _ s t => nus s + nus t
  | _ => 0
def nus : List Stm → Nat
  | [] => 0
  | s :: r => nu s + nus r
end
theorem name_facts {x : Str} (h : isName x = true) : x.length ≤ 8 ∧ x ∉ resv ∧ tl x ≠ [] ∧ (∀ c ∈ tl x, 97 ≤ c ∧ c ≤ 122) := by
  unfold isName at h
  simp only [Bool.and_eq_true, decide_eq_true_eq, List.all_eq_true, isLow_iff] at h
  exact ⟨h.1.1, h.1.2, h.2.1, h.2.2⟩
theorem name_num {x : Str} {m : Nat} (h : isName x = true) : numOf x m = none := by
  obtain ⟨_, _, h1, h2⟩ := name_facts h
  refine numOf_digs fun z => ?_
  cases e : tl x with
  | nil => exact h1 e
  | cons c r =>
    have a := h2 c (by rw [e]; exact List.mem_cons_self)
    have b := isDig_iff.mp (List.all_eq_true.mp z.2 c (by rw [e]; exact List.mem_cons_self))
    omega
theorem name_low {x y : Str} (h : isName x = true) {c : Nat} {r : List Nat} (e : tl y = c :: r) (hc : ¬ (97 ≤ c ∧ c ≤ 122)) : x ≠ y := fun z => by
  subst z
  exact hc ((name_facts h).2.2.2 c (by rw [e]; exact List.mem_cons_self))
theorem name_ops {x : Str} (h : isName x = true) : x ∉ ops := fun z => by
  have r := (name_facts h).2.1
  have e : ∀ y ∈ ops, y ∈ resv ∨ ∃ c q, tl y = c :: q ∧ ¬ (97 ≤ c ∧ c ≤ 122) := by
    intro y hy
    simp only [ops, List.mem_cons, List.not_mem_nil, or_false] at hy
    rcases hy with rfl | rfl | rfl | rfl | rfl | rfl | rfl
    · exact .inr ⟨43, [], by decide +kernel, by omega⟩
    · exact .inr ⟨45, [], by decide +kernel, by omega⟩
    · exact .inr ⟨42, [], by decide +kernel, by omega⟩
    · exact .inr ⟨47, [], by decide +kernel, by omega⟩
    · exact .inl (by decide +kernel)
    · exact .inr ⟨60, [], by decide +kernel, by omega⟩
    · exact .inr ⟨61, [], by decide +kernel, by omega⟩
  rcases e x z with q | ⟨c, q, e1, e2⟩
  · exact r q
  · exact name_low h e1 e2 rfl
theorem dec_ops (n : Nat) : dec n ∉ ops := fun z => by
  have hd := numL_digits n
  have hn := numL_ne n
  have e : ∀ y ∈ ops, ∃ c q, tl y = c :: q ∧ ¬ (48 ≤ c ∧ c ≤ 57) := by
    intro y hy
    simp only [ops, List.mem_cons, List.not_mem_nil, or_false] at hy
    rcases hy with rfl | rfl | rfl | rfl | rfl | rfl | rfl
    · exact ⟨43, [], by decide +kernel, by omega⟩
    · exact ⟨45, [], by decide +kernel, by omega⟩
    · exact ⟨42, [], by decide +kernel, by omega⟩
    · exact ⟨47, [], by decide +kernel, by omega⟩
    · exact ⟨109, [111, 100], by decide +kernel, by omega⟩
    · exact ⟨60, [], by decide +kernel, by omega⟩
    · exact ⟨61, [], by decide +kernel, by omega⟩
  obtain ⟨c, q, e1, e2⟩ := e _ z
  rw [tl_dec] at e1
  exact e2 (hd c (by rw [e1]; exact List.mem_cons_self))
theorem press_num {m : Nat} : numOf (wd "press") m = none := by
  refine numOf_digs fun z => ?_
  have : ¬ ((tl (wd "press")).all isDig = true) := by decide +kernel
  exact this z.2
theorem press_ops : wd "press" ∉ ops := by decide +kernel
theorem press_resv : wd "press" ∈ resv := by decide +kernel
/-! expressions -/
def advE (r : RS) (e : Ex) : RS := { r with pos := r.pos + e.words.length }
section
variable {ws : List Str} {ar : Bool}
theorem hasV_iff {r : RS} {x : Str} : hasV r x = true ↔ x ∈ r.vars.map (·.1) := by unfold hasV; simp
theorem not_var {r : RS} (hn : NmOk r.vars) {x : Str} (h : isName x = false) : hasV r x = false := by
  cases e : hasV r x with
  | false => rfl
  | true =>
    obtain ⟨p, hp, rfl⟩ := List.mem_map.mp (hasV_iff.mp e)
    rw [hn p hp] at h; cases h
theorem leaf_of {r : RS} (hn : NmOk r.vars) : ∀ {k : Nat} {e : Ex}, okEx (r.vars.map (·.1)) r.pressed k e → (∀ o a b, e ≠ .op o a b) → ∃ x, e.words = [x] ∧ x ∉ ops ∧ leafOf r x = some e := by
  intro k e h hne
  cases e with
  | num n =>
    have h : n ≤ 65535 := by cases k <;> exact h
    refine ⟨dec n, rfl, dec_ops n, ?_⟩
    unfold leafOf; rw [numOf_dec h]
  | var x =>
    have h : x ∈ r.vars.map (·.1) := by cases k <;> exact h
    obtain ⟨p, hp, rfl⟩ := List.mem_map.mp h
    refine ⟨p.1, rfl, name_ops (hn p hp), ?_⟩
    unfold leafOf; rw [name_num (hn p hp)]
    show (if hasV r p.1 = true then _ else _) = _
    rw [if_pos (hasV_iff.mpr h)]
  | press =>
    have h : r.pressed = true := by cases k <;> exact h
    refine ⟨wd "press", rfl, press_ops, ?_⟩
    unfold leafOf; rw [press_num]
    show (if hasV r (wd "press") = true then _ else _) = _
    rw [not_var hn (by decide +kernel), if_neg Bool.false_ne_true, if_pos ⟨rfl, h⟩]
  | op o a b => exact absurd rfl (hne o a b)
theorem exR_words : ∀ (k : Nat) (e : Ex) (r : RS) (rest : List Str), NmOk r.vars → okEx (r.vars.map (·.1)) r.pressed k e → ws.drop r.pos = e.words ++ rest → exR ws k r = .ok e (advE r e) := by
  have leaf : ∀ (e : Ex) (k : Nat) (r : RS) (rest : List Str), NmOk r.vars → okEx (r.vars.map (·.1)) r.pressed k e → (∀ o a b, e ≠ .op o a b) → ws.drop r.pos = e.words ++ rest → here ws r ∉ ops ∧ leafR ws r = .ok e (advE r e) := by
    intro e k r rest hn h hne hd
    obtain ⟨x, e1, e2, e3⟩ := leaf_of hn h hne
    rw [e1] at hd
    have hh := here_of (m := rest) hd
    refine ⟨by rw [hh]; exact e2, ?_⟩
    unfold leafR advE; rw [hh, e3, e1]; rfl
  intro k
  induction k with
  | zero =>
    intro e r rest hn h hd
    cases e with
    | op o a b => exact absurd h id
    | num n => exact (leaf _ 0 r rest hn h (by intros; intro z; cases z) hd).2
    | var n => exact (leaf _ 0 r rest hn h (by intros; intro z; cases z) hd).2
    | press => exact (leaf _ 0 r rest hn h (by intros; intro z; cases z) hd).2
  | succ k ih =>
    intro e r rest hn h hd
    have other : (∀ o a b, e ≠ .op o a b) → exR ws (k + 1) r = .ok e (advE r e) := fun hne => by
      obtain ⟨h1, h2⟩ := leaf e (k + 1) r rest hn h hne hd
      unfold exR; rw [if_neg h1]; exact h2
    cases e with
    | num n => exact other (by intros; intro z; cases z)
    | var n => exact other (by intros; intro z; cases z)
    | press => exact other (by intros; intro z; cases z)
    | op o a b =>
      obtain ⟨h1, h2, h3⟩ := h
      have hd' : ws.drop r.pos = o :: (a.words ++ (b.words ++ rest)) := by rw [hd]; simp [Ex.words]
      have hh := here_of hd'
      have d1 := go_drop hd'
      unfold exR
      rw [hh, if_pos h1, ih a r.go _ hn h2 d1]
      have d2 : ws.drop (advE r.go a).pos = b.words ++ rest := drop_app d1
      show ((exR ws k (advE r.go a)).bind _) = _
      rw [ih b (advE r.go a) _ hn h3 d2]
      show Res.ok _ _ = Res.ok _ _
      congr 1
      unfold advE RS.go
      rw [show (Ex.op o a b).words = o :: (a.words ++ b.words) from rfl]
      simp only [RS.mk.injEq, and_true, true_and, List.length_cons, List.length_append]
      omega
/-! statements -/
def advS (r : RS) (s : Stm) : RS := { r with pos := r.pos + s.words.length, draws := r.draws + nd s, uses := r.uses + nu s }
def advB (r : RS) (l : List Stm) : RS := { r with pos := r.pos + (blockWords l).length, draws := r.draws + nds l, uses := r.uses + nus l }
def chAt (ws : List Str) (ar : Bool) : Nat → RS → Res Stm
  | 0 => fun r => .bad r.pos
  | k + 1 => choiceR ws ar k
theorem choiceR_eq (k : Nat) : choiceR ws ar k = choice1 ws ar (4 - k) (chAt ws ar k) := by cases k <;> rfl
theorem blockR_eq (k : Nat) : blockR ws ar k = stmtsR ws ar (4 - k) (chAt ws ar k) := by cases k <;> rfl
def firstW : Stm → Str
  | .set _ _ => wd "set" | .draw _ _ => wd "draw" | .use _ _ => wd "use" | .say _ => wd "say" | .ite _ _ _ => wd "if"
theorem words_first (s : Stm) : ∃ m, s.words = firstW s :: m := by cases s <;> exact ⟨_, rfl⟩
theorem words_pos (s : Stm) : 0 < s.words.length := by obtain ⟨m, e⟩ := words_first s; rw [e]; simp
theorem len_le_words : ∀ l : List Stm, l.length ≤ (blockWords l).length
  | [] => Nat.le_refl _
  | s :: r => by
    have := words_pos s
    have := len_le_words r
    simp only [blockWords, List.length_cons, List.length_append]; omega
theorem may_set {r : RS} {d : Nat} : mayR ar (wd "set") d r = decide (0 < r.vars.length) := by
  unfold mayR
  rw [if_neg (by decide +kernel), if_neg (by decide +kernel), if_neg (by rintro ⟨a, _⟩; revert a; decide +kernel), if_neg (by rintro ⟨a, _⟩; revert a; decide +kernel),
    show decide (wd "set" ∈ (["set", "draw", "use"] : List Str)) = true by decide +kernel, Bool.true_and]
theorem may_draw {r : RS} {d : Nat} : mayR ar (wd "draw") d r = (decide (r.draws < 3) && decide (0 < r.vars.length)) := by
  unfold mayR
  rw [if_neg (by decide +kernel), if_neg (by decide +kernel)]
  by_cases h : 3 ≤ r.draws
  · rw [if_pos ⟨rfl, h⟩, decide_eq_false (by omega : ¬ r.draws < 3)]; rfl
  · rw [if_neg (fun z => h z.2), if_neg (by rintro ⟨a, _⟩; revert a; decide +kernel), decide_eq_true (by omega : r.draws < 3), show decide (wd "draw" ∈ (["set", "draw", "use"] : List Str)) = true by decide +kernel]
theorem may_use {r : RS} {d : Nat} : mayR ar (wd "use") d r = (ar && (decide (r.uses < 24) && decide (0 < r.vars.length))) := by
  unfold mayR
  rw [if_neg (by decide +kernel), if_neg (by decide +kernel), if_neg (by rintro ⟨a, _⟩; revert a; decide +kernel)]
  cases ar with
  | false => rw [if_pos ⟨rfl, .inl rfl⟩]; rfl
  | true =>
    by_cases h : 24 ≤ r.uses
    · rw [if_pos ⟨rfl, .inr h⟩, decide_eq_false (by omega : ¬ r.uses < 24)]; rfl
    · rw [if_neg (by rintro ⟨_, a | a⟩; · cases a
                     · exact h a), decide_eq_true (by omega : r.uses < 24), show decide (wd "use" ∈ (["set", "draw", "use"] : List Str)) = true by decide +kernel]; rfl
theorem may_say {r : RS} {d : Nat} : mayR ar (wd "say") d r = r.pressed := by
  unfold mayR
  rw [if_neg (by decide +kernel), if_pos (show wd "say" = Str.ofString "say" from rfl)]
theorem may_if {r : RS} {d : Nat} : mayR ar (wd "if") d r = decide (d < 4) := by
  unfold mayR
  rw [if_pos (show wd "if" = Str.ofString "if" from rfl)]
theorem may_not {r : RS} {d : Nat} {w : Str} (h : w ∉ sts) : mayR ar w d r = false := by
  have e : ∀ y : Str, y ∈ sts → w ≠ y := fun y hy z => h (z ▸ hy)
  unfold mayR
  rw [if_neg (e "if" (by decide +kernel)), if_neg (e "say" (by decide +kernel)), if_neg (fun z => e "draw" (by decide +kernel) z.1), if_neg (fun z => e "use" (by decide +kernel) z.1)]
  rw [decide_eq_false]; · rfl
  intro z
  simp only [List.mem_cons, List.not_mem_nil, or_false] at z
  rcases z with z | z | z
  · exact e "set" (by decide +kernel) z
  · exact e "draw" (by decide +kernel) z
  · exact e "use" (by decide +kernel) z
theorem vars_pos {r : RS} {x : Str} (h : x ∈ r.vars.map (·.1)) : 0 < r.vars.length := by
  have := List.length_pos_of_mem h
  simpa using this
theorem may_first {r : RS} {k : Nat} (hk : k ≤ 4) : ∀ {s : Stm}, okSt (r.vars.map (·.1)) r.pressed ar k s → r.draws + nd s ≤ 3 → r.uses + nu s ≤ 24 → mayR ar (firstW s) (4 - k) r = true
  | .set x e, h, _, _ => by rw [firstW, may_set]; simpa using vars_pos h.1
  | .draw x n, h, h1, _ => by
    rw [firstW, may_draw]
    have := vars_pos h.1
    simp [nd] at h1 ⊢; omega
  | .use x e, h, _, h2 => by
    rw [firstW, may_use]
    have := vars_pos h.2.1
    simp [nu] at h2 ⊢; exact ⟨h.1, by omega, by omega⟩
  | .say e, h, _, _ => by rw [firstW, may_say]; exact h.1
  | .ite e s t, h, _, _ => by
    rw [firstW, may_if]
    have := h.1
    simp; omega
theorem first_sts (s : Stm) : firstW s ∈ sts := by
  cases s
  · exact (by decide +kernel : wd "set" ∈ sts)
  · exact (by decide +kernel : wd "draw" ∈ sts)
  · exact (by decide +kernel : wd "use" ∈ sts)
  · exact (by decide +kernel : wd "say" ∈ sts)
  · exact (by decide +kernel : wd "if" ∈ sts)
theorem end_sts : wd "end" ∉ sts := by decide +kernel
theorem else_sts : wd "else" ∉ sts := by decide +kernel
theorem loop_stop {d n : Nat} {ch : RS → Res Stm} {acc : List Stm} {r : RS} (h : mayR ar (here ws r) d r = false) : loopR ws ar d ch n acc r = .ok acc r := by
  cases n with
  | zero => rfl
  | succ n => unfold loopR; rw [h, if_neg Bool.false_ne_true]
theorem hw {r : RS} {x : Str} {m : List Str} (h : ws.drop r.pos = x :: m) {y : Str} (e : x = y) : here ws r = y := (here_of h).trans e
theorem varR_words {r : RS} {x : Str} {m : List Str} (h : ws.drop r.pos = x :: m) (hx : x ∈ r.vars.map (·.1)) : varR ws r = .ok x r.go := by
  unfold varR; rw [here_of h, if_pos (hasV_iff.mpr hx)]
theorem numR_words {r : RS} {lo hi n : Nat} {m : List Str} (h : ws.drop r.pos = dec n :: m) (h1 : lo ≤ n) (h2 : n ≤ hi) : numR ws lo hi r = .ok n r.go := by
  unfold numR; rw [here_of h, numOf_dec h2]
  show (if lo ≤ n then _ else _ : Res Nat) = _
  rw [if_pos h1]
mutual
theorem stmt_words : ∀ (s : Stm) (k : Nat) (r : RS) (rest : List Str), k ≤ 4 → NmOk r.vars → okSt (r.vars.map (·.1)) r.pressed ar k s → r.draws + nd s ≤ 3 → r.uses + nu s ≤ 24 → ws.drop r.pos = s.words ++ rest → stmtR ws (chAt ws ar k) r = .ok s (advS r s)
  | .set x e, k, r, rest, hk, hn, h, h1, h2, hd => by
    have hd' : ws.drop r.pos = wd "set" :: x :: (e.words ++ rest) := by rw [hd]; simp [Stm.words]
    have hh := here_of hd'
    have d1 := go_drop hd'
    have d2 := go_drop d1
    unfold stmtR
    rw [hh, if_neg (by decide +kernel), if_neg (by decide +kernel)]
    rw [varR_words d1 h.1]
    rw [bind_mk]
    rw [if_neg (by decide +kernel), if_neg (by decide +kernel), exR_words 4 e r.go.go rest hn h.2 d2]
    show Res.ok _ _ = Res.ok _ _
    congr 1
    unfold advE advS RS.go Stm.words
    simp only [RS.mk.injEq, and_true, true_and, List.length_cons, nd, nu, Nat.add_zero]; omega
  | .draw x n, k, r, rest, hk, hn, h, h1, h2, hd => by
    have hd' : ws.drop r.pos = wd "draw" :: x :: dec n :: rest := by rw [hd]; simp [Stm.words]
    have hh := here_of hd'
    have d1 := go_drop hd'
    have d2 := go_drop d1
    unfold stmtR
    rw [hh, if_neg (by decide +kernel), if_neg (by decide +kernel)]
    rw [varR_words d1 h.1]
    rw [bind_mk]
    rw [if_pos (by decide +kernel)]
    rw [numR_words (r := { r.go.go with draws := r.go.go.draws + 1 }) d2 h.2.1 h.2.2]
    show Res.ok _ _ = Res.ok _ _
    congr 1
  | .use x e, k, r, rest, hk, hn, h, h1, h2, hd => by
    have hd' : ws.drop r.pos = wd "use" :: x :: (e.words ++ rest) := by rw [hd]; simp [Stm.words]
    have hh := here_of hd'
    have d1 := go_drop hd'
    have d2 := go_drop d1
    unfold stmtR
    rw [hh, if_neg (by decide +kernel), if_neg (by decide +kernel)]
    rw [varR_words d1 h.2.1]
    rw [bind_mk]
    rw [if_neg (by decide +kernel), if_pos (by decide +kernel), exR_words 4 e { r.go.go with uses := r.go.go.uses + 1 } rest hn h.2.2 d2]
    show Res.ok _ _ = Res.ok _ _
    congr 1
    unfold advE advS RS.go Stm.words
    simp only [RS.mk.injEq, and_true, true_and, List.length_cons, nd, nu, Nat.add_zero]; omega
  | .say e, k, r, rest, hk, hn, h, h1, h2, hd => by
    have hd' : ws.drop r.pos = wd "say" :: (e.words ++ rest) := by rw [hd]; simp [Stm.words]
    have hh := here_of hd'
    have d1 := go_drop hd'
    unfold stmtR
    rw [hh, if_neg (by decide +kernel), if_pos (by decide +kernel), exR_words 4 e r.go rest hn h.2 d1]
    show Res.ok _ _ = Res.ok _ _
    congr 1
    unfold advE advS RS.go Stm.words
    simp only [RS.mk.injEq, and_true, true_and, List.length_cons, nd, nu, Nat.add_zero]; omega
  | .ite e s t, 0, r, rest, hk, hn, h, h1, h2, hd => absurd h.1 (by omega)
  | .ite e s t, k + 1, r, rest, hk, hn, h, h1, h2, hd => by
    obtain ⟨_, he, hs, ht⟩ := h
    simp only [nd] at h1
    simp only [nu] at h2
    have hd' : ws.drop r.pos = wd "if" :: (e.words ++ (blockWords s ++ ((if t.isEmpty = true then [] else wd "else" :: blockWords t) ++ (wd "end" :: rest)))) := by rw [hd]; simp [Stm.words]
    have hh := here_of hd'
    have d1 := go_drop hd'
    unfold stmtR
    rw [hh, if_pos (by decide +kernel)]
    show choiceR ws ar k r.go = _
    rw [choiceR_eq]
    unfold choice1
    rw [exR_words 4 e r.go _ hn he d1]
    have d2 : ws.drop (advE r.go e).pos = _ := drop_app d1
    show ((stmtsR ws ar (4 - k) (chAt ws ar k) (advE r.go e)).bind _) = _
    unfold stmtsR
    have hsl : s.length ≤ ws.length := by
      have := len_le_words s
      have := congrArg List.length d2
      simp only [List.length_drop, List.length_append] at this
      omega
    rw [loop_words s k (ws.length + 1) [] (advE r.go e) _ (by omega) hn hs (by show r.draws + _ ≤ 3; omega) (by show r.uses + _ ≤ 24; omega) d2 (by omega)]
    have d3 : ws.drop (advB (advE r.go e) s).pos = _ := drop_app d2
    cases t with
    | nil =>
      simp only [List.isEmpty_nil, if_true, List.nil_append] at d3
      have h3 := here_of d3
      rw [loop_stop (by rw [h3]; exact may_not end_sts)]
      show (if here ws (advB (advE r.go e) s) = _ ∧ _ then _ else _) = _
      rw [h3, if_neg (by rintro ⟨a, _⟩; revert a; decide +kernel)]
      unfold takeR
      rw [h3, if_pos (by decide +kernel)]
      show Res.ok _ _ = Res.ok _ _
      congr 1
      unfold advE advS advB RS.go Stm.words
      simp only [RS.mk.injEq, and_true, true_and, List.length_cons, List.length_append, nd, nu, nds, nus, List.isEmpty_nil, if_true, List.length_nil]; omega
    | cons t0 tr =>
      simp only [List.isEmpty_cons, Bool.false_eq_true, if_false, List.cons_append] at d3
      have h3 := here_of d3
      have d4 := go_drop d3
      rw [loop_stop (by rw [h3]; exact may_not else_sts)]
      show (if here ws (advB (advE r.go e) s) = _ ∧ _ then _ else _) = _
      rw [h3]
      have hm : sts.any (fun w => mayR ar w (4 - k) (advB (advE r.go e) s)) = true := by
        refine List.any_eq_true.mpr ⟨firstW t0, first_sts t0, may_first (by omega) ht.1 ?_ ?_⟩
        · show r.draws + nds s + nd t0 ≤ 3
          simp only [nds] at h1; omega
        · show r.uses + nus s + nu t0 ≤ 24
          simp only [nus] at h2; omega
      rw [if_pos ⟨by decide +kernel, hm⟩]
      have htl : (t0 :: tr).length ≤ ws.length := by
        have := len_le_words (t0 :: tr)
        have := congrArg List.length d4
        simp only [List.length_drop, List.length_append] at this
        omega
      rw [loop_words (t0 :: tr) k (ws.length + 1) [] (advB (advE r.go e) s).go _ (by omega) hn ht (by show r.draws + nds s + _ ≤ 3; omega) (by show r.uses + nus s + _ ≤ 24; omega) d4 (by omega)]
      have d5 : ws.drop (advB (advB (advE r.go e) s).go (t0 :: tr)).pos = _ := drop_app d4
      have h5 := here_of d5
      rw [loop_stop (by rw [h5]; exact may_not end_sts)]
      rw [bind_mk, if_neg (by simp)]
      unfold takeR
      rw [h5, if_pos (by decide +kernel)]
      show Res.ok _ _ = Res.ok _ _
      congr 1
      unfold advE advS advB RS.go Stm.words
      simp only [RS.mk.injEq, and_true, true_and, List.length_cons, List.length_append, nd, nu, List.isEmpty_cons, Bool.false_eq_true, if_false, List.length_nil]
      omega
theorem loop_words : ∀ (l : List Stm) (k n : Nat) (acc : List Stm) (r : RS) (rest : List Str), k ≤ 4 → NmOk r.vars → okBl (r.vars.map (·.1)) r.pressed ar k l → r.draws + nds l ≤ 3 → r.uses + nus l ≤ 24 → ws.drop r.pos = blockWords l ++ rest → l.length ≤ n →
    loopR ws ar (4 - k) (chAt ws ar k) n acc r = loopR ws ar (4 - k) (chAt ws ar k) (n - l.length) (acc ++ l) (advB r l)
  | [], k, n, acc, r, rest, hk, hn, h, h1, h2, hd, hl => by rw [List.append_nil]; rfl
  | s :: l, k, 0, acc, r, rest, hk, hn, h, h1, h2, hd, hl => by simp at hl
  | s :: l, k, n + 1, acc, r, rest, hk, hn, h, h1, h2, hd, hl => by
    simp only [nds] at h1
    simp only [nus] at h2
    have hd1 : ws.drop r.pos = s.words ++ (blockWords l ++ rest) := by rw [hd]; simp [blockWords]
    obtain ⟨m, em⟩ := words_first s
    have hh : here ws r = firstW s := here_of (m := m ++ (blockWords l ++ rest)) (by rw [hd1, em]; rfl)
    rw [loopR, hh, may_first hk h.1 (by omega) (by omega), if_pos rfl, stmt_words s k r _ hk hn h.1 (by omega) (by omega) hd1]
    have d2 : ws.drop (advS r s).pos = blockWords l ++ rest := drop_app hd1
    show loopR ws ar (4 - k) (chAt ws ar k) n (acc ++ [s]) (advS r s) = _
    rw [loop_words l k n (acc ++ [s]) (advS r s) rest hk hn h.2 (by show r.draws + nd s + _ ≤ 3; omega) (by show r.uses + nu s + _ ≤ 24; omega) d2 (by simp at hl; omega)]
    have e1 : n + 1 - (s :: l).length = n - l.length := by simp
    have e2 : acc ++ [s] ++ l = acc ++ s :: l := by simp
    rw [e1, e2]
    congr 1
    unfold advS advB
    simp only [RS.mk.injEq, and_true, true_and, blockWords, List.length_append, nds, nus]
    omega
end
end
end Rd

set_option Elab.async false
set_option linter.all false
set_option maxRecDepth 100000
set_option maxHeartbeats 4000000
/-! A whole box that is right is read from its words. -/
namespace Rd
open PySem PyProof.Rows TL
section
variable {ws : List Str} {ar : Bool}
theorem takeR_words {r : RS} {x : Str} {m : List Str} (h : ws.drop r.pos = x :: m) : takeR ws x r = .ok () r.go := by
  unfold takeR; rw [here_of h, if_pos rfl]
theorem takeR_bad {r : RS} {x y : Str} (h : here ws r = y) (n : y ≠ x) : takeR ws x r = .bad r.pos := by
  unfold takeR; rw [h, if_neg n]
theorem newR_words {r : RS} {x : Str} {m : List Str} (h : ws.drop r.pos = x :: m) (hx : isName x = true) (hv : x ∉ r.vars.map (·.1)) : newR ws r = .ok x r.go := by
  unfold newR; rw [here_of h, if_pos ⟨hx, by unfold hasV; simpa using hv⟩]
def okVars : List Str → List (Str × Nat) → Prop
  | _, [] => True
  | nm, (x, n) :: r => isName x = true ∧ x ∉ nm ∧ 1 ≤ n ∧ n ≤ 12 ∧ okVars (nm ++ [x]) r
def advV (r : RS) (l : List (Str × Nat)) : RS := { r with pos := r.pos + (varWords l).length, vars := r.vars ++ l }
theorem varsR_words : ∀ (l : List (Str × Nat)) (n : Nat) (r : RS) (rest : List Str), okVars (r.vars.map (·.1)) l → l.length ≤ n → ws.drop r.pos = varWords l ++ rest → varsR ws n r = varsR ws (n - l.length) (advV r l)
  | [], n, r, rest, _, _, _ => by unfold advV; simp [varWords]
  | (x, m) :: l, 0, r, rest, _, h, _ => by simp at h
  | (x, m) :: l, n + 1, r, rest, ⟨h1, h2, h3, h4, h5⟩, hl, hd => by
    have hd' : ws.drop r.pos = wd "var" :: x :: dec m :: (varWords l ++ rest) := hd
    have d1 := go_drop hd'
    have d2 := go_drop d1
    have d3 := go_drop d2
    rw [varsR, here_of hd', if_pos (show wd "var" = Str.ofString "var" from rfl), newR_words d1 h1 h2, bind_mk, numR_words d2 h3 h4, bind_mk]
    rw [varsR_words l n { r.go.go.go with vars := r.go.go.go.vars ++ [(x, m)] } rest (by rw [List.map_append]; exact h5) (by simp at hl; omega) d3]
    have e1 : n + 1 - ((x, m) :: l).length = n - l.length := by simp
    rw [e1]
    congr 1
    unfold advV RS.go
    simp only [RS.mk.injEq, and_true, true_and, varWords, List.length_cons, List.append_assoc, List.cons_append, List.nil_append]
    omega
theorem varsR_stop {n : Nat} {r : RS} (h : here ws r ≠ wd "var") : varsR ws n r = .ok () r := by
  cases n with
  | zero => rfl
  | succ n => rw [varsR, if_neg (show ¬ here ws r = Str.ofString "var" from h)]
theorem nmOk_of : ∀ {l : List (Str × Nat)} {nm : List Str}, okVars nm l → NmOk l
  | [], _, _ => fun p hp => nomatch hp
  | (x, n) :: l, nm, h => fun p hp => by
    rcases List.mem_cons.mp hp with rfl | hp
    · exact h.1
    · exact nmOk_of h.2.2.2.2 p hp
structure okBx (ar : Bool) (b : Bx) : Prop where
  b1 : 1 ≤ b.buttons
  b2 : b.buttons ≤ 4
  a1 : 1 ≤ b.answers
  a2 : b.answers ≤ 4
  vl : b.vars.length ≤ 4
  vo : okVars [] b.vars
  so : okBl (b.vars.map (·.1)) false ar 4 b.start
  bo : okBl (b.vars.map (·.1)) true ar 4 b.block
  dl : nds b.start + nds b.block ≤ 3
  ul : nus b.start + nus b.block ≤ 24
theorem block_words {l : List Stm} {r : RS} {rest : List Str} (hn : NmOk r.vars) (h : okBl (r.vars.map (·.1)) r.pressed ar 4 l) (h1 : r.draws + nds l ≤ 3) (h2 : r.uses + nus l ≤ 24) (hd : ws.drop r.pos = blockWords l ++ rest)
    (hs : mayR ar (here ws (advB r l)) 0 (advB r l) = false) : blockR ws ar 4 r = .ok l (advB r l) := by
  rw [blockR_eq]
  unfold stmtsR
  have hl : l.length ≤ ws.length := by
    have := len_le_words l
    have := congrArg List.length hd
    simp only [List.length_drop, List.length_append] at this
    omega
  rw [loop_words l 4 (ws.length + 1) [] r rest (by omega) hn h h1 h2 hd (by omega), loop_stop hs]; rfl
/-- up to where the statements of the start are read -/
def rA (b : Bx) : RS := (advV r0.go.go.go.go b.vars).go
theorem readR_head {b : Bx} {rest : List Str} (b1 : 1 ≤ b.buttons) (b2 : b.buttons ≤ 4) (a1 : 1 ≤ b.answers) (a2 : b.answers ≤ 4) (vl : b.vars.length ≤ 4) (vo : okVars [] b.vars)
    (e : ws = wd "buttons" :: dec b.buttons :: wd "answers" :: dec b.answers :: (varWords b.vars ++ wd "start" :: rest)) :
    readR ws ar = (blockR ws ar 4 (rA b)).bind (fun s r => (takeR ws "press" r).bind fun _ r => (blockR ws ar 4 { r with pressed := true }).bind fun t r => if r.pos < ws.length then .bad r.pos else .ok ⟨b.buttons, b.answers, r.vars, s, t⟩ r) ∧ ws.drop (rA b).pos = rest := by
  have d0 : ws.drop r0.pos = wd "buttons" :: dec b.buttons :: wd "answers" :: dec b.answers :: (varWords b.vars ++ wd "start" :: rest) := by rw [← e]; rfl
  have d1 := go_drop d0
  have d2 := go_drop d1
  have d3 := go_drop d2
  have d4 := go_drop d3
  have d5 : ws.drop (advV r0.go.go.go.go b.vars).pos = wd "start" :: rest := drop_app d4
  have d6 := go_drop d5
  refine ⟨?_, d6⟩
  unfold readR
  rw [show takeR ws (Str.ofString "buttons") r0 = .ok () r0.go from takeR_words d0, bind_mk, numR_words d1 b1 b2, bind_mk]
  rw [show takeR ws (Str.ofString "answers") r0.go.go = .ok () r0.go.go.go from takeR_words d2, bind_mk, numR_words d3 a1 a2, bind_mk]
  rw [varsR_words b.vars 4 r0.go.go.go.go _ vo vl d4, varsR_stop (by rw [here_of d5]; decide +kernel), bind_mk]
  rw [show takeR ws (Str.ofString "start") (advV r0.go.go.go.go b.vars) = .ok () (rA b) from takeR_words d5, bind_mk]
theorem rA_vars (b : Bx) : (rA b).vars = b.vars ∧ (rA b).draws = 0 ∧ (rA b).uses = 0 ∧ (rA b).pressed = false := ⟨List.nil_append _, rfl, rfl, rfl⟩
theorem press_sts : wd "press" ∉ sts := by decide +kernel
theorem empty_sts : Str.empty ∉ sts := by decide +kernel
theorem readR_words {b : Bx} (h : okBx ar b) : ∃ r, readR b.words ar = .ok b r := by
  obtain ⟨b1, b2, a1, a2, vl, vo, so, bo, dl, ul⟩ := h
  obtain ⟨e1, d1⟩ := readR_head (ws := b.words) (ar := ar) b1 b2 a1 a2 vl vo rfl
  obtain ⟨v1, v2, v3, v4⟩ := rA_vars b
  have hn : NmOk (rA b).vars := by rw [v1]; exact nmOk_of vo
  have d2 : b.words.drop (advB (rA b) b.start).pos = wd "press" :: blockWords b.block := drop_app d1
  have d3 := go_drop d2
  rw [e1, block_words hn (by rw [v1, v4]; exact so) (by rw [v2]; omega) (by rw [v3]; omega) d1 (by rw [here_of d2]; exact may_not press_sts), bind_mk]
  rw [show takeR b.words (Str.ofString "press") (advB (rA b) b.start) = .ok () (advB (rA b) b.start).go from takeR_words d2, bind_mk]
  have d4 : b.words.drop (advB { (advB (rA b) b.start).go with pressed := true } b.block).pos = [] := drop_app (n := []) (by rw [List.append_nil]; exact d3)
  rw [block_words (r := { (advB (rA b) b.start).go with pressed := true }) (rest := []) hn (by show okBl ((rA b).vars.map _) true ar 4 _; rw [v1]; exact bo) (by show (rA b).draws + nds b.start + _ ≤ 3; rw [v2]; omega) (by show (rA b).uses + nus b.start + _ ≤ 24; rw [v3]; omega)
    (by rw [List.append_nil]; exact d3) (by rw [here_end d4]; exact may_not empty_sts), bind_mk]
  have hp := congrArg List.length d4
  rw [List.length_drop, List.length_nil] at hp
  rw [if_neg (fun z => by have z' := Nat.sub_pos_of_lt z; rw [hp] at z'; exact Nat.lt_irrefl 0 z')]
  refine ⟨_, congrArg (fun x => Res.ok x _) (?_ : Bx.mk b.buttons b.answers (rA b).vars b.start b.block = b)⟩
  rw [v1]
end
end Rd

set_option Elab.async false
set_option linter.all false
set_option maxRecDepth 100000
set_option maxHeartbeats 4000000
namespace K
open PySem PySem.Spec PyProof.Rows L2 Tk Hd Rd
section
variable {P : Program} {w : World} {K : PySem.W.Frag} {mg : Str → Option Value} {base : Heap}
/-! ### errors that tell a place -/
abbrev CBT (K : PySem.W.Frag) : Addr := He.ga K "BadText"
def spBT (C : Addr) : Sp := fun vs H Q _ => ∃ (a : Addr) (v : V), vs = [.ref a, v] ∧ H a = some (exo a C none) ∧ ∀ dx, H dx = none → dx ≠ a → Q .non (upd (upd H dx (exd dx [("at", v)])) a (exo a C (some dx)))
theorem sc_bt : FnScope ["self", "at"] ["self", "at"] (defScope s_BadText_init) := ⟨rfl, rfl, rfl, by decide +kernel, rfl, by decide +kernel, by decide +kernel⟩
theorem ok_bt (D : Dt K mg) : Has P w K mg base 1 (He.ma K (CBT K) "__init__") ["self", "at"] [] (spBT (CBT K)) := by
  obtain ⟨fd, F⟩ := fd_BadText_init D
  refine hasN F (F.bindsN fun _ _ _ _ _ _ us hl => match us, hl with | [_, _], _ => rfl) sc_bt (fun vs H Q E h => ?_) (fun cdv A outer s H vs Q E hr h => ?_)
  · obtain ⟨a, v, rfl, _⟩ := h; rfl
  · obtain ⟨a, v, rfl, ha, k⟩ := h
    refine ⟨_, pss_one (ps_ost (pv 0) (pv 1)), ?_⟩
    exact ⟨_, rfl, _, rfl, a, CBT K, rfl, (oex_BadText D).T, (oex_BadText D).no, .inl ⟨ha, k⟩⟩
theorem xd_heap {H : Hp} {a d : Addr} {u v : HO} {fs : List (Str × V)} {o : HO} (ha : H a = none) (n : d ≠ a) : upd (del (upd (upd (upd H a o) d u) a v) a) d (.xd fs) = upd H d (.xd fs) := by
  funext b
  by_cases hb : b = d
  · subst hb; rw [upd_same, upd_same]
  · rw [upd_ne hb, upd_ne hb]
    by_cases hba : b = a
    · subst hba; rw [del_same, ha]
    · rw [del_ne hba, upd_ne hba, upd_ne hb, upd_ne hba]
/-- a place is told -/
def RaisedAt (ms : List Addr) (I H : Hp) (C : Addr) (n : Nat) (E : XK) : Prop := ∀ I' H' d, Gr ms I H I' H' → H' d = some (.xd [("at", .int (n : Int))]) → E (.ref C) (some d) H'
theorem raised_at {ms : List Addr} {I H I' H' : Hp} {C : Addr} {n : Nat} {E : XK} (g : Gr ms I H I' H') (h : RaisedAt ms I H C n E) : ∀ e, H' e = none → ∀ d, upd H' e (exo e C none) d = none → d ≠ e → E (.ref C) (some d) (upd (del (upd (upd (upd H' e (exo e C none)) d (exd d [("at", .int (n : Int))])) e (exo e C (some d))) e) d (.xd [("at", .int (n : Int))])) := fun e he d hd ne => by
  have hd2 : H' d = none := by rw [upd_ne ne] at hd; exact hd
  rw [xd_heap (H := H') (u := exd d [("at", .int (n : Int))]) (v := exo e C (some d)) (o := exo e C none) (fs := [("at", .int (n : Int))]) he ne]
  exact h I' _ d (g.trans (Gr.tmp g.ih hd2)) upd_same
/-! ### words and numbers -/
def iSs : Rp (List Str) := fun H v ws => ∃ a, v = .ref a ∧ H a = some (.lst (ws.map V.str))
instance : Mono iSs := ⟨fun s ⟨a, e, h⟩ => ⟨a, e, s _ _ h⟩⟩
def wordsOf (z : Str) : List Str := if z = ("" : Str) then [] else Txt.split z " "
def spWordsOf : Sp := fun vs H Q _ => ∃ (I : Hp) (z : Str), vs = [.str z] ∧ Same I H ∧ z.length + 2 ≤ sizeLine ∧ Ret [] I H iSs (wordsOf z) Q
theorem sc_words_of : FnScope ["text"] ["text"] (defScope s_words_of) := ⟨rfl, rfl, rfl, by decide +kernel, rfl, by decide +kernel, by decide +kernel⟩
theorem ok_words_of (D : Dt K mg) : Has P w K mg base 1 (He.ga K "words_of") ["text"] [] (spWordsOf) := by
  obtain ⟨fd, F⟩ := fd_words_of D
  refine hasN F (F.bindsN fun _ _ _ _ _ _ us hl => match us, hl with | [_], _ => rfl) sc_words_of (fun vs H Q E h => ?_) (fun cdv A outer s H vs Q E hr h => ?_)
  · obtain ⟨I, z, rfl, _⟩ := h; rfl
  · obtain ⟨I, z, rfl, s0, hz, k⟩ := h
    refine ⟨_, (pss_one (ps_ret (pe_ifExp (pt_cmpR op_ne (pv 0) pe_str (nomark _)) (pe_bm PySem.F.plainAttrs_str PySem.F.slot_str_split PySem.F.type_str_split mt_split (pv 0) (pa_cons pe_str pa_nil)) (pe_lst pa_nil)))), ?_⟩
    refine ⟨_, rfl, rfl, _, rfl, ?_⟩
    refine ifB (fun c => ?_) (fun c => ?_)
    · have c' : ¬ z = ("" : Str) := by simpa using c
      refine ⟨_, rfl, rfl, z, _, rfl, rfl, by decide +kernel, hz, fun p hp => ?_⟩
      have := k _ _ (.ref p) (Gr.new (o := .lst ((wordsOf z).map V.str)) s0 hp) ⟨p, rfl, upd_same⟩
      rw [wordsOf, if_neg c'] at this
      exact this
    · have c' : z = ("" : Str) := by simpa using c
      refine ⟨by show 0 ≤ sizeLine; decide, fun p hp => ?_⟩
      have := k _ _ (.ref p) (Gr.new (o := .lst ((wordsOf z).map V.str)) s0 hp) ⟨p, rfl, upd_same⟩
      rw [wordsOf, if_pos c'] at this
      exact this
def oInt : Option Nat → V
  | some n => .int (n : Int)
  | none => .non
def spNumberOf : Sp := fun vs H Q _ => ∃ (z : Str) (most : Nat), vs = [.str z, .int (most : Int)] ∧ z.length ≤ sizeLine ∧ most < 10 ^ 64 ∧ Q (oInt (numOf z most)) H
theorem dec_len {n : Nat} (h : n < 10 ^ 64) : (dec n).length ≤ 64 := by rw [TL.len_tl, tl_dec]; exact TL.numL_len (by decide) h
theorem sc_number_of : FnScope ["word", "most", "number"] ["word", "most"] (defScope s_number_of) := ⟨rfl, rfl, rfl, by decide +kernel, rfl, by decide +kernel, by decide +kernel⟩
theorem ok_number_of (D : Dt K mg) : Has P w K mg base 1 (He.ga K "number_of") ["word", "most"] [] (spNumberOf) := by
  obtain ⟨fd, F⟩ := fd_number_of D
  refine hasN F (F.bindsN fun _ _ _ _ _ _ us hl => match us, hl with | [_, _], _ => rfl) sc_number_of (fun vs H Q E h => ?_) (fun cdv A outer s H vs Q E hr h => ?_)
  · obtain ⟨z, most, rfl, _⟩ := h; rfl
  · obtain ⟨z, most, rfl, hz, hm, k⟩ := h
    refine ⟨_, (pss_cons (ps_if (PW.pt (pw_or (pt_cmpR op_gt (pe_callB (call_lenK K) rfl (free_len D) PySem.boot_len (pa_cons (pv 0) pa_nil)) (pe_callB (call_lenK K) rfl (free_len D) PySem.boot_len (pa_cons (pe_callTy call_str_int rfl (free_str D) (by decide +kernel) (pa_cons (pv 1) pa_nil)) pa_nil)) (nomark _)) (pw_or1 (pt_not (PW.pt (pw_and (pt_val (pe_bm0 PySem.F.plainAttrs_str PySem.F.slot_str_isascii PySem.F.type_str_isascii mt_isascii (pv 0))) (pw_and1 (pt_val (pe_bm0 PySem.F.plainAttrs_str PySem.F.slot_str_isdigit PySem.F.type_str_isdigit mt_isdigit (pv 0))))))))))
      (pss_one (ps_ret pe_non))
      pss_nil)
      (pss_cons (ps_if (PW.pt (pw_and (pt_val (pe_bm PySem.F.plainAttrs_str PySem.F.slot_str_startswith PySem.F.type_str_startswith mt_startswith (pv 0) (pa_cons pe_str pa_nil))) (pw_and1 (pt_cmpR op_ne (pv 0) pe_str (nomark _)))))
      (pss_one (ps_ret pe_non))
      pss_nil)
      (pss_cons (ps_set (i := 2) sc_number_of.nd rfl (Or.inl rfl) (pe_callTy call_int_str rfl (free_int D) (by decide +kernel) (pa_cons (pv 0) pa_nil)))
      (pss_one (ps_ret (pe_ifExp (pt_cmpR op_le (pv 2) (pv 1) (nomark _)) (pv 2) pe_non)))))), ?_⟩
    have hl := dec_len hm
    have hlog : ((most : Int)).natAbs.log2 < 1920 := by
      rw [Int.natAbs_natCast]
      by_cases h0 : most = 0
      · rw [h0]; decide
      · exact (Nat.log2_lt h0).mpr (Nat.lt_of_lt_of_le hm (by decide +kernel))
    refine ⟨_, rfl, _, _, rfl, ⟨hz, rfl⟩, _, rfl, _, rfl, hlog, _, _, rfl, ⟨Nat.le_trans hl (by decide), rfl⟩, _, _, rfl, rfl, _, rfl, ?_⟩
    refine ifD (fun c => ?_) (fun c => ?_)
    · rw [numOf_long (w := z) (most := most) (by show (dec most).length < z.length; exact Int.ofNat_lt.mp c)] at k
      exact k
    have c1 : z.length ≤ (dec most).length := by
      have : ¬ ((dec most).length : Int) < (z.length : Int) := c
      omega
    have hn : (Txt.isascii z && Txt.isdigit z) = false → Q (oInt (numOf z most)) H → Q .non H := fun c q => by
      rw [ascii_digit] at c
      rw [numOf_digs (fun y => by rw [decide_eq_true y.1, y.2] at c; cases c)] at q
      exact q
    refine ⟨_, rfl, rfl, z, rfl, rfl, trivial, _, rfl, ifB (fun ca => ?_) (fun ca => ?_)⟩
    rotate_left
    · exact hn (by rw [ca]; rfl) k
    refine ⟨_, rfl, rfl, z, rfl, rfl, trivial, _, rfl, ?_⟩
    dsimp only
    refine ifB (fun cd => ?_) (fun cd => ?_)
    · exact hn (by rw [ca, show Txt.isdigit z = false from by simpa using cd]; rfl) k
    have cd : Txt.isdigit z = true := by simpa using cd
    have both := ascii_digit z
    rw [ca, cd] at both
    obtain ⟨n1, n2⟩ := He.ba both.symm
    have n1 : TL.tl z ≠ [] := of_decide_eq_true n1
    obtain ⟨c0, r0, ez⟩ : ∃ c r, TL.tl z = c :: r := by
      cases q : TL.tl z with
      | nil => exact absurd q n1
      | cons c r => exact ⟨c, r, rfl⟩
    (try unfold tNext)
    (try dsimp only)
    refine ⟨_, rfl, rfl, z, _, rfl, rfl, _, rfl, ?_⟩
    rw [starts1 z "0" 48 (by decide +kernel), ez]
    have tail : (c0 ≠ 48 ∨ r0 = []) → tSeq (tAsg (tCB (fun xs H Q => ∃ a n, xs = [V.str a] ∧ intText? a = some n ∧ a.length ≤ 640 ∧ Q (V.int n) H) (tCons (tVar 0) tNil)) (gName 2))
        (tRet (tIf (tTest (tOp (rI0 fun i j => V.bl (decide (i ≤ j))) (tVar 2) (tVar 1))) (tVar 2) (tC V.non))) { nx := fun x H' => Q V.non H', rt := Q } (L2.start ["word", "most", "number"] [V.str z, V.int ↑most]) H := fun hc => by
      have lz : z.length ≤ 640 := Nat.le_trans c1 (Nat.le_trans hl (by decide))
      refine ⟨_, rfl, z, _, rfl, PySem.intText_digits (all_dig.mp n2) n1 (Nat.le_trans lz (by decide)), lz, _, rfl, _, rfl, _, _, rfl, rfl, _, rfl, ?_⟩
      rw [numOf_else ez n2 hc] at k
      refine ifD (fun q => ?_) (fun q => ?_)
      · have q : dv (TL.tl z) ≤ most := Int.ofNat_le.mp q
        rw [if_pos q] at k
        exact ⟨_, rfl, k⟩
      · have q : ¬ dv (TL.tl z) ≤ most := fun y => q (Int.ofNat_le.mpr y)
        rw [if_neg q] at k
        exact k
    refine ifB (fun c2 => ?_) (fun c2 => ?_)
    · have e48 : c0 = 48 := by simpa using c2
      subst e48
      refine ⟨_, rfl, rfl, _, rfl, ?_⟩
      refine ifB (fun c3 => ?_) (fun c3 => ?_)
      · rw [numOf_lead ez (fun q => by subst q; revert c3; rw [show z = ("0" : Str) from TL.ext_tl (by rw [ez]; decide +kernel)]; decide +kernel)] at k
        exact k
      · refine tail (.inr ?_)
        have : z = ("0" : Str) := by simpa using c3
        subst this
        have : TL.tl ("0" : Str) = [48] := by decide +kernel
        rw [this] at ez
        injection ez with _ h; exact h.symm
    · refine tail (.inl fun q => ?_)
      subst q; simp at c2
end
end K

set_option Elab.async false
set_option linter.all false
set_option maxRecDepth 100000
set_option maxHeartbeats 4000000
namespace K
open PySem PySem.Spec PyProof.Rows L2 Tk Hd Rd
section
variable {P : Program} {w : World} {K : PySem.W.Frag} {mg : Str → Option Value} {base : Heap}
def spIsName : Sp := fun vs H Q _ => ∃ z : Str, vs = [.str z] ∧ z.length ≤ sizeLine ∧ Q (.bl (isName z)) H
theorem sc__is_name : FnScope ["word"] ["word"] (defScope s__is_name) := ⟨rfl, rfl, rfl, by decide +kernel, rfl, by decide +kernel, by decide +kernel⟩
theorem ok_is_name (D : Dt K mg) : Has P w K mg base 1 (He.ga K "_is_name") ["word"] [] (spIsName) := by
  obtain ⟨fd, F⟩ := fd__is_name D
  refine hasN F (F.bindsN fun _ _ _ _ _ _ us hl => match us, hl with | [_], _ => rfl) sc__is_name (fun vs H Q E h => ?_) (fun cdv A outer s H vs Q E hr h => ?_)
  · obtain ⟨z, rfl, _⟩ := h; rfl
  · obtain ⟨z, rfl, hz, k⟩ := h
    obtain ⟨t_MOST_LETTERS, e_MOST_LETTERS⟩ := int_MOST_LETTERS D
    refine ⟨_, (pss_cons (ps_if (PW.pt (pw_or (pt_cmpR op_gt (pe_callB (call_lenK K) rfl (free_len D) PySem.boot_len (pa_cons (pv 0) pa_nil)) (pe_glob (v := .int 8) rfl e_MOST_LETTERS ⟨t_MOST_LETTERS, rfl⟩) (nomark _)) (pw_or1 (pt_cmpR (op_in_seqK K) (pv 0) (pe_glob (v := .ref (He.ga K "RESERVED")) rfl (glo_RESERVED D) rfl) rfl))))
      (pss_one (ps_ret pe_bl))
      pss_nil)
      (pss_one (ps_ret (pe_and (pe_bm0 PySem.F.plainAttrs_str PySem.F.slot_str_isascii PySem.F.type_str_isascii mt_isascii (pv 0)) (pe_and (pe_bm0 PySem.F.plainAttrs_str PySem.F.slot_str_isalpha PySem.F.type_str_isalpha mt_isalpha (pv 0)) (pe_one (pe_bm0 PySem.F.plainAttrs_str PySem.F.slot_str_islower PySem.F.type_str_islower mt_islower (pv 0)))))))), ?_⟩
    refine ⟨_, rfl, _, _, rfl, ⟨hz, rfl⟩, _, _, rfl, rfl, _, rfl, ifD (fun c => ?_) (fun c => ?_)⟩
    · have c : 8 < z.length := by omega
      have e : isName z = false := by unfold isName; rw [decide_eq_false (by omega : ¬ z.length ≤ 8)]; rfl
      rw [e] at k; exact k
    have c : z.length ≤ 8 := by omega
    refine ⟨_, rfl, _, _, rfl, .inr (tup_RESERVED D H), rfl, flat_strs _, _, rfl, ?_⟩
    show if inV (V.str z) (resv.map V.str) = true then _ else _
    rw [inV_strs]
    refine ifD (fun c2 => ?_) (fun c2 => ?_)
    · have e : isName z = false := by unfold isName; rw [decide_eq_false (fun q => q c2 : ¬ z ∉ resv)]; simp
      rw [e] at k; exact k
    have e : isName z = (Txt.isascii z && (Txt.isalpha z && Txt.islower z)) := by
      unfold isName; rw [decide_eq_true c, decide_eq_true (p := z ∉ resv) c2, ascii_lower]; rfl
    rw [e] at k
    (try unfold tNext)
    (try dsimp only)
    refine ⟨_, rfl, rfl, z, rfl, rfl, trivial, _, rfl, ifB (fun c3 => ?_) (fun c3 => ?_)⟩
    · refine ⟨_, rfl, rfl, z, rfl, rfl, trivial, _, rfl, ifB (fun c4 => ?_) (fun c4 => ?_)⟩
      · refine ⟨_, rfl, rfl, z, rfl, rfl, trivial, ?_⟩
        rw [c3, c4] at k; exact k
      · rw [c3, c4] at k; exact k
    · rw [c3] at k; exact k
/-! ### the reader -/
abbrev CRd (K : PySem.W.Frag) : Addr := He.ga K "Reader"
structure Rc where
  s : Addr
  dx : Addr
  wl : Addr
  vl : Addr
  ar : Bool
  ws : List Str
def rdF (c : Rc) (r : RS) : List (Str × V) := [("words", .ref c.wl), ("at", .int (r.pos : Int)), ("around", .bl c.ar), ("variables", .ref c.vl), ("draws", .int (r.draws : Int)), ("uses", .int (r.uses : Int)), ("pressed", .bl r.pressed)]
structure RdOk (K : PySem.W.Frag) (c : Rc) (I H : Hp) (r : RS) : Prop where
  sm : Same I H
  is : I c.s = none
  iv : I c.vl = none
  ne : c.s ≠ c.vl
  hs : H c.s = some (.ins (CRd K) c.dx (rdF c r))
  hv : ∃ vs, H c.vl = some (.lst vs) ∧ All2 (iP iS iN I) vs r.vars
  hw : I c.wl = some (.lst (c.ws.map V.str))
  nm : NmOk r.vars
  vn : r.vars.length ≤ 4
  wn : c.ws.length ≤ 1000000
  wz : ∀ x ∈ c.ws, x.length ≤ sizeLine
abbrev rms (c : Rc) : List Addr := [c.s, c.vl]
section
variable {c : Rc} {I H I' H' : Hp} {r : RS}
theorem lk_words : (rdF c r).lookup ("words" : Str) = some (.ref c.wl) := by kernel_rfl
theorem lk_at : (rdF c r).lookup ("at" : Str) = some (.int (r.pos : Int)) := by kernel_rfl
theorem lk_around : (rdF c r).lookup ("around" : Str) = some (.bl c.ar) := by kernel_rfl
theorem lk_variables : (rdF c r).lookup ("variables" : Str) = some (.ref c.vl) := by kernel_rfl
theorem lk_draws : (rdF c r).lookup ("draws" : Str) = some (.int (r.draws : Int)) := by kernel_rfl
theorem lk_uses : (rdF c r).lookup ("uses" : Str) = some (.int (r.uses : Int)) := by kernel_rfl
theorem lk_pressed : (rdF c r).lookup ("pressed" : Str) = some (.bl r.pressed) := by kernel_rfl
theorem pf_at {n : Nat} : putF "at" (.int (n : Int)) (rdF c r) = rdF c { r with pos := n } := by kernel_rfl
theorem pf_draws {n : Nat} : putF "draws" (.int (n : Int)) (rdF c r) = rdF c { r with draws := n } := by kernel_rfl
theorem pf_uses {n : Nat} : putF "uses" (.int (n : Int)) (rdF c r) = rdF c { r with uses := n } := by kernel_rfl
theorem pf_pressed {b : Bool} : putF "pressed" (.bl b) (rdF c r) = rdF c { r with pressed := b } := by kernel_rfl
theorem rdF_len : (rdF c r).length < 1000 := by show 7 < 1000; decide
theorem RdOk.up {ms : List Addr} (h : RdOk K c I H r) (g : Gr ms I H I' H') (n1 : c.s ∉ ms) (n2 : c.vl ∉ ms) : RdOk K c I' H' r := by
  obtain ⟨vs, hv, a2⟩ := h.hv
  exact ⟨g.ih, g.out h.is h.hs, g.out h.iv hv, h.ne, g.at h.hs n1, ⟨vs, g.at hv n2, a2.up g.ii⟩, g.ii _ _ h.hw, h.nm, h.vn, h.wn, h.wz⟩
theorem RdOk.up0 (h : RdOk K c I H r) (g : Gr [] I H I' H') : RdOk K c I' H' r := h.up g (by simp) (by simp)
/-- a field is stored -/
theorem RdOk.put {r' : RS} (h : RdOk K c I H r) (e : r'.vars = r.vars) : RdOk K c I (upd H c.s (.ins (CRd K) c.dx (rdF c r'))) r' ∧ Gr (rms c) I H I (upd H c.s (.ins (CRd K) c.dx (rdF c r'))) := by
  have g : Gr (rms c) I H I (upd H c.s (.ins (CRd K) c.dx (rdF c r'))) := Gr.mut h.sm h.is (by simp)
  obtain ⟨vs, hv, a2⟩ := h.hv
  exact ⟨⟨g.ih, h.is, h.iv, h.ne, upd_same, ⟨vs, by rw [upd_ne h.ne.symm]; exact hv, by rw [e]; exact a2⟩, h.hw, by rw [e]; exact h.nm, by rw [e]; exact h.vn, h.wn, h.wz⟩, g⟩
theorem RdOk.wsl (h : RdOk K c I H r) : SqL K H c.wl (c.ws.map V.str) := SqL.of (h.sm _ _ h.hw)
/-- what is wanted of a reader's method that may refuse -/
def OutR {α : Type} (K : PySem.W.Frag) (c : Rc) (R : Rp α) (I H : Hp) (x : Res α) (Q : VK) (E : XK) : Prop := match x with
  | .ok a r => ∀ I' H' v, Gr (rms c) I H I' H' → RdOk K c I' H' r → R I' v a → Q v H'
  | .bad n => RaisedAt (rms c) I H (CBT K) n E
/-- of one that refuses nothing -/
theorem OutR.of {α : Type} {R : Rp α} {x : Res α} {Q : VK} {E : XK} (k1 : ∀ a r, x = .ok a r → ∀ I' H' v, Gr (rms c) I H I' H' → RdOk K c I' H' r → R I' v a → Q v H') (k2 : ∀ n, x = .bad n → RaisedAt (rms c) I H (CBT K) n E) : OutR K c R I H x Q E := by
  cases x with
  | ok a r => exact k1 a r rfl
  | bad n => exact k2 n rfl
theorem OutR.ok {α : Type} {R : Rp α} {x : Res α} {Q : VK} {E : XK} {a : α} {r : RS} (h : OutR K c R I H x Q E) (e : x = .ok a r) : ∀ I' H' v, Gr (rms c) I H I' H' → RdOk K c I' H' r → R I' v a → Q v H' := by
  subst e; exact h
theorem OutR.bad {α : Type} {R : Rp α} {x : Res α} {Q : VK} {E : XK} {n : Nat} (h : OutR K c R I H x Q E) (e : x = .bad n) : RaisedAt (rms c) I H (CBT K) n E := by
  subst e; exact h
theorem RaisedAt.up {ms : List Addr} {C : Addr} {n : Nat} {E : XK} (h : RaisedAt ms I H C n E) (g : Gr ms I H I' H') : RaisedAt ms I' H' C n E := fun _ _ d g2 e => h _ _ d (g.trans g2) e
theorem OutR.up {α : Type} {R : Rp α} {x : Res α} {Q : VK} {E : XK} (h : OutR K c R I H x Q E) (g : Gr (rms c) I H I' H') : OutR K c R I' H' x Q E := by
  cases x with
  | ok a r => exact fun I2 H2 v2 g2 ok2 r2 => h I2 H2 v2 (g.trans g2) ok2 r2
  | bad n => exact RaisedAt.up h g
/-- behind a part of what is done -/
theorem OutR.bind {α β : Type} {R : Rp α} {S : Rp β} {x : Res α} {f : α → RS → Res β} {Q Q' : VK} {E : XK} (h : OutR K c S I H (x.bind f) Q E) (k : ∀ a r I' H' v, x = .ok a r → Gr (rms c) I H I' H' → RdOk K c I' H' r → R I' v a → OutR K c S I' H' (f a r) Q E → Q' v H') : OutR K c R I H x Q' E := by
  cases x with
  | ok a r =>
    intro I' H' v g ok rv
    refine k a r I' H' v rfl g ok rv ?_
    have h : OutR K c S I H (f a r) Q E := h
    revert h
    cases f a r with
    | ok b r2 => exact fun h I2 H2 v2 g2 ok2 r2 => h I2 H2 v2 (g.trans g2) ok2 r2
    | bad n => exact fun h => h.up g
  | bad n => exact h
end
def spHere (K : PySem.W.Frag) : Sp := fun vs H Q _ => ∃ (c : Rc) (I : Hp) (r : RS), vs = [.ref c.s] ∧ RdOk K c I H r ∧ Q (.str (here c.ws r)) H
theorem fldR (D : Dt K mg) {c : Rc} {I H : Hp} {r : RS} (h : RdOk K c I H r) : True := trivial
theorem sc_Readerhere : FnScope ["self"] ["self"] (defScope s_Reader__here) := ⟨rfl, rfl, rfl, by decide +kernel, rfl, by decide +kernel, by decide +kernel⟩
theorem ok_here (D : Dt K mg) : Has P w K mg base 1 (He.ma K (He.ga K "Reader") "_here") ["self"] [] (spHere K) := by
  obtain ⟨fd, F⟩ := fd_Reader__here D
  refine hasN F (F.bindsN fun _ _ _ _ _ _ us hl => match us, hl with | [_], _ => rfl) sc_Readerhere (fun vs H Q E h => ?_) (fun cdv A outer s H vs Q E hr h => ?_)
  · obtain ⟨c, I, r, rfl, _⟩ := h; rfl
  · obtain ⟨c, I, r, rfl, ok, k⟩ := h
    refine ⟨_, (pss_one (ps_ret (pe_ifExp (pt_cmpR op_lt (pe_fldK K (pv 0) rfl) (pe_callB (call_lenK K) rfl (free_len D) PySem.boot_len (pa_cons (pe_fldK K (pv 0) rfl) pa_nil)) (nomark _)) (pe_ix (ix_listK K) (pe_fldK K (pv 0) rfl) (pe_fldK K (pv 0) rfl) (fun _ _ => rfl)) pe_str))), ?_⟩
    refine ⟨_, rfl, _, _, _, _, _, rfl, ok.hs, cls_Reader D, na_Reader_at D, lk_at, _, rfl, _, _, _, _, _, rfl, ok.hs, cls_Reader D, na_Reader_words D, lk_words, _, _, rfl, .inl ⟨_, ok.wsl, rfl⟩, _, _, rfl, rfl, _, rfl, ?_⟩
    refine ifD (fun q => ?_) (fun q => ?_)
    · have q : r.pos < c.ws.length := by simpa using Int.ofNat_lt.mp q
      refine ⟨_, rfl, _, _, _, _, _, rfl, ok.hs, cls_Reader D, na_Reader_words D, lk_words, _, rfl, _, _, _, _, _, rfl, ok.hs, cls_Reader D, na_Reader_at D, lk_at, _, _, _, _, rfl, rfl, ok.wsl, at_of (j := r.pos) rfl (by rw [List.getElem?_map, List.getElem?_eq_getElem q]; rfl), ?_⟩
      have e : here c.ws r = c.ws[r.pos] := by unfold here; rw [List.getD_eq_getElem?_getD, List.getElem?_eq_getElem q]; rfl
      rw [e] at k
      exact k
    · have q : ¬ r.pos < c.ws.length := fun y => q (by simpa using Int.ofNat_lt.mpr y)
      have e : here c.ws r = Str.empty := by unfold here; rw [List.getD_eq_getElem?_getD, List.getElem?_eq_none (by omega)]; rfl
      rw [e] at k
      exact k
end
end K

set_option Elab.async false
set_option linter.all false
set_option maxRecDepth 100000
set_option maxHeartbeats 4000000
namespace K
open PySem PySem.Spec PyProof.Rows L2 Tk Hd Rd
section
variable {P : Program} {w : World} {K : PySem.W.Frag} {mg : Str → Option Value} {base : Heap}
theorem here_lt {ws : List Str} {r : RS} (h : here ws r ≠ Str.empty) : r.pos < ws.length := by
  by_cases q : r.pos < ws.length
  · exact q
  · exact absurd (by unfold here; rw [List.getD_eq_getElem?_getD, List.getElem?_eq_none (by omega)]; rfl) h
theorem here_at {ws : List Str} {r : RS} (h : r.pos < ws.length) : ws[r.pos]? = some (here ws r) := by
  unfold here; rw [List.getD_eq_getElem?_getD, List.getElem?_eq_getElem h]; rfl
theorem here_mem {ws : List Str} {r : RS} (h : r.pos < ws.length) : here ws r ∈ ws := List.mem_of_getElem? (here_at h)
theorem RdOk.hz {c : Rc} {I H : Hp} {r : RS} (h : RdOk K c I H r) : (here c.ws r).length ≤ sizeLine := by
  by_cases q : r.pos < c.ws.length
  · exact h.wz _ (here_mem q)
  · unfold here; rw [List.getD_eq_getElem?_getD, List.getElem?_eq_none (by omega)]; exact Nat.zero_le _
def spGoOn (K : PySem.W.Frag) : Sp := fun vs H Q E => ∃ (c : Rc) (I : Hp) (r : RS) (b : Bool), vs = [.ref c.s, .bl b] ∧ RdOk K c I H r ∧ (b = true → r.pos < c.ws.length) ∧ OutR K c iS I H (if b = true then .ok (here c.ws r) r.go else .bad r.pos) Q E
theorem sc_Readergo_on : FnScope ["self", "fits"] ["self", "fits"] (defScope s_Reader__go_on) := ⟨rfl, rfl, rfl, by decide +kernel, rfl, by decide +kernel, by decide +kernel⟩
theorem ok_go_on (D : Dt K mg) : Has P w K mg base 3 (He.ma K (He.ga K "Reader") "_go_on") ["self", "fits"] [] (spGoOn K) := by
  obtain ⟨fd, F⟩ := fd_Reader__go_on D
  have H_BadText_init := ok_bt (P := P) (w := w) (base := base) D
  refine hasX F (F.bindsN fun _ _ _ _ _ _ us hl => match us, hl with | [_, _], _ => rfl) sc_Readergo_on (fun vs H Q E h => ?_) (fun cdv A outer s H vs Q E hr h => ?_)
  · obtain ⟨c, I, r, b, rfl, _⟩ := h; rfl
  · obtain ⟨c, I, r, b, rfl, ok, hb, k⟩ := h
    refine ⟨_, (pss_cons (ps_if (pt_not (pt_val (pv 1)))
      (pss_one (ps_raise rfl (takes_of rfl rfl rfl rfl) (pmk_oexH (oex_BadText (K := K) D) H_BadText_init (hr.mono (by omega)) rfl (glo_BadText D) (pa_cons (pe_fldK K (pv 0) rfl) pa_nil))))
      pss_nil)
      (pss_cons (ps_fldaug (pv 0) pe_int in_add)
      (pss_one (ps_ret (pe_ix (ix_listK K) (pe_fldK K (pv 0) rfl) (pe_op op_sub (pe_fldK K (pv 0) rfl) pe_int) (fun _ _ => rfl)))))), ?_⟩
    refine ⟨_, rfl, _, rfl, ?_⟩
    cases b with
    | false =>
      refine ifT rfl ⟨_, rfl, _, _, _, _, _, rfl, ok.hs, cls_Reader D, na_Reader_at D, lk_at, (by show 1 ≤ 1000; decide), fun e he => ⟨e, _, rfl, upd_same, fun d hd ne => ⟨rfl, d, [("at", .int (r.pos : Int))], upd_same, by rw [upd_ne ne]; exact upd_same, by rw [upd_ne ne] at hd; exact hd, raised_at (Gr.refl ok.sm) k e he d hd ne⟩⟩⟩
    | true =>
      have hb := hb rfl
      refine ifF rfl ?_
      (try unfold tNext)
      (try dsimp only)
      have e1 : (r.pos : Int) + 1 = ((r.pos + 1 : Nat) : Int) := by omega
      refine ⟨_, rfl, _, _, _, _, _, rfl, ok.hs, cls_Reader D, na_Reader_at D, lk_at, _, _, rfl, rfl, _, _, ok.hs, rdF_len, ?_⟩
      rw [e1, pf_at]
      obtain ⟨ok2, g2⟩ := ok.put (r' := r.go) rfl
      refine ⟨_, rfl, _, _, _, _, _, rfl, ok2.hs, cls_Reader D, na_Reader_words D, lk_words, _, rfl, _, _, _, _, _, rfl, ok2.hs, cls_Reader D, na_Reader_at D, lk_at, _, _, rfl, rfl, _, _, _, _, rfl, rfl, ok2.wsl, at_of (j := r.pos) (by show ((r.pos + 1 : Nat) : Int) - 1 = _; omega) (by rw [List.getElem?_map, here_at hb]; rfl), ?_⟩
      exact k _ _ _ g2 ok2 rfl
def iU : Rp Unit := fun _ v _ => v = .non
def spTake (K : PySem.W.Frag) : Sp := fun vs H Q E => ∃ (c : Rc) (I : Hp) (r : RS) (x : Str), vs = [.ref c.s, .str x] ∧ RdOk K c I H r ∧ x ≠ Str.empty ∧ OutR K c iU I H (takeR c.ws x r) Q E
theorem sc_Readertake : FnScope ["self", "word"] ["self", "word"] (defScope s_Reader__take) := ⟨rfl, rfl, rfl, by decide +kernel, rfl, by decide +kernel, by decide +kernel⟩
theorem ok_take (D : Dt K mg) : Has P w K mg base 4 (He.ma K (He.ga K "Reader") "_take") ["self", "word"] [] (spTake K) := by
  obtain ⟨fd, F⟩ := fd_Reader__take D
  have H_Reader__here := ok_here (P := P) (w := w) (base := base) D
  have H_Reader__go_on := ok_go_on (P := P) (w := w) (base := base) D
  refine hasX F (F.bindsN fun _ _ _ _ _ _ us hl => match us, hl with | [_, _], _ => rfl) sc_Readertake (fun vs H Q E h => ?_) (fun cdv A outer s H vs Q E hr h => ?_)
  · obtain ⟨c, I, r, x, rfl, _⟩ := h; rfl
  · obtain ⟨c, I, r, x, rfl, ok, hx, k⟩ := h
    refine ⟨_, (pss_one (ps_expr (pe_methH (pv 0) (cls_Reader (K := K) D) (me_Reader__go_on (K := K) D) H_Reader__go_on (hr.mono (by omega)) (L2.passes_call (L2.takes_of rfl rfl rfl rfl) fun _ _ _ _ h => h) (pa_cons (pe_cmpR op_eq (pe_methH0 (pv 0) (cls_Reader (K := K) D) (me_Reader__here (K := K) D) H_Reader__here (hr.mono (by omega)) passL) (pv 1) (nomark _)) pa_nil)))), ?_⟩
    refine ⟨_, rfl, _, _, _, rfl, ok.hs, (by kernel_rfl), ?_⟩
    refine ⟨_, rfl, _, _, _, rfl, ok.hs, (by kernel_rfl), c, I, r, rfl, ok, ?_⟩
    refine ⟨_, rfl, rfl, c, I, r, _, rfl, ok, fun q => here_lt (by have q : here c.ws r = x := by simpa using q
                                                                   rw [q]; exact hx), ?_⟩
    unfold takeR at k
    by_cases q : here c.ws r = x
    · rw [if_pos q] at k
      rw [if_pos (by simpa using q)]
      exact fun I' H' v g ok2 rv => k _ _ _ g ok2 rfl
    · rw [if_neg q] at k
      rw [if_neg (by simpa using q)]
      exact k
def spNumber (K : PySem.W.Frag) : Sp := fun vs H Q E => ∃ (c : Rc) (I : Hp) (r : RS) (lo hi : Nat), vs = [.ref c.s, .int (lo : Int), .int (hi : Int)] ∧ RdOk K c I H r ∧ hi < 10 ^ 64 ∧ OutR K c iN I H (numR c.ws lo hi r) Q E
theorem sc_Readernumber : FnScope ["self", "least", "most", "number"] ["self", "least", "most"] (defScope s_Reader__number) := ⟨rfl, rfl, rfl, by decide +kernel, rfl, by decide +kernel, by decide +kernel⟩
theorem ok_number (D : Dt K mg) : Has P w K mg base 4 (He.ma K (He.ga K "Reader") "_number") ["self", "least", "most"] [] (spNumber K) := by
  obtain ⟨fd, F⟩ := fd_Reader__number D
  have H_number_of := ok_number_of (P := P) (w := w) (base := base) D
  have H_Reader__here := ok_here (P := P) (w := w) (base := base) D
  have H_Reader__go_on := ok_go_on (P := P) (w := w) (base := base) D
  refine hasX F (F.bindsN fun _ _ _ _ _ _ us hl => match us, hl with | [_, _, _], _ => rfl) sc_Readernumber (fun vs H Q E h => ?_) (fun cdv A outer s H vs Q E hr h => ?_)
  · obtain ⟨c, I, r, lo, hi, rfl, _⟩ := h; rfl
  · obtain ⟨c, I, r, lo, hi, rfl, ok, hh, k⟩ := h
    refine ⟨_, (pss_cons (ps_set (i := 3) sc_Readernumber.nd rfl (Or.inl rfl) (pe_callH H_number_of (hr.mono (by omega)) rfl (glo_number_of D) passL (pa_cons (pe_methH0 (pv 0) (cls_Reader (K := K) D) (me_Reader__here (K := K) D) H_Reader__here (hr.mono (by omega)) passL) (pa_cons (pv 2) pa_nil))))
      (pss_cons (ps_expr (pe_methH (pv 0) (cls_Reader (K := K) D) (me_Reader__go_on (K := K) D) H_Reader__go_on (hr.mono (by omega)) (L2.passes_call (L2.takes_of rfl rfl rfl rfl) fun _ _ _ _ h => h) (pa_cons (pe_and (pe_cmpR op_notN (pv 3) pe_non (nomark _)) (pe_one (pe_cmpR op_ge (pv 3) (pv 1) (nomark _)))) pa_nil)))
      (pss_one (ps_ret (pv 3))))), ?_⟩
    refine ⟨_, rfl, _, _, _, rfl, ok.hs, (by kernel_rfl), c, I, r, rfl, ok, ?_⟩
    refine ⟨_, rfl, _, _, rfl, ok.hz, hh, ?_⟩
    unfold numR at k
    cases q : numOf (here c.ws r) hi with
    | none =>
      rw [q] at k
      refine ⟨_, rfl, _, _, _, rfl, ok.hs, (by kernel_rfl), ?_⟩
      refine ⟨_, rfl, rfl, _, rfl, ?_⟩
      refine ifF rfl ?_
      exact ⟨c, I, r, false, rfl, ok, (fun z => nomatch z), k⟩
    | some n =>
      rw [q] at k
      have hp : r.pos < c.ws.length := here_lt fun z => by rw [z, numOf_empty] at q; cases q
      refine ⟨_, rfl, _, _, _, rfl, ok.hs, (by kernel_rfl), ?_⟩
      refine ⟨_, rfl, rfl, _, rfl, ?_⟩
      refine ifT rfl ⟨_, rfl, _, rfl, _, _, rfl, rfl, ?_⟩
      refine ⟨c, I, r, _, rfl, ok, fun _ => hp, ?_⟩
      replace k : OutR K c iN I H (if lo ≤ n then .ok n r.go else .bad r.pos) Q E := k
      by_cases z : lo ≤ n
      · rw [if_pos z] at k
        rw [if_pos (by simpa using z)]
        exact fun I' H' v g ok2 rv => ⟨_, rfl, k _ _ _ g ok2 rfl⟩
      · rw [if_neg z] at k
        rw [if_neg (by simpa using z)]
        exact k
def spIsVar (K : PySem.W.Frag) : Sp := fun vs H Q _ => ∃ (c : Rc) (I : Hp) (r : RS) (x : Str), vs = [.ref c.s, .str x] ∧ RdOk K c I H r ∧ ∀ I' H', Gr [] I H I' H' → Q (.bl (hasV r x)) H'
theorem sc_Readeris_variable : FnScope ["self", "word", "name", "_"] ["self", "word"] (defScope s_Reader__is_variable) := ⟨rfl, rfl, rfl, by decide +kernel, rfl, by decide +kernel, by decide +kernel⟩
theorem ok_is_variable (D : Dt K mg) : Has P w K mg base 1 (He.ma K (He.ga K "Reader") "_is_variable") ["self", "word"] [] (spIsVar K) := by
  obtain ⟨fd, F⟩ := fd_Reader__is_variable D
  refine hasN F (F.bindsN fun _ _ _ _ _ _ us hl => match us, hl with | [_, _], _ => rfl) sc_Readeris_variable (fun vs H Q E h => ?_) (fun cdv A outer s H vs Q E hr h => ?_)
  · obtain ⟨c, I, r, x, rfl, _⟩ := h; rfl
  · obtain ⟨c, I, r, x, rfl, ok, k⟩ := h
    refine ⟨_, (pss_one (ps_ret (pe_cmpR (op_in_seqK K) (pv 1) (pe_lc (own := [("name", 2), ("_", 3)]) (g := gTup K 2 (gCons (gName 2) (gCons (gName 3) gNil))) rfl sc_Readeris_variable.nd (pi_listK K (pe_fldK K (pv 0) rfl)) (blkOk_by (own := [("name", 2), ("_", 3)]) (N := ["self", "word", "name", "_"]) (by kernel_rfl)) (fun _ _ _ _ _ => (pg_tupK K rfl (pgs_cons (pg_name (i := 2) sc_Readeris_variable.nd rfl (Or.inl rfl)) (pgs_cons (pg_name (i := 3) sc_Readeris_variable.nd rfl (Or.inl rfl)) pgs_nil)))) (fun _ _ _ _ _ => pts_nil) (fun _ _ _ _ _ => (pv 2))) rfl))), ?_⟩
    obtain ⟨vs, hv, a2⟩ := ok.hv
    have hl := a2.len
    have vn := ok.vn
    have s1 : Same I (upd I c.vl (.lst vs)) := same_to ok.iv
    have s2 : Same (upd I c.vl (.lst vs)) H := same_now ok.sm hv
    refine ⟨_, rfl, _, rfl, _, _, _, _, _, rfl, ok.hs, cls_Reader D, na_Reader_variables D, lk_variables, c.vl, rfl, ⟨_, SqL.of hv⟩, fun l hD => lc_map (R := iP iS iN) (Sy := iS) (fun p : Str × Nat => p.1) (wk_list (K := K) (upd_same (H := I))) (a2.up s1) s2 hD (Nat.lt_of_le_of_lt vn (by decide)) (fun i p I1 H1 Nx Qk hp rp s3 s4 kk => ?_) (fun I1 H1 g1 r1 => ?_)⟩
    · obtain ⟨t, u, n, e, ht, ru, rn⟩ := rp
      rw [e]
      refine ⟨t, _, rfl, SqT.of (s4 _ _ ht), rfl, _, _, rfl, _, _, rfl, rfl, rfl, _, rfl, ?_⟩
      exact kk _ _ _ (Gr.refl s4) ru
    · obtain ⟨l', zs, e, hl', z2⟩ := r1
      cases e
      have ez := z2.strs
      subst ez
      refine ⟨l, _, rfl, .inl (SqL.of (g1.ih _ _ hl')), rfl, flat_strs _, ?_⟩
      rw [if_neg Bool.false_ne_true, inV_strs]
      exact k _ _ (g1.low s1)
def spVariable (K : PySem.W.Frag) : Sp := fun vs H Q E => ∃ (c : Rc) (I : Hp) (r : RS), vs = [.ref c.s] ∧ RdOk K c I H r ∧ OutR K c iS I H (varR c.ws r) Q E
theorem empty_var {vs : List (Str × Nat)} (hn : NmOk vs) : Str.empty ∉ vs.map (·.1) := fun z => by
  obtain ⟨p, hp, e⟩ := List.mem_map.mp z
  have := (name_facts (hn p hp)).2.2.1
  rw [show p.1 = Str.empty from e] at this
  exact this rfl
theorem var_lt {ws : List Str} {r : RS} (hn : NmOk r.vars) (h : hasV r (here ws r) = true) : r.pos < ws.length :=
  here_lt fun z => by rw [z] at h; exact empty_var hn (hasV_iff.mp h)
theorem name_lt {ws : List Str} {r : RS} (h : isName (here ws r) = true) : r.pos < ws.length :=
  here_lt fun z => by rw [z] at h; exact (name_facts h).2.2.1 rfl
theorem sc_Readervariable : FnScope ["self"] ["self"] (defScope s_Reader__variable) := ⟨rfl, rfl, rfl, by decide +kernel, rfl, by decide +kernel, by decide +kernel⟩
theorem ok_variable (D : Dt K mg) : Has P w K mg base 4 (He.ma K (He.ga K "Reader") "_variable") ["self"] [] (spVariable K) := by
  obtain ⟨fd, F⟩ := fd_Reader__variable D
  have H_Reader__here := ok_here (P := P) (w := w) (base := base) D
  have H_Reader__is_variable := ok_is_variable (P := P) (w := w) (base := base) D
  have H_Reader__go_on := ok_go_on (P := P) (w := w) (base := base) D
  refine hasX F (F.bindsN fun _ _ _ _ _ _ us hl => match us, hl with | [_], _ => rfl) sc_Readervariable (fun vs H Q E h => ?_) (fun cdv A outer s H vs Q E hr h => ?_)
  · obtain ⟨c, I, r, rfl, _⟩ := h; rfl
  · obtain ⟨c, I, r, rfl, ok, k⟩ := h
    refine ⟨_, (pss_one (ps_ret (pe_methH (pv 0) (cls_Reader (K := K) D) (me_Reader__go_on (K := K) D) H_Reader__go_on (hr.mono (by omega)) (L2.passes_call (L2.takes_of rfl rfl rfl rfl) fun _ _ _ _ h => h) (pa_cons (pe_methH (pv 0) (cls_Reader (K := K) D) (me_Reader__is_variable (K := K) D) H_Reader__is_variable (hr.mono (by omega)) passL (pa_cons (pe_methH0 (pv 0) (cls_Reader (K := K) D) (me_Reader__here (K := K) D) H_Reader__here (hr.mono (by omega)) passL) pa_nil)) pa_nil)))), ?_⟩
    refine ⟨_, rfl, _, _, _, rfl, ok.hs, (by kernel_rfl), ?_⟩
    refine ⟨_, rfl, _, _, _, rfl, ok.hs, (by kernel_rfl), ?_⟩
    refine ⟨_, rfl, _, _, _, rfl, ok.hs, (by kernel_rfl), c, I, r, rfl, ok, ?_⟩
    refine ⟨c, I, r, _, rfl, ok, fun I1 H1 g1 => ?_⟩
    have ok1 := ok.up0 g1
    refine ⟨c, I1, r, _, rfl, ok1, fun q => var_lt ok.nm q, ?_⟩
    unfold varR at k
    cases q : hasV r (here c.ws r) with
    | true =>
      rw [q, if_pos rfl] at k
      exact fun I' H' v g ok2 rv => k _ _ _ (g1.nil.trans g) ok2 rv
    | false =>
      rw [q, if_neg Bool.false_ne_true] at k
      exact k.up g1.nil
def spNewName (K : PySem.W.Frag) : Sp := fun vs H Q E => ∃ (c : Rc) (I : Hp) (r : RS), vs = [.ref c.s] ∧ RdOk K c I H r ∧ OutR K c iS I H (newR c.ws r) Q E
theorem sc_Readernew_name : FnScope ["self", "name"] ["self"] (defScope s_Reader__new_name) := ⟨rfl, rfl, rfl, by decide +kernel, rfl, by decide +kernel, by decide +kernel⟩
theorem ok_new_name (D : Dt K mg) : Has P w K mg base 4 (He.ma K (He.ga K "Reader") "_new_name") ["self"] [] (spNewName K) := by
  obtain ⟨fd, F⟩ := fd_Reader__new_name D
  have H_Reader__here := ok_here (P := P) (w := w) (base := base) D
  have H_Reader__is_variable := ok_is_variable (P := P) (w := w) (base := base) D
  have H__is_name := ok_is_name (P := P) (w := w) (base := base) D
  have H_Reader__go_on := ok_go_on (P := P) (w := w) (base := base) D
  refine hasX F (F.bindsN fun _ _ _ _ _ _ us hl => match us, hl with | [_], _ => rfl) sc_Readernew_name (fun vs H Q E h => ?_) (fun cdv A outer s H vs Q E hr h => ?_)
  · obtain ⟨c, I, r, rfl, _⟩ := h; rfl
  · obtain ⟨c, I, r, rfl, ok, k⟩ := h
    refine ⟨_, (pss_cons (ps_set (i := 1) sc_Readernew_name.nd rfl (Or.inl rfl) (pe_methH0 (pv 0) (cls_Reader (K := K) D) (me_Reader__here (K := K) D) H_Reader__here (hr.mono (by omega)) passL))
      (pss_one (ps_ret (pe_methH (pv 0) (cls_Reader (K := K) D) (me_Reader__go_on (K := K) D) H_Reader__go_on (hr.mono (by omega)) (L2.passes_call (L2.takes_of rfl rfl rfl rfl) fun _ _ _ _ h => h) (pa_cons (pe_and (pe_callH H__is_name (hr.mono (by omega)) rfl (glo__is_name D) passL (pa_cons (pv 1) pa_nil)) (pe_one (pe_not (pe_methH (pv 0) (cls_Reader (K := K) D) (me_Reader__is_variable (K := K) D) H_Reader__is_variable (hr.mono (by omega)) passL (pa_cons (pv 1) pa_nil))))) pa_nil))))), ?_⟩
    refine ⟨_, rfl, _, _, _, rfl, ok.hs, (by kernel_rfl), c, I, r, rfl, ok, ?_⟩
    refine ⟨_, rfl, _, _, _, rfl, ok.hs, (by kernel_rfl), ?_⟩
    refine ⟨_, rfl, _, rfl, ok.hz, _, rfl, ?_⟩
    unfold newR at k
    refine ifB (fun q => ?_) (fun q => ?_)
    · refine ⟨_, rfl, _, _, _, rfl, ok.hs, (by kernel_rfl), _, rfl, c, I, r, _, rfl, ok, fun I1 H1 g1 => ?_⟩
      have ok1 := ok.up0 g1
      refine ⟨_, rfl, c, I1, r, _, rfl, ok1, fun _ => name_lt q, ?_⟩
      cases q2 : hasV r (here c.ws r) with
      | true =>
        rw [q2, if_neg (by simp)] at k
        exact k.up g1.nil
      | false =>
        rw [q2, if_pos ⟨q, rfl⟩] at k
        exact fun I' H' v g ok2 rv => k _ _ _ (g1.nil.trans g) ok2 rv
    · rw [if_neg (by rw [q]; simp)] at k
      exact ⟨c, I, r, false, rfl, ok, (fun z => nomatch z), k⟩
end
end K

set_option Elab.async false
set_option linter.all false
set_option maxRecDepth 100000
set_option maxHeartbeats 4000000
namespace Rd
open PySem Tk
/-! what stands for expressions and statements -/
def Ex.da : Ex → Da
  | .num n => .tup [.str (wd "number"), .int (n : Int)]
  | .var x => .tup [.str (wd "variable"), .str x]
  | .press => .tup [.str (wd "press")]
  | .op o a b => .tup [.str o, a.da, b.da]
mutual
def Stm.da (q : List Da → Da) : Stm → Da
  | .set x e => .tup [.str (wd "set"), .str x, e.da]
  | .draw x n => .tup [.str (wd "draw"), .str x, .int (n : Int)]
  | .use x e => .tup [.str (wd "use"), .str x, e.da]
  | .say e => .tup [.str (wd "say"), e.da]
  | .ite e s t => .tup [.str (wd "if"), e.da, q (blockDa q s), q (blockDa q t)]
def blockDa (q : List Da → Da) : List Stm → List Da
  | [] => []
  | s :: r => s.da q :: blockDa q r
end
theorem blockDa_map (q : List Da → Da) : ∀ l : List Stm, blockDa q l = l.map (Stm.da q)
  | [] => rfl
  | s :: r => by rw [blockDa, blockDa_map q r, List.map_cons]
end Rd
namespace Tk
open PySem PySem.Spec PyProof.Rows L2
section
variable {H : Hp}
theorem dR_tup {t : Addr} {vs : List V} {l : List Da} (h : H t = some (.tup vs)) (r : dRs H vs l) : dR H (.ref t) (.tup l) := by simp only [dR]; exact ⟨t, vs, rfl, h, r⟩
theorem dR_lst {t : Addr} {vs : List V} {l : List Da} (h : H t = some (.lst vs)) (r : dRs H vs l) : dR H (.ref t) (.lst l) := by simp only [dR]; exact ⟨t, vs, rfl, h, r⟩
theorem dR_str {z : Str} : dR H (.str z) (.str z) := by simp only [dR]
theorem dR_int {i : Int} : dR H (.int i) (.int i) := by simp only [dR]
theorem dRs_nil : dRs H [] [] := by simp only [dRs]
theorem dRs_cons {v : V} {vs : List V} {d : Da} {l : List Da} (h : dR H v d) (r : dRs H vs l) : dRs H (v :: vs) (d :: l) := by simp only [dRs]; exact ⟨v, vs, rfl, h, r⟩
def iD : Rp Da := fun H v d => dR H v d
instance : Mono iD := ⟨fun s h => dR_up s _ _ h⟩
theorem dRs_all : ∀ {vs : List V} {l : List Da}, dRs H vs l → All2 (iD H) vs l
  | vs, [], h => by simp only [dRs] at h; subst h; exact .nil
  | vs, d :: ds, h => by
    simp only [dRs] at h
    obtain ⟨v, r, rfl, h1, h2⟩ := h
    exact .cons h1 (dRs_all h2)
theorem all_dRs : ∀ {vs : List V} {l : List Da}, All2 (iD H) vs l → dRs H vs l
  | _, _, .nil => dRs_nil
  | _, _, .cons a t => dRs_cons a (all_dRs t)
theorem All2.mapR {α β : Type} {R : V → β → Prop} {f : α → β} : ∀ {vs : List V} {xs : List α}, All2 (fun v x => R v (f x)) vs xs → All2 R vs (xs.map f)
  | _, _, .nil => .nil
  | _, _, .cons a t => .cons a (All2.mapR t)
theorem All2.ofMap {α β : Type} {R : V → β → Prop} {f : α → β} : ∀ {vs : List V} {xs : List α}, All2 R vs (xs.map f) → All2 (fun v x => R v (f x)) vs xs
  | _, [], .nil => .nil
  | _, _ :: _, .cons a t => .cons a (All2.ofMap t)
end
end Tk
namespace K
open PySem PySem.Spec PyProof.Rows L2 Tk Hd Rd
section
variable {P : Program} {w : World} {K : PySem.W.Frag} {mg : Str → Option Value} {base : Heap}
def iEx : Rp Ex := fun H v e => dR H v e.da
instance : Mono iEx := ⟨fun s h => dR_up s _ _ h⟩
def iSt : Rp Stm := fun H v s => dR H v (s.da .lst)
instance : Mono iSt := ⟨fun s h => dR_up s _ _ h⟩
theorem dec_lt {d n : Nat} : decide ((d : Int) < (n : Int)) = decide (d < n) := by simp
def spMay (K : PySem.W.Frag) : Sp := fun vs H Q _ => ∃ (c : Rc) (I : Hp) (r : RS) (x : Str) (d : Nat), vs = [.ref c.s, .str x, .int (d : Int)] ∧ RdOk K c I H r ∧ ∀ I' H', Gr [] I H I' H' → Q (.bl (mayR c.ar x d r)) H'
theorem sc_Readermay_begin : FnScope ["self", "word", "depth"] ["self", "word", "depth"] (defScope s_Reader__may_begin) := ⟨rfl, rfl, rfl, by decide +kernel, rfl, by decide +kernel, by decide +kernel⟩
theorem ok_may_begin (D : Dt K mg) : Has P w K mg base 1 (He.ma K (He.ga K "Reader") "_may_begin") ["self", "word", "depth"] [] (spMay K) := by
  obtain ⟨fd, F⟩ := fd_Reader__may_begin D
  refine hasN F (F.bindsN fun _ _ _ _ _ _ us hl => match us, hl with | [_, _, _], _ => rfl) sc_Readermay_begin (fun vs H Q E h => ?_) (fun cdv A outer s H vs Q E hr h => ?_)
  · obtain ⟨c, I, r, x, d, rfl, _⟩ := h; rfl
  · obtain ⟨c, I, r, x, d, rfl, ok, k⟩ := h
    obtain ⟨t_DEEPEST_IF, e_DEEPEST_IF⟩ := int_DEEPEST_IF D
    obtain ⟨t_MOST_DRAWS, e_MOST_DRAWS⟩ := int_MOST_DRAWS D
    obtain ⟨t_MOST_USES, e_MOST_USES⟩ := int_MOST_USES D
    refine ⟨_, (pss_cons (ps_if (pt_cmpR op_eq (pv 1) pe_str (nomark _))
      (pss_one (ps_ret (pe_cmpR op_lt (pv 2) (pe_glob (v := .int 4) rfl e_DEEPEST_IF ⟨t_DEEPEST_IF, rfl⟩) (nomark _))))
      pss_nil)
      (pss_cons (ps_if (pt_cmpR op_eq (pv 1) pe_str (nomark _))
      (pss_one (ps_ret (pe_fldK K (pv 0) rfl)))
      pss_nil)
      (pss_cons (ps_if (PW.pt (pw_and (pt_cmpR op_eq (pv 1) pe_str (nomark _)) (pw_and1 (pt_cmpR op_ge (pe_fldK K (pv 0) rfl) (pe_glob (v := .int 3) rfl e_MOST_DRAWS ⟨t_MOST_DRAWS, rfl⟩) (nomark _)))))
      (pss_one (ps_ret pe_bl))
      pss_nil)
      (pss_cons (ps_if (PW.pt (pw_and (pt_cmpR op_eq (pv 1) pe_str (nomark _)) (pw_and1 (PW.pt (pw_or (pt_not (pt_val (pe_fldK K (pv 0) rfl))) (pw_or1 (pt_cmpR op_ge (pe_fldK K (pv 0) rfl) (pe_glob (v := .int 24) rfl e_MOST_USES ⟨t_MOST_USES, rfl⟩) (nomark _))))))))
      (pss_one (ps_ret pe_bl))
      pss_nil)
      (pss_one (ps_ret (pe_and (pe_cmpR (op_in_seqK K) (pv 1) (pe_tup (pa_cons pe_str (pa_cons pe_str (pa_cons pe_str pa_nil)))) rfl) (pe_one (pe_cmpR op_gt (pe_callB (call_lenK K) rfl (free_len D) PySem.boot_len (pa_cons (pe_fldK K (pv 0) rfl) pa_nil)) pe_int (nomark _)))))))))), ?_⟩
    have k0 := k _ _ (Gr.refl ok.sm)
    refine ⟨_, rfl, rfl, _, rfl, ?_⟩
    by_cases q1 : x = ("if" : Str)
    · refine ifT (by simpa using q1) ⟨_, rfl, _, _, rfl, rfl, ?_⟩
      have e : mayR c.ar x d r = decide ((d : Int) < 4) := by unfold mayR; rw [if_pos q1]; exact dec_lt.symm
      rw [e] at k0; exact k0
    refine ifF (by simpa using q1) ?_
    (try unfold tNext)
    (try dsimp only)
    refine ⟨_, rfl, rfl, _, rfl, ?_⟩
    by_cases q2 : x = ("say" : Str)
    · refine ifT (by simpa using q2) ⟨_, rfl, _, _, _, _, _, rfl, ok.hs, cls_Reader D, na_Reader_pressed D, lk_pressed, ?_⟩
      have e : mayR c.ar x d r = r.pressed := by unfold mayR; rw [if_neg q1, if_pos q2]
      rw [e] at k0; exact k0
    refine ifF (by simpa using q2) ?_
    (try unfold tNext)
    (try dsimp only)
    have e12 : mayR c.ar x d r = if x = "draw" ∧ 3 ≤ r.draws then false else if x = "use" ∧ (c.ar = false ∨ 24 ≤ r.uses) then false else decide (x ∈ (["set", "draw", "use"] : List Str)) && decide (0 < r.vars.length) := by
      unfold mayR; rw [if_neg q1, if_neg q2]
    rw [e12] at k k0
    refine seq_cut (fun σ' H' => σ' = [some (V.ref c.s), some (V.str x), some (V.int (d : Int))] ∧ H' = H ∧ ¬ (x = ("draw" : Str) ∧ 3 ≤ r.draws)) (fun nx q => ?_) ?_
    · refine ⟨_, rfl, rfl, _, rfl, ?_⟩
      by_cases q3 : x = ("draw" : Str)
      · refine ifT (by simpa using q3) ⟨_, rfl, _, _, _, _, _, rfl, ok.hs, cls_Reader D, na_Reader_draws D, lk_draws, _, _, rfl, rfl, _, rfl, ifD (fun h => ?_) (fun h => ?_)⟩
        · rw [if_pos ⟨q3, by omega⟩] at k0
          exact k0
        · exact q _ _ ⟨rfl, rfl, fun z => h (by have := z.2; omega)⟩
      · exact ifF (by simpa using q3) (q _ _ ⟨rfl, rfl, fun z => q3 z.1⟩)
    rintro σ' H' ⟨rfl, rfl, n3⟩
    rw [if_neg n3] at k k0
    refine seq_cut (fun σ' H1 => σ' = [some (V.ref c.s), some (V.str x), some (V.int (d : Int))] ∧ H1 = H' ∧ ¬ (x = ("use" : Str) ∧ (c.ar = false ∨ 24 ≤ r.uses))) (fun nx q => ?_) ?_
    · refine ⟨_, rfl, rfl, _, rfl, ?_⟩
      by_cases q3 : x = ("use" : Str)
      · refine ifT (by simpa using q3) ⟨_, rfl, _, _, _, _, _, rfl, ok.hs, cls_Reader D, na_Reader_around D, lk_around, _, rfl, ?_⟩
        cases ha : c.ar with
        | false =>
          rw [if_pos ⟨q3, .inl ha⟩] at k0
          exact ifT rfl k0
        | true =>
          refine ifF rfl ⟨_, rfl, _, _, _, _, _, rfl, ok.hs, cls_Reader D, na_Reader_uses D, lk_uses, _, _, rfl, rfl, _, rfl, ifD (fun h => ?_) (fun h => ?_)⟩
          · rw [if_pos ⟨q3, .inr (by omega)⟩] at k0
            exact k0
          · exact q _ _ ⟨rfl, rfl, fun z => z.2.elim (fun y => by rw [ha] at y; cases y) (fun y => h (by omega))⟩
      · exact ifF (by simpa using q3) (q _ _ ⟨rfl, rfl, fun z => q3 z.1⟩)
    rintro σ' H1 ⟨rfl, rfl, n4⟩
    rw [if_neg n4] at k k0
    obtain ⟨vs, hv, a2⟩ := ok.hv
    refine ⟨_, rfl, (by show 3 ≤ sizeLine; decide), fun t ht => ?_⟩
    have g1 := Gr.new (ms := []) (o := .tup [.str "set", .str "draw", .str "use"]) ok.sm ht
    have ok1 := ok.up0 g1
    have hv1 := g1.at hv (by simp)
    refine ⟨t, [.str "set", .str "draw", .str "use"], rfl, .inr (SqT.of upd_same), rfl, rfl, _, rfl, ?_⟩
    rw [if_neg Bool.false_ne_true]
    have ei : inV (V.str x) [.str "set", .str "draw", .str "use"] = decide (x ∈ (["set", "draw", "use"] : List Str)) := inV_strs x ["set", "draw", "use"]
    rw [ei]
    have k1 := k _ _ g1
    refine ifB (fun q => ?_) (fun q => ?_)
    · refine ⟨_, rfl, _, _, _, _, _, rfl, ok1.hs, cls_Reader D, na_Reader_variables D, lk_variables, _, _, rfl, .inl ⟨_, SqL.of hv1, rfl⟩, _, _, rfl, rfl, ?_⟩
      rw [q, Bool.true_and] at k1
      have e : decide ((vs.length : Int) > 0) = decide (0 < r.vars.length) := by rw [a2.len]; simp
      rw [← e] at k1
      exact k1
    · rw [q, Bool.false_and] at k1
      exact k1
end
end K

set_option Elab.async false
set_option linter.all false
set_option maxRecDepth 100000
set_option maxHeartbeats 4000000
namespace Tk
open PySem PySem.Spec PyProof.Rows L2
section
variable {P : Program} {w : World} {K : PySem.W.Frag} {mg : Str → Option Value} {base : Heap} {x qual : Str} {st : Stmt} {f : Addr} {fd : FuncData} {ps : List Str} {k : Nat}
/-- a def of which nothing is wanted -/
def spNever : Sp := fun _ _ _ _ => False
theorem has_never (F : FnQ K x qual st [] f fd) (b : Binds K fd ps []) : Has P w K mg base k f ps [] spNever :=
  ⟨F.kp, fd, [], .nil, b, ⟨fun _ _ _ _ h => h.elim, fun _ _ _ _ _ _ _ _ _ _ _ _ _ h => h.elim⟩⟩
end
end Tk
namespace K
open PySem PySem.Spec PyProof.Rows L2 Tk Hd Rd
section
variable {P : Program} {w : World} {K : PySem.W.Frag} {mg : Str → Option Value} {base : Heap}
def spLeaf (K : PySem.W.Frag) : Sp := fun vs H Q _ => ∃ (c : Rc) (I : Hp) (r : RS) (x : Str), vs = [.ref c.s, .str x] ∧ RdOk K c I H r ∧ x.length ≤ sizeLine ∧ ∀ I' H' v, Gr [] I H I' H' → (match Rd.leafOf r x with
  | some e => iEx I' v e
  | none => v = .non) → Q v H'
theorem sc_Readerleaf : FnScope ["self", "word", "number"] ["self", "word"] (defScope s_Reader__leaf) := ⟨rfl, rfl, rfl, by decide +kernel, rfl, by decide +kernel, by decide +kernel⟩
theorem ok_leaf (D : Dt K mg) : Has P w K mg base 2 (He.ma K (He.ga K "Reader") "_leaf") ["self", "word"] [] (spLeaf K) := by
  obtain ⟨fd, F⟩ := fd_Reader__leaf D
  have H_number_of := ok_number_of (P := P) (w := w) (base := base) D
  have H_Reader__is_variable := ok_is_variable (P := P) (w := w) (base := base) D
  refine hasN F (F.bindsN fun _ _ _ _ _ _ us hl => match us, hl with | [_, _], _ => rfl) sc_Readerleaf (fun vs H Q E h => ?_) (fun cdv A outer s H vs Q E hr h => ?_)
  · obtain ⟨c, I, r, x, rfl, _⟩ := h; rfl
  · obtain ⟨c, I, r, x, rfl, ok, hx, k⟩ := h
    obtain ⟨t_MOST_NUMBER, e_MOST_NUMBER⟩ := int_MOST_NUMBER D
    refine ⟨_, (pss_cons (ps_set (i := 2) sc_Readerleaf.nd rfl (Or.inl rfl) (pe_callH H_number_of (hr.mono (by omega)) rfl (glo_number_of D) passL (pa_cons (pv 1) (pa_cons (pe_glob (v := .int 65535) rfl e_MOST_NUMBER ⟨t_MOST_NUMBER, rfl⟩) pa_nil))))
      (pss_cons (ps_if (pt_cmpR op_notN (pv 2) pe_non (nomark _))
      (pss_one (ps_ret (pe_tup (pa_cons pe_str (pa_cons (pv 2) pa_nil)))))
      pss_nil)
      (pss_cons (ps_if (pt_val (pe_methH (pv 0) (cls_Reader (K := K) D) (me_Reader__is_variable (K := K) D) H_Reader__is_variable (hr.mono (by omega)) passL (pa_cons (pv 1) pa_nil)))
      (pss_one (ps_ret (pe_tup (pa_cons pe_str (pa_cons (pv 1) pa_nil)))))
      pss_nil)
      (pss_one (ps_ret (pe_ifExp (PW.pt (pw_and (pt_cmpR op_eq (pv 1) pe_str (nomark _)) (pw_and1 (pt_val (pe_fldK K (pv 0) rfl))))) (pe_tup (pa_cons pe_str pa_nil)) pe_non)))))), ?_⟩
    refine ⟨_, rfl, x, 65535, rfl, hx, by decide, ?_⟩
    unfold Rd.leafOf at k
    cases q : numOf x 65535 with
    | some n =>
      rw [q] at k
      refine ⟨_, rfl, rfl, _, rfl, ifT rfl ⟨_, rfl, (by show 2 ≤ sizeLine; decide), fun t ht => ?_⟩⟩
      exact k _ _ _ (Gr.new (o := .tup [.str "number", .int (n : Int)]) ok.sm ht) (dR_tup upd_same (dRs_cons dR_str (dRs_cons dR_int dRs_nil)))
    | none =>
      rw [q] at k
      refine ⟨_, rfl, rfl, _, rfl, ifF rfl ?_⟩
      (try unfold tNext)
      (try dsimp only)
      refine ⟨_, rfl, _, _, _, rfl, ok.hs, (by kernel_rfl), _, rfl, c, I, r, x, rfl, ok, fun I1 H1 g1 => ?_⟩
      have ok1 := ok.up0 g1
      refine ⟨_, rfl, ?_⟩
      cases q2 : hasV r x with
      | true =>
        rw [q2] at k
        refine ifT rfl ⟨_, rfl, (by show 2 ≤ sizeLine; decide), fun t ht => ?_⟩
        exact k _ _ _ (g1.trans (Gr.new (o := .tup [.str "variable", .str x]) g1.ih ht)) (dR_tup upd_same (dRs_cons dR_str (dRs_cons dR_str dRs_nil)))
      | false =>
        rw [q2] at k
        refine ifF rfl ?_
        (try unfold tNext)
        (try dsimp only)
        refine ⟨_, rfl, rfl, _, rfl, ?_⟩
        by_cases q3 : x = ("press" : Str)
        · refine ifT (by simpa using q3) ⟨_, rfl, _, _, _, _, _, rfl, ok1.hs, cls_Reader D, na_Reader_pressed D, lk_pressed, _, rfl, ?_⟩
          cases q4 : r.pressed with
          | true =>
            rw [q4] at k
            rw [if_neg Bool.false_ne_true, if_pos ⟨q3, rfl⟩] at k
            refine ifT rfl ⟨(by show 1 ≤ sizeLine; decide), fun t ht => ?_⟩
            exact k _ _ _ (g1.trans (Gr.new (o := .tup [.str "press"]) g1.ih ht)) (dR_tup upd_same (dRs_cons dR_str dRs_nil))
          | false =>
            rw [q4] at k
            rw [if_neg Bool.false_ne_true, if_neg (fun z => nomatch z.2)] at k
            exact ifF rfl (k _ _ _ g1 rfl)
        · rw [if_neg Bool.false_ne_true, if_neg (fun z => q3 z.1)] at k
          exact ifF (by simpa using q3) (k _ _ _ g1 rfl)
def spExpr (K : PySem.W.Frag) (j : Nat) : Sp := fun vs H Q E => ∃ (c : Rc) (I : Hp) (r : RS) (d : Nat), vs = [.ref c.s, .int (d : Int)] ∧ RdOk K c I H r ∧ d + j = 5 ∧ OutR K c iEx I H (exR c.ws j r) Q E
def spEs (K : PySem.W.Frag) : Nat → Sp
  | 0 => spNever
  | j + 1 => spExpr K j
theorem leaf_lt {ws : List Str} {r : RS} (hn : NmOk r.vars) {e : Ex} (h : Rd.leafOf r (here ws r) = some e) : r.pos < ws.length :=
  here_lt fun z => by
    rw [z] at h
    unfold Rd.leafOf at h
    rw [numOf_empty] at h
    replace h : (if hasV r Str.empty = true then some (Ex.var Str.empty) else if Str.empty = ("press" : Str) ∧ r.pressed = true then some Ex.press else none) = some e := h
    rw [if_neg (fun y => empty_var hn (hasV_iff.mp y)), if_neg (by rintro ⟨y, _⟩; revert y; decide +kernel)] at h
    cases h
theorem ops_lt {ws : List Str} {r : RS} (h : here ws r ∈ ops) : r.pos < ws.length :=
  here_lt fun z => by rw [z] at h; revert h; decide +kernel
theorem sc_Readerexpression : FnScope ["self", "depth", "word", "one", "leaf"] ["self", "depth"] (defScope s_Reader__expression) := ⟨rfl, rfl, rfl, by decide +kernel, rfl, by decide +kernel, by decide +kernel⟩
theorem ok_expr_step (D : Dt K mg) (j : Nat) (H_Reader__expression : Has P w K mg base (j + 4) (He.ma K (He.ga K "Reader") "_expression") ["self", "depth"] [] (spEs K j)) : Has P w K mg base (j + 5) (He.ma K (He.ga K "Reader") "_expression") ["self", "depth"] [] (spExpr K j) := by
  obtain ⟨fd, F⟩ := fd_Reader__expression D
  have H_Reader__here := ok_here (P := P) (w := w) (base := base) D
  have H_Reader__leaf := ok_leaf (P := P) (w := w) (base := base) D
  have H_Reader__go_on := ok_go_on (P := P) (w := w) (base := base) D
  refine hasX F (F.bindsN fun _ _ _ _ _ _ us hl => match us, hl with | [_, _], _ => rfl) sc_Readerexpression (fun vs H Q E h => ?_) (fun cdv A outer s H vs Q E hr h => ?_)
  · obtain ⟨c, I, r, d, rfl, _⟩ := h; rfl
  · obtain ⟨c, I, r, d, rfl, ok, hd, k⟩ := h
    obtain ⟨t_DEEPEST_EXPRESSION, e_DEEPEST_EXPRESSION⟩ := int_DEEPEST_EXPRESSION D
    refine ⟨_, (pss_cons (ps_set (i := 2) sc_Readerexpression.nd rfl (Or.inl rfl) (pe_methH0 (pv 0) (cls_Reader (K := K) D) (me_Reader__here (K := K) D) H_Reader__here (hr.mono (by omega)) passL))
      (pss_cons (ps_if (PW.pt (pw_and (pt_cmpR (op_in_seqK K) (pv 2) (pe_glob (v := .ref (He.ga K "OPERATORS")) rfl (glo_OPERATORS D) rfl) rfl) (pw_and1 (pt_cmpR op_lt (pv 1) (pe_glob (v := .int 5) rfl e_DEEPEST_EXPRESSION ⟨t_DEEPEST_EXPRESSION, rfl⟩) (nomark _)))))
      (pss_cons (ps_fldaug (pv 0) pe_int in_add)
      (pss_cons (ps_set (i := 3) sc_Readerexpression.nd rfl (Or.inl rfl) (pe_methH (pv 0) (cls_Reader (K := K) D) (me_Reader__expression (K := K) D) H_Reader__expression (hr.mono (by omega)) (L2.passes_call (L2.takes_of rfl rfl rfl rfl) fun _ _ _ _ h => h) (pa_cons (pe_op op_add (pv 1) pe_int) pa_nil)))
      (pss_one (ps_ret (pe_tup (pa_cons (pv 2) (pa_cons (pv 3) (pa_cons (pe_methH (pv 0) (cls_Reader (K := K) D) (me_Reader__expression (K := K) D) H_Reader__expression (hr.mono (by omega)) (L2.passes_call (L2.takes_of rfl rfl rfl rfl) fun _ _ _ _ h => h) (pa_cons (pe_op op_add (pv 1) pe_int) pa_nil)) pa_nil))))))))
      pss_nil)
      (pss_cons (ps_set (i := 4) sc_Readerexpression.nd rfl (Or.inl rfl) (pe_methH (pv 0) (cls_Reader (K := K) D) (me_Reader__leaf (K := K) D) H_Reader__leaf (hr.mono (by omega)) passL (pa_cons (pv 2) pa_nil)))
      (pss_cons (ps_expr (pe_methH (pv 0) (cls_Reader (K := K) D) (me_Reader__go_on (K := K) D) H_Reader__go_on (hr.mono (by omega)) (L2.passes_call (L2.takes_of rfl rfl rfl rfl) fun _ _ _ _ h => h) (pa_cons (pe_cmpR op_notN (pv 4) pe_non (nomark _)) pa_nil)))
      (pss_one (ps_ret (pv 4))))))), ?_⟩
    refine ⟨_, rfl, _, _, _, rfl, ok.hs, (by kernel_rfl), c, I, r, rfl, ok, ?_⟩
    (try dsimp only)
    have leaf : (j = 0 ∨ here c.ws r ∉ ops) → exR c.ws j r = leafR c.ws r := fun h => by
      cases j with
      | zero => rfl
      | succ j =>
        rw [exR, if_neg (fun y => h.elim (fun q => by cases q) (fun q => q y))]
    have hops : SqT K H (He.ga K "OPERATORS") (ops.map V.str) := tup_OPERATORS D H
    refine seq_cut (fun σ' H' => σ' = [some (V.ref c.s), some (V.int (d : Int)), some (V.str (here c.ws r)), none, none] ∧ H' = H ∧ exR c.ws j r = leafR c.ws r) (fun nx q => ?_) ?_
    · refine ⟨_, rfl, _, _, rfl, .inr hops, rfl, flat_strs _, _, rfl, ?_⟩
      rw [if_neg Bool.false_ne_true, inV_strs]
      refine ifD (fun q1 => ?_) (fun q1 => ?_)
      · refine ⟨_, rfl, _, _, rfl, rfl, _, rfl, ifD (fun q2 => ?_) (fun q2 => ?_)⟩
        · cases j with
          | zero => omega
          | succ j =>
            rw [exR, if_pos q1] at k
            have e1 : (r.pos : Int) + 1 = ((r.pos + 1 : Nat) : Int) := by omega
            refine ⟨_, rfl, _, _, _, _, _, rfl, ok.hs, cls_Reader D, na_Reader_at D, lk_at, _, _, rfl, rfl, _, _, ok.hs, rdF_len, ?_⟩
            rw [e1, pf_at]
            obtain ⟨ok2, g2⟩ := ok.put (r' := r.go) rfl
            have ed : V.ref c.s :: ([V.int ((d : Int) + 1)] ++ []) = [V.ref c.s, V.int ((d + 1 : Nat) : Int)] := by rw [show ((d + 1 : Nat) : Int) = (d : Int) + 1 from by omega]; rfl
            refine ⟨_, rfl, _, _, _, rfl, ok2.hs, (by kernel_rfl), _, rfl, _, _, rfl, rfl, c, I, r.go, d + 1, ed, ok2, by omega, (k.up g2).bind fun a r1 I1 H1 v1 ea g3 ok3 ra k3 => ?_⟩
            refine ⟨_, rfl, _, rfl, _, rfl, _, _, _, rfl, ok3.hs, (by kernel_rfl), _, rfl, _, _, rfl, rfl, c, I1, r1, d + 1, ed, ok3, by omega, k3.bind fun b r2 I2 H2 v2 eb g4 ok4 rb k4 => ⟨(by show 3 ≤ sizeLine; decide), fun t ht => ?_⟩⟩
            have g5 := Gr.new (ms := []) (o := .tup [.str (here c.ws r), v1, v2]) g4.ih ht
            exact k4.ok rfl _ _ _ g5.nil (ok4.up0 g5) (dR_tup upd_same (dRs_cons dR_str (dRs_cons (up (R := iEx) (g4.ii.trans g5.ii) ra) (dRs_cons (up (R := iEx) g5.ii rb) dRs_nil))))
        · exact q _ _ ⟨rfl, rfl, leaf (.inl (by omega))⟩
      · exact q _ _ ⟨rfl, rfl, leaf (.inr q1)⟩
    rintro σ' H' ⟨rfl, rfl, e⟩
    (try dsimp only)
    rw [e] at k
    refine ⟨_, rfl, _, _, _, rfl, ok.hs, (by kernel_rfl), _, rfl, c, I, r, _, rfl, ok, ok.hz, fun I1 H1 v1 g1 h1 => ?_⟩
    have ok1 := ok.up0 g1
    unfold leafR at k
    cases q : Rd.leafOf r (here c.ws r) with
    | none =>
      rw [q] at k h1
      subst h1
      refine ⟨_, rfl, _, _, _, rfl, ok1.hs, (by kernel_rfl), _, rfl, rfl, c, I1, r, _, rfl, ok1, (fun z => nomatch z), ?_⟩
      exact k.up g1.nil
    | some e =>
      rw [q] at k h1
      have hn : decide (v1 = V.non) = false := by
        cases e <;> · simp only [iEx, Ex.da, dR] at h1; obtain ⟨a, vs, rfl, _⟩ := h1; rfl
      refine ⟨_, rfl, _, _, _, rfl, ok1.hs, (by kernel_rfl), _, rfl, rfl, c, I1, r, _, rfl, ok1, (fun _ => leaf_lt ok.nm q), ?_⟩
      rw [hn, if_pos (show (!false) = true from rfl)]
      exact fun I' H' v g ok2 rv => ⟨_, rfl, k _ _ _ (g1.nil.trans g) ok2 (up g.ii h1)⟩
theorem ok_expr (D : Dt K mg) : ∀ j, Has P w K mg base (j + 4) (He.ma K (He.ga K "Reader") "_expression") ["self", "depth"] [] (spEs K j)
  | 0 => by
    obtain ⟨fd, F⟩ := fd_Reader__expression D
    exact has_never F (F.bindsN fun _ _ _ _ _ _ us hl => match us, hl with | [_, _], _ => rfl)
  | j + 1 => ok_expr_step D j (ok_expr D j)
end
end K

set_option Elab.async false
set_option linter.all false
set_option maxRecDepth 100000
set_option maxHeartbeats 4000000
/-! Reading goes forward. -/
namespace Rd
open PySem PyProof.Rows TL
section
variable {ws : List Str} {ar : Bool}
theorem takeR_pos {x : Str} {r r1 : RS} {u : Unit} (h : takeR ws x r = .ok u r1) : r1 = r.go := by
  unfold takeR at h; split at h <;> cases h; rfl
theorem varR_pos {r r1 : RS} {x : Str} (h : varR ws r = .ok x r1) : r1 = r.go ∧ x = here ws r ∧ hasV r (here ws r) = true := by
  unfold varR at h; split at h
  · rename_i c; cases h; exact ⟨rfl, rfl, c⟩
  · cases h
theorem numR_pos {lo hi : Nat} {r r1 : RS} {n : Nat} (h : numR ws lo hi r = .ok n r1) : r1 = r.go ∧ numOf (here ws r) hi = some n ∧ lo ≤ n := by
  unfold numR at h; split at h
  · rename_i m e
    split at h
    · rename_i c; cases h; exact ⟨rfl, e, c⟩
    · cases h
  · cases h
theorem leafR_pos {r r1 : RS} {e : Ex} (h : leafR ws r = .ok e r1) : r1 = r.go ∧ leafOf r (here ws r) = some e := by
  unfold leafR at h; split at h
  · rename_i m e; cases h; exact ⟨rfl, e⟩
  · cases h
theorem exR_pos : ∀ {k : Nat} {r r1 : RS} {e : Ex}, exR ws k r = .ok e r1 → r.pos < r1.pos ∧ r1.vars = r.vars ∧ r1.draws = r.draws ∧ r1.uses = r.uses ∧ r1.pressed = r.pressed
  | 0, r, r1, e, h => by
    obtain ⟨rfl, _⟩ := leafR_pos h
    exact ⟨Nat.lt_succ_self _, rfl, rfl, rfl, rfl⟩
  | k + 1, r, r1, e, h => by
    rw [exR] at h
    split at h
    · obtain ⟨a, r2, h1, h⟩ := bind_ok h
      obtain ⟨b, r3, h2, h⟩ := bind_ok h
      cases h
      have p1 := exR_pos h1
      have p2 := exR_pos h2
      obtain ⟨a1, a2, a3, a4, a5⟩ := p1
      obtain ⟨b1, b2, b3, b4, b5⟩ := p2
      have : r.pos < r.go.pos := Nat.lt_succ_self _
      exact ⟨by omega, b2.trans a2, b3.trans a3, b4.trans a4, b5.trans a5⟩
    · obtain ⟨rfl, _⟩ := leafR_pos h
      exact ⟨Nat.lt_succ_self _, rfl, rfl, rfl, rfl⟩
/-- on, with the same variables -/
def Fwd (r r1 : RS) : Prop := r.pos ≤ r1.pos ∧ r1.vars = r.vars ∧ r1.pressed = r.pressed
theorem Fwd.refl (r : RS) : Fwd r r := ⟨Nat.le_refl _, rfl, rfl⟩
theorem Fwd.trans {a b c : RS} (h : Fwd a b) (k : Fwd b c) : Fwd a c := ⟨Nat.le_trans h.1 k.1, k.2.1.trans h.2.1, k.2.2.trans h.2.2⟩
theorem Fwd.go (r : RS) : Fwd r r.go := ⟨Nat.le_succ _, rfl, rfl⟩
theorem Fwd.ex {k : Nat} {r r1 : RS} {e : Ex} (h : exR ws k r = .ok e r1) : Fwd r r1 := by
  obtain ⟨a, b, _, _, c⟩ := exR_pos h
  exact ⟨Nat.le_of_lt a, b, c⟩
theorem stmtR_fwd {ch : RS → Res Stm} (hc : ∀ r s r1, ch r = .ok s r1 → Fwd r r1) {r r1 : RS} {s : Stm} (h : stmtR ws ch r = .ok s r1) : Fwd r.go r1 := by
  unfold stmtR at h
  split at h
  · exact hc _ _ _ h
  · split at h
    · obtain ⟨e, r2, h1, h⟩ := bind_ok h
      cases h
      exact Fwd.ex h1
    · obtain ⟨x, r2, h1, h⟩ := bind_ok h
      obtain ⟨rfl, _, _⟩ := varR_pos h1
      split at h
      · obtain ⟨n, r3, h2, h⟩ := bind_ok h
        cases h
        obtain ⟨rfl, _⟩ := numR_pos h2
        exact ⟨Nat.le_trans (Nat.le_succ _) (Nat.le_succ _), rfl, rfl⟩
      · split at h
        · obtain ⟨e, r3, h2, h⟩ := bind_ok h
          cases h
          have f : Fwd r.go { r.go.go with uses := r.go.go.uses + 1 } := ⟨Nat.le_succ _, rfl, rfl⟩
          exact f.trans (Fwd.ex h2)
        · obtain ⟨e, r3, h2, h⟩ := bind_ok h
          cases h
          exact (Fwd.go _).trans (Fwd.ex h2)
theorem loopR_fwd {d : Nat} {ch : RS → Res Stm} (hc : ∀ r s r1, ch r = .ok s r1 → Fwd r r1) : ∀ {n : Nat} {acc : List Stm} {r r1 : RS} {l : List Stm}, loopR ws ar d ch n acc r = .ok l r1 → Fwd r r1
  | 0, acc, r, r1, l, h => by
    have h : Res.ok acc r = Res.ok l r1 := h
    cases h; exact Fwd.refl _
  | n + 1, acc, r, r1, l, h => by
    rw [loopR] at h
    split at h
    · obtain ⟨s, r2, h1, h⟩ := bind_ok h
      exact ((Fwd.go r).trans (stmtR_fwd hc h1)).trans (loopR_fwd hc h)
    · cases h; exact Fwd.refl _
theorem choice1_fwd {d : Nat} {ch : RS → Res Stm} (hc : ∀ r s r1, ch r = .ok s r1 → Fwd r r1) {r r1 : RS} {s : Stm} (h : choice1 ws ar d ch r = .ok s r1) : Fwd r r1 := by
  unfold choice1 stmtsR at h
  obtain ⟨e, r2, h1, h⟩ := bind_ok h
  obtain ⟨l, r3, h2, h⟩ := bind_ok h
  have f := (Fwd.ex h1).trans (loopR_fwd hc h2)
  split at h
  · obtain ⟨t, r4, h3, h⟩ := bind_ok h
    split at h
    · cases h
    · obtain ⟨u, r5, h4, h⟩ := bind_ok h
      cases h
      rw [takeR_pos h4]
      exact ((f.trans (Fwd.go _)).trans (loopR_fwd hc h3)).trans (Fwd.go _)
  · obtain ⟨u, r5, h4, h⟩ := bind_ok h
    cases h
    rw [takeR_pos h4]
    exact f.trans (Fwd.go _)
theorem chAt_fwd : ∀ (k : Nat) (r : RS) (s : Stm) (r1 : RS), chAt ws ar k r = .ok s r1 → Fwd r r1
  | 0, r, s, r1, h => by cases (show Res.bad r.pos = Res.ok s r1 from h)
  | k + 1, r, s, r1, h => by
    have h : choiceR ws ar k r = .ok s r1 := h
    rw [choiceR_eq] at h
    exact choice1_fwd (chAt_fwd k) h
theorem may_sts {w : Str} {d : Nat} {r : RS} (h : mayR ar w d r = true) : w ∈ sts := by
  by_cases q : w ∈ sts
  · exact q
  · rw [may_not q] at h; cases h
end
end Rd

set_option Elab.async false
set_option linter.all false
set_option maxRecDepth 100000
set_option maxHeartbeats 4000000
namespace K
open PySem PySem.Spec PyProof.Rows L2 Tk Hd Rd
section
variable {P : Program} {w : World} {K : PySem.W.Frag} {mg : Str → Option Value} {base : Heap}
theorem ok_expr4 (D : Dt K mg) : Has P w K mg base 9 (He.ma K (He.ga K "Reader") "_expression") ["self", "depth"] [] (spExpr K 4) := ok_expr D 5
def spChoice (K : PySem.W.Frag) (k : Nat) : Sp := fun vs H Q E => ∃ (c : Rc) (I : Hp) (r : RS) (d : Nat), vs = [.ref c.s, .int (d : Int)] ∧ RdOk K c I H r ∧ d + k = 4 ∧ OutR K c iSt I H (choiceR c.ws c.ar k r) Q E
def spCh (K : PySem.W.Frag) : Nat → Sp
  | 0 => spNever
  | k + 1 => spChoice K k
def spStmt (K : PySem.W.Frag) (k : Nat) : Sp := fun vs H Q E => ∃ (c : Rc) (I : Hp) (r : RS) (d : Nat), vs = [.ref c.s, .int (d : Int)] ∧ RdOk K c I H r ∧ d + k = 4 ∧ mayR c.ar (here c.ws r) d r = true ∧ OutR K c iSt I H (stmtR c.ws (chAt c.ws c.ar k) r) Q E
theorem cast1 (n : Nat) : (n : Int) + 1 = ((n + 1 : Nat) : Int) := by omega
theorem args1 {s : Addr} {d : Nat} : V.ref s :: ([V.int ((d : Int) + 1)] ++ []) = [V.ref s, V.int ((d + 1 : Nat) : Int)] := by rw [cast1]; rfl
theorem sc_Readerstatement : FnScope ["self", "depth", "word", "name"] ["self", "depth"] (defScope s_Reader__statement) := ⟨rfl, rfl, rfl, by decide +kernel, rfl, by decide +kernel, by decide +kernel⟩
theorem ok_stmt_step (D : Dt K mg) (k : Nat) (H_Reader__choice : Has P w K mg base (3 * k + 10) (He.ma K (He.ga K "Reader") "_choice") ["self", "depth"] [] (spCh K k)) : Has P w K mg base (3 * k + 11) (He.ma K (He.ga K "Reader") "_statement") ["self", "depth"] [] (spStmt K k) := by
  obtain ⟨fd, F⟩ := fd_Reader__statement D
  have H_Reader__here := ok_here (P := P) (w := w) (base := base) D
  have H_Reader__expression := ok_expr4 (P := P) (w := w) (base := base) D
  have H_Reader__variable := ok_variable (P := P) (w := w) (base := base) D
  have H_Reader__number := ok_number (P := P) (w := w) (base := base) D
  refine hasX F (F.bindsN fun _ _ _ _ _ _ us hl => match us, hl with | [_, _], _ => rfl) sc_Readerstatement (fun vs H Q E h => ?_) (fun cdv A outer s H vs Q E hr h => ?_)
  · obtain ⟨c, I, r, d, rfl, _⟩ := h; rfl
  · obtain ⟨c, I, r, d, rfl, ok, hd, hm, kk⟩ := h
    obtain ⟨t_MOST_DRAWN, e_MOST_DRAWN⟩ := int_MOST_DRAWN D
    refine ⟨_, (pss_cons (ps_set (i := 2) sc_Readerstatement.nd rfl (Or.inl rfl) (pe_methH0 (pv 0) (cls_Reader (K := K) D) (me_Reader__here (K := K) D) H_Reader__here (hr.mono (by omega)) passL))
      (pss_cons (ps_fldaug (pv 0) pe_int in_add)
      (pss_cons (ps_if (pt_cmpR op_eq (pv 2) pe_str (nomark _))
      (pss_one (ps_ret (pe_methH (pv 0) (cls_Reader (K := K) D) (me_Reader__choice (K := K) D) H_Reader__choice (hr.mono (by omega)) (L2.passes_call (L2.takes_of rfl rfl rfl rfl) fun _ _ _ _ h => h) (pa_cons (pe_op op_add (pv 1) pe_int) pa_nil))))
      pss_nil)
      (pss_cons (ps_if (pt_cmpR op_eq (pv 2) pe_str (nomark _))
      (pss_one (ps_ret (pe_tup (pa_cons pe_str (pa_cons (pe_methH (pv 0) (cls_Reader (K := K) D) (me_Reader__expression (K := K) D) H_Reader__expression (hr.mono (by omega)) (L2.passes_call (L2.takes_of rfl rfl rfl rfl) fun _ _ _ _ h => h) (pa_cons pe_int pa_nil)) pa_nil)))))
      pss_nil)
      (pss_cons (ps_set (i := 3) sc_Readerstatement.nd rfl (Or.inl rfl) (pe_methH0 (pv 0) (cls_Reader (K := K) D) (me_Reader__variable (K := K) D) H_Reader__variable (hr.mono (by omega)) (L2.passes_call (L2.takes_of rfl rfl rfl rfl) fun _ _ _ _ h => h)))
      (pss_cons (ps_if (pt_cmpR op_eq (pv 2) pe_str (nomark _))
      (pss_cons (ps_fldaug (pv 0) pe_int in_add)
      (pss_one (ps_ret (pe_tup (pa_cons pe_str (pa_cons (pv 3) (pa_cons (pe_methH (pv 0) (cls_Reader (K := K) D) (me_Reader__number (K := K) D) H_Reader__number (hr.mono (by omega)) (L2.passes_call (L2.takes_of rfl rfl rfl rfl) fun _ _ _ _ h => h) (pa_cons pe_int (pa_cons (pe_glob (v := .int 6) rfl e_MOST_DRAWN ⟨t_MOST_DRAWN, rfl⟩) pa_nil))) pa_nil)))))))
      pss_nil)
      (pss_cons (ps_if (pt_cmpR op_eq (pv 2) pe_str (nomark _))
      (pss_one (ps_fldaug (pv 0) pe_int in_add))
      pss_nil)
      (pss_one (ps_ret (pe_tup (pa_cons (pv 2) (pa_cons (pv 3) (pa_cons (pe_methH (pv 0) (cls_Reader (K := K) D) (me_Reader__expression (K := K) D) H_Reader__expression (hr.mono (by omega)) (L2.passes_call (L2.takes_of rfl rfl rfl rfl) fun _ _ _ _ h => h) (pa_cons pe_int pa_nil)) pa_nil))))))))))))), ?_⟩
    refine ⟨_, rfl, _, _, _, rfl, ok.hs, (by kernel_rfl), c, I, r, rfl, ok, ?_⟩
    refine ⟨_, rfl, _, _, _, _, _, rfl, ok.hs, cls_Reader D, na_Reader_at D, lk_at, _, _, rfl, rfl, _, _, ok.hs, rdF_len, ?_⟩
    rw [cast1, pf_at]
    obtain ⟨ok2, g2⟩ := ok.put (r' := r.go) rfl
    replace kk := kk.up g2
    have hsts := may_sts hm
    generalize hx : here c.ws r = x at *
    unfold stmtR at kk
    rw [hx] at kk
    (try dsimp only)
    refine ⟨_, rfl, rfl, _, rfl, ?_⟩
    by_cases q1 : x = ("if" : Str)
    · rw [if_pos q1] at kk
      cases k with
      | zero =>
        rw [q1] at hm
        have := may_if (ar := c.ar) (r := r) (d := d)
        rw [show mayR c.ar (wd "if") d r = true from hm] at this
        have := of_decide_eq_true this.symm
        omega
      | succ k =>
        refine ifT (by simpa using q1) ⟨_, rfl, _, _, _, rfl, ok2.hs, (by kernel_rfl), _, rfl, _, _, rfl, rfl, c, I, r.go, d + 1, args1, ok2, by omega, ?_⟩
        exact kk
    rw [if_neg q1] at kk
    refine ifF (by simpa using q1) ?_
    (try unfold tNext)
    (try dsimp only)
    refine ⟨_, rfl, rfl, _, rfl, ?_⟩
    by_cases q2 : x = ("say" : Str)
    · rw [if_pos q2] at kk
      refine ifT (by simpa using q2) ⟨_, rfl, _, _, _, rfl, ok2.hs, (by kernel_rfl), c, I, r.go, 1, rfl, ok2, rfl, kk.bind fun e r1 I1 H1 v1 ee g3 ok3 rv k3 => ⟨(by show 2 ≤ sizeLine; decide), fun t ht => ?_⟩⟩
      have g4 := Gr.new (ms := []) (o := .tup [.str "say", v1]) g3.ih ht
      exact k3.ok rfl _ _ _ g4.nil (ok3.up0 g4) (dR_tup upd_same (dRs_cons dR_str (dRs_cons (up (R := iEx) g4.ii rv) dRs_nil)))
    rw [if_neg q2] at kk
    refine ifF (by simpa using q2) ?_
    (try unfold tNext)
    (try dsimp only)
    refine ⟨_, rfl, _, _, _, rfl, ok2.hs, (by kernel_rfl), c, I, r.go, rfl, ok2, kk.bind fun y r1 I1 H1 v1 ey g3 ok3 rv k3 => ?_⟩
    have rv : v1 = .str y := rv
    subst rv
    replace k3 := k3
    (try dsimp only at k3)
    refine ⟨_, rfl, rfl, _, rfl, ?_⟩
    by_cases q3 : x = ("draw" : Str)
    · rw [if_pos q3] at k3
      refine ifT (by simpa using q3) ?_
      refine ⟨_, rfl, _, _, _, _, _, rfl, ok3.hs, cls_Reader D, na_Reader_draws D, lk_draws, _, _, rfl, rfl, _, _, ok3.hs, rdF_len, ?_⟩
      rw [cast1, pf_draws]
      obtain ⟨ok4, g4⟩ := ok3.put (r' := { r1 with draws := r1.draws + 1 }) rfl
      refine ⟨_, rfl, _, rfl, _, _, _, rfl, ok4.hs, (by kernel_rfl), c, I1, _, 1, 6, rfl, ok4, by decide, (k3.up g4).bind fun n r2 I2 H2 v2 en g5 ok5 rn k5 => ⟨(by show 3 ≤ sizeLine; decide), fun t ht => ?_⟩⟩
      have g6 := Gr.new (ms := []) (o := .tup [.str "draw", .str y, v2]) g5.ih ht
      have rn : v2 = .int (n : Int) := rn
      subst rn
      exact k5.ok rfl _ _ _ g6.nil (ok5.up0 g6) (dR_tup upd_same (dRs_cons dR_str (dRs_cons dR_str (dRs_cons dR_int dRs_nil))))
    rw [if_neg q3] at k3
    refine ifF (by simpa using q3) ?_
    (try unfold tNext)
    (try dsimp only)
    by_cases q4 : x = ("use" : Str)
    · rw [if_pos q4] at k3
      refine ⟨_, rfl, rfl, _, rfl, ifT (by simpa using q4) ?_⟩
      refine ⟨_, rfl, _, _, _, _, _, rfl, ok3.hs, cls_Reader D, na_Reader_uses D, lk_uses, _, _, rfl, rfl, _, _, ok3.hs, rdF_len, ?_⟩
      rw [cast1, pf_uses]
      obtain ⟨ok4, g4⟩ := ok3.put (r' := { r1 with uses := r1.uses + 1 }) rfl
      refine ⟨_, rfl, _, rfl, _, rfl, _, _, _, rfl, ok4.hs, (by kernel_rfl), c, I1, _, 1, rfl, ok4, rfl, (k3.up g4).bind fun e r2 I2 H2 v2 ee g5 ok5 re k5 => ⟨(by show 3 ≤ sizeLine; decide), fun t ht => ?_⟩⟩
      have g6 := Gr.new (ms := []) (o := .tup [.str x, .str y, v2]) g5.ih ht
      subst q4
      exact k5.ok rfl _ _ _ g6.nil (ok5.up0 g6) (dR_tup upd_same (dRs_cons dR_str (dRs_cons dR_str (dRs_cons (up (R := iEx) g6.ii re) dRs_nil))))
    · rw [if_neg q4] at k3
      refine ⟨_, rfl, rfl, _, rfl, ifF (by simpa using q4) ?_⟩
      (try unfold tNext)
      (try dsimp only)
      have q5 : x = ("set" : Str) := by
        simp only [sts, List.mem_cons, List.not_mem_nil, or_false] at hsts
        rcases hsts with h | h | h | h | h
        · exact h
        · exact absurd h q3
        · exact absurd h q4
        · exact absurd h q2
        · exact absurd h q1
      refine ⟨_, rfl, _, rfl, _, rfl, _, _, _, rfl, ok3.hs, (by kernel_rfl), c, I1, _, 1, rfl, ok3, rfl, k3.bind fun e r2 I2 H2 v2 ee g5 ok5 re k5 => ⟨(by show 3 ≤ sizeLine; decide), fun t ht => ?_⟩⟩
      have g6 := Gr.new (ms := []) (o := .tup [.str x, .str y, v2]) g5.ih ht
      subst q5
      exact k5.ok rfl _ _ _ g6.nil (ok5.up0 g6) (dR_tup upd_same (dRs_cons dR_str (dRs_cons dR_str (dRs_cons (up (R := iEx) g6.ii re) dRs_nil))))
end
end K

set_option Elab.async false
set_option linter.all false
set_option maxRecDepth 100000
set_option maxHeartbeats 4000000
namespace Tk
open PySem PySem.Spec PyProof.Rows L2
theorem wk_tupS {K : PySem.W.Frag} {I : Hp} {a : Addr} {vs : List V} (h : ∀ H, SqT K H a vs) : Wk (Itt K a) vs.length (gv vs) I :=
  ⟨fun i H s hi => ⟨vs, _, h H, gv_at hi⟩, fun H s => ⟨vs, h H, Nat.le_refl _⟩, fun i H x H' s hi y => ⟨(gv_of (y.2 vs (h H))).symm, y.1⟩⟩
theorem Gr.any {I I' H I1 H1 : Hp} (g : Gr [] I H I1 H1) (s : Same I' H) : Gr [] I' H I' H1 :=
  ⟨Same.refl _, fun a o e => g.hh a o (by simp) (s a o e), g.hh, g.th, fun a o e _ => e⟩
end Tk
namespace K
open PySem PySem.Spec PyProof.Rows L2 Tk Hd Rd
section
variable {P : Program} {w : World} {K : PySem.W.Frag} {mg : Str → Option Value} {base : Heap}
theorem RdOk.still {c : Rc} {I H : Hp} {r : RS} (ok : RdOk K c I H r) : ∃ I2, Same I I2 ∧ Same I2 H ∧ ∀ H', Same I2 H' → RdOk K c I H' r := by
  obtain ⟨vs, hv, a2⟩ := ok.hv
  have n1 : ∀ b o, I b = some o → b ≠ c.s := fun b o e z => by rw [z, ok.is] at e; cases e
  have n2 : ∀ b o, I b = some o → b ≠ c.vl := fun b o e z => by rw [z, ok.iv] at e; cases e
  refine ⟨upd (upd I c.s (.ins (CRd K) c.dx (rdF c r))) c.vl (.lst vs), fun b o e => by rw [upd_ne (n2 b o e), upd_ne (n1 b o e)]; exact e, same_now (same_now ok.sm ok.hs) hv, fun H' s => ?_⟩
  have hs : H' c.s = some (.ins (CRd K) c.dx (rdF c r)) := s _ _ (by rw [upd_ne ok.ne]; exact upd_same)
  have hv' : H' c.vl = some (.lst vs) := s _ _ upd_same
  exact ⟨fun b o e => s b o (by rw [upd_ne (n2 b o e), upd_ne (n1 b o e)]; exact e), ok.is, ok.iv, ok.ne, hs, ⟨vs, hv', a2⟩, ok.hw, ok.nm, ok.vn, ok.wn, ok.wz⟩
def spStmts (K : PySem.W.Frag) (k : Nat) : Sp := fun vs H Q E => ∃ (c : Rc) (I : Hp) (r : RS) (d : Nat), vs = [.ref c.s, .int (d : Int)] ∧ RdOk K c I H r ∧ d + k = 4 ∧ OutR K c (iL iSt) I H (stmtsR c.ws c.ar d (chAt c.ws c.ar k) r) Q E
theorem sc_Readerstatements : FnScope ["self", "depth", "found"] ["self", "depth"] (defScope s_Reader__statements) := ⟨rfl, rfl, rfl, by decide +kernel, rfl, by decide +kernel, by decide +kernel⟩
theorem ok_stmts_step (D : Dt K mg) (k : Nat) (H_Reader__statement : Has P w K mg base (3 * k + 11) (He.ma K (He.ga K "Reader") "_statement") ["self", "depth"] [] (spStmt K k)) : Has P w K mg base (3 * k + 12) (He.ma K (He.ga K "Reader") "_statements") ["self", "depth"] [] (spStmts K k) := by
  obtain ⟨fd, F⟩ := fd_Reader__statements D
  have H_Reader__here := ok_here (P := P) (w := w) (base := base) D
  have H_Reader__may_begin := ok_may_begin (P := P) (w := w) (base := base) D
  refine hasX F (F.bindsN fun _ _ _ _ _ _ us hl => match us, hl with | [_, _], _ => rfl) sc_Readerstatements (fun vs H Q E h => ?_) (fun cdv A outer s H vs Q E hr h => ?_)
  · obtain ⟨c, I, r, d, rfl, _⟩ := h; rfl
  · obtain ⟨c, I, r, d, rfl, ok, hd, kk⟩ := h
    refine ⟨_, (pss_cons (ps_set (i := 2) sc_Readerstatements.nd rfl (Or.inl rfl) (pe_lst pa_nil))
      (pss_cons (ps_while (passes_of rfl) (pt_val (pe_methH (pv 0) (cls_Reader (K := K) D) (me_Reader__may_begin (K := K) D) H_Reader__may_begin (hr.mono (by omega)) passL (pa_cons (pe_methH0 (pv 0) (cls_Reader (K := K) D) (me_Reader__here (K := K) D) H_Reader__here (hr.mono (by omega)) passL) (pa_cons (pv 1) pa_nil))))
      (pss_one (ps_expr (pe_bm PySem.F.plainAttrs_list PySem.F.slot_list_append PySem.F.type_list_append mt_append (pv 2) (pa_cons (pe_methH (pv 0) (cls_Reader (K := K) D) (me_Reader__statement (K := K) D) H_Reader__statement (hr.mono (by omega)) (L2.passes_call (L2.takes_of rfl rfl rfl rfl) fun _ _ _ _ h => h) (pa_cons (pv 1) pa_nil)) pa_nil)))))
      (pss_one (ps_ret (pv 2))))), ?_⟩
    refine ⟨by show 0 ≤ sizeLine; decide, fun f hf => ?_⟩
    have nfs : f ≠ c.s := fun z => by rw [z, ok.hs] at hf; cases hf
    have nfv : f ≠ c.vl := fun z => by obtain ⟨vs, hv, _⟩ := ok.hv; rw [z, hv] at hf; cases hf
    have g0 : Gr [] I H I (upd H f (.lst [])) := Gr.tmp ok.sm hf
    (try dsimp only)
    refine ⟨fun n σ' H' => σ' = [some (V.ref c.s), some (V.int (d : Int)), some (V.ref f)] ∧ ∃ I' acc vs r', Gr (f :: rms c) I H I' H' ∧ I' f = none ∧ H' f = some (.lst vs) ∧ All2 (iSt I') vs acc ∧ RdOk K c I' H' r' ∧
        stmtsR c.ws c.ar d (chAt c.ws c.ar k) r = loopR c.ws c.ar d (chAt c.ws c.ar k) n acc r' ∧ c.ws.length < n + r'.pos ∧ acc.length + n ≤ c.ws.length + 1,
      ⟨c.ws.length + 1, rfl, I, [], [], r, g0.nil, ok.sm.free hf, upd_same, .nil, ok.up0 g0, rfl, by omega, by simp⟩, ?_⟩
    rintro n σ' H' ⟨rfl, I', acc, vs, r', gg, hI, hf', a2, ok', el, hn, hal⟩
    refine ⟨_, rfl, _, _, _, rfl, ok'.hs, (by kernel_rfl), _, rfl, _, _, _, rfl, ok'.hs, (by kernel_rfl), c, I', r', rfl, ok', _, rfl, c, I', r', _, d, rfl, ok', fun I1 H1 g1 => ⟨_, rfl, ?_⟩⟩
    have ok1 := ok'.up0 g1
    have hf1 := g1.at hf' (by simp)
    have hI1 := g1.out hI hf'
    have gg1 := gg.trans g1.nil
    refine ifB (fun hm => ?_) (fun hm => ?_)
    · have hp : r'.pos < c.ws.length := here_lt fun z => by
        have := may_sts hm
        rw [z] at this
        exact empty_sts this
      cases n with
      | zero => omega
      | succ n =>
        rw [loopR, if_pos hm] at el
        refine ⟨fun σ' H' => σ' = [some (V.ref c.s), some (V.int (d : Int)), some (V.ref f)] ∧ ∃ I' acc vs r', Gr (f :: rms c) I H I' H' ∧ I' f = none ∧ H' f = some (.lst vs) ∧ All2 (iSt I') vs acc ∧ RdOk K c I' H' r' ∧
          stmtsR c.ws c.ar d (chAt c.ws c.ar k) r = loopR c.ws c.ar d (chAt c.ws c.ar k) n acc r' ∧ c.ws.length < n + r'.pos ∧ acc.length + n ≤ c.ws.length + 1, fun σ' H' h => ⟨n, by omega, h⟩, ?_⟩
        refine ⟨_, rfl, .inl ⟨rfl, _, SqL.of hf1⟩, _, rfl, _, _, _, rfl, ok1.hs, (by kernel_rfl), _, rfl, c, I1, r', d, rfl, ok1, hd, hm, OutR.of (fun s r2 es I2 H2 v2 g2 ok2 rv => ?_) (fun m em => ?_)⟩
        · have nf : f ∉ rms c := by simp [nfs, nfv]
          have hf2 := g2.at hf1 nf
          have hI2 := g2.out hI1 hf1
          have a3 := (a2.up (g1.ii.trans g2.ii)).snoc rv
          have wn := ok.wn
          have lv := a2.len
          refine ⟨f, vs, v2, rfl, rfl, hf2, (by have : sizeLine = 16777216 := rfl
                                                omega), ?_⟩
          have g3 : Gr (f :: rms c) I2 H2 I2 (upd H2 f (.lst (vs ++ [v2]))) := Gr.mut g2.ih hI2 (by simp)
          have hpos := (stmtR_fwd (chAt_fwd k) es).1
          have : r'.pos < r'.go.pos := Nat.lt_succ_self _
          refine ⟨rfl, I2, acc ++ [s], vs ++ [v2], r2, (gg1.trans (g2.mono fun _ z => List.mem_cons_of_mem _ z)).trans g3, hI2, upd_same, a3, ok2.up (Gr.mut (ms := [f]) g2.ih hI2 (by simp)) (by simpa using nfs.symm) (by simpa using nfv.symm), ?_, by omega, by rw [List.length_append]; show acc.length + 1 + n ≤ _; omega⟩
          rw [el, es]; rfl
        · have kb := kk.bad (n := m) (by rw [el, em]; rfl)
          exact fun I2 H2 dd g e => kb I2 H2 dd ((gg1.trans (g.mono fun _ z => List.mem_cons_of_mem _ z)).drop hf) e
    · refine ⟨_, rfl, ?_⟩
      rw [loop_stop hm] at el
      have nf1 : ∀ a ∈ rms c, a ≠ f := by
        intro a ha e
        subst e
        simp [nfs, nfv] at ha
      have g9 := gg1.frz ok.sm hf hf1
      have s9 : Same I1 (upd I1 f (.lst vs)) := sNew hI1
      have ok9 : RdOk K c (upd I1 f (.lst vs)) H1 r' := by
        obtain ⟨us, hv, b2⟩ := ok1.hv
        exact ⟨g9.ih, by rw [upd_ne nfs.symm]; exact ok1.is, by rw [upd_ne nfv.symm]; exact ok1.iv, ok1.ne, ok1.hs, ⟨us, hv, b2.up s9⟩, s9 _ _ ok1.hw, ok1.nm, ok1.vn, ok1.wn, ok1.wz⟩
      exact kk.ok el _ _ _ g9 ok9 ⟨f, vs, rfl, upd_same, (a2.up (g1.ii.trans s9))⟩
end
end K

set_option Elab.async false
set_option linter.all false
set_option maxRecDepth 100000
set_option maxHeartbeats 4000000
namespace K
open PySem PySem.Spec PyProof.Rows L2 Tk Hd Rd
section
variable {P : Program} {w : World} {K : PySem.W.Frag} {mg : Str → Option Value} {base : Heap}
theorem len_iff {n : Nat} : decide (V.int (n : Int) = V.int 0) = decide (n = 0) := by
  by_cases h : n = 0
  · subst h; rfl
  · rw [decide_eq_false h, decide_eq_false (fun z => h (by injection z with z; omega))]
theorem sc_Readerchoice : FnScope ["self", "depth", "asked", "chosen", "others", "word"] ["self", "depth"] (defScope s_Reader__choice) := ⟨rfl, rfl, rfl, by decide +kernel, rfl, by decide +kernel, by decide +kernel⟩
theorem ok_choice_step (D : Dt K mg) (k : Nat) (H_Reader__statements : Has P w K mg base (3 * k + 12) (He.ma K (He.ga K "Reader") "_statements") ["self", "depth"] [] (spStmts K k)) : Has P w K mg base (3 * k + 13) (He.ma K (He.ga K "Reader") "_choice") ["self", "depth"] [] (spChoice K k) := by
  obtain ⟨fd, F⟩ := fd_Reader__choice D
  have H_Reader__expression := ok_expr4 (P := P) (w := w) (base := base) D
  have H_Reader__may_begin := ok_may_begin (P := P) (w := w) (base := base) D
  have H_Reader__here := ok_here (P := P) (w := w) (base := base) D
  have H_BadText_init := ok_bt (P := P) (w := w) (base := base) D
  have H_Reader__take := ok_take (P := P) (w := w) (base := base) D
  refine hasX F (F.bindsN fun _ _ _ _ _ _ us hl => match us, hl with | [_, _], _ => rfl) sc_Readerchoice (fun vs H Q E h => ?_) (fun cdv A outer s H vs Q E hr h => ?_)
  · obtain ⟨c, I, r, d, rfl, _⟩ := h; rfl
  · obtain ⟨c, I, r, d, rfl, ok, hd, kk⟩ := h
    refine ⟨_, (pss_cons (ps_set (i := 2) sc_Readerchoice.nd rfl (Or.inl rfl) (pe_methH (pv 0) (cls_Reader (K := K) D) (me_Reader__expression (K := K) D) H_Reader__expression (hr.mono (by omega)) (L2.passes_call (L2.takes_of rfl rfl rfl rfl) fun _ _ _ _ h => h) (pa_cons pe_int pa_nil)))
      (pss_cons (ps_set (i := 3) sc_Readerchoice.nd rfl (Or.inl rfl) (pe_methH (pv 0) (cls_Reader (K := K) D) (me_Reader__statements (K := K) D) H_Reader__statements (hr.mono (by omega)) (L2.passes_call (L2.takes_of rfl rfl rfl rfl) fun _ _ _ _ h => h) (pa_cons (pv 1) pa_nil)))
      (pss_cons (ps_set (i := 4) sc_Readerchoice.nd rfl (Or.inl rfl) (pe_lst pa_nil))
      (pss_cons (ps_if (PW.pt (pw_and (pt_cmpR op_eq (pe_methH0 (pv 0) (cls_Reader (K := K) D) (me_Reader__here (K := K) D) H_Reader__here (hr.mono (by omega)) passL) pe_str (nomark _)) (pw_and1 (pt_val (pe_callB (cr_anyK K rfl) rfl (free_any D) (by decide +kernel) (pa_cons (pe_lc (own := [("word", 5)]) (g := gName 5) rfl sc_Readerchoice.nd (pi_tupK K (pe_glob (v := .ref (He.ga K "STATEMENTS")) rfl (glo_STATEMENTS D) rfl)) (blkOk_by (own := [("word", 5)]) (N := ["self", "depth", "asked", "chosen", "others", "word"]) (by kernel_rfl)) (fun _ _ _ _ _ => (pg_name (i := 5) sc_Readerchoice.nd rfl (Or.inl rfl))) (fun _ _ _ _ _ => pts_nil) (fun _ _ _ _ _ => (pe_methH (pv 0) (cls_Reader (K := K) D) (me_Reader__may_begin (K := K) D) H_Reader__may_begin (hr.mono (by omega)) passL (pa_cons (pv 5) (pa_cons (pv 1) pa_nil))))) pa_nil))))))
      (pss_cons (ps_fldaug (pv 0) pe_int in_add)
      (pss_cons (ps_set (i := 4) sc_Readerchoice.nd rfl (Or.inl rfl) (pe_methH (pv 0) (cls_Reader (K := K) D) (me_Reader__statements (K := K) D) H_Reader__statements (hr.mono (by omega)) (L2.passes_call (L2.takes_of rfl rfl rfl rfl) fun _ _ _ _ h => h) (pa_cons (pv 1) pa_nil)))
      (pss_one (ps_if (pt_cmpR op_eq (pe_callB (call_lenK K) rfl (free_len D) PySem.boot_len (pa_cons (pv 4) pa_nil)) pe_int (nomark _))
      (pss_one (ps_raise rfl (takes_of rfl rfl rfl rfl) (pmk_oexH (oex_BadText (K := K) D) H_BadText_init (hr.mono (by omega)) rfl (glo_BadText D) (pa_cons (pe_fldK K (pv 0) rfl) pa_nil))))
      pss_nil))))
      pss_nil)
      (pss_cons (ps_expr (pe_methH (pv 0) (cls_Reader (K := K) D) (me_Reader__take (K := K) D) H_Reader__take (hr.mono (by omega)) (L2.passes_call (L2.takes_of rfl rfl rfl rfl) fun _ _ _ _ h => h) (pa_cons pe_str pa_nil)))
      (pss_one (ps_ret (pe_tup (pa_cons pe_str (pa_cons (pv 2) (pa_cons (pv 3) (pa_cons (pv 4) pa_nil)))))))))))), ?_⟩
    have hk : 4 - k = d := by omega
    rw [choiceR_eq, hk] at kk
    refine ⟨_, rfl, _, _, _, rfl, ok.hs, (by kernel_rfl), c, I, r, 1, rfl, ok, rfl, kk.bind fun e r1 I1 H1 v1 ee g1 ok1 rv1 k1 => ?_⟩
    refine ⟨_, rfl, _, _, _, rfl, ok1.hs, (by kernel_rfl), _, rfl, c, I1, r1, d, rfl, ok1, hd, k1.bind fun s r2 I2 H2 v2 es g2 ok2 rv2 k2 => ?_⟩
    refine ⟨by show 0 ≤ sizeLine; decide, fun o ho => ?_⟩
    have g3 := Gr.new (ms := []) (o := .lst []) g2.ih ho
    have ok3 := ok2.up0 g3
    have rv3 : iL iSt (upd I2 o (.lst [])) (.ref o) [] := ⟨o, [], rfl, upd_same, .nil⟩
    replace k2 := k2.up g3.nil
    (try dsimp only)
    refine seq_cut (fun σ' H' => ∃ I' v' t r3, σ' = [some (V.ref c.s), some (V.int (d : Int)), some v1, some v2, some v', none] ∧ Gr (rms c) (upd I2 o (.lst [])) (upd H2 o (.lst [])) I' H' ∧ RdOk K c I' H' r3 ∧ iL iSt I' v' t ∧ OutR K c iSt I' H' ((takeR c.ws "end" r3).bind fun _ r4 => .ok (.ite e s t) r4) Q E) (fun nx q => ?_) ?_
    · refine ⟨_, rfl, _, _, _, rfl, ok3.hs, (by kernel_rfl), c, _, r2, rfl, ok3, rfl, _, rfl, ?_⟩
      by_cases q1 : here c.ws r2 = ("else" : Str)
      rotate_left
      · rw [if_neg (fun z => q1 z.1)] at k2
        exact ifF (by simpa using q1) (q _ _ ⟨_, _, [], r2, rfl, (Gr.refl g3.ih), ok3, rv3, k2⟩)
      refine ifT (by simpa using q1) ?_
      obtain ⟨I4, s4, s5, st⟩ := ok3.still
      have hsts : ∀ H, SqT K H (He.ga K "STATEMENTS") (sts.map V.str) := fun H => tup_STATEMENTS D H
      refine ⟨He.ga K "STATEMENTS", rfl, ⟨_, hsts _⟩, fun l hD => lc_bool (K := K) (R := iS) (p := fun x => mayR c.ar x d r2 = true) (wk_tupS (I := I4) hsts) (All2.ofStrs sts) s5 hD (by decide) (fun i x I5 H5 Nx Qk hx rx s6 s7 k5 => ?_) (fun I5 H5 bs g5 hq _ e2 => ?_)⟩
      · have ok5 := st H5 (s6.trans s7)
        have rx : gv (sts.map V.str) i = .str x := rx
        rw [rx]
        refine ⟨rfl, _, rfl, _, _, _, rfl, ok5.hs, (by kernel_rfl), _, rfl, _, rfl, c, _, r2, x, d, rfl, ok5, fun I6 H6 g6 => ?_⟩
        have e : mayR c.ar x d r2 = decide (mayR c.ar x d r2 = true) := by cases mayR c.ar x d r2 <;> rfl
        rw [e]
        exact k5 _ _ (g6.any s7)
      · have g6 := g5.low s4
        have ok6 := ok3.up0 g6
        have ea : bs.any id = sts.any (fun x => mayR c.ar x d r2) := by
          rw [e2, Bool.eq_iff_iff, decide_eq_true_iff, List.any_eq_true]
        refine ⟨l, bs, rfl, hq, _, rfl, ?_⟩
        rw [ea]
        refine ifB (fun q2 => ?_) (fun q2 => ?_)
        · rw [if_pos ⟨q1, q2⟩] at k2
          replace k2 := k2.up g6.nil
          refine ⟨_, rfl, _, _, _, _, _, rfl, ok6.hs, cls_Reader D, na_Reader_at D, lk_at, _, _, rfl, rfl, _, _, ok6.hs, rdF_len, ?_⟩
          rw [cast1, pf_at]
          obtain ⟨ok7, g7⟩ := ok6.put (r' := r2.go) rfl
          refine ⟨_, rfl, _, _, _, rfl, ok7.hs, (by kernel_rfl), _, rfl, c, _, r2.go, d, rfl, ok7, hd, (k2.up g7).bind fun t r3 I8 H8 v8 et g8 ok8 rv8 k8 => ?_⟩
          obtain ⟨a8, vs8, rfl, ha8, a28⟩ := id rv8
          have l8 := a28.len
          refine ⟨_, rfl, _, _, rfl, .inl ⟨_, SqL.of (g8.ih _ _ ha8), rfl⟩, rfl, _, rfl, ?_⟩
          rw [l8, len_iff]
          refine ifD (fun q3 => ?_) (fun q3 => ?_)
          · rw [if_pos q3] at k8
            exact ⟨_, rfl, _, _, _, _, _, rfl, ok8.hs, cls_Reader D, na_Reader_at D, lk_at, (by show 1 ≤ 1000; decide), fun e he => ⟨e, _, rfl, upd_same, fun d hd ne => ⟨rfl, d, [("at", .int (r3.pos : Int))], upd_same, by rw [upd_ne ne]; exact upd_same, by rw [upd_ne ne] at hd; exact hd, raised_at (Gr.refl ok8.sm) k8 e he d hd ne⟩⟩⟩
          · rw [if_neg q3] at k8
            exact q _ _ ⟨_, _, t, r3, rfl, (g6.nil.trans g7).trans g8, ok8, rv8, k8⟩
        · rw [if_neg (fun z => by rw [q2] at z; cases z.2)] at k2
          exact q _ _ ⟨_, _, [], r2, rfl, g6.nil, ok6, up g6.ii rv3, k2.up g6.nil⟩
    rintro σ' H' ⟨I', v', t, r3, rfl, gg, ok', rv', k'⟩
    (try dsimp only)
    refine ⟨_, rfl, _, _, _, rfl, ok'.hs, (by kernel_rfl), c, I', r3, "end", rfl, ok', by decide +kernel, k'.bind fun u r4 I5 H5 v5 eu g5 ok5 _ k5 => ?_⟩
    refine ⟨_, rfl, _, rfl, _, rfl, (by show 4 ≤ sizeLine; decide), fun p hp => ?_⟩
    have g6 := Gr.new (ms := []) (o := .tup [.str "if", v1, v2, v']) g5.ih hp
    have toD : ∀ {H : Hp} {v : V} {l : List Stm}, iL iSt H v l → dR H v (.lst (blockDa .lst l)) := fun {H v l} h => by
      obtain ⟨a, vs, rfl, ha, a2⟩ := h
      rw [blockDa_map]
      exact dR_lst ha (all_dRs (All2.mapR a2))
    exact k5.ok rfl _ _ _ g6.nil (ok5.up0 g6) (dR_tup upd_same (dRs_cons dR_str (dRs_cons (up (R := iEx) (g2.ii.trans (g3.ii.trans (gg.ii.trans (g5.ii.trans g6.ii)))) rv1) (dRs_cons (toD (up (g3.ii.trans (gg.ii.trans (g5.ii.trans g6.ii))) rv2)) (dRs_cons (toD (up (g5.ii.trans g6.ii) rv')) dRs_nil)))))
theorem ok_ch (D : Dt K mg) : ∀ k, Has P w K mg base (3 * k + 10) (He.ma K (He.ga K "Reader") "_choice") ["self", "depth"] [] (spCh K k)
  | 0 => by
    obtain ⟨fd, F⟩ := fd_Reader__choice D
    exact has_never F (F.bindsN fun _ _ _ _ _ _ us hl => match us, hl with | [_, _], _ => rfl)
  | k + 1 => ok_choice_step D k (ok_stmts_step D k (ok_stmt_step D k (ok_ch D k)))
theorem ok_stmts4 (D : Dt K mg) : Has P w K mg base 24 (He.ma K (He.ga K "Reader") "_statements") ["self", "depth"] [] (spStmts K 4) := ok_stmts_step D 4 (ok_stmt_step D 4 (ok_ch D 4))
end
end K

set_option Elab.async false
set_option linter.all false
set_option maxRecDepth 100000
set_option maxHeartbeats 4000000
/-! What is read is right, and its words are those that were read. -/
namespace Rd
open PySem PyProof.Rows TL
section
variable {ws : List Str} {ar : Bool}
theorem here_lt' {r : RS} (h : here ws r ≠ Str.empty) : r.pos < ws.length := by
  by_cases q : r.pos < ws.length
  · exact q
  · exact absurd (by unfold here; rw [List.getD_eq_getElem?_getD, List.getElem?_eq_none (by omega)]; rfl) h
theorem drop_here {r : RS} (h : here ws r ≠ Str.empty) : ws.drop r.pos = here ws r :: ws.drop r.go.pos := by
  have hl := here_lt' h
  rw [List.drop_eq_getElem_cons hl]
  congr 1
  unfold here; rw [List.getD_eq_getElem?_getD, List.getElem?_eq_getElem hl]; rfl
theorem dec_ne (n : Nat) : dec n ≠ Str.empty := fun z => by
  have := congrArg tl z
  rw [tl_dec] at this
  exact numL_ne n this
theorem name_ne {x : Str} (h : isName x = true) : x ≠ Str.empty := fun z => by subst z; exact (name_facts h).2.2.1 rfl
theorem hasV_name {r : RS} (hn : NmOk r.vars) {x : Str} (h : hasV r x = true) : isName x = true := by
  obtain ⟨p, hp, rfl⟩ := List.mem_map.mp (hasV_iff.mp h)
  exact hn p hp
theorem leaf_sound {r : RS} (hn : NmOk r.vars) {x : Str} {e : Ex} (h : leafOf r x = some e) (k : Nat) : okEx (r.vars.map (·.1)) r.pressed k e ∧ e.words = [x] ∧ x ≠ Str.empty := by
  unfold leafOf at h
  split at h
  · rename_i n q
    cases h
    obtain ⟨rfl, hm⟩ := numOf_some.mp q
    exact ⟨by cases k <;> exact hm, rfl, dec_ne n⟩
  · split at h
    · rename_i c
      cases h
      exact ⟨by cases k <;> exact hasV_iff.mp c, rfl, name_ne (hasV_name hn c)⟩
    · split at h
      · rename_i c
        cases h
        exact ⟨by cases k <;> exact c.2, by rw [c.1]; rfl, by rw [c.1]; decide +kernel⟩
      · cases h
/-- what was read of words -/
structure Rdn (ws : List Str) (r r1 : RS) (l : List Str) : Prop where
  pos : r1.pos = r.pos + l.length
  dr : ws.drop r.pos = l ++ ws.drop r1.pos
theorem Rdn.nil (r r1 : RS) (h : r1.pos = r.pos) : Rdn ws r r1 [] := ⟨by simpa using h, by rw [h]; rfl⟩
theorem Rdn.one {r r1 : RS} {x : Str} (h : here ws r = x) (hx : x ≠ Str.empty) (hp : r1.pos = r.pos + 1) : Rdn ws r r1 [x] :=
  ⟨hp, by rw [drop_here (by rw [h]; exact hx), h, hp]; rfl⟩
theorem Rdn.app {r r1 r2 : RS} {l m : List Str} (a : Rdn ws r r1 l) (b : Rdn ws r1 r2 m) : Rdn ws r r2 (l ++ m) :=
  ⟨by rw [b.pos, a.pos, List.length_append]; omega, by rw [a.dr, b.dr, List.append_assoc]⟩
theorem ops_ne {x : Str} (h : x ∈ ops) : x ≠ Str.empty := fun z => by subst z; revert h; decide +kernel
theorem ex_sound : ∀ {k : Nat} {r r1 : RS} {e : Ex}, NmOk r.vars → exR ws k r = .ok e r1 → okEx (r.vars.map (·.1)) r.pressed k e ∧ Rdn ws r r1 e.words := by
  have leaf : ∀ (k : Nat) {r r1 : RS} {e : Ex}, NmOk r.vars → leafR ws r = .ok e r1 → okEx (r.vars.map (·.1)) r.pressed k e ∧ Rdn ws r r1 e.words := fun k {r r1 e} hn h => by
    obtain ⟨rfl, h2⟩ := leafR_pos h
    obtain ⟨a, b, c⟩ := leaf_sound hn h2 k
    exact ⟨a, by rw [b]; exact Rdn.one rfl c rfl⟩
  intro k
  induction k with
  | zero => intro r r1 e hn h; exact leaf 0 hn h
  | succ k ih =>
    intro r r1 e hn h
    rw [exR] at h
    split at h
    · rename_i c
      obtain ⟨a, r2, h1, h⟩ := bind_ok h
      obtain ⟨b, r3, h2, h⟩ := bind_ok h
      cases h
      obtain ⟨a1, a2⟩ := ih (r := r.go) hn h1
      obtain ⟨_, v1, _, _, v2⟩ := exR_pos h1
      obtain ⟨b1, b2⟩ := ih (r := r2) (by rw [v1]; exact hn) h2
      rw [v1, v2] at b1
      refine ⟨⟨c, a1, b1⟩, ?_⟩
      have := ((Rdn.one (ws := ws) (r := r) (r1 := r.go) rfl (ops_ne c) rfl).app a2).app b2
      rw [show (Ex.op (here ws r) a b).words = [here ws r] ++ a.words ++ b.words from by simp [Ex.words]]
      exact this
    · exact leaf (k + 1) hn h
/-- statements that were read -/
structure StOk (ws : List Str) (ar : Bool) (k : Nat) (r r1 : RS) (s : Stm) : Prop where
  ok : okSt (r.vars.map (·.1)) r.pressed ar k s
  rd : Rdn ws r r1 s.words
  nd : r1.draws = r.draws + Rd.nd s
  nu : r1.uses = r.uses + Rd.nu s
  dl : r1.draws ≤ 3
  ul : r1.uses ≤ 24
  vs : r1.vars = r.vars
  pr : r1.pressed = r.pressed
structure BlOk (ws : List Str) (ar : Bool) (k : Nat) (r r1 : RS) (l : List Stm) : Prop where
  ok : okBl (r.vars.map (·.1)) r.pressed ar k l
  rd : Rdn ws r r1 (blockWords l)
  nd : r1.draws = r.draws + Rd.nds l
  nu : r1.uses = r.uses + Rd.nus l
  dl : r1.draws ≤ 3
  ul : r1.uses ≤ 24
  vs : r1.vars = r.vars
  pr : r1.pressed = r.pressed
theorem stmt_sound {k : Nat} (hk : k ≤ 4) (hc : ∀ (r : RS) (r1 : RS) (s : Stm), NmOk r.vars → r.draws ≤ 3 → r.uses ≤ 24 → chAt ws ar k r = .ok s r1 →
      ∃ e s1 s2, s = .ite e s1 s2 ∧ 0 < k ∧ okEx (r.vars.map (·.1)) r.pressed 4 e ∧ okBl (r.vars.map (·.1)) r.pressed ar (k - 1) s1 ∧ okBl (r.vars.map (·.1)) r.pressed ar (k - 1) s2 ∧
        Rdn ws r r1 (e.words ++ (blockWords s1 ++ ((if s2.isEmpty = true then [] else wd "else" :: blockWords s2) ++ [wd "end"]))) ∧ r1.draws = r.draws + (nds s1 + nds s2) ∧ r1.uses = r.uses + (nus s1 + nus s2) ∧ r1.draws ≤ 3 ∧ r1.uses ≤ 24 ∧ r1.vars = r.vars ∧ r1.pressed = r.pressed)
    {r r1 : RS} {s : Stm} (hn : NmOk r.vars) (h3 : r.draws ≤ 3) (h24 : r.uses ≤ 24) (hm : mayR ar (here ws r) (4 - k) r = true) (h : stmtR ws (chAt ws ar k) r = .ok s r1) : StOk ws ar k r r1 s := by
  have hs := may_sts hm
  have hne : here ws r ≠ Str.empty := fun z => by rw [z] at hs; exact empty_sts hs
  have w1 : Rdn ws r r.go [here ws r] := Rdn.one rfl hne rfl
  unfold stmtR at h
  split at h
  · rename_i q
    obtain ⟨e, s1, s2, rfl, hk0, a1, a2, a3, a4, a5, a6, a7, a8, a9, a10⟩ := hc r.go r1 s hn h3 h24 h
    have w := w1.app a4
    rw [q] at w
    exact ⟨⟨hk0, a1, a2, a3⟩, w, a5, a6, a7, a8, a9, a10⟩
  · split at h
    · rename_i q0 q
      obtain ⟨e, r2, h1, h⟩ := bind_ok h
      cases h
      obtain ⟨a1, a2⟩ := ex_sound (r := r.go) hn h1
      obtain ⟨_, v1, v2, v3, v4⟩ := exR_pos h1
      have w := w1.app a2
      rw [q] at w hm
      rw [show mayR ar (Str.ofString "say") (4 - k) r = r.pressed from may_say] at hm
      exact ⟨⟨hm, a1⟩, w, v2, v3, by rw [v2]; exact h3, by rw [v3]; exact h24, v1, v4⟩
    · rename_i q0 q1
      obtain ⟨x, r2, h1, h⟩ := bind_ok h
      obtain ⟨rfl, hx, hv⟩ := varR_pos h1
      have hxn : isName x = true := by rw [hx]; exact hasV_name (r := r.go) hn hv
      have hxv : x ∈ r.vars.map (·.1) := by rw [hx]; exact hasV_iff.mp hv
      have w2 : Rdn ws r.go r.go.go [x] := Rdn.one hx.symm (name_ne hxn) rfl
      split at h
      · rename_i q
        obtain ⟨n, r3, h2, h⟩ := bind_ok h
        cases h
        obtain ⟨rfl, hq, hlo⟩ := numR_pos h2
        obtain ⟨hd, hhi⟩ := numOf_some.mp hq
        have w3 : Rdn ws r.go.go ({ r.go.go with draws := r.go.go.draws + 1 } : RS).go [dec n] := Rdn.one hd (dec_ne n) rfl
        have w := (w1.app w2).app w3
        rw [q] at w hm
        rw [show mayR ar (Str.ofString "draw") (4 - k) r = _ from may_draw] at hm
        have hm1 := of_decide_eq_true (Bool.and_eq_true_iff.mp hm).1
        exact ⟨⟨hxv, hlo, hhi⟩, w, rfl, rfl, by show r.draws + 1 ≤ 3; omega, h24, rfl, rfl⟩
      · split at h
        · rename_i q2 q
          obtain ⟨e, r3, h2, h⟩ := bind_ok h
          cases h
          obtain ⟨a1, a2⟩ := ex_sound (r := { r.go.go with uses := r.go.go.uses + 1 }) hn h2
          obtain ⟨_, v1, v2, v3, v4⟩ := exR_pos h2
          have a2' : Rdn ws r.go.go r1 e.words := ⟨a2.pos, a2.dr⟩
          have w := (w1.app w2).app a2'
          rw [q] at w hm
          rw [show mayR ar (Str.ofString "use") (4 - k) r = _ from may_use] at hm
          obtain ⟨hm1, hm2⟩ := Bool.and_eq_true_iff.mp hm
          have hm3 := of_decide_eq_true (Bool.and_eq_true_iff.mp hm2).1
          exact ⟨⟨hm1, hxv, a1⟩, w, v2, v3, by rw [v2]; exact h3, by rw [v3]; show r.uses + 1 ≤ 24; omega, v1, v4⟩
        · rename_i q2 q3
          obtain ⟨e, r3, h2, h⟩ := bind_ok h
          cases h
          obtain ⟨a1, a2⟩ := ex_sound (r := r.go.go) hn h2
          obtain ⟨_, v1, v2, v3, v4⟩ := exR_pos h2
          have w := (w1.app w2).app a2
          have q : here ws r = wd "set" := by
            simp only [sts, List.mem_cons, List.not_mem_nil, or_false] at hs
            rcases hs with h | h | h | h | h
            · exact h
            · exact absurd h q2
            · exact absurd h q3
            · exact absurd h q1
            · exact absurd h q0
          rw [q] at w
          exact ⟨⟨hxv, a1⟩, w, v2, v3, by rw [v2]; exact h3, by rw [v3]; exact h24, v1, v4⟩
theorem loop_sound {k : Nat} (hs : ∀ (r r1 : RS) (s : Stm), NmOk r.vars → r.draws ≤ 3 → r.uses ≤ 24 → mayR ar (here ws r) (4 - k) r = true → stmtR ws (chAt ws ar k) r = .ok s r1 → StOk ws ar k r r1 s) :
    ∀ {n : Nat} {acc l : List Stm} {r r1 : RS}, NmOk r.vars → r.draws ≤ 3 → r.uses ≤ 24 → loopR ws ar (4 - k) (chAt ws ar k) n acc r = .ok l r1 → ∃ b, l = acc ++ b ∧ BlOk ws ar k r r1 b
  | 0, acc, l, r, r1, hn, h3, h24, h => by
    have h : Res.ok acc r = Res.ok l r1 := h
    cases h
    exact ⟨[], by simp, trivial, Rdn.nil _ _ rfl, rfl, rfl, h3, h24, rfl, rfl⟩
  | n + 1, acc, l, r, r1, hn, h3, h24, h => by
    rw [loopR] at h
    split at h
    · rename_i hm
      obtain ⟨s, r2, h1, h⟩ := bind_ok h
      have S := hs r r2 s hn h3 h24 hm h1
      obtain ⟨b, rfl, B⟩ := loop_sound hs (by rw [S.vs]; exact hn) S.dl S.ul h
      have ob := B.ok
      rw [S.vs, S.pr] at ob
      exact ⟨s :: b, by simp, ⟨S.ok, ob⟩, S.rd.app B.rd, by rw [B.nd, S.nd, Nat.add_assoc]; rfl, by rw [B.nu, S.nu, Nat.add_assoc]; rfl, B.dl, B.ul, B.vs.trans S.vs, B.pr.trans S.pr⟩
    · cases h
      exact ⟨[], by simp, trivial, Rdn.nil _ _ rfl, rfl, rfl, h3, h24, rfl, rfl⟩
theorem take_sound {r r1 : RS} {x : Str} {u : Unit} (hx : x ≠ Str.empty) (h : takeR ws x r = .ok u r1) : r1 = r.go ∧ Rdn ws r r1 [x] := by
  unfold takeR at h
  split at h
  · rename_i c; cases h; exact ⟨rfl, Rdn.one c hx rfl⟩
  · cases h
theorem ch_sound : ∀ (k : Nat), k ≤ 4 → ∀ (r r1 : RS) (s : Stm), NmOk r.vars → r.draws ≤ 3 → r.uses ≤ 24 → chAt ws ar k r = .ok s r1 →
      ∃ e s1 s2, s = .ite e s1 s2 ∧ 0 < k ∧ okEx (r.vars.map (·.1)) r.pressed 4 e ∧ okBl (r.vars.map (·.1)) r.pressed ar (k - 1) s1 ∧ okBl (r.vars.map (·.1)) r.pressed ar (k - 1) s2 ∧
        Rdn ws r r1 (e.words ++ (blockWords s1 ++ ((if s2.isEmpty = true then [] else wd "else" :: blockWords s2) ++ [wd "end"]))) ∧ r1.draws = r.draws + (nds s1 + nds s2) ∧ r1.uses = r.uses + (nus s1 + nus s2) ∧ r1.draws ≤ 3 ∧ r1.uses ≤ 24 ∧ r1.vars = r.vars ∧ r1.pressed = r.pressed
  | 0, _, r, r1, s, _, _, _, h => by cases (show Res.bad r.pos = Res.ok s r1 from h)
  | k + 1, hk, r, r1, s, hn, h3, h24, h => by
    have hst := fun (r r1 : RS) (s : Stm) (a : NmOk r.vars) (b : r.draws ≤ 3) (c : r.uses ≤ 24) (m : mayR ar (here ws r) (4 - k) r = true) (e : stmtR ws (chAt ws ar k) r = .ok s r1) => stmt_sound (ws := ws) (ar := ar) (k := k) (by omega) (ch_sound k (by omega)) a b c m e
    have h : choiceR ws ar k r = .ok s r1 := h
    rw [choiceR_eq] at h
    unfold choice1 stmtsR at h
    obtain ⟨e, r2, h1, h⟩ := bind_ok h
    obtain ⟨l, r3, h2, h⟩ := bind_ok h
    obtain ⟨a1, a2⟩ := ex_sound hn h1
    obtain ⟨_, v1, v2, v3, v4⟩ := exR_pos h1
    obtain ⟨s1, e1, B⟩ := loop_sound hst (r := r2) (by rw [v1]; exact hn) (by rw [v2]; exact h3) (by rw [v3]; exact h24) h2
    have e1 : l = s1 := by simpa using e1
    subst e1
    have ob := B.ok
    rw [v1, v4] at ob
    split at h
    · rename_i q
      obtain ⟨t, r4, h4, h⟩ := bind_ok h
      obtain ⟨s2, e2, B2⟩ := loop_sound hst (r := r3.go) (by show NmOk r3.vars; rw [B.vs, v1]; exact hn) B.dl B.ul h4
      have e2 : t = s2 := by simpa using e2
      subst e2
      split at h
      · cases h
      · rename_i ht
        obtain ⟨u, r5, h5, h⟩ := bind_ok h
        cases h
        obtain ⟨rfl, w5⟩ := take_sound (by decide +kernel) h5
        have we : Rdn ws r3 r3.go [wd "else"] := Rdn.one q.1 (by decide +kernel) rfl
        have ob2 := B2.ok
        rw [show r3.go.vars = r.vars from B.vs.trans v1, show r3.go.pressed = r.pressed from B.pr.trans v4] at ob2
        have w := a2.app (B.rd.app ((we.app B2.rd).app w5))
        have hte : t.isEmpty = false := by cases t with
          | nil => exact absurd rfl ht
          | cons a b => rfl
        refine ⟨e, l, t, rfl, Nat.succ_pos _, a1, ob, ob2, ?_, ?_, ?_, B2.dl, B2.ul, ?_, ?_⟩
        · rw [hte, if_neg Bool.false_ne_true]; exact w
        · show r4.draws = _; rw [B2.nd, show r3.go.draws = r3.draws from rfl, B.nd, v2]; omega
        · show r4.uses = _; rw [B2.nu, show r3.go.uses = r3.uses from rfl, B.nu, v3]; omega
        · exact B2.vs.trans (B.vs.trans v1)
        · exact B2.pr.trans (B.pr.trans v4)
    · obtain ⟨u, r5, h5, h⟩ := bind_ok h
      cases h
      obtain ⟨rfl, w5⟩ := take_sound (by decide +kernel) h5
      refine ⟨e, l, [], rfl, Nat.succ_pos _, a1, ob, trivial, a2.app (B.rd.app w5), ?_, ?_, B.dl, B.ul, B.vs.trans v1, B.pr.trans v4⟩
      · show r3.draws = _; rw [B.nd, v2]; rfl
      · show r3.uses = _; rw [B.nu, v3]; rfl
theorem block_sound {k : Nat} (hk : k ≤ 4) {r r1 : RS} {l : List Stm} (hn : NmOk r.vars) (h3 : r.draws ≤ 3) (h24 : r.uses ≤ 24) (h : blockR ws ar k r = .ok l r1) : BlOk ws ar k r r1 l := by
  rw [blockR_eq] at h
  obtain ⟨b, e, B⟩ := loop_sound (fun r r1 s a b c m e => stmt_sound hk (ch_sound k hk) a b c m e) hn h3 h24 h
  have e : l = b := by simpa using e
  subst e
  exact B
theorem newR_pos {r r1 : RS} {x : Str} (h : newR ws r = .ok x r1) : r1 = r.go ∧ x = here ws r ∧ isName x = true ∧ x ∉ r.vars.map (·.1) := by
  unfold newR at h; split at h
  · rename_i c; cases h
    refine ⟨rfl, rfl, c.1, fun z => ?_⟩
    have := hasV_iff.mpr z
    rw [c.2] at this; cases this
  · cases h
theorem vars_sound : ∀ {n : Nat} {r r1 : RS} {u : Unit}, varsR ws n r = .ok u r1 → ∃ l, r1 = { r with pos := r1.pos, vars := r.vars ++ l } ∧ okVars (r.vars.map (·.1)) l ∧ Rdn ws r r1 (varWords l) ∧ l.length ≤ n ∧ (here ws r1 ≠ "var" ∨ l.length = n)
  | 0, r, r1, u, h => by
    have h : Res.ok () r = Res.ok u r1 := h
    cases h; exact ⟨[], by simp, trivial, Rdn.nil _ _ rfl, Nat.le_refl _, .inr rfl⟩
  | n + 1, r, r1, u, h => by
    rw [varsR] at h
    split at h
    · rename_i q
      obtain ⟨x, r2, h1, h⟩ := bind_ok h
      obtain ⟨m, r3, h2, h⟩ := bind_ok h
      obtain ⟨rfl, hx, hxn, hxv⟩ := newR_pos h1
      obtain ⟨rfl, hq, hlo⟩ := numR_pos h2
      obtain ⟨hd, hhi⟩ := numOf_some.mp hq
      obtain ⟨l, e, ol, w, hl, hs⟩ := vars_sound h
      have w1 : Rdn ws r r.go [wd "var"] := Rdn.one q (by decide +kernel) rfl
      have w2 : Rdn ws r.go r.go.go [x] := Rdn.one hx.symm (name_ne hxn) rfl
      have w3 : Rdn ws r.go.go ({ r.go.go.go with vars := r.go.go.go.vars ++ [(x, m)] } : RS) [dec m] := Rdn.one hd (dec_ne m) rfl
      refine ⟨(x, m) :: l, ?_, ⟨hxn, hxv, hlo, hhi, ?_⟩, ((w1.app w2).app w3).app w, by simpa using hl, hs.imp id (by intro z; simp [z])⟩
      · rw [e]; simp [RS.go]
      · rw [show ({ r.go.go.go with vars := r.go.go.go.vars ++ [(x, m)] } : RS).vars = r.vars ++ [(x, m)] from rfl, List.map_append] at ol
        exact ol
    · rename_i q
      cases h; exact ⟨[], by simp, trivial, Rdn.nil _ _ rfl, Nat.zero_le _, .inl q⟩
/-- what is read is a box that is right, and its words are all words -/
theorem read_sound {b : Bx} {r : RS} (h : readR ws ar = .ok b r) : okBx ar b ∧ b.words = ws ∧ r.vars = b.vars := by
  unfold readR at h
  obtain ⟨_, r1, h1, h⟩ := bind_ok h
  obtain ⟨bn, r2, h2, h⟩ := bind_ok h
  obtain ⟨_, r3, h3, h⟩ := bind_ok h
  obtain ⟨an, r4, h4, h⟩ := bind_ok h
  obtain ⟨_, r5, h5, h⟩ := bind_ok h
  obtain ⟨_, r6, h6, h⟩ := bind_ok h
  obtain ⟨s, r7, h7, h⟩ := bind_ok h
  obtain ⟨_, r8, h8, h⟩ := bind_ok h
  obtain ⟨t, r9, h9, h⟩ := bind_ok h
  split at h
  · cases h
  rename_i hp
  cases h
  obtain ⟨rfl, w1⟩ := take_sound (by decide +kernel) h1
  obtain ⟨rfl, q2, lo2⟩ := numR_pos h2
  obtain ⟨d2, hi2⟩ := numOf_some.mp q2
  have w2 : Rdn ws r0.go r0.go.go [dec bn] := Rdn.one d2 (dec_ne _) rfl
  obtain ⟨rfl, w3⟩ := take_sound (by decide +kernel) h3
  obtain ⟨rfl, q4, lo4⟩ := numR_pos h4
  obtain ⟨d4, hi4⟩ := numOf_some.mp q4
  have w4 : Rdn ws r0.go.go.go r0.go.go.go.go [dec an] := Rdn.one d4 (dec_ne _) rfl
  obtain ⟨l, e5, ol, w5, hl, _⟩ := vars_sound h5
  obtain ⟨rfl, w6⟩ := take_sound (by decide +kernel) h6
  have v5 : r5.vars = l := by rw [e5]; exact List.nil_append l
  have p5 : r5.pressed = false ∧ r5.draws = 0 ∧ r5.uses = 0 := by rw [e5]; exact ⟨rfl, rfl, rfl⟩
  have hn : NmOk r5.vars := by rw [v5]; exact nmOk_of ol
  have B := block_sound (k := 4) (by omega) (r := r5.go) hn (by show r5.draws ≤ 3; omega) (by show r5.uses ≤ 24; omega) h7
  obtain ⟨rfl, w8⟩ := take_sound (by decide +kernel) h8
  have v7 : r7.vars = l := B.vs.trans v5
  have B2 := block_sound (k := 4) (by omega) (r := { r7.go with pressed := true }) (by show NmOk r7.vars; rw [v7, ← v5]; exact hn) B.dl B.ul h9
  have ob := B.ok
  have ob2 := B2.ok
  rw [show r5.go.vars = l from v5, show r5.go.pressed = false from p5.1] at ob
  rw [show ({ r7.go with pressed := true } : RS).vars = l from v7] at ob2
  have v9 : r.vars = l := B2.vs.trans v7
  have w8' : Rdn ws r7 { r7.go with pressed := true } [wd "press"] := ⟨w8.pos, w8.dr⟩
  have W := w1.app (w2.app (w3.app (w4.app (w5.app (w6.app (B.rd.app (w8'.app B2.rd)))))))
  have e9 : ws.drop r.pos = [] := List.drop_eq_nil_of_le (by omega)
  have We : ws = _ := W.dr
  rw [e9, List.append_nil] at We
  have n1 := B.nd
  have n2 := B2.nd
  have n3 := B.nu
  have n4 := B2.nu
  have n5 := B2.dl
  have n6 := B2.ul
  refine ⟨⟨lo2, hi2, lo4, hi4, by rw [v9]; exact hl, by rw [v9]; exact ol, by rw [v9]; exact ob, by rw [v9]; exact ob2, ?_, ?_⟩, ?_, rfl⟩
  · rw [show ({ r7.go with pressed := true } : RS).draws = r7.draws from rfl] at n2
    rw [show r5.go.draws = 0 from p5.2.1] at n1
    show nds s + nds t ≤ 3
    omega
  · rw [show ({ r7.go with pressed := true } : RS).uses = r7.uses from rfl] at n4
    rw [show r5.go.uses = 0 from p5.2.2] at n3
    show nus s + nus t ≤ 24
    omega
  · refine Eq.trans ?_ We.symm
    show Bx.words ⟨bn, an, r.vars, s, t⟩ = _
    rw [v9]; rfl
end
end Rd

set_option Elab.async false
set_option linter.all false
set_option maxRecDepth 100000
set_option maxHeartbeats 4000000
namespace Rd
open PySem Tk
/-! lists become tuples -/
mutual
def kept : Da → Da
  | .lst l => .tup (kepts l)
  | .tup l => .tup (kepts l)
  | .non => .non
  | .bl b => .bl b
  | .int i => .int i
  | .str s => .str s
def kepts : List Da → List Da
  | [] => []
  | a :: r => kept a :: kepts r
end
theorem kepts_map : ∀ l : List Da, kepts l = l.map kept
  | [] => rfl
  | a :: r => by rw [kepts, kepts_map r, List.map_cons]
theorem kept_ex : ∀ e : Ex, kept e.da = e.da
  | .num n => rfl
  | .var x => rfl
  | .press => rfl
  | .op o a b => by
    show Da.tup [.str o, kept a.da, kept b.da] = _
    rw [kept_ex a, kept_ex b]; rfl
mutual
theorem kept_st : ∀ s : Stm, kept (s.da .lst) = s.da .tup ∧ kept (s.da .tup) = s.da .tup
  | .set x e => by
    have := kept_ex e
    constructor <;> (show Da.tup [_, _, kept e.da] = Da.tup [_, _, e.da]; rw [this]; rfl)
  | .draw x n => ⟨rfl, rfl⟩
  | .use x e => by
    have := kept_ex e
    constructor <;> (show Da.tup [_, _, kept e.da] = Da.tup [_, _, e.da]; rw [this]; rfl)
  | .say e => by
    have := kept_ex e
    constructor <;> (show Da.tup [_, kept e.da] = Da.tup [_, e.da]; rw [this]; rfl)
  | .ite e s t => by
    have h1 := kept_ex e
    obtain ⟨h2, h2'⟩ := kept_bl s
    obtain ⟨h3, h3'⟩ := kept_bl t
    constructor
    · show Da.tup [_, kept e.da, .tup (kepts (blockDa .lst s)), .tup (kepts (blockDa .lst t))] = _
      rw [h1, h2, h3]; rfl
    · show Da.tup [_, kept e.da, .tup (kepts (blockDa .tup s)), .tup (kepts (blockDa .tup t))] = _
      rw [h1, h2', h3']; rfl
theorem kept_bl : ∀ l : List Stm, kepts (blockDa .lst l) = blockDa .tup l ∧ kepts (blockDa .tup l) = blockDa .tup l
  | [] => ⟨rfl, rfl⟩
  | s :: r => by
    obtain ⟨h1, h1'⟩ := kept_st s
    obtain ⟨h2, h2'⟩ := kept_bl r
    exact ⟨by rw [blockDa, kepts, h1, h2, blockDa], by rw [blockDa, kepts, h1', h2']⟩
end
theorem dep_ex {nm : List Str} {pr : Bool} : ∀ {k : Nat} {e : Ex}, okEx nm pr k e → dep e.da ≤ k + 1
  | _, .num n, _ => by simp [Ex.da, dep, deps]
  | _, .var x, _ => by simp [Ex.da, dep, deps]
  | _, .press, _ => by simp [Ex.da, dep, deps]
  | 0, .op o a b, h => absurd h id
  | k + 1, .op o a b, h => by
    have h1 := dep_ex h.2.1
    have h2 := dep_ex h.2.2
    simp only [Ex.da, dep, deps]; omega
theorem tame_ex : ∀ e : Ex, tame e.da
  | .num n => by simp [Ex.da, tame, tames]
  | .var x => by simp [Ex.da, tame, tames]
  | .press => by simp [Ex.da, tame, tames]
  | .op o a b => by simp [Ex.da, tame, tames, tame_ex a, tame_ex b]
mutual
theorem dep_st {nm : List Str} {pr ar : Bool} {q : List Da → Da} (hq : ∀ l, dep (q l) = deps l + 1) : ∀ {k : Nat} {s : Stm}, okSt nm pr ar k s → dep (s.da q) ≤ 2 * k + 6
  | k, .set x e, h => by have := dep_ex h.2; simp only [Stm.da, dep, deps]; omega
  | k, .draw x n, h => by simp only [Stm.da, dep, deps]; omega
  | k, .use x e, h => by have := dep_ex h.2.2; simp only [Stm.da, dep, deps]; omega
  | k, .say e, h => by have := dep_ex h.2; simp only [Stm.da, dep, deps]; omega
  | k, .ite e s t, h => by
    obtain ⟨h0, h1, h2, h3⟩ := h
    have := dep_ex h1
    have := dep_bl hq h2
    have := dep_bl hq h3
    simp only [Stm.da, dep, deps, hq]; omega
theorem dep_bl {nm : List Str} {pr ar : Bool} {q : List Da → Da} (hq : ∀ l, dep (q l) = deps l + 1) : ∀ {k : Nat} {l : List Stm}, okBl nm pr ar k l → deps (blockDa q l) ≤ 2 * k + 6
  | k, [], h => by simp [blockDa, deps]
  | k, s :: r, h => by
    have := dep_st hq h.1
    have := dep_bl hq h.2
    simp only [blockDa, deps]; omega
end
mutual
theorem tame_st {q : List Da → Da} (hq : ∀ l, tame (q l) = (l.length ≤ 1000000 ∧ tames l)) : ∀ {s : Stm}, s.words.length ≤ 1000000 → tame (s.da q)
  | .set x e, h => by simp [Stm.da, tame, tames, tame_ex e]
  | .draw x n, h => by simp [Stm.da, tame, tames]
  | .use x e, h => by simp [Stm.da, tame, tames, tame_ex e]
  | .say e, h => by simp [Stm.da, tame, tames, tame_ex e]
  | .ite e s t, h => by
    have ht : (blockWords t).length ≤ ((if t.isEmpty = true then [] else wd "else" :: blockWords t) ++ [wd "end"]).length := by
      cases t with
      | nil => simp [blockWords]
      | cons a b => simp [List.isEmpty]; omega
    simp only [Stm.words, List.length_cons, List.length_append] at h ht
    have h1 := tames_bl hq (l := s) (by omega)
    have h2 := tames_bl hq (l := t) (by omega)
    simp only [Stm.da, tame, tames, hq, tame_ex e, and_true, true_and]
    exact ⟨by simp, h1, h2⟩
theorem tames_bl {q : List Da → Da} (hq : ∀ l, tame (q l) = (l.length ≤ 1000000 ∧ tames l)) : ∀ {l : List Stm}, (blockWords l).length ≤ 1000000 → (blockDa q l).length ≤ 1000000 ∧ tames (blockDa q l)
  | [], h => by simp [blockDa, tames]
  | s :: r, h => by
    have hp := words_pos s
    simp only [blockWords, List.length_append] at h
    have h1 := tame_st hq (s := s) (by omega)
    have h2 := tames_bl hq (l := r) (by omega)
    have h3 := len_le_words r
    refine ⟨?_, h1, h2.2⟩
    rw [blockDa_map, List.length_map]
    simp; omega
end
end Rd
namespace K
open PySem PySem.Spec PyProof.Rows L2 Tk Hd Rd
section
variable {P : Program} {w : World} {K : PySem.W.Frag} {mg : Str → Option Value} {base : Heap}
def spKept (n : Nat) : Sp := fun vs H Q _ => ∃ (I : Hp) (v : V) (d : Da), vs = [v] ∧ Same I H ∧ dR I v d ∧ dep d ≤ n ∧ tame d ∧ ∀ I' H' v', Gr [] I H I' H' → dR I' v' (kept d) → Q v' H'
def spKs : Nat → Sp
  | 0 => spNever
  | n + 1 => spKept n
theorem kit_lt {K : PySem.W.Frag} (d : Da) : PySem.W.kitAny K (.type (knd d)) [.type "list", .type "tuple"] = some (isT d "list" || isT d "tuple") := by
  simp only [PySem.W.kitAny, knd_list, knd_tuple]
  cases isT d "list" <;> cases isT d "tuple" <;> rfl
/-- a list, a tuple, or neither -/
theorem seq_or {I : Hp} {v : V} {d : Da} (rd : dR I v d) : ((isT d "list" || isT d "tuple") = false ∧ kept d = d) ∨ ((isT d "list" || isT d "tuple") = true ∧ ∃ l a us, v = .ref a ∧ (I a = some (.lst us) ∨ I a = some (.tup us)) ∧ dRs I us l ∧ kept d = .tup (kepts l) ∧ dep d = deps l + 1 ∧ (tame d → l.length ≤ 1000000 ∧ tames l) ∧ True) := by
  cases d with
  | lst l =>
    simp only [dR] at rd
    obtain ⟨a, us, e, h1, h2⟩ := rd
    exact .inr ⟨rfl, l, a, us, e, .inl h1, h2, rfl, rfl, id, trivial⟩
  | tup l =>
    simp only [dR] at rd
    obtain ⟨a, us, e, h1, h2⟩ := rd
    exact .inr ⟨rfl, l, a, us, e, .inr h1, h2, rfl, rfl, id, trivial⟩
  | _ => exact .inl ⟨rfl, rfl⟩
theorem sc__kept : FnScope ["value", "part"] ["value"] (defScope s__kept) := ⟨rfl, rfl, rfl, by decide +kernel, rfl, by decide +kernel, by decide +kernel⟩
theorem ok_kept_step (D : Dt K mg) (n : Nat) (H__kept : Has P w K mg base (n + 1) (He.ga K "_kept") ["value"] [] (spKs n)) : Has P w K mg base (n + 2) (He.ga K "_kept") ["value"] [] (spKept n) := by
  obtain ⟨fd, F⟩ := fd__kept D
  refine hasN F (F.bindsN fun _ _ _ _ _ _ us hl => match us, hl with | [_], _ => rfl) sc__kept (fun vs H Q E h => ?_) (fun cdv A outer s H vs Q E hr h => ?_)
  · obtain ⟨I, v, d, rfl, _⟩ := h; rfl
  · obtain ⟨I, v, d, rfl, s0, rd, hd, ht, k⟩ := h
    refine ⟨_, (pss_one (ps_ret (pe_ifExp (pt_val (pe_callB (call_isiTK K) rfl (free_isinstance D) (by decide +kernel) (pa_cons (pv 0) (pa_cons (pe_tup (pa_cons (pe_bltn (v := .ty "list") rfl (free_list D) (by decide +kernel) rfl) (pa_cons (pe_bltn (v := .ty "tuple") rfl (free_tuple D) (by decide +kernel) rfl) pa_nil))) pa_nil)))) (pe_callTy (call_tuple_ofK K) rfl (free_tuple D) (by decide +kernel) (pa_cons (pe_lc (own := [("part", 1)]) (g := gName 1) rfl sc__kept.nd (pi_ltK K (pv 0)) (blkOk_by (own := [("part", 1)]) (N := ["value", "part"]) (by kernel_rfl)) (fun _ _ _ _ _ => (pg_name (i := 1) sc__kept.nd rfl (Or.inl rfl))) (fun _ _ _ _ _ => pts_nil) (fun _ _ _ _ _ => (pe_callH H__kept (hr.mono (by omega)) rfl (glo__kept D) passL (pa_cons (pv 1) pa_nil)))) pa_nil)) (pv 0)))), ?_⟩
    refine ⟨_, rfl, (by show 2 ≤ sizeLine; decide), fun p hp => ?_⟩
    have g0 := Gr.new (ms := []) (o := .tup [.ty "list", .ty "tuple"]) s0 hp
    refine ⟨v, p, _, .type (knd d), [.type "list", .type "tuple"], _, rfl, upd_same, .cons (.ty _) (.cons (.ty _) .nil), knd_ty (dR_up g0.ih _ _ (dR_up g0.ii _ _ rd)), kit_lt d, _, rfl, ?_⟩
    rcases seq_or rd with ⟨e, ek⟩ | ⟨e, l, a, us, rfl, ha, r, ek, hdl, htl, hl⟩
    · rw [e]
      refine ifF rfl ⟨_, rfl, ?_⟩
      exact k _ _ _ g0 (by rw [ek]; exact dR_up g0.ii _ _ rd)
    · rw [e]
      cases n with
      | zero => omega
      | succ n =>
        have a2 := dRs_all r
        refine ifT rfl ⟨_, rfl, lt_of (ha.imp (g0.ii _ _) (g0.ii _ _)) g0.ih fun J W D hD => lc_map (R := iD) (Sy := iD) kept W (a2.up g0.ii) g0.ih hD (Nat.lt_of_le_of_lt (htl ht).1 (by decide)) (fun i x I1 H1 Nx Qk hx rx s1 s2 kk => ?_) (fun I1 H1 g1 r1 => ?_)⟩
        · refine ⟨rfl, _, rfl, I1, _, x, rfl, s2, rx, ?_, ?_, fun I2 H2 v2 g2 r2 => kk _ _ _ g2 r2⟩
          · have := deps_at hx
            omega
          · exact tames_at (htl ht).2 hx
        · refine tup_of (K := K) (R := iD) (iA.l r1) g1.ih fun I2 H2 v2 g2 r2 => ?_
          obtain ⟨b, ws, rfl, hb, b2⟩ := r2
          exact k _ _ _ (g0.trans (g1.trans g2)) (by rw [ek, kepts_map]; exact dR_tup hb (all_dRs b2))
theorem ok_kept' (D : Dt K mg) : ∀ n, Has P w K mg base (n + 1) (He.ga K "_kept") ["value"] [] (spKs n)
  | 0 => by
    obtain ⟨fd, F⟩ := fd__kept D
    exact has_never F (F.bindsN fun _ _ _ _ _ _ us hl => match us, hl with | [_], _ => rfl)
  | n + 1 => ok_kept_step D n (ok_kept' D n)
theorem ok_kept (D : Dt K mg) : Has P w K mg base 32 (He.ga K "_kept") ["value"] [] (spKept 30) := ok_kept' D 31
end
end K

set_option Elab.async false
set_option linter.all false
set_option maxRecDepth 100000
set_option maxHeartbeats 4000000
namespace K
open PySem PySem.Spec PyProof.Rows L2 Tk Hd Rd
section
variable {P : Program} {w : World} {K : PySem.W.Frag} {mg : Str → Option Value} {base : Heap}
theorem lt_sl {n : Nat} (h : n ≤ 1000000) : n < sizeLine := Nat.lt_of_le_of_lt h (by decide)
theorem upd_mid {H : Hp} {x y : Addr} {a b : HO} {l : HO} (n : y ≠ x) : upd (upd (upd H x a) y l) x b = upd (upd H y l) x b := by
  funext z
  by_cases h : z = x
  · subst h; rw [upd_same, upd_same]
  · rw [upd_ne h, upd_ne h]
    by_cases h2 : z = y
    · subst h2; rw [upd_same, upd_same]
    · rw [upd_ne h2, upd_ne h2, upd_ne h]
def spRInit (K : PySem.W.Frag) : Sp := fun vs H Q _ => ∃ (x dx wl : Addr) (ar : Bool), vs = [.ref x, .ref wl, .bl ar] ∧ H x = some (.ins (CRd K) dx []) ∧ ∀ vl, H vl = none → vl ≠ x → Q .non (upd (upd H vl (.lst [])) x (.ins (CRd K) dx (rdF ⟨x, dx, wl, vl, ar, []⟩ r0)))
theorem sc_Reader_init : FnScope ["self", "words", "around"] ["self", "words", "around"] (defScope s_Reader_init) := ⟨rfl, rfl, rfl, by decide +kernel, rfl, by decide +kernel, by decide +kernel⟩
theorem ok_rinit (D : Dt K mg) : Has P w K mg base 1 (He.ma K (He.ga K "Reader") "__init__") ["self", "words", "around"] [] (spRInit K) := by
  obtain ⟨fd, F⟩ := fd_Reader_init D
  refine hasN F (F.bindsN fun _ _ _ _ _ _ us hl => match us, hl with | [_, _, _], _ => rfl) sc_Reader_init (fun vs H Q E h => ?_) (fun cdv A outer s H vs Q E hr h => ?_)
  · obtain ⟨x, dx, wl, ar, rfl, _⟩ := h; rfl
  · obtain ⟨x, dx, wl, ar, rfl, hx, k⟩ := h
    refine ⟨_, (pss_cons (ps_fld (pv 0) (pv 1) rfl)
      (pss_cons (ps_fld (pv 0) pe_int rfl)
      (pss_cons (ps_fld (pv 0) (pv 2) rfl)
      (pss_cons (ps_fld (pv 0) (pe_lst pa_nil) rfl)
      (pss_cons (ps_fld (pv 0) pe_int rfl)
      (pss_cons (ps_fld (pv 0) pe_int rfl)
      (pss_one (ps_fld (pv 0) pe_bl rfl)))))))), ?_⟩
    refine ⟨_, rfl, _, rfl, x, _, dx, _, rfl, hx, cls_Reader D, na_Reader_words D, (by show 0 < 1000; decide), ?_⟩
    refine ⟨_, rfl, x, _, dx, _, rfl, upd_same, cls_Reader D, na_Reader_at D, (by show 1 < 1000; decide), ?_⟩
    refine ⟨_, rfl, _, rfl, x, _, dx, _, rfl, upd_same, cls_Reader D, na_Reader_around D, (by show 2 < 1000; decide), ?_⟩
    refine ⟨(by show 0 ≤ sizeLine; decide), fun vl hvl => ?_⟩
    rw [upd_upd, upd_upd] at hvl ⊢
    have nv : vl ≠ x := fun z => by rw [z, upd_same] at hvl; cases hvl
    rw [upd_ne nv] at hvl
    refine ⟨_, rfl, x, _, dx, _, rfl, (by rw [upd_ne nv.symm]; exact upd_same), cls_Reader D, na_Reader_variables D, (by show 3 < 1000; decide), ?_⟩
    refine ⟨_, rfl, x, _, dx, _, rfl, upd_same, cls_Reader D, na_Reader_draws D, (by show 4 < 1000; decide), ?_⟩
    refine ⟨_, rfl, x, _, dx, _, rfl, upd_same, cls_Reader D, na_Reader_uses D, (by show 5 < 1000; decide), ?_⟩
    refine ⟨_, rfl, x, _, dx, _, rfl, upd_same, cls_Reader D, na_Reader_pressed D, (by show 6 < 1000; decide), ?_⟩
    have := k vl hvl nv
    rw [upd_upd, upd_upd, upd_upd, upd_mid nv]
    exact this
def iBxT (c : Rc) : Rp Bx := fun H v b => ∃ t sv bv, v = .ref t ∧ H t = some (.tup [.int (b.buttons : Int), .int (b.answers : Int), .ref c.vl, sv, bv]) ∧ iL iSt H sv b.start ∧ iL iSt H bv b.block
def spRead (K : PySem.W.Frag) : Sp := fun vs H Q E => ∃ (c : Rc) (I : Hp), vs = [.ref c.s] ∧ RdOk K c I H r0 ∧ OutR K c (iBxT c) I H (readR c.ws c.ar) Q E
theorem RdOk.push {c : Rc} {I H : Hp} {r : RS} (ok : RdOk K c I H r) {t : Addr} {x : Str} {m : Nat} (ht : I t = some (.tup [.str x, .int (m : Int)])) (hx : isName x = true) (hv : r.vars.length < 4) {vs : List V} (e : H c.vl = some (.lst vs)) :
    RdOk K c I (upd H c.vl (.lst (vs ++ [.ref t]))) { r with vars := r.vars ++ [(x, m)] } ∧ Gr (rms c) I H I (upd H c.vl (.lst (vs ++ [.ref t]))) := by
  have g : Gr (rms c) I H I (upd H c.vl (.lst (vs ++ [.ref t]))) := Gr.mut ok.sm ok.iv (by simp)
  obtain ⟨us, hv', a2⟩ := ok.hv
  rw [e] at hv'
  cases hv'
  refine ⟨⟨g.ih, ok.is, ok.iv, ok.ne, by rw [upd_ne ok.ne]; exact ok.hs, ⟨_, upd_same, a2.snoc ⟨t, _, _, rfl, ht, rfl, rfl⟩⟩, ok.hw, ?_, by rw [List.length_append]; show r.vars.length + 1 ≤ 4; omega, ok.wn, ok.wz⟩, g⟩
  intro p hp
  rcases List.mem_append.mp hp with h | h
  · exact ok.nm p h
  · rw [List.mem_singleton.mp h]; exact hx
theorem sc_Reader_read : FnScope ["self", "buttons", "answers", "name", "start", "block"] ["self"] (defScope s_Reader_read) := ⟨rfl, rfl, rfl, by decide +kernel, rfl, by decide +kernel, by decide +kernel⟩
theorem ok_read (D : Dt K mg) : Has P w K mg base 25 (He.ma K (He.ga K "Reader") "read") ["self"] [] (spRead K) := by
  obtain ⟨fd, F⟩ := fd_Reader_read D
  have H_Reader__take := ok_take (P := P) (w := w) (base := base) D
  have H_Reader__number := ok_number (P := P) (w := w) (base := base) D
  have H_Reader__here := ok_here (P := P) (w := w) (base := base) D
  have H_Reader__new_name := ok_new_name (P := P) (w := w) (base := base) D
  have H_Reader__statements := ok_stmts4 (P := P) (w := w) (base := base) D
  have H_BadText_init := ok_bt (P := P) (w := w) (base := base) D
  refine hasX F (F.bindsN fun _ _ _ _ _ _ us hl => match us, hl with | [_], _ => rfl) sc_Reader_read (fun vs H Q E h => ?_) (fun cdv A outer s H vs Q E hr h => ?_)
  · obtain ⟨c, I, rfl, _⟩ := h; rfl
  · obtain ⟨c, I, rfl, ok, kk⟩ := h
    obtain ⟨t_MOST_ANSWERS, e_MOST_ANSWERS⟩ := int_MOST_ANSWERS D
    obtain ⟨t_MOST_BUTTONS, e_MOST_BUTTONS⟩ := int_MOST_BUTTONS D
    obtain ⟨t_MOST_SIZE, e_MOST_SIZE⟩ := int_MOST_SIZE D
    obtain ⟨t_MOST_VARIABLES, e_MOST_VARIABLES⟩ := int_MOST_VARIABLES D
    refine ⟨_, (pss_cons (ps_expr (pe_methH (pv 0) (cls_Reader (K := K) D) (me_Reader__take (K := K) D) H_Reader__take (hr.mono (by omega)) (L2.passes_call (L2.takes_of rfl rfl rfl rfl) fun _ _ _ _ h => h) (pa_cons pe_str pa_nil)))
      (pss_cons (ps_set (i := 1) sc_Reader_read.nd rfl (Or.inl rfl) (pe_methH (pv 0) (cls_Reader (K := K) D) (me_Reader__number (K := K) D) H_Reader__number (hr.mono (by omega)) (L2.passes_call (L2.takes_of rfl rfl rfl rfl) fun _ _ _ _ h => h) (pa_cons pe_int (pa_cons (pe_glob (v := .int 4) rfl e_MOST_BUTTONS ⟨t_MOST_BUTTONS, rfl⟩) pa_nil))))
      (pss_cons (ps_expr (pe_methH (pv 0) (cls_Reader (K := K) D) (me_Reader__take (K := K) D) H_Reader__take (hr.mono (by omega)) (L2.passes_call (L2.takes_of rfl rfl rfl rfl) fun _ _ _ _ h => h) (pa_cons pe_str pa_nil)))
      (pss_cons (ps_set (i := 2) sc_Reader_read.nd rfl (Or.inl rfl) (pe_methH (pv 0) (cls_Reader (K := K) D) (me_Reader__number (K := K) D) H_Reader__number (hr.mono (by omega)) (L2.passes_call (L2.takes_of rfl rfl rfl rfl) fun _ _ _ _ h => h) (pa_cons pe_int (pa_cons (pe_glob (v := .int 4) rfl e_MOST_ANSWERS ⟨t_MOST_ANSWERS, rfl⟩) pa_nil))))
      (pss_cons (ps_while (passes_of rfl) (PW.pt (pw_and (pt_cmpR op_eq (pe_methH0 (pv 0) (cls_Reader (K := K) D) (me_Reader__here (K := K) D) H_Reader__here (hr.mono (by omega)) passL) pe_str (nomark _)) (pw_and1 (pt_cmpR op_lt (pe_callB (call_lenK K) rfl (free_len D) PySem.boot_len (pa_cons (pe_fldK K (pv 0) rfl) pa_nil)) (pe_glob (v := .int 4) rfl e_MOST_VARIABLES ⟨t_MOST_VARIABLES, rfl⟩) (nomark _)))))
      (pss_cons (ps_fldaug (pv 0) pe_int in_add)
      (pss_cons (ps_set (i := 3) sc_Reader_read.nd rfl (Or.inl rfl) (pe_methH0 (pv 0) (cls_Reader (K := K) D) (me_Reader__new_name (K := K) D) H_Reader__new_name (hr.mono (by omega)) (L2.passes_call (L2.takes_of rfl rfl rfl rfl) fun _ _ _ _ h => h)))
      (pss_one (ps_expr (pe_bm PySem.F.plainAttrs_list PySem.F.slot_list_append PySem.F.type_list_append mt_append (pe_fldK K (pv 0) rfl) (pa_cons (pe_tup (pa_cons (pv 3) (pa_cons (pe_methH (pv 0) (cls_Reader (K := K) D) (me_Reader__number (K := K) D) H_Reader__number (hr.mono (by omega)) (L2.passes_call (L2.takes_of rfl rfl rfl rfl) fun _ _ _ _ h => h) (pa_cons pe_int (pa_cons (pe_glob (v := .int 12) rfl e_MOST_SIZE ⟨t_MOST_SIZE, rfl⟩) pa_nil))) pa_nil))) pa_nil)))))))
      (pss_cons (ps_expr (pe_methH (pv 0) (cls_Reader (K := K) D) (me_Reader__take (K := K) D) H_Reader__take (hr.mono (by omega)) (L2.passes_call (L2.takes_of rfl rfl rfl rfl) fun _ _ _ _ h => h) (pa_cons pe_str pa_nil)))
      (pss_cons (ps_set (i := 4) sc_Reader_read.nd rfl (Or.inl rfl) (pe_methH (pv 0) (cls_Reader (K := K) D) (me_Reader__statements (K := K) D) H_Reader__statements (hr.mono (by omega)) (L2.passes_call (L2.takes_of rfl rfl rfl rfl) fun _ _ _ _ h => h) (pa_cons pe_int pa_nil)))
      (pss_cons (ps_expr (pe_methH (pv 0) (cls_Reader (K := K) D) (me_Reader__take (K := K) D) H_Reader__take (hr.mono (by omega)) (L2.passes_call (L2.takes_of rfl rfl rfl rfl) fun _ _ _ _ h => h) (pa_cons pe_str pa_nil)))
      (pss_cons (ps_fld (pv 0) pe_bl rfl)
      (pss_cons (ps_set (i := 5) sc_Reader_read.nd rfl (Or.inl rfl) (pe_methH (pv 0) (cls_Reader (K := K) D) (me_Reader__statements (K := K) D) H_Reader__statements (hr.mono (by omega)) (L2.passes_call (L2.takes_of rfl rfl rfl rfl) fun _ _ _ _ h => h) (pa_cons pe_int pa_nil)))
      (pss_cons (ps_if (pt_cmpR op_lt (pe_fldK K (pv 0) rfl) (pe_callB (call_lenK K) rfl (free_len D) PySem.boot_len (pa_cons (pe_fldK K (pv 0) rfl) pa_nil)) (nomark _))
      (pss_one (ps_raise rfl (takes_of rfl rfl rfl rfl) (pmk_oexH (oex_BadText (K := K) D) H_BadText_init (hr.mono (by omega)) rfl (glo_BadText D) (pa_cons (pe_fldK K (pv 0) rfl) pa_nil))))
      pss_nil)
      (pss_one (ps_ret (pe_tup (pa_cons (pv 1) (pa_cons (pv 2) (pa_cons (pe_fldK K (pv 0) rfl) (pa_cons (pv 4) (pa_cons (pv 5) pa_nil))))))))))))))))))), ?_⟩
    unfold readR at kk
    refine ⟨_, rfl, _, _, _, rfl, ok.hs, (by kernel_rfl), c, I, r0, "buttons", rfl, ok, by decide +kernel, kk.bind fun _ r1 I1 H1 u1 e1 g1 ok1 _ k1 => ?_⟩
    refine ⟨_, rfl, _, _, _, rfl, ok1.hs, (by kernel_rfl), c, I1, r1, 1, 4, rfl, ok1, by decide, k1.bind fun bn r2 I2 H2 u2 e2 g2 ok2 rb k2 => ?_⟩
    have rb : u2 = .int (bn : Int) := rb
    subst rb
    refine ⟨_, rfl, _, _, _, rfl, ok2.hs, (by kernel_rfl), c, I2, r2, "answers", rfl, ok2, by decide +kernel, k2.bind fun _ r3 I3 H3 u3 e3 g3 ok3 _ k3 => ?_⟩
    refine ⟨_, rfl, _, _, _, rfl, ok3.hs, (by kernel_rfl), c, I3, r3, 1, 4, rfl, ok3, by decide, k3.bind fun an r4 I4 H4 u4 e4 g4 ok4 ra k4 => ?_⟩
    have ra : u4 = .int (an : Int) := ra
    subst ra
    have v4 : r4.vars = [] := by
      have a1 := (takeR_pos e1); have a2 := (numR_pos e2).1; have a3 := takeR_pos e3; have a4 := (numR_pos e4).1
      rw [a4, a3, a2, a1]; rfl
    obtain ⟨X, hX⟩ : ∃ X, X = varsR c.ws 4 r4 := ⟨_, rfl⟩
    rw [← hX] at k4
    (try dsimp only)
    refine seq_cut (fun σ' H' => ∃ I' nv r', σ' = [some (V.ref c.s), some (V.int (bn : Int)), some (V.int (an : Int)), nv, none, none] ∧ RdOk K c I' H' r' ∧ Gr (rms c) I4 H4 I' H' ∧ X = .ok () r' ∧
      OutR K c (iBxT c) I' H' ((takeR c.ws "start" r').bind fun _ r => (blockR c.ws c.ar 4 r).bind fun s r => (takeR c.ws "press" r).bind fun _ r =>
        (blockR c.ws c.ar 4 { r with pressed := true }).bind fun t r => if r.pos < c.ws.length then .bad r.pos else .ok ⟨bn, an, r.vars, s, t⟩ r) Q E) (fun nx q => ?_) ?_
    · refine ⟨fun n σ' H' => ∃ I' nv r', σ' = [some (V.ref c.s), some (V.int (bn : Int)), some (V.int (an : Int)), nv, none, none] ∧ RdOk K c I' H' r' ∧ Gr (rms c) I4 H4 I' H' ∧ X = varsR c.ws n r' ∧ r'.vars.length + n = 4,
        ⟨4, I4, none, r4, rfl, ok4, Gr.refl ok4.sm, hX, by rw [v4]; rfl⟩, ?_⟩
      rintro n σ' H' ⟨I', nv, r', rfl, ok', gg, ev, hn⟩
      obtain ⟨vs, hv, a2⟩ := ok'.hv
      have lv := a2.len
      refine ⟨_, rfl, _, _, _, rfl, ok'.hs, (by kernel_rfl), c, I', r', rfl, ok', rfl, _, rfl, ?_⟩
      have out : X = .ok () r' → nx [some (V.ref c.s), some (V.int (bn : Int)), some (V.int (an : Int)), nv, none, none] H' := fun e => q _ _ ⟨I', nv, r', rfl, ok', gg, e, by rw [e] at k4; exact k4.up gg⟩
      by_cases q1 : here c.ws r' = ("var" : Str)
      rotate_left
      · refine ifF (by simpa using q1) ?_
        have ee : X = .ok () r' := by rw [ev]; exact varsR_stop q1
        first | exact out ee | exact ifF rfl (out ee)
      refine ifT (by simpa using q1) ⟨_, rfl, _, _, _, _, _, rfl, ok'.hs, cls_Reader D, na_Reader_variables D, lk_variables, _, _, rfl, .inl ⟨_, SqL.of hv, rfl⟩, _, _, rfl, rfl, _, rfl, ?_⟩
      refine ifD (fun q2 => ?_) (fun q2 => ?_)
      rotate_left
      · have : n = 0 := by omega
        subst this
        have ee : X = .ok () r' := by rw [ev]; rfl
        first | exact out ee | exact ifF rfl (out ee)
      first | refine ifT rfl ?_ | skip
      cases n with
      | zero => omega
      | succ n =>
        rw [varsR, if_pos q1] at ev
        refine ⟨fun σ' H' => ∃ I' nv r', σ' = [some (V.ref c.s), some (V.int (bn : Int)), some (V.int (an : Int)), nv, none, none] ∧ RdOk K c I' H' r' ∧ Gr (rms c) I4 H4 I' H' ∧ X = varsR c.ws n r' ∧ r'.vars.length + n = 4, fun σ' H' h => ⟨n, by omega, h⟩, ?_⟩
        refine ⟨_, rfl, _, _, _, _, _, rfl, ok'.hs, cls_Reader D, na_Reader_at D, lk_at, _, _, rfl, rfl, _, _, ok'.hs, rdF_len, ?_⟩
        rw [cast1, pf_at]
        obtain ⟨ok5, g5⟩ := ok'.put (r' := r'.go) rfl
        have gg5 := gg.trans g5
        refine ⟨_, rfl, _, _, _, rfl, ok5.hs, (by kernel_rfl), c, I', r'.go, rfl, ok5, OutR.of (fun x r6 e6 I6 H6 v6 g6 ok6 rx => ?_) (fun m em => ?_)⟩
        rotate_left
        · exact (k4.bad (n := m) (by rw [ev, em]; rfl)).up gg5
        have rx : v6 = .str x := rx
        subst rx
        obtain ⟨rfl, _, hxn, _⟩ := newR_pos e6
        obtain ⟨vs6, hv6, a26⟩ := ok6.hv
        refine ⟨_, rfl, _, _, _, _, _, rfl, ok6.hs, cls_Reader D, na_Reader_variables D, lk_variables, .inl ⟨rfl, _, SqL.of hv6⟩, _, rfl, _, rfl, _, _, _, rfl, ok6.hs, (by kernel_rfl), c, I6, _, 1, 12, rfl, ok6, by decide, OutR.of (fun m r7 e7 I7 H7 v7 g7 ok7 rm => ?_) (fun m em => ?_)⟩
        rotate_left
        · exact (k4.bad (n := m) (by rw [ev, e6, bind_mk, em]; rfl)).up (gg5.trans g6)
        have rm : v7 = .int (m : Int) := rm
        subst rm
        obtain ⟨rfl, _, _⟩ := numR_pos e7
        refine ⟨(by show 2 ≤ sizeLine; decide), fun t ht => ?_⟩
        have g8 := Gr.new (ms := []) (o := .tup [.str x, .int (m : Int)]) g7.ih ht
        have ok8 := ok7.up0 g8
        obtain ⟨vs8, hv8, a28⟩ := ok8.hv
        have l8 := a28.len
        have l8' : r'.go.go.go.vars.length = r'.vars.length := rfl
        refine ⟨c.vl, vs8, .ref t, rfl, rfl, hv8, lt_sl (by omega), ?_⟩
        obtain ⟨ok9, g9⟩ := ok8.push (t := t) (x := x) (m := m) upd_same hxn (by omega) hv8
        refine ⟨_, _, _, rfl, ok9, (((gg5.trans g6).trans g7).trans g8.nil).trans g9, ?_, ?_⟩
        · rw [ev, e6, bind_mk, e7, bind_mk]
        · show (r'.vars ++ [(x, m)]).length + n = 4
          rw [List.length_append]; show r'.vars.length + 1 + n = 4; omega
    rintro σ' H' ⟨I5, nv, r5, rfl, ok5, g5, e5, k5⟩
    (try dsimp only)
    refine ⟨_, rfl, _, _, _, rfl, ok5.hs, (by kernel_rfl), c, I5, r5, "start", rfl, ok5, by decide +kernel, k5.bind fun _ r6 I6 H6 u6 e6 g6 ok6 _ k6 => ?_⟩
    refine ⟨_, rfl, _, _, _, rfl, ok6.hs, (by kernel_rfl), c, I6, r6, 0, rfl, ok6, rfl, k6.bind fun s r7 I7 H7 v7 e7 g7 ok7 rs k7 => ?_⟩
    refine ⟨_, rfl, _, _, _, rfl, ok7.hs, (by kernel_rfl), c, I7, r7, "press", rfl, ok7, by decide +kernel, k7.bind fun _ r8 I8 H8 u8 e8 g8 ok8 _ k8 => ?_⟩
    refine ⟨_, rfl, c.s, _, c.dx, _, rfl, ok8.hs, cls_Reader D, na_Reader_pressed D, rdF_len, ?_⟩
    rw [pf_pressed]
    obtain ⟨ok9, g9⟩ := ok8.put (r' := { r8 with pressed := true }) rfl
    refine ⟨_, rfl, _, _, _, rfl, ok9.hs, (by kernel_rfl), c, I8, _, 0, rfl, ok9, rfl, (k8.up g9).bind fun t r10 I10 H10 v10 e10 g10 ok10 rt k10 => ?_⟩
    (try dsimp only)
    refine ⟨_, rfl, _, _, _, _, _, rfl, ok10.hs, cls_Reader D, na_Reader_at D, lk_at, _, rfl, _, _, _, _, _, rfl, ok10.hs, cls_Reader D, na_Reader_words D, lk_words, _, _, rfl, .inl ⟨_, ok10.wsl, rfl⟩, _, _, rfl, rfl, _, rfl, ?_⟩
    rw [List.length_map]
    refine ifD (fun q => ?_) (fun q => ?_)
    · rw [if_pos (Int.ofNat_lt.mp q)] at k10
      exact ⟨_, rfl, _, _, _, _, _, rfl, ok10.hs, cls_Reader D, na_Reader_at D, lk_at, (by show 1 ≤ 1000; decide), fun e he => ⟨e, _, rfl, upd_same, fun d hd ne => ⟨rfl, d, [("at", .int (r10.pos : Int))], upd_same, by rw [upd_ne ne]; exact upd_same, by rw [upd_ne ne] at hd; exact hd, raised_at (Gr.refl ok10.sm) k10 e he d hd ne⟩⟩⟩
    · rw [if_neg (fun z => q (Int.ofNat_lt.mpr z))] at k10
      refine ⟨_, rfl, _, rfl, _, rfl, _, _, _, _, _, rfl, ok10.hs, cls_Reader D, na_Reader_variables D, lk_variables, _, rfl, _, rfl, (by show 5 ≤ sizeLine; decide), fun p hp => ?_⟩
      have g11 := Gr.new (ms := []) (o := .tup [.int (bn : Int), .int (an : Int), .ref c.vl, v7, v10]) g10.ih hp
      exact k10.ok rfl _ _ _ g11.nil (ok10.up0 g11) ⟨p, v7, v10, rfl, upd_same, up (g8.ii.trans (g10.ii.trans g11.ii)) rs, up g11.ii rt⟩
end
end K

set_option Elab.async false
set_option linter.all false
set_option maxRecDepth 100000
set_option maxHeartbeats 4000000
namespace Rd
open PySem Tk TL
theorem spl_le (S : List Nat) : ∀ (l : List Nat) (k : Nat) (acc p : List Nat), p ∈ spl S k acc l → p.length ≤ acc.length + l.length
  | [], k, acc, p, h => by
    rw [spl_nil, List.mem_singleton] at h; rw [h]; simp
  | c :: r, 0, acc, p, h => by
    by_cases q : pre S (c :: r) = true
    · rw [spl_hit q] at h
      rcases List.mem_cons.mp h with rfl | h
      · simp
      · have := spl_le S r _ _ p h; simp at this ⊢; omega
    · rw [spl_miss (by simpa using q)] at h
      have := spl_le S r _ _ p h; simp at this ⊢; omega
  | c :: r, k + 1, acc, p, h => by
    have h : p ∈ spl S k acc r := h
    have := spl_le S r _ _ p h; simp; omega
theorem split_le {z x : Str} (h : x ∈ Txt.split z " ") : x.length ≤ z.length := by
  have e := split_spl z " " (by decide +kernel) (kind_ok (by decide +kernel))
  have : tl x ∈ (Txt.split z " ").map tl := List.mem_map.mpr ⟨x, h, rfl⟩
  rw [e] at this
  have := spl_le _ _ _ _ _ this
  rw [len_tl, len_tl]; simpa using this
def varsDa (q : List Da → Da) (l : List (Str × Nat)) : Da := q (l.map fun p => .tup [.str p.1, .int (p.2 : Int)])
theorem varWords_len : ∀ l : List (Str × Nat), l.length ≤ (varWords l).length
  | [] => Nat.le_refl _
  | (x, n) :: r => by have := varWords_len r; simp only [varWords, List.length_cons]; omega
end Rd
namespace K
open PySem PySem.Spec PyProof.Rows L2 Tk Hd Rd
section
variable {P : Program} {w : World} {K : PySem.W.Frag} {mg : Str → Option Value} {base : Heap}
theorem wordsOf_le {z x : Str} (h : x ∈ wordsOf z) : x.length ≤ z.length := by
  unfold wordsOf at h
  split at h
  · cases h
  · exact split_le h
abbrev CBx (K : PySem.W.Frag) : Addr := He.ga K "Box"
def bxF (b a : Int) (v s t : V) : List (Str × V) := [("buttons", .int b), ("answers", .int a), ("variables", v), ("start", s), ("block", t)]
def iBx (K : PySem.W.Frag) : Rp Bx := fun H v b => ∃ p dx va vs vb, v = .ref p ∧ H p = some (.ins (CBx K) dx (bxF b.buttons b.answers va vs vb)) ∧ dR H va (varsDa .tup b.vars) ∧ dR H vs (.tup (blockDa .tup b.start)) ∧ dR H vb (.tup (blockDa .tup b.block))
instance : Mono (iBx K) := ⟨fun s ⟨p, dx, va, vs, vb, e, h, h1, h2, h3⟩ => ⟨p, dx, va, vs, vb, e, s _ _ h, dR_up s _ _ h1, dR_up s _ _ h2, dR_up s _ _ h3⟩⟩
def spBInit (K : PySem.W.Frag) : Sp := fun vs H Q _ => ∃ (I : Hp) (x dx : Addr) (b a : Int) (v1 v2 v3 : V) (d1 d2 d3 : Da), vs = [.ref x, .int b, .int a, v1, v2, v3] ∧ Same I H ∧ I x = none ∧ H x = some (.ins (CBx K) dx []) ∧ dR I v1 d1 ∧ dR I v2 d2 ∧ dR I v3 d3 ∧
  (dep d1 ≤ 30 ∧ dep d2 ≤ 30 ∧ dep d3 ≤ 30) ∧ (tame d1 ∧ tame d2 ∧ tame d3) ∧ ∀ I' H' w1 w2 w3, Gr [x] I H I' H' → H' x = some (.ins (CBx K) dx (bxF b a w1 w2 w3)) → dR I' w1 (kept d1) → dR I' w2 (kept d2) → dR I' w3 (kept d3) → Q .non H'
theorem sc_Box_init : FnScope ["self", "buttons", "answers", "variables", "start", "block"] ["self", "buttons", "answers", "variables", "start", "block"] (defScope s_Box_init) := ⟨rfl, rfl, rfl, by decide +kernel, rfl, by decide +kernel, by decide +kernel⟩
theorem ok_binit (D : Dt K mg) : Has P w K mg base 33 (He.ma K (He.ga K "Box") "__init__") ["self", "buttons", "answers", "variables", "start", "block"] [] (spBInit K) := by
  obtain ⟨fd, F⟩ := fd_Box_init D
  have H__kept := ok_kept (P := P) (w := w) (base := base) D
  refine hasN F (F.bindsN fun _ _ _ _ _ _ us hl => match us, hl with | [_, _, _, _, _, _], _ => rfl) sc_Box_init (fun vs H Q E h => ?_) (fun cdv A outer s H vs Q E hr h => ?_)
  · obtain ⟨I, x, dx, b, a, v1, v2, v3, d1, d2, d3, rfl, _⟩ := h; rfl
  · obtain ⟨I, x, dx, b, a, v1, v2, v3, d1, d2, d3, rfl, s0, hI, hx, r1, r2, r3, hd, ht, k⟩ := h
    refine ⟨_, (pss_cons (ps_fld (pv 0) (pv 1) rfl)
      (pss_cons (ps_fld (pv 0) (pv 2) rfl)
      (pss_cons (ps_fld (pv 0) (pe_callH H__kept (hr.mono (by omega)) rfl (glo__kept D) passL (pa_cons (pv 3) pa_nil)) rfl)
      (pss_cons (ps_fld (pv 0) (pe_callH H__kept (hr.mono (by omega)) rfl (glo__kept D) passL (pa_cons (pv 4) pa_nil)) rfl)
      (pss_one (ps_fld (pv 0) (pe_callH H__kept (hr.mono (by omega)) rfl (glo__kept D) passL (pa_cons (pv 5) pa_nil)) rfl)))))), ?_⟩
    refine ⟨_, rfl, _, rfl, x, _, dx, _, rfl, hx, cls_Box D, na_Box_buttons D, (by show 0 < 1000; decide), ?_⟩
    refine ⟨_, rfl, _, rfl, x, _, dx, _, rfl, upd_same, cls_Box D, na_Box_answers D, (by show 1 < 1000; decide), ?_⟩
    rw [upd_upd]
    have g0 : Gr [x] I H I (upd H x (.ins (CBx K) dx (putF "answers" (.int a) (putF "buttons" (.int b) [])))) := Gr.mut s0 hI (by simp)
    refine ⟨_, rfl, I, _, d1, rfl, g0.ih, r1, hd.1, ht.1, fun I1 H1 w1 g1 q1 => ?_⟩
    have e1 := g1.at upd_same (by simp)
    have i1 := g1.out hI upd_same
    refine ⟨_, rfl, x, _, dx, _, rfl, e1, cls_Box D, na_Box_variables D, (by show 2 < 1000; decide), ?_⟩
    have G1 := (g0.trans (g1.mono (ns := [x]) fun _ z => nomatch z)).trans (Gr.mut (o := .ins (CBx K) dx (putF "variables" w1 (putF "answers" (.int a) (putF "buttons" (.int b) [])))) g1.ih i1 List.mem_cons_self)
    refine ⟨_, rfl, I1, _, d2, rfl, G1.ih, dR_up g1.ii _ _ r2, hd.2.1, ht.2.1, fun I2 H2 w2 g2 q2 => ?_⟩
    have e2 := g2.at upd_same (by simp)
    have i2 := g2.out i1 upd_same
    refine ⟨_, rfl, x, _, dx, _, rfl, e2, cls_Box D, na_Box_start D, (by show 3 < 1000; decide), ?_⟩
    have G2 := (G1.trans (g2.mono (ns := [x]) fun _ z => nomatch z)).trans (Gr.mut (o := .ins (CBx K) dx (putF "start" w2 (putF "variables" w1 (putF "answers" (.int a) (putF "buttons" (.int b) []))))) g2.ih i2 List.mem_cons_self)
    refine ⟨_, rfl, I2, _, d3, rfl, G2.ih, dR_up (g1.ii.trans g2.ii) _ _ r3, hd.2.2, ht.2.2, fun I3 H3 w3 g3 q3 => ?_⟩
    have e3 := g3.at upd_same (by simp)
    have i3 := g3.out i2 upd_same
    refine ⟨_, rfl, x, _, dx, _, rfl, e3, cls_Box D, na_Box_block D, (by show 4 < 1000; decide), ?_⟩
    have G3 := (G2.trans (g3.mono (ns := [x]) fun _ z => nomatch z)).trans (Gr.mut (o := .ins (CBx K) dx (putF "block" w3 (putF "start" w2 (putF "variables" w1 (putF "answers" (.int a) (putF "buttons" (.int b) [])))))) g3.ih i3 List.mem_cons_self)
    exact k I3 _ w1 w2 w3 G3 (upd_same.trans (by kernel_rfl)) (dR_up (g2.ii.trans g3.ii) _ _ q1) (dR_up g3.ii _ _ q2) q3
/-- what is read of a text -/
def spRd (K : PySem.W.Frag) (ar : Bool) : Sp := fun vs H Q E => ∃ (I : Hp) (z : Str), vs = [.str z] ∧ Same I H ∧ z.length + 2 ≤ sizeLine ∧ (wordsOf z).length ≤ 1000000 ∧ (match readR (wordsOf z) ar with
  | .ok b _ => Ret [] I H (iBx K) b Q
  | .bad n => RaisedAt [] I H (CBT K) n E)
def spRd2 (K : PySem.W.Frag) : Sp := fun vs H Q E => ∃ (I : Hp) (z : Str) (ar : Bool), vs = [.str z, .bl ar] ∧ Same I H ∧ z.length + 2 ≤ sizeLine ∧ (wordsOf z).length ≤ 1000000 ∧ (match readR (wordsOf z) ar with
  | .ok b _ => Ret [] I H (iBx K) b Q
  | .bad n => RaisedAt [] I H (CBT K) n E)
theorem hq_lst : ∀ l : List Da, dep (.lst l) = deps l + 1 := fun l => by simp only [dep]
theorem hq_tup : ∀ l : List Da, dep (.tup l) = deps l + 1 := fun l => by simp only [dep]
theorem tq_lst : ∀ l : List Da, tame (.lst l) = (l.length ≤ 1000000 ∧ tames l) := fun l => by simp only [tame]
theorem tq_tup : ∀ l : List Da, tame (.tup l) = (l.length ≤ 1000000 ∧ tames l) := fun l => by simp only [tame]
theorem varsDa_dep (l : List (Str × Nat)) : deps (l.map fun p => Da.tup [.str p.1, .int (p.2 : Int)]) ≤ 1 := by
  induction l with
  | nil => simp [deps]
  | cons p r ih => simp only [List.map_cons, deps, dep]; omega
theorem varsDa_tame (l : List (Str × Nat)) : tames (l.map fun p => Da.tup [.str p.1, .int (p.2 : Int)]) := by
  induction l with
  | nil => simp [tames]
  | cons p r ih => simp only [List.map_cons, tames, tame]; exact ⟨⟨by simp, trivial, trivial, trivial⟩, ih⟩
theorem varsDa_kept (l : List (Str × Nat)) (q : List Da → Da) (hq : ∀ l, kept (q l) = .tup (kepts l)) : kept (varsDa q l) = varsDa .tup l := by
  unfold varsDa
  rw [hq]
  congr 1
  induction l with
  | nil => rfl
  | cons p r ih => rw [List.map_cons, kepts, ih]; rfl
/-- a new box of what was read -/
theorem box_made {I H : Hp} {y dy : Addr} {b : Bx} {va vs vb : V} {ar : Bool} {qv q1 : List Da → Da} {Q : VK} (hqv : qv = .lst ∨ qv = .tup) (hq1 : q1 = .lst ∨ q1 = .tup) (s : Same I H) (ny : H y = none) (nd : H dy = none) (ne : dy ≠ y) (h : okBx ar b) (hB : b.words.length ≤ 1000000)
    (r1 : dR I va (varsDa qv b.vars)) (r2 : dR I vs (q1 (blockDa q1 b.start))) (r3 : dR I vb (q1 (blockDa q1 b.block))) (k : ∀ I' H', Gr [] I H I' H' → iBx K I' (.ref y) b → Q (.ref y) H') :
    spBInit K (.ref y :: [.int (b.buttons : Int), .int (b.answers : Int), va, vs, vb]) (upd (upd H dy (.own y)) y (.ins (CBx K) dy [])) (fun v H => v = .non ∧ Q (.ref y) H) E0 := by
  have g1 := Gr.new (ms := []) (o := .own y) s nd
  have ny1 : upd H dy (.own y) y = none := by rw [upd_ne ne.symm]; exact ny
  have g2 : Gr [y] I H (upd I dy (.own y)) (upd (upd H dy (.own y)) y (.ins (CBx K) dy [])) := g1.nil.trans (Gr.tmp g1.ih ny1)
  have vw := varWords_len b.vars
  have lw : b.words.length = (varWords b.vars).length + (blockWords b.start).length + (blockWords b.block).length + 6 := by
    simp [Bx.words]; omega
  have hl1 : ∀ {q : List Da → Da}, (q = .lst ∨ q = .tup) → (∀ l, dep (q l) = deps l + 1) ∧ (∀ l, tame (q l) = (l.length ≤ 1000000 ∧ tames l)) ∧ (∀ l, kept (q l) = .tup (kepts l)) := fun {q} h => by
    rcases h with rfl | rfl
    · exact ⟨hq_lst, tq_lst, fun _ => rfl⟩
    · exact ⟨hq_tup, tq_tup, fun _ => rfl⟩
  obtain ⟨p1, p2, p3⟩ := hl1 hqv
  obtain ⟨p4, p5, p6⟩ := hl1 hq1
  have dv := varsDa_dep b.vars
  have t2 := tames_bl p5 (l := b.start) (by omega)
  have t3 := tames_bl p5 (l := b.block) (by omega)
  have d2 := dep_bl p4 h.so
  have d3 := dep_bl p4 h.bo
  have kb : ∀ l : List Stm, kept (q1 (blockDa q1 l)) = .tup (blockDa .tup l) := fun l => by
    rw [p6]
    rcases hq1 with rfl | rfl
    · rw [(kept_bl l).1]
    · rw [(kept_bl l).2]
  refine ⟨_, y, dy, _, _, va, vs, vb, varsDa qv b.vars, q1 (blockDa q1 b.start), q1 (blockDa q1 b.block), rfl, g2.ih, by rw [upd_ne ne.symm]; exact s.free ny, upd_same, dR_up g1.ii _ _ r1, dR_up g1.ii _ _ r2, dR_up g1.ii _ _ r3,
    ⟨?_, ?_, ?_⟩, ⟨?_, ?_, ?_⟩, fun I' H' w1 w2 w3 g hy q1' q2' q3' => ⟨rfl, ?_⟩⟩
  · unfold varsDa; rw [p1]; omega
  · rw [p4]; omega
  · rw [p4]; omega
  · unfold varsDa; rw [p2, List.length_map]; exact ⟨by omega, varsDa_tame _⟩
  · rw [p5]; exact t2
  · rw [p5]; exact t3
  · have G := g2.trans g
    have iy : I' y = none := g.out (by rw [upd_ne ne.symm]; exact s.free ny) upd_same
    have G2 := G.frz s ny hy
    have s9 : Same I' (upd I' y (.ins (CBx K) dy (bxF b.buttons b.answers w1 w2 w3))) := sNew iy
    rw [varsDa_kept _ _ p3] at q1'
    rw [kb] at q2' q3'
    exact k _ _ G2 ⟨y, dy, w1, w2, w3, rfl, upd_same, dR_up s9 _ _ q1', dR_up s9 _ _ q2', dR_up s9 _ _ q3'⟩
theorem sc__read : FnScope ["text", "around", "buttons", "answers", "variables", "start", "block"] ["text", "around"] (defScope s__read) := ⟨rfl, rfl, rfl, by decide +kernel, rfl, by decide +kernel, by decide +kernel⟩
theorem ok_read2 (D : Dt K mg) : Has P w K mg base 35 (He.ga K "_read") ["text", "around"] [] (spRd2 K) := by
  obtain ⟨fd, F⟩ := fd__read D
  have H_Reader_init := ok_rinit (P := P) (w := w) (base := base) D
  have H_words_of := ok_words_of (P := P) (w := w) (base := base) D
  have H_Reader_read := ok_read (P := P) (w := w) (base := base) D
  have H_Box_init := ok_binit (P := P) (w := w) (base := base) D
  refine hasX F (F.bindsN fun _ _ _ _ _ _ us hl => match us, hl with | [_, _], _ => rfl) sc__read (fun vs H Q E h => ?_) (fun cdv A outer s H vs Q E hr h => ?_)
  · obtain ⟨I, z, ar, rfl, _⟩ := h; rfl
  · obtain ⟨I, z, ar, rfl, s0, hz, hw, kk⟩ := h
    refine ⟨_, (pss_cons (ps_asg (pe_methH0 (pe_makeH (mkr_Reader (K := K) D) H_Reader_init (hr.mono (by omega)) rfl (glo_Reader D) passL (pa_cons (pe_callH H_words_of (hr.mono (by omega)) rfl (glo_words_of D) passL (pa_cons (pv 0) pa_nil)) (pa_cons (pv 1) pa_nil))) (cls_Reader (K := K) D) (me_Reader_read (K := K) D) H_Reader_read (hr.mono (by omega)) (L2.passes_call (L2.takes_of rfl rfl rfl rfl) fun _ _ _ _ h => h)) (pg_tupK K rfl (pgs_cons (pg_name (i := 2) sc__read.nd rfl (Or.inl rfl)) (pgs_cons (pg_name (i := 3) sc__read.nd rfl (Or.inl rfl)) (pgs_cons (pg_name (i := 4) sc__read.nd rfl (Or.inl rfl)) (pgs_cons (pg_name (i := 5) sc__read.nd rfl (Or.inl rfl)) (pgs_cons (pg_name (i := 6) sc__read.nd rfl (Or.inl rfl)) pgs_nil)))))))
      (pss_one (ps_ret (pe_makeH (mkr_Box (K := K) D) H_Box_init (hr.mono (by omega)) rfl (glo_Box D) passL (pa_cons (pv 2) (pa_cons (pv 3) (pa_cons (pv 4) (pa_cons (pv 5) (pa_cons (pv 6) pa_nil))))))))), ?_⟩
    refine ⟨_, rfl, I, z, rfl, s0, hz, fun I1 H1 v1 g1 r1 => ?_⟩
    obtain ⟨wl, rfl, hwl⟩ := id r1
    refine ⟨_, rfl, fun x dx nx nd ne => ⟨x, dx, wl, ar, rfl, upd_same, fun vl hvl nvx => ⟨rfl, ?_⟩⟩⟩
    have nvd : vl ≠ dx := fun z => by rw [z, upd_ne ne, upd_same] at hvl; cases hvl
    have hv1 : H1 vl = none := by rw [upd_ne nvx, upd_ne nvd] at hvl; exact hvl
    have gA := Gr.new (ms := [x, vl]) (o := .own x) g1.ih nd
    have nxA : upd H1 dx (.own x) x = none := by rw [upd_ne ne.symm]; exact nx
    have gB := gA.trans (Gr.tmp (o := .ins (CRd K) dx []) gA.ih nxA)
    have gC := gB.trans (Gr.tmp (o := .lst []) gB.ih hvl)
    have ix : upd I1 dx (.own x) x = none := by rw [upd_ne ne.symm]; exact g1.ih.free nx
    have iv : upd I1 dx (.own x) vl = none := by rw [upd_ne nvd]; exact g1.ih.free hv1
    have gD := gC.trans (Gr.mut (o := .ins (CRd K) dx (rdF ⟨x, dx, wl, vl, ar, wordsOf z⟩ r0)) gC.ih ix (by simp))
    have okR : RdOk K ⟨x, dx, wl, vl, ar, wordsOf z⟩ (upd I1 dx (.own x)) _ r0 := ⟨gD.ih, ix, iv, nvx.symm, upd_same, ⟨[], by rw [upd_ne nvx]; exact upd_same, .nil⟩, gA.ii _ _ hwl, (fun p hp => nomatch hp), by decide, by show (wordsOf z).length ≤ 1000000; omega, fun y hy => by have := wordsOf_le hy; omega⟩
    refine ⟨x, dx, _, rfl, upd_same, (by kernel_rfl), ⟨x, dx, wl, vl, ar, wordsOf z⟩, _, rfl, okR, OutR.of (fun b r er I3 H3 v3 g3 ok3 r3 => ?_) (fun n er => ?_)⟩
    rotate_left
    · rw [show readR (wordsOf z) ar = _ from er] at kk
      exact fun I' H' d g e => kk I' H' d (g1.trans (((gD.trans g).drop nx).drop hv1)) e
    rw [show readR (wordsOf z) ar = _ from er] at kk
    obtain ⟨t, sv, bv, rfl, ht, rs, rb⟩ := r3
    obtain ⟨hok, hwords, hvars⟩ := read_sound er
    obtain ⟨us, hvl3, a3⟩ := ok3.hv
    have gE : Gr [] I1 H1 (upd I3 vl (.lst us)) H3 := (((gD.trans g3).mono (ns := [vl, x]) fun a ha => by simp only [List.mem_cons, List.not_mem_nil, or_false] at ha ⊢; exact ha.symm).frz g1.ih hv1 hvl3).drop nx
    have s3 : Same I3 (upd I3 vl (.lst us)) := sNew ok3.iv
    have rv : dR (upd I3 vl (.lst us)) (.ref vl) (varsDa .lst b.vars) := dR_lst upd_same (all_dRs (All2.mapR (by
      rw [← hvars]
      exact (a3.up s3).imp fun v p ⟨t, a, n, e, h, ha, hn⟩ => by
        have ha : a = .str p.1 := ha
        have hn : n = .int (p.2 : Int) := hn
        subst ha hn e
        exact dR_tup h (dRs_cons dR_str (dRs_cons dR_int dRs_nil)))))
    have toD : ∀ {v : V} {l : List Stm}, iL iSt I3 v l → dR (upd I3 vl (.lst us)) v (.lst (blockDa .lst l)) := fun {v l} h => by
      obtain ⟨a, vs, rfl, ha, a2⟩ := up (R := iL iSt) s3 h
      rw [blockDa_map]
      exact dR_lst ha (all_dRs (All2.mapR a2))
    refine ⟨t, _, rfl, SqT.of (ok3.sm _ _ ht), rfl, _, _, rfl, _, _, rfl, _, _, rfl, _, _, rfl, _, _, rfl, rfl, ?_⟩
    refine ⟨_, rfl, _, rfl, _, rfl, _, rfl, _, rfl, fun y dy ny ndy ney => ?_⟩
    exact box_made (qv := .lst) (q1 := .lst) (.inl rfl) (.inl rfl) gE.ih ny ndy ney hok (by rw [hwords]; exact hw) rv (toD rs) (toD rb) fun I' H' g r => kk _ _ _ (g1.trans (gE.trans g)) r
theorem sc_read_box : FnScope ["text"] ["text"] (defScope s_read_box) := ⟨rfl, rfl, rfl, by decide +kernel, rfl, by decide +kernel, by decide +kernel⟩
theorem ok_read_box (D : Dt K mg) : Has P w K mg base 36 (He.ga K "read_box") ["text"] [] (spRd K false) := by
  obtain ⟨fd, F⟩ := fd_read_box D
  have H__read := ok_read2 (P := P) (w := w) (base := base) D
  refine hasX F (F.bindsN fun _ _ _ _ _ _ us hl => match us, hl with | [_], _ => rfl) sc_read_box (fun vs H Q E h => ?_) (fun cdv A outer s H vs Q E hr h => ?_)
  · obtain ⟨I, z, rfl, _⟩ := h; rfl
  · obtain ⟨I, z, rfl, s0, hz, hw, kk⟩ := h
    refine ⟨_, (pss_one (ps_ret (pe_callH H__read (hr.mono (by omega)) rfl (glo__read D) (L2.passes_call (L2.takes_of rfl rfl rfl rfl) fun _ _ _ _ h => h) (pa_cons (pv 0) (pa_cons pe_bl pa_nil))))), ?_⟩
    exact ⟨_, rfl, I, z, false, rfl, s0, hz, hw, kk⟩
theorem sc_read_around : FnScope ["text"] ["text"] (defScope s_read_around) := ⟨rfl, rfl, rfl, by decide +kernel, rfl, by decide +kernel, by decide +kernel⟩
theorem ok_read_around (D : Dt K mg) : Has P w K mg base 36 (He.ga K "read_around") ["text"] [] (spRd K true) := by
  obtain ⟨fd, F⟩ := fd_read_around D
  have H__read := ok_read2 (P := P) (w := w) (base := base) D
  refine hasX F (F.bindsN fun _ _ _ _ _ _ us hl => match us, hl with | [_], _ => rfl) sc_read_around (fun vs H Q E h => ?_) (fun cdv A outer s H vs Q E hr h => ?_)
  · obtain ⟨I, z, rfl, _⟩ := h; rfl
  · obtain ⟨I, z, rfl, s0, hz, hw, kk⟩ := h
    refine ⟨_, (pss_one (ps_ret (pe_callH H__read (hr.mono (by omega)) rfl (glo__read D) (L2.passes_call (L2.takes_of rfl rfl rfl rfl) fun _ _ _ _ h => h) (pa_cons (pv 0) (pa_cons pe_bl pa_nil))))), ?_⟩
    exact ⟨_, rfl, I, z, true, rfl, s0, hz, hw, kk⟩
end
end K

set_option Elab.async false
set_option linter.all false
set_option maxRecDepth 100000
set_option maxHeartbeats 4000000
/-! Texts of words. -/
namespace Rd
open PySem PyProof.Rows TL
def jn (ws : List Str) : Str := Txt.join " " ws
def spc : Str := " "
theorem app_assoc (a b c : Str) : a ++ b ++ c = a ++ (b ++ c) := ext_tl (by simp only [tl_append, List.append_assoc])
theorem len_app (a b : Str) : (a ++ b).length = a.length + b.length := by rw [len_tl, len_tl, len_tl, tl_append, List.length_append]
theorem empty_app' (a : Str) : Str.empty ++ a = a := ext_tl (by rw [tl_append]; rfl)
theorem app_empty (a : Str) : a ++ Str.empty = a := ext_tl (by rw [tl_append]; exact List.append_nil _)
theorem jn_nil : jn [] = Str.empty := by unfold jn; rw [join_eq]; rfl
theorem jn_one (x : Str) : jn [x] = x := by unfold jn; rw [join_eq]; rfl
theorem jn_cons (x y : Str) (r : List Str) : jn (x :: y :: r) = x ++ (spc ++ jn (y :: r)) := by
  unfold jn; rw [join_eq, join_eq, ← app_assoc]; rfl
theorem jn_app : ∀ {xs ys : List Str}, xs ≠ [] → ys ≠ [] → jn (xs ++ ys) = jn xs ++ (spc ++ jn ys)
  | [], _, h, _ => absurd rfl h
  | [x], ys, _, h => by
    cases ys with
    | nil => exact absurd rfl h
    | cons y r => rw [List.singleton_append, jn_cons, jn_one]
  | x :: x2 :: xs, ys, _, h => by
    rw [List.cons_append, List.cons_append, jn_cons, ← List.cons_append, jn_app (by simp) h, jn_cons]
    simp only [app_assoc]
theorem jn_jn : ∀ {xss : List (List Str)}, (∀ x ∈ xss, x ≠ []) → jn (xss.map jn) = jn xss.flatten
  | [], _ => rfl
  | [x], _ => by rw [List.map_cons, List.map_nil, jn_one]; simp
  | x :: y :: r, h => by
    have ih := jn_jn (xss := y :: r) fun z hz => h z (List.mem_cons_of_mem _ hz)
    have hy := h y (List.mem_cons_of_mem _ List.mem_cons_self)
    have hne : (y :: r).flatten ≠ [] := fun z => by
      rw [List.flatten_cons] at z
      exact hy (List.append_eq_nil_iff.mp z).1
    rw [List.map_cons, List.map_cons, jn_cons, ← List.map_cons, ih, show (x :: y :: r).flatten = x ++ (y :: r).flatten from rfl, jn_app (h x List.mem_cons_self) hne]
theorem le_sum : ∀ {ws : List Str} {x : Str}, x ∈ ws → x.length ≤ (ws.map (·.length)).sum
  | y :: r, x, h => by
    rw [List.map_cons, List.sum_cons]
    rcases List.mem_cons.mp h with rfl | h
    · omega
    · have := le_sum h; omega
theorem jn_len : ∀ (ws : List Str), (jn ws).length + 1 = (ws.map (·.length)).sum + ws.length + (if ws = [] then 1 else 0)
  | [] => by rw [jn_nil]; rfl
  | [x] => by rw [jn_one]; simp
  | x :: y :: r => by
    have ih := jn_len (y :: r)
    rw [jn_cons, len_app, len_app, List.map_cons, List.sum_cons, List.length_cons]
    rw [if_neg (by simp)] at ih ⊢
    have : spc.length = 1 := by decide +kernel
    omega
theorem jn_le {ws : List Str} {x : Str} (h : x ∈ ws) : x.length ≤ (jn ws).length := by
  have h1 := jn_len ws
  have h2 : x.length ≤ (ws.map (·.length)).sum := le_sum h
  rw [if_neg (by rintro rfl; cases h)] at h1
  have : 0 < ws.length := List.length_pos_of_mem h
  omega
theorem jn_app_le {xs ys : List Str} : (jn xs).length ≤ (jn (xs ++ ys)).length ∧ (jn ys).length ≤ (jn (xs ++ ys)).length := by
  cases xs with
  | nil => rw [jn_nil]; exact ⟨Nat.zero_le _, Nat.le_refl _⟩
  | cons x r =>
    cases ys with
    | nil => rw [jn_nil, List.append_nil]; exact ⟨Nat.le_refl _, Nat.zero_le _⟩
    | cons y s =>
      rw [jn_app (by simp) (by simp), len_app, len_app]
      omega
theorem jn_cons_le {x : Str} {ys : List Str} : (jn ys).length ≤ (jn (x :: ys)).length := (jn_app_le (xs := [x]) (ys := ys)).2
theorem words_split {ws : List Str} (h1 : ws ≠ []) (h2 : ∀ p ∈ ws, 32 ∉ tl p) : Txt.split (jn ws) " " = ws :=
  split_join (y := " ") (s := 32) (S := []) (by decide +kernel) (by decide +kernel) h1 h2
theorem ex_words_ne (e : Ex) : e.words ≠ [] := by cases e <;> simp [Ex.words]
theorem st_words_ne (s : Stm) : s.words ≠ [] := by
  have := words_pos s
  intro z; rw [z] at this; simp at this
theorem block_flat : ∀ l : List Stm, blockWords l = (l.map Stm.words).flatten
  | [] => rfl
  | s :: r => by rw [blockWords, block_flat r]; rfl
end Rd

set_option Elab.async false
set_option linter.all false
set_option maxRecDepth 100000
set_option maxHeartbeats 4000000
namespace K
open PySem PySem.Spec PyProof.Rows L2 Tk Hd Rd
section
variable {P : Program} {w : World} {K : PySem.W.Frag} {mg : Str → Option Value} {base : Heap}
theorem nat_log {n : Nat} (h : n < 10 ^ 64) : (n : Int).natAbs.log2 < 1920 := by
  rw [Int.natAbs_natCast]
  by_cases h0 : n = 0
  · rw [h0]; decide
  · exact (Nat.log2_lt h0).mpr (Nat.lt_of_lt_of_le h (by decide +kernel))
theorem le_line {n : Nat} (h : n ≤ 10000000) : n ≤ sizeLine := Nat.le_trans h (by decide)
def spEt (k : Nat) : Sp := fun vs H Q _ => ∃ (I : Hp) (v : V) (e : Ex) (nm : List Str) (pr : Bool), vs = [v] ∧ Same I H ∧ dR I v e.da ∧ okEx nm pr k e ∧ (jn e.words).length ≤ 10000000 ∧ ∀ I' H', Gr [] I H I' H' → Q (.str (jn e.words)) H'
def spEts : Nat → Sp
  | 0 => spNever
  | k + 1 => spEt k
theorem dR_at {H : Hp} {v : V} {l : List Da} (h : dR H v (.tup l)) : ∃ a vs, v = .ref a ∧ H a = some (.tup vs) ∧ dRs H vs l := by simp only [dR] at h; exact h
theorem dRs_c {H : Hp} {vs : List V} {d : Da} {l : List Da} (h : dRs H vs (d :: l)) : ∃ v r, vs = v :: r ∧ dR H v d ∧ dRs H r l := by simp only [dRs] at h; exact h
theorem dRs_n {H : Hp} {vs : List V} (h : dRs H vs []) : vs = [] := by simp only [dRs] at h; exact h
theorem dR_s {H : Hp} {v : V} {z : Str} (h : dR H v (.str z)) : v = .str z := by simp only [dR] at h; exact h
theorem dR_i {H : Hp} {v : V} {z : Int} (h : dR H v (.int z)) : v = .int z := by simp only [dR] at h; exact h
theorem ops_not {o : Str} (h : o ∈ ops) : o ∉ (["number", "variable"] : List Str) ∧ o ≠ ("press" : Str) := by
  have : ∀ y ∈ ops, y ∉ (["number", "variable"] : List Str) ∧ y ≠ ("press" : Str) := by decide +kernel
  exact this o h
theorem sc__expression_text : FnScope ["expression", "word"] ["expression"] (defScope s__expression_text) := ⟨rfl, rfl, rfl, by decide +kernel, rfl, by decide +kernel, by decide +kernel⟩
theorem ok_et_step (D : Dt K mg) (k : Nat) (H__expression_text : Has P w K mg base (k + 1) (He.ga K "_expression_text") ["expression"] [] (spEts k)) : Has P w K mg base (k + 2) (He.ga K "_expression_text") ["expression"] [] (spEt k) := by
  obtain ⟨fd, F⟩ := fd__expression_text D
  refine hasN F (F.bindsN fun _ _ _ _ _ _ us hl => match us, hl with | [_], _ => rfl) sc__expression_text (fun vs H Q E h => ?_) (fun cdv A outer s H vs Q E hr h => ?_)
  · obtain ⟨I, v, e, nm, pr, rfl, _⟩ := h; rfl
  · obtain ⟨I, v, e, nm, pr, rfl, s0, rv, he, hl, kk⟩ := h
    refine ⟨_, (pss_cons (ps_set (i := 1) sc__expression_text.nd rfl (Or.inl rfl) (pe_ix (ix_tupK K) (pv 0) pe_int (fun _ _ => rfl)))
      (pss_cons (ps_if (pt_cmpR (op_in_seqK K) (pv 1) (pe_tup (pa_cons pe_str (pa_cons pe_str pa_nil))) rfl)
      (pss_one (ps_ret (pe_callTy call_strAny rfl (free_str D) (by decide +kernel) (pa_cons (pe_ix (ix_tupK K) (pv 0) pe_int (fun _ _ => rfl)) pa_nil))))
      pss_nil)
      (pss_cons (ps_if (pt_cmpR op_eq (pv 1) pe_str (nomark _))
      (pss_one (ps_ret pe_str))
      pss_nil)
      (pss_one (ps_ret (pe_joined (PJ.cons (pe_fmt (pv 1)) (PJ.cons pe_str (PJ.cons (pe_fmt (pe_callH H__expression_text (hr.mono (by omega)) rfl (glo__expression_text D) passL (pa_cons (pe_ix (ix_tupK K) (pv 0) pe_int (fun _ _ => rfl)) pa_nil))) (PJ.cons pe_str (PJ.cons (pe_fmt (pe_callH H__expression_text (hr.mono (by omega)) rfl (glo__expression_text D) passL (pa_cons (pe_ix (ix_tupK K) (pv 0) pe_int (fun _ _ => rfl)) pa_nil))) PJ.nil))))))))))), ?_⟩
    have two : ∀ (x : Str), (inV (.str x) [V.str "number", V.str "variable"]) = decide (x ∈ (["number", "variable"] : List Str)) := fun x => inV_strs x ["number", "variable"]
    cases e with
    | num n =>
      have he : n ≤ 65535 := by cases k <;> exact he
      obtain ⟨a, vs, rfl, ha, r⟩ := dR_at rv
      obtain ⟨v0, q0, rfl, h0, p0⟩ := dRs_c r
      obtain ⟨v1, q1, rfl, h1, p1⟩ := dRs_c p0
      obtain rfl := dR_s h0
      obtain rfl := dR_i h1
      obtain rfl := dRs_n p1
      refine ⟨_, rfl, _, _, _, _, rfl, rfl, SqT.of (s0 _ _ ha), at_of (j := 0) rfl rfl, _, rfl, (by show 2 ≤ sizeLine; decide), fun t ht => ?_⟩
      have g0 := Gr.new (ms := []) (o := .tup [.str "number", .str "variable"]) s0 ht
      refine ⟨t, _, rfl, .inr (SqT.of upd_same), rfl, rfl, _, rfl, ?_⟩
      rw [if_neg Bool.false_ne_true, two]
      refine ifT (by decide +kernel) ⟨_, rfl, _, _, _, _, rfl, rfl, SqT.of (g0.ih _ _ (g0.ii _ _ ha)), at_of (j := 1) rfl rfl, .inl ⟨_, rfl, nat_log (by omega), ?_⟩⟩
      have := kk _ _ g0
      rw [show (Ex.num n).words = [dec n] from rfl, jn_one] at this
      exact this
    | var x =>
      obtain ⟨a, vs, rfl, ha, r⟩ := dR_at rv
      obtain ⟨v0, q0, rfl, h0, p0⟩ := dRs_c r
      obtain ⟨v1, q1, rfl, h1, p1⟩ := dRs_c p0
      obtain rfl := dR_s h0
      obtain rfl := dR_s h1
      obtain rfl := dRs_n p1
      refine ⟨_, rfl, _, _, _, _, rfl, rfl, SqT.of (s0 _ _ ha), at_of (j := 0) rfl rfl, _, rfl, (by show 2 ≤ sizeLine; decide), fun t ht => ?_⟩
      have g0 := Gr.new (ms := []) (o := .tup [.str "number", .str "variable"]) s0 ht
      refine ⟨t, _, rfl, .inr (SqT.of upd_same), rfl, rfl, _, rfl, ?_⟩
      rw [if_neg Bool.false_ne_true, two]
      refine ifT (by decide +kernel) ⟨_, rfl, _, _, _, _, rfl, rfl, SqT.of (g0.ih _ _ (g0.ii _ _ ha)), at_of (j := 1) rfl rfl, .inr ⟨_, rfl, ?_⟩⟩
      have := kk _ _ g0
      rw [show (Ex.var x).words = [x] from rfl, jn_one] at this
      exact this
    | press =>
      obtain ⟨a, vs, rfl, ha, r⟩ := dR_at rv
      obtain ⟨v0, q0, rfl, h0, p0⟩ := dRs_c r
      obtain rfl := dR_s h0
      obtain rfl := dRs_n p0
      refine ⟨_, rfl, _, _, _, _, rfl, rfl, SqT.of (s0 _ _ ha), at_of (j := 0) rfl rfl, _, rfl, (by show 2 ≤ sizeLine; decide), fun t ht => ?_⟩
      have g0 := Gr.new (ms := []) (o := .tup [.str "number", .str "variable"]) s0 ht
      refine ⟨t, _, rfl, .inr (SqT.of upd_same), rfl, rfl, _, rfl, ?_⟩
      rw [if_neg Bool.false_ne_true, two]
      refine ifF (by decide +kernel) ?_
      (try unfold tNext)
      (try dsimp only)
      refine ⟨_, rfl, rfl, _, rfl, ifT (by decide +kernel) ?_⟩
      have := kk _ _ g0
      rw [show Ex.press.words = [wd "press"] from rfl, jn_one] at this
      exact this
    | op o x y =>
      cases k with
      | zero => exact absurd he id
      | succ k =>
        obtain ⟨ho, hx, hy⟩ := he
        obtain ⟨n1, n2⟩ := ops_not ho
        obtain ⟨a, vs, rfl, ha, r⟩ := dR_at rv
        obtain ⟨v0, q0, rfl, h0, p0⟩ := dRs_c r
        obtain ⟨v1, q1, rfl, h1, p1⟩ := dRs_c p0
        obtain ⟨v2, q2, rfl, h2, p2⟩ := dRs_c p1
        obtain rfl := dR_s h0
        obtain rfl := dRs_n p2
        have ew : jn (Ex.op o x y).words = o ++ (spc ++ (jn x.words ++ (spc ++ jn y.words))) := by
          rw [show (Ex.op o x y).words = [o] ++ (x.words ++ y.words) from rfl, jn_app (by simp) (by simp [ex_words_ne x]), jn_app (ex_words_ne x) (ex_words_ne y), jn_one]
        rw [ew] at hl
        rw [len_app, len_app, len_app, len_app] at hl
        have l1 : spc.length = 1 := by decide +kernel
        refine ⟨_, rfl, _, _, _, _, rfl, rfl, SqT.of (s0 _ _ ha), at_of (j := 0) rfl rfl, _, rfl, (by show 2 ≤ sizeLine; decide), fun t ht => ?_⟩
        have g0 := Gr.new (ms := []) (o := .tup [.str "number", .str "variable"]) s0 ht
        refine ⟨t, _, rfl, .inr (SqT.of upd_same), rfl, rfl, _, rfl, ?_⟩
        rw [if_neg Bool.false_ne_true, two]
        refine ifF (decide_eq_false n1) ?_
        (try unfold tNext)
        (try dsimp only)
        refine ⟨_, rfl, rfl, _, rfl, ifF (by simpa using n2) ?_⟩
        (try unfold tNext)
        (try dsimp only)
        have ha0 := g0.ii _ _ ha
        refine ⟨_, rfl, .inl ⟨o, rfl, le_line (by omega), o, rfl, le_line (by rw [empty_app']; omega), " ", rfl, le_line (by rw [empty_app', len_app]; show o.length + spc.length ≤ _; omega), ?_⟩⟩
        refine ⟨_, rfl, _, _, _, _, rfl, rfl, SqT.of (g0.ih _ _ ha0), at_of (j := 1) rfl rfl, _, _, x, nm, pr, rfl, g0.ih, dR_up g0.ii _ _ h1, hx, by omega, fun I1 H1 g1 => .inl ⟨_, rfl, le_line (by omega), _, rfl, le_line (by rw [empty_app', len_app, len_app]; show o.length + spc.length + _ ≤ _; omega), " ", rfl, le_line (by rw [empty_app', len_app, len_app, len_app]; show o.length + spc.length + _ + spc.length ≤ _; omega), ?_⟩⟩
        refine ⟨_, rfl, _, _, _, _, rfl, rfl, SqT.of (g1.ih _ _ (g1.ii _ _ ha0)), at_of (j := 2) rfl rfl, _, _, y, nm, pr, rfl, g1.ih, dR_up (g0.ii.trans g1.ii) _ _ h2, hy, by omega, fun I2 H2 g2 => .inl ⟨_, rfl, le_line (by omega), _, rfl, le_line (by rw [empty_app', len_app, len_app, len_app, len_app]; show o.length + spc.length + _ + spc.length + _ ≤ _; omega), ?_⟩⟩
        have := kk _ _ (g0.trans (g1.trans g2))
        rw [ew] at this
        have e9 : Str.empty ++ o ++ (" " : Str) ++ jn x.words ++ (" " : Str) ++ jn y.words = o ++ (spc ++ (jn x.words ++ (spc ++ jn y.words))) := by
          rw [empty_app', app_assoc, app_assoc, app_assoc]; rfl
        rw [← e9] at this
        exact this
theorem ok_et' (D : Dt K mg) : ∀ k, Has P w K mg base (k + 1) (He.ga K "_expression_text") ["expression"] [] (spEts k)
  | 0 => by
    obtain ⟨fd, F⟩ := fd__expression_text D
    exact has_never F (F.bindsN fun _ _ _ _ _ _ us hl => match us, hl with | [_], _ => rfl)
  | k + 1 => ok_et_step D k (ok_et' D k)
theorem ok_et (D : Dt K mg) : Has P w K mg base 6 (He.ga K "_expression_text") ["expression"] [] (spEt 4) := ok_et' D 5
end
end K

set_option Elab.async false
set_option linter.all false
set_option maxRecDepth 100000
set_option maxHeartbeats 4000000
namespace Tk
open PySem PySem.Spec PyProof.Rows L2
/-- the elements of a list or a tuple -/
theorem seqs_of {α : Type} {R : Rp α} {I H : Hp} {v : V} {xs : List α} (h : iL R I v xs) (s : Same I H) : ∃ a vs, v = .ref a ∧ H a = some (.lst vs) ∧ All2 (R I) vs xs := by
  obtain ⟨a, vs, e, ha, a2⟩ := h
  exact ⟨a, vs, e, s _ _ ha, a2⟩
end Tk
namespace K
open PySem PySem.Spec PyProof.Rows L2 Tk Hd Rd
section
variable {P : Program} {w : World} {K : PySem.W.Frag} {mg : Str → Option Value} {base : Heap}
def btx (l : List Stm) : List Str := l.map fun s => jn s.words
def spBw (k : Nat) : Sp := fun vs H Q _ => ∃ (I : Hp) (v : V) (l : List Stm) (nm : List Str) (pr ar : Bool), vs = [v] ∧ Same I H ∧ dR I v (.tup (blockDa .tup l)) ∧ okBl nm pr ar k l ∧ (jn (blockWords l)).length ≤ 10000000 ∧ (blockWords l).length ≤ 1000000 ∧ Ret [] I H (iL iS) (btx l) Q
def spBws : Nat → Sp
  | 0 => spNever
  | k + 1 => spBw k
def spStt (k : Nat) : Sp := fun vs H Q _ => ∃ (I : Hp) (v : V) (s : Stm) (nm : List Str) (pr ar : Bool), vs = [v] ∧ Same I H ∧ dR I v (s.da .tup) ∧ okSt nm pr ar k s ∧ (jn s.words).length ≤ 10000000 ∧ s.words.length ≤ 1000000 ∧ ∀ I' H', Gr [] I H I' H' → Q (.str (jn s.words)) H'
def spCt (k : Nat) : Sp := fun vs H Q _ => ∃ (I : Hp) (v : V) (e : Ex) (s t : List Stm) (nm : List Str) (pr ar : Bool), vs = [v] ∧ Same I H ∧ dR I v ((Stm.ite e s t).da .tup) ∧ okSt nm pr ar k (.ite e s t) ∧ (jn (Stm.ite e s t).words).length ≤ 10000000 ∧ (Stm.ite e s t).words.length ≤ 1000000 ∧ ∀ I' H', Gr [] I H I' H' → Q (.str (jn (Stm.ite e s t).words)) H'
theorem btx_jn (l : List Stm) : (jn (blockWords l)) = jn (btx l) := by
  rw [block_flat, ← jn_jn (fun x hx => by obtain ⟨s, _, rfl⟩ := List.mem_map.mp hx; exact st_words_ne s)]
  unfold btx; rw [List.map_map]; rfl
/-- the words of a choice, part by part -/
def iteParts (e : Ex) (s t : List Stm) : List Str := [wd "if", jn e.words] ++ btx s ++ (if t.isEmpty = true then [] else wd "else" :: btx t) ++ [wd "end"]
theorem ite_jn (e : Ex) (s t : List Stm) : jn (Stm.ite e s t).words = jn (iteParts e s t) := by
  have h : ∀ xss : List (List Str), (∀ x ∈ xss, x ≠ []) → iteParts e s t = xss.map jn → (Stm.ite e s t).words = xss.flatten → jn (Stm.ite e s t).words = jn (iteParts e s t) := fun xss h1 h2 h3 => by rw [h2, h3, jn_jn h1]
  refine h ([[wd "if"], e.words] ++ s.map Stm.words ++ (if t.isEmpty = true then [] else [wd "else"] :: t.map Stm.words) ++ [[wd "end"]]) ?_ ?_ ?_
  · intro x hx
    have hs : ∀ l : List Stm, x ∈ l.map Stm.words → x ≠ [] := fun l hl => by obtain ⟨s, _, rfl⟩ := List.mem_map.mp hl; exact st_words_ne s
    simp only [List.mem_append, List.mem_cons, List.not_mem_nil, or_false] at hx
    rcases hx with (((rfl | rfl) | h) | h) | rfl
    · simp
    · exact ex_words_ne e
    · exact hs _ h
    · split at h
      · cases h
      · rcases List.mem_cons.mp h with rfl | h
        · simp
        · exact hs _ h
    · simp
  · unfold iteParts btx
    cases t with
    | nil => simp [jn_one, Function.comp_def]
    | cons a b => simp [jn_one, Function.comp_def]
  · cases t with
    | nil => simp [Stm.words, block_flat]
    | cons a b => simp [Stm.words, block_flat]
theorem btx_len (l : List Stm) : (btx l).length = l.length := by unfold btx; simp
theorem sc__choice_text : FnScope ["statement", "_", "asked", "chosen", "others", "words"] ["statement"] (defScope s__choice_text) := ⟨rfl, rfl, rfl, by decide +kernel, rfl, by decide +kernel, by decide +kernel⟩
theorem ok_ct_step (D : Dt K mg) (k : Nat) (H__block_words : Has P w K mg base (3 * k + 10) (He.ga K "_block_words") ["block"] [] (spBws k)) : Has P w K mg base (3 * k + 11) (He.ga K "_choice_text") ["statement"] [] (spCt k) := by
  obtain ⟨fd, F⟩ := fd__choice_text D
  have H__expression_text := ok_et (P := P) (w := w) (base := base) D
  refine hasN F (F.bindsN fun _ _ _ _ _ _ us hl => match us, hl with | [_], _ => rfl) sc__choice_text (fun vs H Q E h => ?_) (fun cdv A outer s H vs Q E hr h => ?_)
  · obtain ⟨I, v, e, s, t, nm, pr, ar, rfl, _⟩ := h; rfl
  · obtain ⟨I, v, e, s, t, nm, pr, ar, rfl, s0, rv, ho, hl, hw, kk⟩ := h
    refine ⟨_, (pss_cons (ps_asg (pv 0) (pg_tupK K rfl (pgs_cons (pg_name (i := 1) sc__choice_text.nd rfl (Or.inl rfl)) (pgs_cons (pg_name (i := 2) sc__choice_text.nd rfl (Or.inl rfl)) (pgs_cons (pg_name (i := 3) sc__choice_text.nd rfl (Or.inl rfl)) (pgs_cons (pg_name (i := 4) sc__choice_text.nd rfl (Or.inl rfl)) pgs_nil))))))
      (pss_cons (ps_set (i := 5) sc__choice_text.nd rfl (Or.inl rfl) (pe_lst (pa_cons pe_str (pa_cons (pe_callH H__expression_text (hr.mono (by omega)) rfl (glo__expression_text D) passL (pa_cons (pv 2) pa_nil)) (pa_starK K (pe_callH H__block_words (hr.mono (by omega)) rfl (glo__block_words D) passL (pa_cons (pv 3) pa_nil)) pa_nil)))))
      (pss_cons (ps_if (pt_cmpR op_gt (pe_callB (call_lenK K) rfl (free_len D) PySem.boot_len (pa_cons (pv 4) pa_nil)) pe_int (nomark _))
      (pss_one (ps_expr (pe_bm PySem.F.plainAttrs_list PySem.F.slot_list_extend PySem.F.type_list_extend mt_extend (pv 5) (pa_cons (pe_lst (pa_cons pe_str (pa_starK K (pe_callH H__block_words (hr.mono (by omega)) rfl (glo__block_words D) passL (pa_cons (pv 4) pa_nil)) pa_nil))) pa_nil))))
      pss_nil)
      (pss_one (ps_ret (pe_bm PySem.F.plainAttrs_str PySem.F.slot_str_join PySem.F.type_str_join mt_join pe_str (pa_cons (pe_lst (pa_starK K (pv 5) (pa_cons pe_str pa_nil))) pa_nil))))))), ?_⟩
    obtain ⟨hk, he, hs, ht⟩ := ho
    cases k with
    | zero => omega
    | succ k =>
    rw [ite_jn] at hl kk
    obtain ⟨a, vs, rfl, ha, r⟩ := dR_at rv
    obtain ⟨v0, q0, rfl, h0, p0⟩ := dRs_c r
    obtain ⟨v1, q1, rfl, h1, p1⟩ := dRs_c p0
    obtain ⟨v2, q2, rfl, h2, p2⟩ := dRs_c p1
    obtain ⟨v3, q3, rfl, h3, p3⟩ := dRs_c p2
    obtain rfl := dRs_n p3
    have hl1 : (jn [wd "if", jn e.words]).length ≤ 10000000 ∧ (jn (btx s)).length ≤ 10000000 ∧ (jn (btx t)).length ≤ 10000000 := by
      have a1 := (jn_app_le (xs := [wd "if", jn e.words] ++ btx s ++ (if t.isEmpty = true then [] else wd "else" :: btx t)) (ys := [wd "end"])).1
      have a2 := (jn_app_le (xs := [wd "if", jn e.words] ++ btx s) (ys := (if t.isEmpty = true then [] else wd "else" :: btx t)))
      have a3 := (jn_app_le (xs := [wd "if", jn e.words]) (ys := btx s))
      have a4 : (jn (btx t)).length ≤ (jn (if t.isEmpty = true then [] else wd "else" :: btx t)).length := by
        cases t with
        | nil => exact Nat.le_refl _
        | cons x y => exact jn_cons_le
      have : (jn ([wd "if", jn e.words] ++ btx s ++ (if t.isEmpty = true then [] else wd "else" :: btx t) ++ [wd "end"])).length ≤ 10000000 := hl
      refine ⟨?_, ?_, ?_⟩ <;> omega
    have hle : (jn e.words).length ≤ 10000000 := Nat.le_trans (jn_cons_le (x := wd "if") (ys := [jn e.words])) hl1.1
    have hws : (blockWords s).length ≤ 1000000 ∧ (blockWords t).length ≤ 1000000 ∧ s.length + t.length + 10 ≤ 10000000 := by
      have b1 := len_le_words s
      have b2 := len_le_words t
      have b3 : (blockWords t).length ≤ ((if t.isEmpty = true then [] else wd "else" :: blockWords t) ++ [wd "end"]).length := by
        cases t with
        | nil => simp [blockWords]
        | cons a b => simp [List.isEmpty]; omega
      have hw : (Stm.ite e s t).words.length ≤ 1000000 := hw
      simp only [Stm.words, List.length_cons, List.length_append] at hw b3
      refine ⟨?_, ?_, ?_⟩ <;> omega
    refine ⟨_, rfl, a, _, rfl, SqT.of (s0 _ _ ha), rfl, _, _, rfl, _, _, rfl, _, _, rfl, _, _, rfl, rfl, ?_⟩
    refine ⟨_, rfl, I, _, e, nm, pr, rfl, s0, h1, he, hle, fun I1 H1 g1 => ?_⟩
    refine ⟨_, rfl, I1, _, s, nm, pr, ar, rfl, g1.ih, dR_up g1.ii _ _ h2, hs, by rw [btx_jn]; exact hl1.2.1, hws.1, fun I2 H2 w2 g2 r2 => ?_⟩
    obtain ⟨b2, us2, rfl, hb2, a2⟩ := seqs_of r2 g2.ih
    obtain rfl := a2.strs
    have lb : (btx s).length = s.length := btx_len s
    have lbt : (btx t).length = t.length := btx_len t
    refine ⟨b2, _, rfl, .inr (SqL.of hb2), (by simp only [List.length_cons, List.length_append, List.length_map, List.length_nil]; exact le_line (by omega)), fun l hlz => ?_⟩
    have gl : Gr [l] I2 H2 I2 (upd H2 l (.lst (.str (wd "if") :: .str (jn e.words) :: ((btx s).map V.str ++ [])))) := Gr.tmp g2.ih hlz
    have il : I2 l = none := g2.ih.free hlz
    (try dsimp only)
    have G0 := (g1.trans g2)
    refine seq_cut (fun σ' H' => ∃ I', σ' = [some (V.ref a), some v0, some v1, some v2, some v3, some (.ref l)] ∧ Gr [l] I2 H2 I' H' ∧ I' l = none ∧ H' l = some (.lst (([wd "if", jn e.words] ++ btx s ++ (if t.isEmpty = true then [] else wd "else" :: btx t)).map V.str))) (fun nx q => ?_) ?_
    · obtain ⟨a3, us3, rfl, ha3, r3⟩ := dR_at h3
      have l3 := dRs_len r3
      rw [blockDa_map, List.length_map] at l3
      have s2 : Same I H2 := G0.ii.trans G0.ih
      refine ⟨_, rfl, _, _, rfl, .inr ⟨_, SqT.of (gl.ih _ _ (g2.ii _ _ (g1.ii _ _ ha3))), rfl⟩, _, _, rfl, rfl, _, rfl, ?_⟩
      refine ifD (fun c => ?_) (fun c => ?_)
      · have ht0 : t.isEmpty = false := by
          cases t with
          | nil => simp at l3; rw [l3] at c; simp at c
          | cons x y => rfl
        refine ⟨_, rfl, .inl ⟨rfl, _, SqL.of upd_same⟩, ?_⟩
        refine ⟨_, rfl, I2, _, t, nm, pr, ar, rfl, gl.ih, dR_up G0.ii _ _ h3, ht, by rw [btx_jn]; exact hl1.2.2, hws.2.1, fun I4 H4 w4 g4 r4 => ?_⟩
        obtain ⟨b4, us4, rfl, hb4, a4⟩ := seqs_of r4 g4.ih
        obtain rfl := a4.strs
        refine ⟨b4, _, rfl, .inr (SqL.of hb4), (by simp only [List.length_cons, List.length_append, List.length_map, List.length_nil]; exact le_line (by omega)), fun m hm => ?_⟩
        have hl4 := g4.at upd_same (by simp)
        have nlm : l ≠ m := fun z => by rw [← z, hl4] at hm; cases hm
        refine ⟨l, m, _, _, rfl, rfl, (by rw [upd_ne nlm]; exact hl4), upd_same, (by simp only [List.length_cons, List.length_append, List.length_map, List.length_nil]; exact le_line (by omega)), ?_⟩
        have gm := Gr.new (ms := [l]) (o := .lst (.str (wd "else") :: ((btx t).map V.str ++ []))) g4.ih hm
        have i4 := g4.out il upd_same
        have im : upd I4 m (.lst (.str (wd "else") :: ((btx t).map V.str ++ []))) l = none := by rw [upd_ne nlm]; exact i4
        have gx := Gr.mut (ms := [l]) (o := .lst (.str (wd "if") :: .str (jn e.words) :: ((btx s).map V.str ++ []) ++ (.str (wd "else") :: ((btx t).map V.str ++ [])))) gm.ih im (by simp)
        refine q _ _ ⟨_, rfl, ((gl.trans (g4.mono fun _ z => nomatch z)).trans gm).trans gx, im, ?_⟩
        rw [upd_same, ht0, if_neg Bool.false_ne_true]
        simp
        exact ⟨rfl, rfl⟩
      · have ht0 : t = [] := by
          cases t with
          | nil => rfl
          | cons x y => exact absurd (by rw [l3]; simp) c
        subst ht0
        refine q _ _ ⟨_, rfl, gl, il, ?_⟩
        rw [upd_same]; simp
        rfl
    rintro σ' H' ⟨I', rfl, gg, hI, hH⟩
    (try dsimp only)
    have lit : (if t.isEmpty = true then [] else wd "else" :: btx t).length ≤ t.length + 1 := by split <;> simp [btx_len]
    refine ⟨rfl, _, rfl, l, _, rfl, .inr (SqL.of hH), ?_, fun m hm => ?_⟩
    · simp only [List.length_cons, List.length_append, List.length_map, List.length_nil]
      exact le_line (by omega)
    have e9 : ([wd "if", jn e.words] ++ btx s ++ (if t.isEmpty = true then [] else wd "else" :: btx t)).map V.str ++ [V.str "end"] = (iteParts e s t).map V.str := by
      unfold iteParts; rw [List.map_append (l₁ := _ ++ _ ++ _)]; rfl
    refine ⟨" ", m, iteParts e s t, rfl, rfl, .inl (SqL.of (upd_same.trans (congrArg (fun x => some (HO.lst x)) e9))), ?_, ?_⟩
    · have := jn_len (iteParts e s t)
      rw [if_neg (by unfold iteParts; simp)] at this
      have l1 : Str.length (" " : Str) = 1 := by decide +kernel
      rw [l1]; omega
    · exact kk _ _ (G0.trans ((gg.trans (Gr.new gg.ih hm)).drop hlz))
theorem sc__statement_text : FnScope ["statement", "word"] ["statement"] (defScope s__statement_text) := ⟨rfl, rfl, rfl, by decide +kernel, rfl, by decide +kernel, by decide +kernel⟩
theorem ok_stt_step (D : Dt K mg) (k : Nat) (H__choice_text : Has P w K mg base (3 * k + 11) (He.ga K "_choice_text") ["statement"] [] (spCt k)) : Has P w K mg base (3 * k + 12) (He.ga K "_statement_text") ["statement"] [] (spStt k) := by
  obtain ⟨fd, F⟩ := fd__statement_text D
  have H__expression_text := ok_et (P := P) (w := w) (base := base) D
  refine hasN F (F.bindsN fun _ _ _ _ _ _ us hl => match us, hl with | [_], _ => rfl) sc__statement_text (fun vs H Q E h => ?_) (fun cdv A outer s H vs Q E hr h => ?_)
  · obtain ⟨I, v, s, nm, pr, ar, rfl, _⟩ := h; rfl
  · obtain ⟨I, v, s, nm, pr, ar, rfl, s0, rv, ho, hl, hw, kk⟩ := h
    refine ⟨_, (pss_cons (ps_set (i := 1) sc__statement_text.nd rfl (Or.inl rfl) (pe_ix (ix_tupK K) (pv 0) pe_int (fun _ _ => rfl)))
      (pss_cons (ps_if (pt_cmpR op_eq (pv 1) pe_str (nomark _))
      (pss_one (ps_ret (pe_callH H__choice_text (hr.mono (by omega)) rfl (glo__choice_text D) passL (pa_cons (pv 0) pa_nil))))
      pss_nil)
      (pss_cons (ps_if (pt_cmpR op_eq (pv 1) pe_str (nomark _))
      (pss_one (ps_ret (pe_joined (PJ.cons pe_str (PJ.cons (pe_fmt (pe_callH H__expression_text (hr.mono (by omega)) rfl (glo__expression_text D) passL (pa_cons (pe_ix (ix_tupK K) (pv 0) pe_int (fun _ _ => rfl)) pa_nil))) PJ.nil)))))
      pss_nil)
      (pss_cons (ps_if (pt_cmpR op_eq (pv 1) pe_str (nomark _))
      (pss_one (ps_ret (pe_joined (PJ.cons pe_str (PJ.cons (pe_fmt (pe_ix (ix_tupK K) (pv 0) pe_int (fun _ _ => rfl))) (PJ.cons pe_str (PJ.cons (pe_fmt (pe_ix (ix_tupK K) (pv 0) pe_int (fun _ _ => rfl))) PJ.nil)))))))
      pss_nil)
      (pss_one (ps_ret (pe_joined (PJ.cons (pe_fmt (pv 1)) (PJ.cons pe_str (PJ.cons (pe_fmt (pe_ix (ix_tupK K) (pv 0) pe_int (fun _ _ => rfl))) (PJ.cons pe_str (PJ.cons (pe_fmt (pe_callH H__expression_text (hr.mono (by omega)) rfl (glo__expression_text D) passL (pa_cons (pe_ix (ix_tupK K) (pv 0) pe_int (fun _ _ => rfl)) pa_nil))) PJ.nil)))))))))))), ?_⟩
    have l1 : spc.length = 1 := by decide +kernel
    cases s with
    | ite e s t =>
      obtain ⟨a, vs, rfl, ha, r⟩ := dR_at rv
      obtain ⟨v0, q0, rfl, h0, p0⟩ := dRs_c r
      obtain rfl := dR_s h0
      refine ⟨_, rfl, _, _, _, _, rfl, rfl, SqT.of (s0 _ _ ha), at_of (j := 0) rfl rfl, _, rfl, rfl, _, rfl, ifT (by decide +kernel) ?_⟩
      exact ⟨_, rfl, I, _, e, s, t, nm, pr, ar, rfl, s0, rv, ho, hl, hw, kk⟩
    | say e =>
      obtain ⟨a, vs, rfl, ha, r⟩ := dR_at rv
      obtain ⟨v0, q0, rfl, h0, p0⟩ := dRs_c r
      obtain ⟨v1, q1, rfl, h1, p1⟩ := dRs_c p0
      obtain rfl := dR_s h0
      obtain rfl := dRs_n p1
      have ew : jn (Stm.say e).words = wd "say" ++ (spc ++ jn e.words) := by
        rw [show (Stm.say e).words = [wd "say"] ++ e.words from rfl, jn_app (by simp) (ex_words_ne e), jn_one]
      rw [ew] at hl kk
      rw [len_app, len_app] at hl
      have l7 : Str.length (wd "say") = 3 := by decide +kernel
      refine ⟨_, rfl, _, _, _, _, rfl, rfl, SqT.of (s0 _ _ ha), at_of (j := 0) rfl rfl, _, rfl, rfl, _, rfl, ifF (by decide +kernel) ?_⟩
      (try unfold tNext)
      (try dsimp only)
      refine ⟨_, rfl, rfl, _, rfl, ifT (by decide +kernel) ?_⟩
      refine ⟨"say ", rfl, (by decide +kernel), _, rfl, _, _, _, _, rfl, rfl, SqT.of (s0 _ _ ha), at_of (j := 1) rfl rfl, I, _, e, nm, pr, rfl, s0, h1, ho.2, by omega, fun I1 H1 g1 => .inl ⟨_, rfl, le_line (by omega), _, rfl, ?_, ?_⟩⟩
      · rw [empty_app', len_app]; exact le_line (by have : Str.length ("say " : Str) = 4 := by decide +kernel
                                                    omega)
      · have := kk _ _ g1
        have e9 : Str.empty ++ ("say " : Str) ++ jn e.words = wd "say" ++ (spc ++ jn e.words) := by
          rw [empty_app', ← app_assoc]; rfl
        rw [← e9] at this; exact this
    | draw x n =>
      obtain ⟨a, vs, rfl, ha, r⟩ := dR_at rv
      obtain ⟨v0, q0, rfl, h0, p0⟩ := dRs_c r
      obtain ⟨v1, q1, rfl, h1, p1⟩ := dRs_c p0
      obtain ⟨v2, q2, rfl, h2, p2⟩ := dRs_c p1
      obtain rfl := dR_s h0
      obtain rfl := dR_s h1
      obtain rfl := dR_i h2
      obtain rfl := dRs_n p2
      have ew : jn (Stm.draw x n).words = wd "draw" ++ (spc ++ (x ++ (spc ++ dec n))) := by
        rw [show (Stm.draw x n).words = [wd "draw"] ++ ([x] ++ [dec n]) from rfl, jn_app (by simp) (by simp), jn_app (by simp) (by simp), jn_one, jn_one, jn_one]
      rw [ew] at hl kk
      rw [len_app, len_app, len_app, len_app] at hl
      refine ⟨_, rfl, _, _, _, _, rfl, rfl, SqT.of (s0 _ _ ha), at_of (j := 0) rfl rfl, _, rfl, rfl, _, rfl, ifF (by decide +kernel) ?_⟩
      (try unfold tNext)
      (try dsimp only)
      refine ⟨_, rfl, rfl, _, rfl, ifF (by decide +kernel) ?_⟩
      (try unfold tNext)
      (try dsimp only)
      refine ⟨_, rfl, rfl, _, rfl, ifT (by decide +kernel) ?_⟩
      have l5 : Str.length ("draw " : Str) = 5 := by decide +kernel
      have l7 : Str.length (wd "draw") = 4 := by decide +kernel
      have l6 : Str.length (" " : Str) = 1 := by decide +kernel
      have hn := ho.2.2
      refine ⟨"draw ", rfl, (by decide +kernel), _, rfl, _, _, _, _, rfl, rfl, SqT.of (s0 _ _ ha), at_of (j := 1) rfl rfl, .inl ⟨x, rfl, le_line (by omega), x, rfl, (by rw [empty_app', len_app]; exact le_line (by omega)), " ", rfl, (by rw [empty_app', len_app, len_app]; exact le_line (by omega)), _, rfl, _, _, _, _, rfl, rfl, SqT.of (s0 _ _ ha), at_of (j := 2) rfl rfl, .inr ⟨_, rfl, nat_log (by omega), _, rfl, ?_, ?_⟩⟩⟩
      · show (Str.empty ++ ("draw " : Str) ++ x ++ (" " : Str) ++ dec n).length ≤ sizeLine
        rw [empty_app', len_app, len_app, len_app]; exact le_line (by omega)
      · have := kk _ _ (Gr.refl s0)
        have e9 : Str.empty ++ ("draw " : Str) ++ x ++ (" " : Str) ++ dec n = wd "draw" ++ (spc ++ (x ++ (spc ++ dec n))) := by
          rw [empty_app', app_assoc, app_assoc, ← app_assoc (wd "draw")]; rfl
        rw [← e9] at this; exact this
    | set x e =>
      obtain ⟨a, vs, rfl, ha, r⟩ := dR_at rv
      obtain ⟨v0, q0, rfl, h0, p0⟩ := dRs_c r
      obtain ⟨v1, q1, rfl, h1, p1⟩ := dRs_c p0
      obtain ⟨v2, q2, rfl, h2, p2⟩ := dRs_c p1
      obtain rfl := dR_s h0
      obtain rfl := dR_s h1
      obtain rfl := dRs_n p2
      have ew : jn (Stm.set x e).words = wd "set" ++ (spc ++ (x ++ (spc ++ jn e.words))) := by
        rw [show (Stm.set x e).words = [wd "set"] ++ ([x] ++ e.words) from rfl, jn_app (by simp) (by simp), jn_app (by simp) (ex_words_ne e), jn_one, jn_one]
      rw [ew] at hl kk
      rw [len_app, len_app, len_app, len_app] at hl
      refine ⟨_, rfl, _, _, _, _, rfl, rfl, SqT.of (s0 _ _ ha), at_of (j := 0) rfl rfl, _, rfl, rfl, _, rfl, ifF (by decide +kernel) ?_⟩
      (try unfold tNext)
      (try dsimp only)
      refine ⟨_, rfl, rfl, _, rfl, ifF (by decide +kernel) ?_⟩
      (try unfold tNext)
      (try dsimp only)
      refine ⟨_, rfl, rfl, _, rfl, ifF (by decide +kernel) ?_⟩
      (try unfold tNext)
      (try dsimp only)
      have l5 : Str.length (wd "set") = 3 := by decide +kernel
      have l6 : Str.length (" " : Str) = 1 := by decide +kernel
      refine ⟨_, rfl, .inl ⟨wd "set", rfl, (by decide +kernel), wd "set", rfl, (by decide +kernel), " ", rfl, (by decide +kernel), _, rfl, _, _, _, _, rfl, rfl, SqT.of (s0 _ _ ha), at_of (j := 1) rfl rfl, .inl ⟨x, rfl, le_line (by omega), x, rfl, (by rw [empty_app', len_app, len_app]; exact le_line (by omega)), " ", rfl, (by rw [empty_app', len_app, len_app, len_app]; exact le_line (by omega)), _, rfl, _, _, _, _, rfl, rfl, SqT.of (s0 _ _ ha), at_of (j := 2) rfl rfl, I, _, e, nm, pr, rfl, s0, h2, ho.2, by omega, fun I1 H1 g1 => .inl ⟨_, rfl, le_line (by omega), _, rfl, ?_, ?_⟩⟩⟩⟩
      · rw [empty_app', len_app, len_app, len_app, len_app]; exact le_line (by omega)
      · have := kk _ _ g1
        have e9 : Str.empty ++ wd "set" ++ (" " : Str) ++ x ++ (" " : Str) ++ jn e.words = wd "set" ++ (spc ++ (x ++ (spc ++ jn e.words))) := by
          rw [empty_app', app_assoc, app_assoc, app_assoc]; rfl
        rw [← e9] at this; exact this
    | use x e =>
      obtain ⟨a, vs, rfl, ha, r⟩ := dR_at rv
      obtain ⟨v0, q0, rfl, h0, p0⟩ := dRs_c r
      obtain ⟨v1, q1, rfl, h1, p1⟩ := dRs_c p0
      obtain ⟨v2, q2, rfl, h2, p2⟩ := dRs_c p1
      obtain rfl := dR_s h0
      obtain rfl := dR_s h1
      obtain rfl := dRs_n p2
      have ew : jn (Stm.use x e).words = wd "use" ++ (spc ++ (x ++ (spc ++ jn e.words))) := by
        rw [show (Stm.use x e).words = [wd "use"] ++ ([x] ++ e.words) from rfl, jn_app (by simp) (by simp), jn_app (by simp) (ex_words_ne e), jn_one, jn_one]
      rw [ew] at hl kk
      rw [len_app, len_app, len_app, len_app] at hl
      refine ⟨_, rfl, _, _, _, _, rfl, rfl, SqT.of (s0 _ _ ha), at_of (j := 0) rfl rfl, _, rfl, rfl, _, rfl, ifF (by decide +kernel) ?_⟩
      (try unfold tNext)
      (try dsimp only)
      refine ⟨_, rfl, rfl, _, rfl, ifF (by decide +kernel) ?_⟩
      (try unfold tNext)
      (try dsimp only)
      refine ⟨_, rfl, rfl, _, rfl, ifF (by decide +kernel) ?_⟩
      (try unfold tNext)
      (try dsimp only)
      have l5 : Str.length (wd "use") = 3 := by decide +kernel
      have l6 : Str.length (" " : Str) = 1 := by decide +kernel
      refine ⟨_, rfl, .inl ⟨wd "use", rfl, (by decide +kernel), wd "use", rfl, (by decide +kernel), " ", rfl, (by decide +kernel), _, rfl, _, _, _, _, rfl, rfl, SqT.of (s0 _ _ ha), at_of (j := 1) rfl rfl, .inl ⟨x, rfl, le_line (by omega), x, rfl, (by rw [empty_app', len_app, len_app]; exact le_line (by omega)), " ", rfl, (by rw [empty_app', len_app, len_app, len_app]; exact le_line (by omega)), _, rfl, _, _, _, _, rfl, rfl, SqT.of (s0 _ _ ha), at_of (j := 2) rfl rfl, I, _, e, nm, pr, rfl, s0, h2, ho.2.2, by omega, fun I1 H1 g1 => .inl ⟨_, rfl, le_line (by omega), _, rfl, ?_, ?_⟩⟩⟩⟩
      · rw [empty_app', len_app, len_app, len_app, len_app]; exact le_line (by omega)
      · have := kk _ _ g1
        have e9 : Str.empty ++ wd "use" ++ (" " : Str) ++ x ++ (" " : Str) ++ jn e.words = wd "use" ++ (spc ++ (x ++ (spc ++ jn e.words))) := by
          rw [empty_app', app_assoc, app_assoc, app_assoc]; rfl
        rw [← e9] at this; exact this
theorem st_in {l : List Stm} {s : Stm} (h : s ∈ l) : s.words.length ≤ (blockWords l).length ∧ (jn s.words).length ≤ (jn (blockWords l)).length := by
  induction l with
  | nil => cases h
  | cons x r ih =>
    have e : blockWords (x :: r) = x.words ++ blockWords r := by rw [blockWords]
    rw [e]
    rcases List.mem_cons.mp h with rfl | h
    · exact ⟨by simp, (jn_app_le (xs := s.words) (ys := blockWords r)).1⟩
    · obtain ⟨a, b⟩ := ih h
      exact ⟨by simp; omega, Nat.le_trans b (jn_app_le (xs := x.words) (ys := blockWords r)).2⟩
theorem okBl_in {nm : List Str} {pr ar : Bool} {k : Nat} : ∀ {l : List Stm} {s : Stm}, okBl nm pr ar k l → s ∈ l → okSt nm pr ar k s
  | x :: r, s, h, hs => by
    rcases List.mem_cons.mp hs with rfl | hs
    · exact h.1
    · exact okBl_in h.2 hs
def iStt : Rp Stm := fun H v s => dR H v (s.da .tup)
instance : Mono iStt := ⟨fun s h => dR_up s _ _ h⟩
theorem sc__block_words : FnScope ["block", "statement"] ["block"] (defScope s__block_words) := ⟨rfl, rfl, rfl, by decide +kernel, rfl, by decide +kernel, by decide +kernel⟩
theorem ok_bw_step (D : Dt K mg) (k : Nat) (H__statement_text : Has P w K mg base (3 * k + 12) (He.ga K "_statement_text") ["statement"] [] (spStt k)) : Has P w K mg base (3 * k + 13) (He.ga K "_block_words") ["block"] [] (spBw k) := by
  obtain ⟨fd, F⟩ := fd__block_words D
  refine hasN F (F.bindsN fun _ _ _ _ _ _ us hl => match us, hl with | [_], _ => rfl) sc__block_words (fun vs H Q E h => ?_) (fun cdv A outer s H vs Q E hr h => ?_)
  · obtain ⟨I, v, l, nm, pr, ar, rfl, _⟩ := h; rfl
  · obtain ⟨I, v, l, nm, pr, ar, rfl, s0, rv, ho, hl, hw, kk⟩ := h
    refine ⟨_, (pss_one (ps_ret (pe_lc (own := [("statement", 1)]) (g := gName 1) rfl sc__block_words.nd (pi_tupK K (pv 0)) (blkOk_by (own := [("statement", 1)]) (N := ["block", "statement"]) (by kernel_rfl)) (fun _ _ _ _ _ => (pg_name (i := 1) sc__block_words.nd rfl (Or.inl rfl))) (fun _ _ _ _ _ => pts_nil) (fun _ _ _ _ _ => (pe_callH H__statement_text (hr.mono (by omega)) rfl (glo__statement_text D) passL (pa_cons (pv 1) pa_nil)))))), ?_⟩
    obtain ⟨a, vs, rfl, ha, r⟩ := dR_at rv
    rw [blockDa_map] at r
    have a2 : All2 (iStt I) vs l := All2.ofMap (R := iD I) (f := Stm.da .tup) (dRs_all r)
    have ll := len_le_words l
    refine ⟨_, rfl, a, rfl, ⟨_, SqT.of (s0 _ _ ha)⟩, fun p hD => lc_map (R := iStt) (Sy := iS) (fun s => jn s.words) (wk_tup ha) a2 s0 hD (lt_sl (by omega)) (fun i s I1 H1 Nx Qk hs rs s1 s2 k9 => ?_) (fun I1 H1 g1 r1 => kk _ _ _ g1 r1)⟩
    have hm := List.mem_of_getElem? hs
    obtain ⟨b1, b2⟩ := st_in hm
    refine ⟨rfl, _, rfl, I1, _, s, nm, pr, ar, rfl, s2, rs, okBl_in ho hm, by omega, by omega, fun I2 H2 g2 => k9 _ _ _ g2 rfl⟩
theorem ok_bw' (D : Dt K mg) : ∀ k, Has P w K mg base (3 * k + 10) (He.ga K "_block_words") ["block"] [] (spBws k)
  | 0 => by
    obtain ⟨fd, F⟩ := fd__block_words D
    exact has_never F (F.bindsN fun _ _ _ _ _ _ us hl => match us, hl with | [_], _ => rfl)
  | k + 1 => ok_bw_step D k (ok_stt_step D k (ok_ct_step D k (ok_bw' D k)))
theorem ok_bw (D : Dt K mg) : Has P w K mg base 25 (He.ga K "_block_words") ["block"] [] (spBw 4) := ok_bw' D 5
end
end K

set_option Elab.async false
set_option linter.all false
set_option maxRecDepth 100000
set_option maxHeartbeats 4000000
namespace K
open PySem PySem.Spec PyProof.Rows L2 Tk Hd Rd
section
variable {P : Program} {w : World} {K : PySem.W.Frag} {mg : Str → Option Value} {base : Heap}
def vtx (p : Str × Nat) : Str := wd "var" ++ (spc ++ (p.1 ++ (spc ++ dec p.2)))
def iVar : Rp (Str × Nat) := fun H v p => dR H v (.tup [.str p.1, .int (p.2 : Int)])
instance : Mono iVar := ⟨fun s h => dR_up s _ _ h⟩
def headT (b : Bx) : Str := wd "buttons" ++ (spc ++ (dec b.buttons ++ (spc ++ (wd "answers" ++ (spc ++ dec b.answers)))))
def bxParts (b : Bx) : List Str := [headT b] ++ b.vars.map vtx ++ (wd "start" :: (btx b.start ++ wd "press" :: btx b.block))
theorem var_flat : ∀ l : List (Str × Nat), varWords l = (l.map fun p => [wd "var", p.1, dec p.2]).flatten
  | [] => rfl
  | (x, n) :: r => by rw [varWords, var_flat r]; rfl
theorem box_jn (b : Bx) : jn b.words = jn (bxParts b) := by
  have h : ∀ xss : List (List Str), (∀ x ∈ xss, x ≠ []) → bxParts b = xss.map jn → b.words = xss.flatten → jn b.words = jn (bxParts b) := fun xss h1 h2 h3 => by rw [h2, h3, jn_jn h1]
  refine h ([[wd "buttons", dec b.buttons, wd "answers", dec b.answers]] ++ (b.vars.map fun p => [wd "var", p.1, dec p.2]) ++ ([wd "start"] :: (b.start.map Stm.words ++ [wd "press"] :: b.block.map Stm.words))) ?_ ?_ ?_
  · intro x hx
    have hs : ∀ l : List Stm, x ∈ l.map Stm.words → x ≠ [] := fun l hl => by obtain ⟨s, _, rfl⟩ := List.mem_map.mp hl; exact st_words_ne s
    simp only [List.mem_append, List.mem_cons, List.not_mem_nil, or_false] at hx
    rcases hx with (rfl | h) | rfl | h | rfl | h
    · simp
    · obtain ⟨p, _, rfl⟩ := List.mem_map.mp h; simp
    · simp
    · exact hs _ h
    · simp
    · exact hs _ h
  · have e1 : jn [wd "buttons", dec b.buttons, wd "answers", dec b.answers] = headT b := by
      rw [jn_cons, jn_cons, jn_cons, jn_one]; rfl
    have e2 : (b.vars.map fun p => [wd "var", p.1, dec p.2]).map jn = b.vars.map vtx := by
      rw [List.map_map]
      refine List.map_congr_left fun p _ => ?_
      show jn [wd "var", p.1, dec p.2] = _
      rw [jn_cons, jn_cons, jn_one]; rfl
    unfold bxParts btx
    rw [List.map_append, List.map_append, e2, List.map_cons, List.map_nil, e1, List.map_cons, List.map_append, List.map_cons, jn_one, jn_one, List.map_map, List.map_map]
    rfl
  · simp [Bx.words, var_flat, block_flat]
def spBoxText (K : PySem.W.Frag) : Sp := fun vs H Q _ => ∃ (I : Hp) (v : V) (b : Bx) (ar : Bool), vs = [v] ∧ Same I H ∧ iBx K I v b ∧ okBx ar b ∧ (jn b.words).length ≤ 10000000 ∧ b.words.length ≤ 1000000 ∧ ∀ I' H', Gr [] I H I' H' → Q (.str (jn b.words)) H'
theorem bf_b {b a : Int} {v s t : V} : (bxF b a v s t).lookup ("buttons" : Str) = some (.int b) := by kernel_rfl
theorem bf_a {b a : Int} {v s t : V} : (bxF b a v s t).lookup ("answers" : Str) = some (.int a) := by kernel_rfl
theorem bf_v {b a : Int} {v s t : V} : (bxF b a v s t).lookup ("variables" : Str) = some v := by kernel_rfl
theorem bf_s {b a : Int} {v s t : V} : (bxF b a v s t).lookup ("start" : Str) = some s := by kernel_rfl
theorem bf_t {b a : Int} {v s t : V} : (bxF b a v s t).lookup ("block" : Str) = some t := by kernel_rfl
theorem sc_box_text : FnScope ["box", "words", "name", "size"] ["box"] (defScope s_box_text) := ⟨rfl, rfl, rfl, by decide +kernel, rfl, by decide +kernel, by decide +kernel⟩
theorem ok_box_text (D : Dt K mg) : Has P w K mg base 26 (He.ga K "box_text") ["box"] [] (spBoxText K) := by
  obtain ⟨fd, F⟩ := fd_box_text D
  have H__block_words := ok_bw (P := P) (w := w) (base := base) D
  refine hasN F (F.bindsN fun _ _ _ _ _ _ us hl => match us, hl with | [_], _ => rfl) sc_box_text (fun vs H Q E h => ?_) (fun cdv A outer s H vs Q E hr h => ?_)
  · obtain ⟨I, v, b, ar, rfl, _⟩ := h; rfl
  · obtain ⟨I, v, b, ar, rfl, s0, rv, ho, hl, hw, kk⟩ := h
    refine ⟨_, (pss_cons (ps_set (i := 1) sc_box_text.nd rfl (Or.inl rfl) (pe_lst (pa_cons (pe_joined (PJ.cons pe_str (PJ.cons (pe_fmt (pe_fldK K (pv 0) rfl)) (PJ.cons pe_str (PJ.cons (pe_fmt (pe_fldK K (pv 0) rfl)) PJ.nil))))) pa_nil)))
      (pss_cons (ps_expr (pe_bm PySem.F.plainAttrs_list PySem.F.slot_list_extend PySem.F.type_list_extend mt_extend (pv 1) (pa_cons (pe_lc (own := [("name", 2), ("size", 3)]) (g := gTup K 2 (gCons (gName 2) (gCons (gName 3) gNil))) rfl sc_box_text.nd (pi_tupK K (pe_fldK K (pv 0) rfl)) (blkOk_by (own := [("name", 2), ("size", 3)]) (N := ["box", "words", "name", "size"]) (by kernel_rfl)) (fun _ _ _ _ _ => (pg_tupK K rfl (pgs_cons (pg_name (i := 2) sc_box_text.nd rfl (Or.inl rfl)) (pgs_cons (pg_name (i := 3) sc_box_text.nd rfl (Or.inl rfl)) pgs_nil)))) (fun _ _ _ _ _ => pts_nil) (fun _ _ _ _ _ => (pe_joined (PJ.cons pe_str (PJ.cons (pe_fmt (pv 2)) (PJ.cons pe_str (PJ.cons (pe_fmt (pv 3)) PJ.nil))))))) pa_nil)))
      (pss_one (ps_ret (pe_bm PySem.F.plainAttrs_str PySem.F.slot_str_join PySem.F.type_str_join mt_join pe_str (pa_cons (pe_lst (pa_starK K (pv 1) (pa_cons pe_str (pa_starK K (pe_callH H__block_words (hr.mono (by omega)) rfl (glo__block_words D) passL (pa_cons (pe_fldK K (pv 0) rfl) pa_nil)) (pa_cons pe_str (pa_starK K (pe_callH H__block_words (hr.mono (by omega)) rfl (glo__block_words D) passL (pa_cons (pe_fldK K (pv 0) rfl) pa_nil)) pa_nil)))))) pa_nil)))))), ?_⟩
    obtain ⟨p, dx, va, vs, vb, rfl, hp, r1, r2, r3⟩ := rv
    have lw : b.words.length = (varWords b.vars).length + (blockWords b.start).length + (blockWords b.block).length + 6 := by
      simp [Bx.words]; omega
    have e0 : b.words = wd "buttons" :: dec b.buttons :: wd "answers" :: dec b.answers :: (varWords b.vars ++ wd "start" :: (blockWords b.start ++ wd "press" :: blockWords b.block)) := rfl
    have ls : (jn (blockWords b.start)).length ≤ 10000000 ∧ (jn (blockWords b.block)).length ≤ 10000000 := by
      have a1 := jn_cons_le (x := wd "press") (ys := blockWords b.block)
      have a2 := jn_app_le (xs := blockWords b.start) (ys := wd "press" :: blockWords b.block)
      have a3 := jn_cons_le (x := wd "start") (ys := blockWords b.start ++ wd "press" :: blockWords b.block)
      have a4 := (jn_app_le (xs := varWords b.vars) (ys := wd "start" :: (blockWords b.start ++ wd "press" :: blockWords b.block))).2
      have a5 := jn_app_le (xs := [wd "buttons", dec b.buttons, wd "answers", dec b.answers]) (ys := varWords b.vars ++ wd "start" :: (blockWords b.start ++ wd "press" :: blockWords b.block))
      have e1 : [wd "buttons", dec b.buttons, wd "answers", dec b.answers] ++ (varWords b.vars ++ wd "start" :: (blockWords b.start ++ wd "press" :: blockWords b.block)) = b.words := rfl
      rw [e1] at a5
      omega
    rw [box_jn] at kk hl
    have b2 := ho.b2
    have a2 := ho.a2
    have db : (dec b.buttons).length ≤ 64 := dec_len (by omega)
    have da : (dec b.answers).length ≤ 64 := dec_len (by omega)
    have c1 : Str.length ("buttons " : Str) = 8 := by decide +kernel
    have c2 : Str.length (" answers " : Str) = 9 := by decide +kernel
    have hp0 := s0 _ _ hp
    refine ⟨"buttons ", rfl, (by decide +kernel), _, rfl, _, _, _, _, _, rfl, hp0, cls_Box D, na_Box_buttons D, bf_b, .inr ⟨_, rfl, nat_log (by omega), dec b.buttons, rfl, ?_, " answers ", rfl, ?_, _, rfl, _, _, _, _, _, rfl, hp0, cls_Box D, na_Box_answers D, bf_a, .inr ⟨_, rfl, nat_log (by omega), dec b.answers, rfl, ?_, ?_⟩⟩⟩
    · show (Str.empty ++ ("buttons " : Str) ++ dec b.buttons).length ≤ sizeLine
      rw [empty_app', len_app]; exact le_line (by omega)
    · show (Str.empty ++ ("buttons " : Str) ++ dec b.buttons ++ (" answers " : Str)).length ≤ sizeLine
      rw [empty_app', len_app, len_app]; exact le_line (by omega)
    · show (Str.empty ++ ("buttons " : Str) ++ dec b.buttons ++ (" answers " : Str) ++ dec b.answers).length ≤ sizeLine
      rw [empty_app', len_app, len_app, len_app]; exact le_line (by omega)
    have eh : Str.empty ++ ("buttons " : Str) ++ dec b.buttons ++ (" answers " : Str) ++ dec b.answers = headT b := by
      have x1 : ("buttons " : Str) = wd "buttons" ++ spc := by decide +kernel
      have x2 : (" answers " : Str) = spc ++ (wd "answers" ++ spc) := by decide +kernel
      unfold headT
      rw [empty_app', x1, x2]
      simp only [app_assoc]
    refine ⟨by show 1 ≤ sizeLine; decide, fun l hlz => ?_⟩
    rw [eh]
    have gl : Gr [l] I H I (upd H l (.lst [.str (headT b)])) := Gr.tmp s0 hlz
    have il := s0.free hlz
    have vl := ho.vl
    have lvx : (b.vars.map vtx).length ≤ 4 := by rw [List.length_map]; exact vl
    (try dsimp only)
    refine seq_cut (fun σ' H' => ∃ I', σ' = [some (V.ref p), some (V.ref l), none, none] ∧ Gr [l] I H I' H' ∧ H' l = some (.lst (([headT b] ++ b.vars.map vtx).map V.str))) (fun nx q => ?_) ?_
    · obtain ⟨av, us, rfl, hav, rav⟩ := dR_at r1
      have a3 : All2 (iVar I) us b.vars := All2.ofMap (R := iD I) (f := fun p : Str × Nat => Da.tup [.str p.1, .int (p.2 : Int)]) (dRs_all rav)
      have vo := nmOk_of ho.vo
      refine ⟨_, rfl, .inl ⟨rfl, _, SqL.of upd_same⟩, _, rfl, _, _, _, _, _, rfl, gl.ih _ _ hp, cls_Box D, na_Box_variables D, bf_v, av, rfl, ⟨_, SqT.of (gl.ih _ _ hav)⟩, fun m hm => lc_map (te := fun σ H Q => tJs [tC (V.str "var "), tFmt (tVar 2), tC (V.str " "), tFmt (tVar 3)] Str.empty σ H fun out H1 => Q (V.str out) H1) (R := iVar) (Sy := iS) vtx (wk_tup hav) a3 gl.ih hm (Nat.lt_of_le_of_lt vl (by decide)) (fun i x I1 H1 Nx Qk hx rx s1 s2 k9 => ?_) (fun I1 H1 g1 r9 => ?_)⟩
      · obtain ⟨xa, xs, ex, hxa, rx2⟩ := dR_at rx
        obtain ⟨v0, q0, rfl, h0, p0⟩ := dRs_c rx2
        obtain ⟨v1, q1, rfl, h1, p1⟩ := dRs_c p0
        obtain rfl := dR_s h0
        obtain rfl := dR_i h1
        obtain rfl := dRs_n p1
        have hmem := List.mem_of_getElem? hx
        have nx8 := (name_facts (vo x hmem)).1
        have n12 : x.2 < 10 ^ 64 := by
          have : ∀ {l : List (Str × Nat)} {nm : List Str}, okVars nm l → x ∈ l → x.2 ≤ 12 := by
            intro l
            induction l with
            | nil => intro nm _ h; cases h
            | cons y r ih =>
              intro nm h hy
              rcases List.mem_cons.mp hy with rfl | hy
              · exact h.2.2.2.1
              · exact ih h.2.2.2.2 hy
          have := this ho.vo hmem
          omega
        have dl := dec_len n12
        have c3 : Str.length ("var " : Str) = 4 := by decide +kernel
        have c4 : Str.length (" " : Str) = 1 := by decide +kernel
        rw [ex]
        refine ⟨xa, _, rfl, SqT.of (s2 _ _ hxa), rfl, _, _, rfl, _, _, rfl, rfl, rfl, "var ", rfl, (by decide +kernel), _, rfl, .inl ⟨x.1, rfl, le_line (by omega), x.1, rfl, ?_, " ", rfl, ?_, _, rfl, .inr ⟨_, rfl, nat_log n12, dec x.2, rfl, ?_, ?_⟩⟩⟩
        · rw [empty_app', len_app]; exact le_line (by omega)
        · rw [empty_app', len_app, len_app]; exact le_line (by omega)
        · rw [empty_app', len_app, len_app, len_app]; exact le_line (by omega)
        · refine k9 _ _ _ (Gr.refl s2) ?_
          have x1 : ("var " : Str) = wd "var" ++ spc := by decide +kernel
          show V.str _ = V.str _
          unfold vtx
          rw [empty_app', x1]
          simp only [app_assoc]
          rfl
      · obtain ⟨m', zs, e9, hm', z2⟩ := r9
        cases e9
        obtain rfl := z2.strs
        have hl1 := g1.at upd_same (by simp)
        have i1 := g1.out il upd_same
        refine ⟨l, m, _, _, rfl, rfl, hl1, g1.ih _ _ hm', (by simp only [List.length_cons, List.length_nil, List.length_map] at lvx ⊢; exact le_line (by omega)), ?_⟩
        refine q _ _ ⟨I1, rfl, (gl.trans (g1.mono fun _ z => nomatch z)).trans (Gr.mut g1.ih i1 (by simp)), ?_⟩
        rw [upd_same]; simp
    rintro σ' H' ⟨I', rfl, gg, hH⟩
    (try dsimp only)
    have lbs := btx_len b.start
    have lbt := btx_len b.block
    have ll1 := len_le_words b.start
    have ll2 := len_le_words b.block
    refine ⟨rfl, _, rfl, l, _, rfl, .inr (SqL.of hH), ?_⟩
    refine ⟨_, rfl, _, _, _, _, _, rfl, gg.ih _ _ (gg.ii _ _ hp), cls_Box D, na_Box_start D, bf_s, I', _, b.start, _, _, _, rfl, gg.ih, dR_up gg.ii _ _ r2, ho.so, ls.1, by omega, fun I1 H1 w1 g1 r4 => ?_⟩
    obtain ⟨b1, us1, rfl, hb1, a1⟩ := seqs_of r4 g1.ih
    obtain rfl := a1.strs
    refine ⟨b1, _, rfl, .inr (SqL.of hb1), ?_⟩
    refine ⟨_, rfl, _, _, _, _, _, rfl, g1.ih _ _ (g1.ii _ _ (gg.ii _ _ hp)), cls_Box D, na_Box_block D, bf_t, I1, _, b.block, _, _, _, rfl, g1.ih, dR_up (gg.ii.trans g1.ii) _ _ r3, ho.bo, ls.2, by omega, fun I2 H2 w2 g2 r5 => ?_⟩
    obtain ⟨b5, us2, rfl, hb5, a5⟩ := seqs_of r5 g2.ih
    obtain rfl := a5.strs
    refine ⟨b5, _, rfl, .inr (SqL.of hb5), ?_, fun m hm => ?_⟩
    · simp only [List.length_cons, List.length_append, List.length_map, List.length_nil]
      exact le_line (by omega)
    have e9 : ([headT b] ++ b.vars.map vtx).map V.str ++ (V.str "start" :: ((btx b.start).map V.str ++ (V.str "press" :: ((btx b.block).map V.str ++ [])))) = (bxParts b).map V.str := by
      unfold bxParts
      simp only [List.map_append, List.map_cons, List.map_nil, List.append_nil]; rfl
    refine ⟨" ", m, bxParts b, rfl, rfl, .inl (SqL.of (upd_same.trans (congrArg (fun x => some (HO.lst x)) e9))), ?_, ?_⟩
    · have := jn_len (bxParts b)
      rw [if_neg (by unfold bxParts; simp)] at this
      have l1 : Str.length (" " : Str) = 1 := by decide +kernel
      rw [l1]; omega
    · exact kk _ _ ((gg.drop hlz).trans (g1.trans (g2.trans (Gr.new g2.ih hm))))
end
end K

set_option Elab.async false
set_option linter.all false
set_option maxRecDepth 100000
set_option maxHeartbeats 4000000
namespace K
open PySem PySem.Spec PyProof.Rows L2 Tk Hd Rd
section
variable {P : Program} {w : World} {K : PySem.W.Frag} {mg : Str → Option Value} {base : Heap}
/-- what the law is told of words -/
def toldR (ws : List Str) (u : Bool) : Da := match readR ws u with
  | .ok _ _ => .str (jn ws)
  | .bad n => .int (n : Int)
structure WsOk (ws : List Str) : Prop where
  rd : wordsOf (jn ws) = ws
  len : ws.length ≤ 1000000
  jl : (jn ws).length ≤ 10000000
theorem ws_join {ws : List Str} (h : (jn ws).length ≤ 10000000) : (ws.map (·.length)).sum + ws.length * Str.length (" " : Str) ≤ 16777216 := by
  have := jn_len ws
  have l1 : Str.length (" " : Str) = 1 := by decide +kernel
  rw [l1]; omega
def spTold : Sp := fun vs H Q _ => ∃ (I : Hp) (v : V) (ws : List Str) (u : Bool), vs = [v, .bl u] ∧ Same I H ∧ iSs I v ws ∧ WsOk ws ∧ ∀ I' H' v', Gr [] I H I' H' → dR I' v' (toldR ws u) → Q v' H'
abbrev tJoin (K : PySem.W.Frag) : TE := tBM K "str" (fun x xs H Q => ∃ a p, ∃ ys : List Str, x = .str a ∧ xs = [.ref p] ∧ (SqL K H p (ys.map V.str) ∨ SqT K H p (ys.map V.str)) ∧ (ys.map (·.length)).sum + ys.length * a.length ≤ 16777216 ∧ Q (.str (Txt.join a ys)) H) (tC (.str " ")) (tCons (tVar 0) tNil)
theorem sc__law_told : FnScope ["words", "uses", "e"] ["words", "uses"] (defScope s__law_told) := ⟨rfl, rfl, rfl, by decide +kernel, rfl, by decide +kernel, by decide +kernel⟩
theorem ok_told (D : Dt K mg) : Has P w K mg base 37 (He.ga K "_law_told") ["words", "uses"] [] spTold := by
  obtain ⟨fd, F⟩ := fd__law_told D
  have H_box_text := ok_box_text (P := P) (w := w) (base := base) D
  have H_read_box := ok_read_box (P := P) (w := w) (base := base) D
  have H_read_around := ok_read_around (P := P) (w := w) (base := base) D
  refine hasN F (F.bindsN fun _ _ _ _ _ _ us hl => match us, hl with | [_, _], _ => rfl) sc__law_told (fun vs H Q E h => ?_) (fun cdv A outer s H vs Q E hr h => ?_)
  · obtain ⟨I, v, ws, u, rfl, _⟩ := h; rfl
  · obtain ⟨I, v, ws, u, rfl, s0, rv, ho, kk⟩ := h
    refine ⟨_, pss_one (ps_try_as (i := 2) (Wout := fun _ _ _ _ => False) rfl rfl sc__law_told.nd rfl rfl ⟨rfl, by decide, .inl (glo_BadText D)⟩ takes0
      (tb := fun W => tSeq (tIfS (tB (tVar 1)) (tRet (tCall (spBoxText K) [] E0 (tCons (tCallS (spRd K true) (WE W) (tCons (tJoin K) tNil)) tNil))) tNext)
        (tRet (tCall (spBoxText K) [] E0 (tCons (tCallS (spRd K false) (WE W) (tCons (tJoin K) tNil)) tNil))))
      (fun W pn xe tk _ => (pss_cons (ps_if (pt_val (pv 1))
        (pss_one (ps_ret (pe_callH H_box_text (hr.mono (by decide)) rfl (glo_box_text D) passL (pa_cons (pe_callSH H_read_around (hr.mono (by decide)) rfl (glo_read_around D) (fun σ => passAt tk σ) (pa_cons (pe_bm PySem.F.plainAttrs_str PySem.F.slot_str_join PySem.F.type_str_join mt_join pe_str (pa_cons (pv 0) pa_nil)) pa_nil)) pa_nil))))
        pss_nil)
        (pss_one (ps_ret (pe_callH H_box_text (hr.mono (by decide)) rfl (glo_box_text D) passL (pa_cons (pe_callSH H_read_box (hr.mono (by decide)) rfl (glo_read_box D) (fun σ => passAt tk σ) (pa_cons (pe_bm PySem.F.plainAttrs_str PySem.F.slot_str_join PySem.F.type_str_join mt_join pe_str (pa_cons (pv 0) pa_nil)) pa_nil)) pa_nil))))))
      (fun a oe cls d pn hz hf => (pss_one (ps_ret (pe_xf (oex_BadText D).xf (oex_BadText D).no hz hf (pv 2)))))), ?_⟩
    obtain ⟨a, rfl, ha⟩ := id rv
    have hj := ws_join ho.jl
    have out : ∀ {Q' : VK} {E' : XK} {ar : Bool}, ar = u → (∀ b I' H' v', (∃ r, readR ws u = .ok b r) → Gr [] I H I' H' → iBx K I' v' b → Q' v' H') → (∀ n I' H' d, readR ws u = .bad n → Gr [] I H I' H' → H' d = some (.xd [("at", .int (n : Int))]) → E' (.ref (CBT K)) (some d) H') →
        (match readR (wordsOf (jn ws)) ar with | .ok b _ => Ret [] I H (iBx K) b Q' | .bad n => RaisedAt [] I H (CBT K) n E') := fun {Q' E' ar} e h1 h2 => by
      subst e
      rw [ho.rd]
      cases hx : readR ws ar with
      | ok b r => exact fun I' H' v' g r' => h1 b I' H' v' ⟨r, hx⟩ g r'
      | bad n => exact fun I' H' d g e => h2 n I' H' d hx g e
    have hzl : (jn ws).length + 2 ≤ sizeLine := Nat.le_trans (by have := ho.jl; omega : (jn ws).length + 2 ≤ 16777216) (by decide)
    have hwl : (wordsOf (jn ws)).length ≤ 1000000 := by rw [ho.rd]; exact ho.len
    have box : ∀ (b : Bx) (I' H' : Hp) (v' : V), (∃ r, readR ws u = .ok b r) → Gr [] I H I' H' → iBx K I' v' b → spBoxText K ([v'] ++ []) H' Q E0 := fun b I' H' v' ⟨r, er⟩ g rb => by
      obtain ⟨h1, h2, _⟩ := read_sound er
      refine ⟨I', v', b, u, rfl, g.ih, rb, h1, by rw [h2]; exact ho.jl, by rw [h2]; exact ho.len, fun I2 H2 g2 => kk _ _ _ (g.trans g2) ?_⟩
      unfold toldR; rw [er, h2]; exact dR_str
    have bad : ∀ (n : Nat) (I' H' : Hp) , readR ws u = .bad n → Gr [] I H I' H' → Q (.int (n : Int)) H' := fun n I' H' er g => kk _ _ _ g (by unfold toldR; rw [er]; exact dR_int)
    cases u with
    | true =>
      refine ⟨_, rfl, _, rfl, ifT rfl ?_⟩
      refine ⟨rfl, _, rfl, " ", a, ws, rfl, rfl, .inl (SqL.of (s0 _ _ ha)), hj, I, jn ws, rfl, s0, hzl, hwl, out rfl box (fun n I' H' d er g hd => ?_)⟩
      refine ⟨true, exm_BadText_BadText D, fun _ e9 he => ?_, fun q => nomatch q⟩
      exact ⟨_, rfl, rfl, rfl, d, _, .int (n : Int), rfl, hd, rfl, bad n I' H' er g⟩
    | false =>
      refine ⟨_, rfl, _, rfl, ifF rfl ?_⟩
      (try unfold tNext)
      (try dsimp only)
      refine ⟨rfl, _, rfl, " ", a, ws, rfl, rfl, .inl (SqL.of (s0 _ _ ha)), hj, I, jn ws, rfl, s0, hzl, hwl, out rfl box (fun n I' H' d er g hd => ?_)⟩
      refine ⟨true, exm_BadText_BadText D, fun _ e9 he => ?_, fun q => nomatch q⟩
      exact ⟨_, rfl, rfl, rfl, d, _, .int (n : Int), rfl, hd, rfl, bad n I' H' er g⟩
end
end K

set_option Elab.async false
set_option linter.all false
set_option maxRecDepth 100000
set_option maxHeartbeats 4000000
/-! The texts at the bounds. -/
namespace Rd
open PySem PyProof.Rows TL
def rdB (ws : List Str) (u : Bool) : Option Nat := match readR ws u with
  | .ok _ _ => none
  | .bad n => some n
/-- read as is due -/
def goodB (ws : List Str) (due : Option Nat) : Bool := decide (rdB ws true = due) && (decide (wd "use" ∈ ws) || decide (rdB ws false = due))
def tidyB (ws : List Str) : Bool := decide (ws.head? = some (wd "buttons")) && ws.all (fun w => !(tl w).contains 32 && decide (w.length ≤ 100)) && decide (ws.length ≤ 2000)
theorem tidy_facts {ws : List Str} (h : tidyB ws = true) : ws ≠ [] ∧ (∀ p ∈ ws, 32 ∉ tl p) ∧ jn ws ≠ Str.empty ∧ ws.length ≤ 2000 ∧ (jn ws).length ≤ 1000000 := by
  unfold tidyB at h
  simp only [Bool.and_eq_true, decide_eq_true_eq, List.all_eq_true, Bool.not_eq_true'] at h
  obtain ⟨⟨h1, h2⟩, h3⟩ := h
  have hne : ws ≠ [] := by rintro rfl; simp at h1
  have hs : ∀ l : List Str, (∀ x ∈ l, x.length ≤ 100) → (l.map (·.length)).sum ≤ 100 * l.length := by
    intro l
    induction l with
    | nil => intro _; simp
    | cons a r ih =>
      intro h
      have := h a List.mem_cons_self
      have := ih fun x hx => h x (List.mem_cons_of_mem _ hx)
      simp only [List.map_cons, List.sum_cons, List.length_cons]; omega
  refine ⟨hne, fun p hp => ?_, fun z => ?_, h3, ?_⟩
  · have := (h2 p hp).1
    intro z
    rw [List.contains_iff_mem.mpr z] at this; cases this
  · have hm : wd "buttons" ∈ ws := List.mem_of_head? h1
    have := jn_le hm
    rw [z] at this
    revert this; decide +kernel
  · have := jn_len ws
    have := hs ws fun x hx => (h2 x hx).2
    rw [if_neg hne] at *
    omega
/-! numbers at a bound -/
def numBase : List Str := ["buttons", "2", "answers", "2", "var", "x", "9", "start", "draw", "x", "2", "press", "say", "x"]
def nMost (way : Nat) : Nat := [4, 4, 12, 6].getD way 0
def nAt (way : Nat) : Nat := [1, 3, 6, 10].getD way 0
def numW (way n : Nat) : List Str := numBase.set (nAt way) (dec n)
def numDue (way n : Nat) : Option Nat := if 0 < n ∧ n ≤ nMost way then none else some (nAt way)
theorem num_good : ∀ way, way < 4 → ∀ n, n < 16 → goodB (numW way n) (numDue way n) = true ∧ tidyB (numW way n) = true := by decide +kernel
/-! many of a kind -/
def base8 : List Str := ["buttons", "2", "answers", "2", "var", "x", "9", "start"]
def letter (k : Nat) : Str := (["a", "b", "c", "d", "e", "f", "g"] : List Str).getD k Str.empty
def w0 (c : Nat) : List Str := base8.take 4 ++ (List.range c).flatMap (fun k => [wd "var", letter k, wd "9"]) ++ [wd "start", wd "press"]
def w3i (i : Nat) : List Str := (([["if", "x"], ["if", "x", "set", "x", "1", "else"]] : List (List Str))).getD i []
def w3 (c i : Nat) : List Str := base8 ++ (List.replicate c (w3i i)).flatten ++ [wd "set", wd "x", wd "2"] ++ List.replicate c (wd "end") ++ [wd "press"]
def w4a (c : Nat) : List Str := base8 ++ [wd "press", wd "say"] ++ (List.replicate c ([wd "mod", wd "7"])).flatten ++ [wd "1"]
def w4b (c : Nat) : List Str := base8 ++ [wd "press", wd "say"] ++ List.replicate c (wd "mod") ++ List.replicate (c + 1) (wd "1")
def nameOf (n : Nat) : Str := ⟨(tl "abcdefghij").take n |>.toArray⟩
def w5 (n : Nat) : List Str := base8.set 5 (nameOf n) ++ [wd "press"]
def over (b : Bool) (n : Nat) : Option Nat := if b = true then some n else none
theorem many_small : (∀ c, 3 ≤ c → c < 7 → goodB (w0 c) (over (decide (4 < c)) 16) = true ∧ tidyB (w0 c) = true) ∧
    (∀ c, 3 ≤ c → c < 7 → ∀ i, i < 2 → goodB (w3 c i) (over (decide (4 < c)) (8 + 4 * (w3i i).length)) = true ∧ tidyB (w3 c i) = true) ∧
    (∀ c, 3 ≤ c → c < 7 → goodB (w4a c) (over (decide (4 < c)) 18) = true ∧ tidyB (w4a c) = true) ∧
    (∀ c, 3 ≤ c → c < 7 → goodB (w4b c) (over (decide (4 < c)) 14) = true ∧ tidyB (w4b c) = true) ∧
    (∀ n, 7 ≤ n → n < 11 → goodB (w5 n) (over (decide (8 < n)) 5) = true ∧ tidyB (w5 n) = true) := by
  refine ⟨?_, ?_, ?_, ?_, ?_⟩
  · have : ∀ c, c < 7 → 3 ≤ c → goodB (w0 c) (over (decide (4 < c)) 16) = true ∧ tidyB (w0 c) = true := by decide +kernel
    exact fun c a b => this c b a
  · have : ∀ c, c < 7 → 3 ≤ c → ∀ i, i < 2 → goodB (w3 c i) (over (decide (4 < c)) (8 + 4 * (w3i i).length)) = true ∧ tidyB (w3 c i) = true := by decide +kernel
    exact fun c a b => this c b a
  · have : ∀ c, c < 7 → 3 ≤ c → goodB (w4a c) (over (decide (4 < c)) 18) = true ∧ tidyB (w4a c) = true := by decide +kernel
    exact fun c a b => this c b a
  · have : ∀ c, c < 7 → 3 ≤ c → goodB (w4b c) (over (decide (4 < c)) 14) = true ∧ tidyB (w4b c) = true := by decide +kernel
    exact fun c a b => this c b a
  · have : ∀ n, n < 11 → 7 ≤ n → goodB (w5 n) (over (decide (8 < n)) 5) = true ∧ tidyB (w5 n) = true := by decide +kernel
    exact fun c a b => this c b a
/-! draws and uses -/
def stW (d : Bool) : Stm := if d = true then .draw (wd "x") 2 else .use (wd "x") (.num 1)
def kwW (d : Bool) : Str := if d = true then wd "draw" else wd "use"
def toStm (d b : Bool) : Stm := if b = true then .ite (.var (wd "x")) [stW d] [] else stW d
def mostW (d : Bool) : Nat := if d = true then 3 else 24
def bw (d : Bool) (l : List Bool) : List Str := blockWords (l.map (toStm d))
def mW (d : Bool) (bits : List Bool) (ins : Nat) : List Str := base8 ++ (bw d (bits.take ins) ++ wd "press" :: bw d (bits.drop ins))
def mDue (d : Bool) (bits : List Bool) (ins : Nat) : Option Nat := if bits.length ≤ mostW d then none else
  some (8 + (bw d (bits.take (mostW d))).length + (if ins ≤ mostW d then 1 else 0) + (if bits.getD (mostW d) false = true then 2 else 0))
theorem bw_app (d : Bool) (a b : List Bool) : bw d (a ++ b) = bw d a ++ bw d b := by
  unfold bw; rw [block_flat, block_flat, block_flat, List.map_append, List.map_append, List.flatten_append]
theorem counts (d : Bool) (l : List Bool) : nds (l.map (toStm d)) = (if d = true then l.length else 0) ∧ nus (l.map (toStm d)) = (if d = true then 0 else l.length) := by
  induction l with
  | nil => cases d <;> simp [nds, nus]
  | cons b r ih =>
    obtain ⟨h1, h2⟩ := ih
    cases d <;> cases b <;> simp [toStm, stW, nds, nus, nd, nu] at h1 h2 ⊢ <;> omega
theorem ok_bits {d pr ar : Bool} (h : d = true ∨ ar = true) (l : List Bool) : okBl [wd "x"] pr ar 4 (l.map (toStm d)) := by
  induction l with
  | nil => trivial
  | cons b r ih =>
    refine ⟨?_, ih⟩
    have s : ∀ k, okSt [wd "x"] pr ar k (stW d) := fun k => by
      cases d with
      | true => exact ⟨by simp, by decide, by decide⟩
      | false => exact ⟨h.resolve_left (by simp), by simp, by show 1 ≤ 65535; decide⟩
    cases b with
    | true => exact ⟨by decide, by show wd "x" ∈ [wd "x"]; simp, ⟨s _, trivial⟩, trivial⟩
    | false => exact s 4
def HBx (s t : List Stm) : Bx := ⟨2, 2, [(wd "x", 9)], s, t⟩
theorem vo_x : okVars [] [(wd "x", 9)] := ⟨by decide +kernel, by simp, by decide, by decide, trivial⟩
theorem base8_eq (r : List Str) : base8 ++ r = wd "buttons" :: dec 2 :: wd "answers" :: dec 2 :: (varWords [(wd "x", 9)] ++ wd "start" :: r) := by
  have : base8 = [wd "buttons", dec 2, wd "answers", dec 2, wd "var", wd "x", dec 9, wd "start"] := by decide +kernel
  rw [this]; rfl
theorem rdB_bad {ws : List Str} {u : Bool} {n : Nat} (h : readR ws u = .bad n) : rdB ws u = some n := by unfold rdB; rw [h]
theorem rdB_ok {ws : List Str} {u : Bool} {b : Bx} {r : RS} (h : readR ws u = .ok b r) : rdB ws u = none := by unfold rdB; rw [h]
/-- no more of it -/
def Full (d : Bool) (r : RS) : Prop := if d = true then r.draws = 3 else r.uses = 24
theorem full_may {d ar : Bool} {r : RS} (h : Full d r) (k : Nat) : mayR ar (kwW d) k r = false := by
  unfold Full at h
  cases d with
  | true =>
    rw [if_pos rfl] at h
    show mayR ar (wd "draw") k r = false
    rw [may_draw, h]; rfl
  | false =>
    rw [if_neg Bool.false_ne_true] at h
    show mayR ar (wd "use") k r = false
    rw [may_use, h]; cases ar <;> rfl
theorem kw_facts (d : Bool) : kwW d ≠ wd "press" ∧ kwW d ≠ wd "end" ∧ kwW d ≠ wd "else" ∧ kwW d ∉ ops ∧ kwW d ≠ wd "if" := by cases d <;> decide +kernel
theorem toStm_first (d b : Bool) : ∃ m, (toStm d b).words = (if b = true then [wd "if", wd "x"] else []) ++ kwW d :: m := by
  cases d <;> cases b <;> exact ⟨_, rfl⟩
theorem stop_here {ws : List Str} {ar d b : Bool} {r : RS} {rest : List Str} (hf : Full d r) (hn : NmOk r.vars) (hx : wd "x" ∈ r.vars.map (·.1)) (hd : ws.drop r.pos = (toStm d b).words ++ rest) (n : Nat) (acc : List Stm) :
    (b = true → loopR ws ar 0 (chAt ws ar 4) (n + 1) acc r = .bad (r.pos + 2)) ∧ (b = false → loopR ws ar 0 (chAt ws ar 4) n acc r = .ok acc r ∧ here ws r = kwW d) := by
  obtain ⟨m, em⟩ := toStm_first d b
  obtain ⟨f1, f2, f3, f4, f5⟩ := kw_facts d
  rw [em] at hd
  constructor
  · rintro rfl
    have hd : ws.drop r.pos = wd "if" :: wd "x" :: kwW d :: (m ++ rest) := by rw [hd]; simp
    have d1 := go_drop hd
    have d2 := go_drop d1
    have hh := here_of hd
    rw [loopR, hh, show mayR ar (wd "if") 0 r = true from by rw [may_if]; rfl, if_pos rfl]
    unfold stmtR
    rw [hh, if_pos (show wd "if" = Str.ofString "if" from rfl)]
    show (choiceR ws ar 3 r.go).bind _ = _
    rw [choiceR_eq]
    unfold choice1
    rw [exR_words 4 (.var (wd "x")) r.go (kwW d :: (m ++ rest)) hn (by exact hx) d1, bind_mk]
    have d3 : ws.drop (advE r.go (.var (wd "x"))).pos = kwW d :: (m ++ rest) := d2
    have h3 := here_of d3
    unfold stmtsR
    rw [loop_stop (by rw [h3]; exact full_may (show Full d (advE r.go (.var (wd "x"))) from hf) _), bind_mk]
    rw [if_neg (by rw [h3]; exact fun z => f3 z.1)]
    rw [takeR_bad h3 (show kwW d ≠ Str.ofString "end" from f2)]
    rfl
  · rintro rfl
    have hd : ws.drop r.pos = kwW d :: (m ++ rest) := by rw [hd]; simp
    have hh := here_of hd
    exact ⟨loop_stop (by rw [hh]; exact full_may hf _), hh⟩
theorem mW_eq (d : Bool) (bits : List Bool) (ins : Nat) : mW d bits ins = (HBx ((bits.take ins).map (toStm d)) ((bits.drop ins).map (toStm d))).words := by
  unfold mW; rw [base8_eq]; rfl
theorem many_valid {d ar : Bool} {bits : List Bool} {ins : Nat} (h : d = true ∨ ar = true) (hl : bits.length ≤ mostW d) : rdB (mW d bits ins) ar = none := by
  have c1 := counts d (bits.take ins)
  have c2 := counts d (bits.drop ins)
  have e : (bits.take ins).length + (bits.drop ins).length = bits.length := by rw [← List.length_append, List.take_append_drop]
  have ok : okBx ar (HBx ((bits.take ins).map (toStm d)) ((bits.drop ins).map (toStm d))) := by
    refine ⟨by show 1 ≤ 2; decide, by show 2 ≤ 4; decide, by show 1 ≤ 2; decide, by show 2 ≤ 4; decide, by show 1 ≤ 4; decide, vo_x, ok_bits h _, ok_bits h _, ?_, ?_⟩
    · show nds ((bits.take ins).map (toStm d)) + nds ((bits.drop ins).map (toStm d)) ≤ 3
      rw [c1.1, c2.1]; unfold mostW at hl
      cases d <;> simp at hl ⊢; omega
    · show nus ((bits.take ins).map (toStm d)) + nus ((bits.drop ins).map (toStm d)) ≤ 24
      rw [c1.2, c2.2]; unfold mostW at hl
      cases d <;> simp at hl ⊢; omega
  obtain ⟨r, hr⟩ := readR_words ok
  rw [mW_eq]
  exact rdB_ok hr
theorem bw_one (d b : Bool) (l : List Bool) : bw d (b :: l) = (toStm d b).words ++ bw d l := rfl
theorem most_le (d : Bool) : (if d = true then mostW d else 0) ≤ 3 ∧ (if d = true then 0 else mostW d) ≤ 24 := by cases d <;> decide
theorem full_of {d : Bool} {l : List Bool} {r : RS} (hd : r.draws = 0) (hu : r.uses = 0) (hl : l.length = mostW d) : Full d (advB r (l.map (toStm d))) := by
  obtain ⟨c1, c2⟩ := counts d l
  unfold Full
  cases d with
  | true =>
    rw [if_pos rfl] at c1
    show r.draws + nds _ = 3
    rw [c1, hd, hl]; rfl
  | false =>
    rw [if_neg Bool.false_ne_true] at c2
    show r.uses + nus _ = 24
    rw [c2, hu, hl]; rfl
theorem many_over {d ar : Bool} {bits : List Bool} {ins : Nat} (h : d = true ∨ ar = true) (hi : ins ≤ bits.length) (hl : mostW d < bits.length) : rdB (mW d bits ins) ar = mDue d bits ins := by
  obtain ⟨pre, b0, post, eb, hp⟩ : ∃ pre b0 post, bits = pre ++ b0 :: post ∧ pre.length = mostW d :=
    ⟨bits.take (mostW d), bits[mostW d], bits.drop (mostW d + 1), by rw [← List.drop_eq_getElem_cons, List.take_append_drop], by rw [List.length_take]; omega⟩
  have hdue : mDue d bits ins = some (8 + (bw d pre).length + (if ins ≤ mostW d then 1 else 0) + (if b0 = true then 2 else 0)) := by
    unfold mDue
    rw [if_neg (by omega)]
    have e1 : bits.take (mostW d) = pre := by rw [eb, ← hp, List.take_left]
    have e2 : bits.getD (mostW d) false = b0 := by rw [eb, ← hp, List.getD_eq_getElem?_getD, List.getElem?_append_right (Nat.le_refl _)]; simp
    rw [e1, e2]
  rw [hdue]
  have key : ∀ (ws rest : List Str), ws = base8 ++ rest → readR ws ar = (blockR ws ar 4 (rA (HBx [] []))).bind (fun s r => (takeR ws "press" r).bind fun _ r => (blockR ws ar 4 { r with pressed := true }).bind fun t r => if r.pos < ws.length then .bad r.pos else .ok ⟨2, 2, r.vars, s, t⟩ r) ∧ ws.drop (rA (HBx [] [])).pos = rest := fun ws rest e =>
    readR_head (ws := ws) (ar := ar) (b := HBx [] []) (by decide) (by decide) (by decide) (by decide) (by decide) vo_x (by rw [e, base8_eq]; rfl)
  have rv : (rA (HBx [] [])).vars = [(wd "x", 9)] ∧ (rA (HBx [] [])).draws = 0 ∧ (rA (HBx [] [])).uses = 0 ∧ (rA (HBx [] [])).pressed = false := rA_vars _
  have rp : (rA (HBx [] [])).pos = 8 := by decide +kernel
  generalize hR : rA (HBx [] []) = R at key rv rp
  obtain ⟨v1, v2, v3, v4⟩ := rv
  have hn : NmOk R.vars := by rw [v1]; exact nmOk_of vo_x
  have ml := most_le d
  by_cases hc : mostW d < ins
  · rw [if_neg (by omega : ¬ ins ≤ mostW d)]
    have e1 : bits.take ins = pre ++ b0 :: post.take (ins - mostW d - 1) := by
      obtain ⟨j, hj⟩ : ∃ j, ins = pre.length + (j + 1) := ⟨ins - mostW d - 1, by omega⟩
      have ej : ins - mostW d - 1 = j := by omega
      rw [ej, eb, hj, List.take_length_add_append, List.take_succ_cons]
    obtain ⟨rest, er⟩ : ∃ rest, mW d bits ins = base8 ++ (bw d pre ++ ((toStm d b0).words ++ rest)) := ⟨_, by unfold mW; rw [e1, bw_app, bw_one]; simp only [List.append_assoc]; rfl⟩
    obtain ⟨k1, k2⟩ := key _ _ er
    have hlw : (pre.map (toStm d)).length ≤ (mW d bits ins).length := by
      have := len_le_words (pre.map (toStm d))
      have := congrArg List.length er
      simp only [List.length_append] at this
      unfold bw at this
      omega
    have c := counts d pre
    have f := full_of (d := d) (l := pre) v2 v3 hp
    have d2 : (mW d bits ins).drop (advB R (pre.map (toStm d))).pos = (toStm d b0).words ++ rest := drop_app k2
    obtain ⟨n, hnn⟩ : ∃ n, (mW d bits ins).length + 1 - (pre.map (toStm d)).length = n + 1 := ⟨(mW d bits ins).length - (pre.map (toStm d)).length, by omega⟩
    obtain ⟨s1, s2⟩ := stop_here (ar := ar) f hn (show wd "x" ∈ R.vars.map (·.1) by rw [v1]; simp) d2 n ([] ++ pre.map (toStm d))
    have L := loop_words (ws := mW d bits ins) (ar := ar) (pre.map (toStm d)) 4 ((mW d bits ins).length + 1) [] R _ (by omega) hn (by rw [v1]; exact ok_bits h _) (by rw [v2, c.1]; cases d <;> simp at ml ⊢ <;> omega) (by rw [v3, c.2]; cases d <;> simp at ml ⊢ <;> omega) k2 (by omega)
    have pos : (advB R (pre.map (toStm d))).pos = 8 + (bw d pre).length := by show R.pos + _ = _; rw [rp]; rfl
    refine rdB_bad (k1.trans ?_)
    rw [blockR_eq]
    unfold stmtsR
    rw [L, hnn]
    cases hb : b0 with
    | true =>
      rw [show loopR (mW d bits ins) ar (4 - 4) (chAt (mW d bits ins) ar 4) (n + 1) ([] ++ pre.map (toStm d)) (advB R (pre.map (toStm d))) = _ from s1 hb, pos]
      rfl
    | false =>
      obtain ⟨s3, s4⟩ := s2 hb
      have s3' : loopR (mW d bits ins) ar (4 - 4) (chAt (mW d bits ins) ar 4) (n + 1) ([] ++ pre.map (toStm d)) (advB R (pre.map (toStm d))) = .ok ([] ++ pre.map (toStm d)) (advB R (pre.map (toStm d))) := loop_stop (by rw [s4]; exact full_may f _)
      rw [s3', bind_mk, takeR_bad s4 (show kwW d ≠ Str.ofString "press" from (kw_facts d).1), pos]
      rfl
  · have hc : ins ≤ mostW d := by omega
    rw [if_pos hc]
    have e1 : bits.take ins = pre.take ins := by rw [eb, List.take_append_of_le_length (by omega)]
    have e2 : bits.drop ins = pre.drop ins ++ b0 :: post := by rw [eb, List.drop_append_of_le_length (by omega)]
    obtain ⟨rest, er⟩ : ∃ rest, mW d bits ins = base8 ++ (bw d (pre.take ins) ++ (wd "press" :: (bw d (pre.drop ins) ++ ((toStm d b0).words ++ rest)))) := ⟨bw d post, by unfold mW; rw [e1, e2, bw_app, bw_one]⟩
    obtain ⟨k1, k2⟩ := key _ _ er
    have cA := counts d (pre.take ins)
    have cB := counts d (pre.drop ins)
    have lAB : (pre.take ins).length + (pre.drop ins).length = mostW d := by rw [← List.length_append, List.take_append_drop, hp]
    have d2 : (mW d bits ins).drop (advB R ((pre.take ins).map (toStm d))).pos = wd "press" :: (bw d (pre.drop ins) ++ ((toStm d b0).words ++ rest)) := drop_app k2
    have d3 := go_drop d2
    have B1 := block_words (ws := mW d bits ins) (ar := ar) (l := (pre.take ins).map (toStm d)) (r := R) hn (by rw [v1, v4]; exact ok_bits h _) (by rw [v2, cA.1]; cases d <;> simp at ml ⊢ <;> omega) (by rw [v3, cA.2]; cases d <;> simp at ml ⊢ <;> omega) k2 (by rw [here_of d2]; exact may_not press_sts)
    refine rdB_bad (k1.trans ?_)
    rw [B1, bind_mk, show takeR (mW d bits ins) (Str.ofString "press") (advB R ((pre.take ins).map (toStm d))) = .ok () (advB R ((pre.take ins).map (toStm d))).go from takeR_words d2, bind_mk]
    obtain ⟨R2, hR2⟩ : ∃ R2 : RS, R2 = { (advB R ((pre.take ins).map (toStm d))).go with pressed := true } := ⟨_, rfl⟩
    have w1 : R2.vars = [(wd "x", 9)] := by rw [hR2]; exact v1
    have w2 : R2.draws = nds ((pre.take ins).map (toStm d)) := by rw [hR2]; show R.draws + _ = _; rw [v2, Nat.zero_add]
    have w3 : R2.uses = nus ((pre.take ins).map (toStm d)) := by rw [hR2]; show R.uses + _ = _; rw [v3, Nat.zero_add]
    have w5 : R2.pos = 8 + (bw d (pre.take ins)).length + 1 := by rw [hR2]; show R.pos + _ + 1 = _; rw [rp]; rfl
    have d3' : (mW d bits ins).drop R2.pos = bw d (pre.drop ins) ++ ((toStm d b0).words ++ rest) := by rw [hR2]; exact d3
    rw [← hR2]
    have hn2 : NmOk R2.vars := by rw [w1, ← v1]; exact hn
    have hlw : ((pre.drop ins).map (toStm d)).length ≤ (mW d bits ins).length := by
      have := len_le_words ((pre.drop ins).map (toStm d))
      have := congrArg List.length er
      simp only [List.length_append, List.length_cons] at this
      unfold bw at this
      omega
    have f : Full d (advB R2 ((pre.drop ins).map (toStm d))) := by
      unfold Full
      cases d with
      | true =>
        simp only [if_true] at cA cB
        show R2.draws + nds _ = 3
        rw [w2, cA.1, cB.1]; exact lAB
      | false =>
        simp only [Bool.false_eq_true, if_false] at cA cB
        show R2.uses + nus _ = 24
        rw [w3, cA.2, cB.2]; exact lAB
    have d4 : (mW d bits ins).drop (advB R2 ((pre.drop ins).map (toStm d))).pos = (toStm d b0).words ++ rest := drop_app d3'
    obtain ⟨n, hnn⟩ : ∃ n, (mW d bits ins).length + 1 - ((pre.drop ins).map (toStm d)).length = n + 1 := ⟨(mW d bits ins).length - ((pre.drop ins).map (toStm d)).length, by omega⟩
    obtain ⟨s1, s2⟩ := stop_here (ar := ar) f hn2 (show wd "x" ∈ R2.vars.map (·.1) by rw [w1]; simp) d4 n ([] ++ (pre.drop ins).map (toStm d))
    have L := loop_words (ws := mW d bits ins) (ar := ar) ((pre.drop ins).map (toStm d)) 4 ((mW d bits ins).length + 1) [] R2 _ (by omega) hn2 (by rw [w1]; exact ok_bits h _) (by rw [w2, cA.1, cB.1]; cases d <;> simp at ml ⊢ <;> omega) (by rw [w3, cA.2, cB.2]; cases d <;> simp at ml ⊢ <;> omega) d3' (by omega)
    have pos : (advB R2 ((pre.drop ins).map (toStm d))).pos = 8 + (bw d pre).length + 1 := by
      show R2.pos + _ = _
      have : (bw d pre).length = (bw d (pre.take ins)).length + (bw d (pre.drop ins)).length := by rw [← List.length_append, ← bw_app, List.take_append_drop]
      rw [w5, this]
      show _ + (bw d (pre.drop ins)).length = _
      omega
    rw [blockR_eq]
    unfold stmtsR
    rw [L, hnn]
    cases hb : b0 with
    | true =>
      rw [show loopR (mW d bits ins) ar (4 - 4) (chAt (mW d bits ins) ar 4) (n + 1) ([] ++ (pre.drop ins).map (toStm d)) (advB R2 ((pre.drop ins).map (toStm d))) = _ from s1 hb, pos]
      rfl
    | false =>
      obtain ⟨s3, s4⟩ := s2 hb
      have s3' : loopR (mW d bits ins) ar (4 - 4) (chAt (mW d bits ins) ar 4) (n + 1) ([] ++ (pre.drop ins).map (toStm d)) (advB R2 ((pre.drop ins).map (toStm d))) = .ok ([] ++ (pre.drop ins).map (toStm d)) (advB R2 ((pre.drop ins).map (toStm d))) := loop_stop (by rw [s4]; exact full_may f _)
      have hlt : (advB R2 ((pre.drop ins).map (toStm d))).pos < (mW d bits ins).length := by
        refine here_lt' ?_
        rw [s4]; cases d <;> decide +kernel
      rw [s3', bind_mk, if_pos hlt, pos]
      rfl
theorem many_good {d : Bool} {bits : List Bool} {ins : Nat} (hi : ins ≤ bits.length) (hb : 0 < bits.length) : goodB (mW d bits ins) (mDue d bits ins) = true := by
  have one : ∀ ar, (d = true ∨ ar = true) → rdB (mW d bits ins) ar = mDue d bits ins := fun ar h => by
    by_cases hl : bits.length ≤ mostW d
    · rw [many_valid h hl]; unfold mDue; rw [if_pos hl]
    · exact many_over h hi (by omega)
  unfold goodB
  rw [decide_eq_true (one true (.inr rfl)), Bool.true_and]
  cases d with
  | true => rw [decide_eq_true (one false (.inl rfl)), Bool.or_true]
  | false =>
    have : wd "use" ∈ mW false bits ins := by
      have hm : wd "use" ∈ bw false bits := by
        cases bits with
        | nil => simp at hb
        | cons b r => cases b <;> simp [bw, toStm, stW, blockWords, Stm.words]
      have e : bw false bits = bw false (bits.take ins) ++ bw false (bits.drop ins) := by rw [← bw_app, List.take_append_drop]
      rw [e] at hm
      unfold mW
      rcases List.mem_append.mp hm with h | h
      · simp [h]
      · simp [h]
    rw [decide_eq_true this, Bool.true_or]
def lits : List Str := ["buttons", "2", "answers", "var", "x", "9", "start", "press", "if", "draw", "use", "1", "end"]
theorem mW_lits (d : Bool) (bits : List Bool) (ins : Nat) : ∀ p ∈ mW d bits ins, p ∈ lits := by
  have hb : ∀ (l : List Bool), ∀ p ∈ bw d l, p ∈ lits := by
    intro l
    induction l with
    | nil => intro p hp; cases hp
    | cons b r ih =>
      intro p hp
      rw [bw_one] at hp
      rcases List.mem_append.mp hp with h | h
      · have : ∀ d b : Bool, ∀ p ∈ (toStm d b).words, p ∈ lits := by decide +kernel
        exact this d b p h
      · exact ih p h
  intro p hp
  unfold mW at hp
  rcases List.mem_append.mp hp with h | h
  · have : ∀ p ∈ base8, p ∈ lits := by decide +kernel
    exact this p h
  · rcases List.mem_append.mp h with h | h
    · exact hb _ p h
    · rcases List.mem_cons.mp h with rfl | h
      · decide +kernel
      · exact hb _ p h
theorem bw_len (d : Bool) : ∀ l : List Bool, (bw d l).length ≤ 6 * l.length
  | [] => Nat.le_refl _
  | b :: r => by
    have := bw_len d r
    have h : (toStm d b).words.length ≤ 6 := by cases d <;> cases b <;> decide +kernel
    rw [bw_one, List.length_append, List.length_cons]; omega
theorem mW_tidy {d : Bool} {bits : List Bool} {ins : Nat} (h : bits.length ≤ 30) : tidyB (mW d bits ins) = true := by
  have hl : (mW d bits ins).length ≤ 2000 := by
    have h1 := bw_len d (bits.take ins)
    have h2 := bw_len d (bits.drop ins)
    have h3 : (bits.take ins).length + (bits.drop ins).length = bits.length := by rw [← List.length_append, List.take_append_drop]
    have h4 : base8.length = 8 := rfl
    unfold mW
    rw [List.length_append, List.length_append, List.length_cons, h4]; omega
  unfold tidyB
  rw [decide_eq_true hl, Bool.and_true]
  rw [show decide ((mW d bits ins).head? = some (wd "buttons")) = true from by rw [mW_eq]; exact decide_eq_true rfl, Bool.true_and]
  rw [List.all_eq_true]
  intro p hp
  have : ∀ p ∈ lits, (!(tl p).contains 32 && decide (p.length ≤ 100)) = true := by decide +kernel
  exact this p (mW_lits d bits ins p hp)
end Rd

set_option Elab.async false
set_option linter.all false
set_option maxRecDepth 100000
set_option maxHeartbeats 4000000
namespace K
open PySem PySem.Spec PyProof.Rows L2 Tk Hd Rd
section
variable {P : Program} {w : World} {K : PySem.W.Frag} {mg : Str → Option Value} {base : Heap}
/-- words, and where they are wrong -/
def iPair (H : Hp) (t : Addr) (ws : List Str) (due : Option Nat) : Prop := ∃ wl, H t = some (.tup [.ref wl, oInt due]) ∧ H wl = some (.lst (ws.map V.str))
def spFam : Sp := fun vs H Q _ => ∃ (I : Hp) (p : Addr), vs = [.ref p] ∧ Same I H ∧ PoolOk I H p ∧ ∀ I' H' t ws due, Gr [p] I H I' H' → PoolOk I' H' p → iPair I' t ws due → goodB ws due = true → tidyB ws = true → Q (.ref t) H'
theorem sc__law_numbers : FnScope ["pool", "way", "most", "number", "at", "words"] ["pool"] (defScope s__law_numbers) := ⟨rfl, rfl, rfl, by decide +kernel, rfl, by decide +kernel, by decide +kernel⟩
theorem ok_numbers (D : Dt K mg) : Has P w K mg base 2 (He.ga K "_law_numbers") ["pool"] [] (spFam) := by
  obtain ⟨fd, F⟩ := fd__law_numbers D
  have H__law_draw := ok_draw (P := P) (w := w) (base := base) D
  refine hasN F (F.bindsN fun _ _ _ _ _ _ us hl => match us, hl with | [_], _ => rfl) sc__law_numbers (fun vs H Q E h => ?_) (fun cdv A outer s H vs Q E hr h => ?_)
  · obtain ⟨I, p, rfl, _⟩ := h; rfl
  · obtain ⟨I, p, rfl, s0, po, k⟩ := h
    refine ⟨_, (pss_cons (ps_set (i := 1) sc__law_numbers.nd rfl (Or.inl rfl) (pe_callH H__law_draw (hr.mono (by omega)) rfl (glo__law_draw D) passL (pa_cons (pv 0) (pa_cons pe_int pa_nil))))
      (pss_cons (ps_set (i := 2) sc__law_numbers.nd rfl (Or.inl rfl) (pe_ix (ix_tupK K) (pe_tup (pa_cons pe_int (pa_cons pe_int (pa_cons pe_int (pa_cons pe_int pa_nil))))) (pv 1) (fun _ _ => rfl)))
      (pss_cons (ps_set (i := 3) sc__law_numbers.nd rfl (Or.inl rfl) (pe_op op_add (pe_op op_sub (pv 2) pe_int) (pe_callH H__law_draw (hr.mono (by omega)) rfl (glo__law_draw D) passL (pa_cons (pv 0) (pa_cons pe_int pa_nil)))))
      (pss_cons (ps_if (pt_cmpR op_eq (pe_callH H__law_draw (hr.mono (by omega)) rfl (glo__law_draw D) passL (pa_cons (pv 0) (pa_cons pe_int pa_nil))) pe_int (nomark _))
      (pss_one (ps_set (i := 3) sc__law_numbers.nd rfl (Or.inl rfl) pe_int))
      pss_nil)
      (pss_cons (ps_set (i := 4) sc__law_numbers.nd rfl (Or.inl rfl) (pe_ix (ix_tupK K) (pe_tup (pa_cons pe_int (pa_cons pe_int (pa_cons pe_int (pa_cons pe_int pa_nil))))) (pv 1) (fun _ _ => rfl)))
      (pss_cons (ps_set (i := 5) sc__law_numbers.nd rfl (Or.inl rfl) (pe_lst (pa_cons pe_str (pa_cons pe_str (pa_cons pe_str (pa_cons pe_str (pa_cons pe_str (pa_cons pe_str (pa_cons pe_str (pa_cons pe_str (pa_cons pe_str (pa_cons pe_str (pa_cons pe_str (pa_cons pe_str (pa_cons pe_str (pa_cons pe_str pa_nil))))))))))))))))
      (pss_cons (ps_asg (pe_callTy call_str_int rfl (free_str D) (by decide +kernel) (pa_cons (pv 3) pa_nil)) (pg_sub (pv 5) (pv 4) set_list))
      (pss_cons (ps_if (pt_chain op_lt op_le pe_int (pv 3) (pv 2))
      (pss_one (ps_set (i := 4) sc__law_numbers.nd rfl (Or.inl rfl) pe_non))
      pss_nil)
      (pss_one (ps_ret (pe_tup (pa_cons (pv 5) (pa_cons (pv 4) pa_nil))))))))))))), ?_⟩
    refine ⟨_, rfl, I, p, 4, rfl, s0, po, by decide, by decide, fun v H1 h0 h4 g1 po1 => ?_⟩
    obtain ⟨way, rfl⟩ := Int.eq_ofNat_of_zero_le h0
    have hw : way < 4 := by omega
    (try dsimp only)
    refine ⟨(by show 4 ≤ sizeLine; decide), fun t ht => ?_⟩
    have g2 := Gr.new (ms := []) (o := .tup [.int 4, .int 4, .int 12, .int 6]) g1.ih ht
    have po2 := po1.up g2 (by simp)
    refine ⟨_, rfl, t, _, _, .int (nMost way : Int), rfl, rfl, SqT.of upd_same, at_of (j := way) rfl ?_, ?_⟩
    · have : way = 0 ∨ way = 1 ∨ way = 2 ∨ way = 3 := by omega
      rcases this with rfl | rfl | rfl | rfl <;> rfl
    have hm : 4 ≤ nMost way ∧ nMost way ≤ 12 := by
      have : way = 0 ∨ way = 1 ∨ way = 2 ∨ way = 3 := by omega
      rcases this with rfl | rfl | rfl | rfl <;> exact ⟨by decide, by decide⟩
    have G2 := g1.trans g2.nil
    (try dsimp only)
    refine seq_cut (fun σ' H' => ∃ I' n, σ' = [some (V.ref p), some (V.int (way : Int)), some (V.int (nMost way : Int)), some (V.int ((n : Nat) : Int)), none, none] ∧ Gr [p] I H I' H' ∧ PoolOk I' H' p ∧ n < 16) (fun nx q => ?_) ?_
    · refine ⟨_, rfl, _, _, rfl, rfl, _, rfl, _, p, 4, rfl, g2.ih, po2, by decide, by decide, fun v H3 a0 a4 g3 po3 => ?_⟩
      obtain ⟨j, rfl⟩ := Int.eq_ofNat_of_zero_le a0
      refine ⟨_, _, rfl, rfl, ?_⟩
      refine q _ _ ⟨_, nMost way - 1 + j, ?_, G2.trans g3, po3, by omega⟩
      have : (nMost way : Int) - 1 + (j : Int) = ((nMost way - 1 + j : Nat) : Int) := by omega
      show [_, _, _, some (V.int ((nMost way : Int) - 1 + (j : Int))), _, _] = _
      rw [this]
    rintro σ' H' ⟨I3, n, rfl, g3, po3, hn⟩
    (try dsimp only)
    refine seq_cut (fun σ' H' => ∃ I' n, σ' = [some (V.ref p), some (V.int (way : Int)), some (V.int (nMost way : Int)), some (V.int ((n : Nat) : Int)), none, none] ∧ Gr [p] I H I' H' ∧ PoolOk I' H' p ∧ n < 16) (fun nx q => ?_) ?_
    · refine ⟨_, rfl, _, p, 4, rfl, g3.ih, po3, by decide, by decide, fun v H4 a0 a4 g4 po4 => ?_⟩
      refine ⟨rfl, _, rfl, ifB (fun _ => ?_) (fun _ => ?_)⟩
      · exact q _ _ ⟨_, 0, rfl, g3.trans g4, po4, by decide⟩
      · exact q _ _ ⟨_, n, rfl, g3.trans g4, po4, hn⟩
    rintro σ' H'' ⟨I4, n, rfl, g4, po4, hn⟩
    (try dsimp only)
    refine ⟨(by show 4 ≤ sizeLine; decide), fun t2 ht2 => ?_⟩
    have g5 := Gr.new (ms := []) (o := .tup [.int 1, .int 3, .int 6, .int 10]) g4.ih ht2
    have po5 := po4.up g5 (by simp)
    refine ⟨_, rfl, t2, _, _, .int (nAt way : Int), rfl, rfl, SqT.of upd_same, at_of (j := way) rfl ?_, ?_⟩
    · have : way = 0 ∨ way = 1 ∨ way = 2 ∨ way = 3 := by omega
      rcases this with rfl | rfl | rfl | rfl <;> rfl
    (try dsimp only)
    refine ⟨(by show 14 ≤ sizeLine; decide), fun l hl => ?_⟩
    have g6 : Gr [l] _ _ _ _ := Gr.tmp (o := .lst (numBase.map V.str)) g5.ih hl
    have po6 := po5.up (ms := []) (Gr.tmp (o := .lst (numBase.map V.str)) g5.ih hl) (by simp)
    have npl : p ≠ l := fun z => by
      obtain ⟨_, c, cells, pos, b, sd, lf, bd, _, _, _, hp⟩ := po5
      rw [← z, hp] at hl; cases hl
    have hat : nAt way < 14 := by
      have : way = 0 ∨ way = 1 ∨ way = 2 ∨ way = 3 := by omega
      rcases this with rfl | rfl | rfl | rfl <;> decide
    (try dsimp only)
    refine ⟨_, rfl, _, rfl, nat_log (by omega), _, rfl, _, rfl, l, _, _, nAt way, rfl, rfl, upd_same, ?_, ?_⟩
    · show ixN 14 ((nAt way : Nat) : Int) = some (nAt way)
      unfold ixN
      rw [if_pos (by omega), if_pos (by omega), Int.toNat_natCast]
    have enw : (numBase.map V.str).set (nAt way) (.str (dec n)) = (numW way n).map V.str := by unfold numW; rw [List.map_set]
    have hnum := num_good way hw n hn
    have gm : Gr [l, p] (upd I4 t2 (.tup [.int 1, .int 3, .int 6, .int 10])) (upd H'' t2 (.tup [.int 1, .int 3, .int 6, .int 10])) (upd I4 t2 (.tup [.int 1, .int 3, .int 6, .int 10])) (upd (upd (upd H'' t2 (.tup [.int 1, .int 3, .int 6, .int 10])) l (.lst (numBase.map V.str))) l (.lst ((numBase.map V.str).set (nAt way) (.str (dec n))))) :=
      (Gr.tmp g5.ih hl).trans (Gr.mut (Gr.tmp (ms := []) (o := .lst (numBase.map V.str)) g5.ih hl).ih (g5.ih.free hl) (by simp))
    have gz := gm.frz g5.ih hl upd_same
    have poz := po6.up (ms := [l]) (Gr.mut (o := .lst ((numBase.map V.str).set (nAt way) (.str (dec n)))) (Gr.tmp (ms := []) (o := .lst (numBase.map V.str)) g5.ih hl).ih (g5.ih.free hl) (by simp)) (by simpa using npl)
    have poz2 : PoolOk (upd (upd I4 t2 (.tup [.int 1, .int 3, .int 6, .int 10])) l (.lst ((numBase.map V.str).set (nAt way) (.str (dec n))))) (upd (upd (upd H'' t2 (.tup [.int 1, .int 3, .int 6, .int 10])) l (.lst (numBase.map V.str))) l (.lst ((numBase.map V.str).set (nAt way) (.str (dec n))))) p := by
      obtain ⟨i, c, cells, pos, b, sd, lf, bd, h1, h2, h3, h5⟩ := poz
      exact ⟨by rw [upd_ne npl]; exact i, c, cells, pos, b, sd, lf, bd, sNew (g5.ih.free hl) _ _ h1, h2, h3, h5⟩
    have GZ := (g4.trans g5.nil).trans gz
    (try dsimp only)
    refine seq_cut (fun σ' H9 => σ' = [some (V.ref p), some (V.int (way : Int)), some (V.int (nMost way : Int)), some (V.int ((n : Nat) : Int)), some (oInt (numDue way n)), some (V.ref l)] ∧ H9 = (upd (upd (upd H'' t2 (.tup [.int 1, .int 3, .int 6, .int 10])) l (.lst (numBase.map V.str))) l (.lst ((numBase.map V.str).set (nAt way) (.str (dec n)))))) (fun nx q => ?_) ?_
    · refine ⟨_, rfl, _, _, rfl, rfl, _, rfl, ?_⟩
      refine ifD (fun c1 => ?_) (fun c1 => ?_)
      · refine ⟨_, rfl, _, _, rfl, rfl, _, rfl, ifD (fun c2 => ?_) (fun c2 => ?_)⟩
        · refine q _ _ ⟨?_, rfl⟩
          unfold numDue
          rw [if_pos ⟨by omega, by omega⟩]; rfl
        · refine q _ _ ⟨?_, rfl⟩
          unfold numDue
          rw [if_neg (by omega)]; rfl
      · refine ⟨_, rfl, ifF rfl (q _ _ ⟨?_, rfl⟩)⟩
        unfold numDue
        rw [if_neg (by omega)]; rfl
    rintro σ' H9 ⟨rfl, rfl⟩
    (try dsimp only)
    refine ⟨_, rfl, _, rfl, (by show 2 ≤ sizeLine; decide), fun t3 ht3 => ?_⟩
    have g9 := Gr.new (ms := []) (o := .tup [.ref l, oInt (numDue way n)]) GZ.ih ht3
    refine k _ _ t3 (numW way n) (numDue way n) (GZ.trans g9.nil) (poz2.up g9 (by simp)) ⟨l, upd_same, ?_⟩ hnum.1 hnum.2
    exact g9.ii _ _ (by rw [upd_same, enw])
end
end K

set_option Elab.async false
set_option linter.all false
set_option maxRecDepth 100000
set_option maxHeartbeats 4000000
/-! The loop that makes many of a kind. -/
namespace Rd
open PySem PyProof.Rows TL
def pW (d : Bool) (bits : List Bool) (ins : Nat) : List Str := base8 ++ (bw d (bits.take ins) ++ (if ins < bits.length then wd "press" :: bw d (bits.drop ins) else []))
def qW (d : Bool) (bits : List Bool) (ins : Nat) : List Str := base8 ++ (bw d (bits.take ins) ++ (if ins ≤ bits.length then wd "press" :: bw d (bits.drop ins) else []))
theorem pW_zero (d : Bool) (ins : Nat) : pW d [] ins = base8 := by unfold pW; rw [if_neg (by simp)]; simp [bw, blockWords]
theorem bw_nil (d : Bool) : bw d [] = [] := rfl
theorem qW_of (d : Bool) (bits : List Bool) (ins : Nat) : qW d bits ins = if bits.length = ins then pW d bits ins ++ [wd "press"] else pW d bits ins := by
  unfold qW pW
  by_cases h : bits.length = ins
  · subst h
    rw [if_pos rfl, if_pos (Nat.le_refl _), if_neg (Nat.lt_irrefl _), List.drop_length, bw_nil]; simp
  · rw [if_neg h]
    by_cases h2 : ins < bits.length
    · rw [if_pos h2, if_pos (by omega)]
    · rw [if_neg h2, if_neg (by omega)]
theorem pW_next (d b : Bool) (bits : List Bool) (ins : Nat) : pW d (bits ++ [b]) ins = qW d bits ins ++ (toStm d b).words := by
  unfold qW pW
  have hl : (bits ++ [b]).length = bits.length + 1 := by simp
  have e1 : bw d [b] = (toStm d b).words := by rw [bw_one, bw_nil, List.append_nil]
  by_cases h : ins ≤ bits.length
  · rw [if_pos h, if_pos (by omega), List.take_append_of_le_length h, List.drop_append_of_le_length h, bw_app, e1]
    simp
  · rw [if_neg h, if_neg (by omega), List.take_of_length_le (by omega), List.take_of_length_le (by omega), bw_app, e1]
    simp
theorem qW_len (d : Bool) (bits : List Bool) (ins : Nat) : (qW d bits ins).length = 8 + (bw d bits).length + (if ins ≤ bits.length then 1 else 0) := by
  unfold qW
  have e8 : base8.length = 8 := rfl
  have e : bw d bits = bw d (bits.take ins) ++ bw d (bits.drop ins) := by rw [← bw_app, List.take_append_drop]
  rw [List.length_append, List.length_append, e8]
  by_cases h : ins ≤ bits.length
  · rw [if_pos h, if_pos h, e, List.length_append, List.length_cons]; omega
  · rw [if_neg h, if_neg h, List.take_of_length_le (by omega)]; simp
theorem mDue_next (d b : Bool) (bits : List Bool) (ins : Nat) : mDue d (bits ++ [b]) ins = if bits.length = mostW d then some ((qW d bits ins).length + (if b = true then 2 else 0)) else mDue d bits ins := by
  unfold mDue
  rw [List.length_append, List.length_singleton]
  by_cases h : bits.length = mostW d
  · rw [if_pos h, if_neg (by omega), qW_len, ← h, List.take_left, List.getD_eq_getElem?_getD, List.getElem?_append_right (Nat.le_refl _)]
    simp
  · rw [if_neg h]
    by_cases h2 : bits.length < mostW d
    · rw [if_pos (by omega), if_pos (by omega)]
    · rw [if_neg (show ¬ bits.length + 1 ≤ mostW d by omega), if_neg (show ¬ bits.length ≤ mostW d by omega), List.take_append_of_le_length (by omega), List.getD_eq_getElem?_getD, List.getD_eq_getElem?_getD, List.getElem?_append_left (by omega)]
theorem mW_end (d : Bool) (bits : List Bool) (ins : Nat) (h : ins ≤ bits.length) : mW d bits ins = if ins = bits.length then pW d bits ins ++ [wd "press"] else pW d bits ins := by
  unfold mW pW
  by_cases e : ins = bits.length
  · subst e
    rw [if_pos rfl, if_neg (Nat.lt_irrefl _), List.drop_length, bw_nil]; simp
  · rw [if_neg e, if_pos (by omega)]
theorem toStm_words (d b : Bool) : (toStm d b).words = (if b = true then [wd "if", wd "x"] else []) ++ (stW d).words ++ (if b = true then [wd "end"] else []) := by cases d <;> cases b <;> rfl
theorem stW_words (d : Bool) : (stW d).words = if d = true then [wd "draw", wd "x", dec 2] else [wd "use", wd "x", dec 1] := by cases d <;> rfl
theorem dec12 : dec 2 = wd "2" ∧ dec 1 = wd "1" := by decide +kernel
theorem pW_len (d : Bool) (bits : List Bool) (ins : Nat) : (pW d bits ins).length ≤ 9 + 6 * bits.length := by
  have h1 := bw_len d bits
  have e8 : base8.length = 8 := rfl
  have e : bw d bits = bw d (bits.take ins) ++ bw d (bits.drop ins) := by rw [← bw_app, List.take_append_drop]
  have := congrArg List.length e
  rw [List.length_append] at this
  unfold pW
  rw [List.length_append, List.length_append, e8]
  split <;> simp only [List.length_cons, List.length_nil] <;> omega
def base12 : List Str := ["buttons", "2", "answers", "2", "var", "x", "9", "start", "set", "x", "1", "press"]
def wF (n : Nat) : List Str := base12.take n ++ [wd "use", wd "x", wd "1"] ++ base12.drop n
theorem last_good : ∀ m, m < 2 → rdB (wF (8 + 3 * m)) true = none ∧ rdB (wF (8 + 3 * m)) false = some (8 + 3 * m) ∧ tidyB (wF (8 + 3 * m)) = true := by decide +kernel
end Rd

set_option Elab.async false
set_option linter.all false
set_option maxRecDepth 100000
set_option maxHeartbeats 4000000
namespace K
open PySem PySem.Spec PyProof.Rows L2 Tk Hd Rd
section
variable {P : Program} {w : World} {K : PySem.W.Frag} {mg : Str → Option Value} {base : Heap}
/-- a list of words of one's own, under way -/
structure Wsl (I H : Hp) (p : Addr) (I' H' : Hp) (l : Addr) (ws : List Str) : Prop where
  g : Gr [p] I H I' H'
  po : PoolOk I' H' p
  il : I' l = none
  h0 : H l = none
  np : p ≠ l
  hl : H' l = some (.lst (ws.map V.str))
section
variable {I H I' H' I2 H2 : Hp} {p l t : Addr} {ws : List Str}
theorem pool_ne (po : PoolOk I' H' p) (h : H' l = none) : p ≠ l := fun z => by
  obtain ⟨_, c, cells, pos, b, sd, lf, bd, _, _, _, hp⟩ := po
  rw [← z, hp] at h; cases h
theorem Wsl.new {vs : List V} (g : Gr [p] I H I' H') (po : PoolOk I' H' p) (h : H' l = none) (e : vs = ws.map V.str) : Wsl I H p I' (upd H' l (.lst vs)) l ws := by
  subst e
  exact ⟨g.trans (Gr.tmp g.ih h), po.up (ms := []) (Gr.tmp g.ih h) (by simp), g.ih.free h, g.none h, pool_ne po h, upd_same⟩
theorem Wsl.step (w : Wsl I H p I' H' l ws) (g2 : Gr [p] I' H' I2 H2) (po2 : PoolOk I2 H2 p) : Wsl I H p I2 H2 l ws :=
  ⟨w.g.trans g2, po2, g2.out w.il w.hl, w.h0, w.np, g2.at w.hl (by simpa using w.np.symm)⟩
theorem Wsl.step0 (w : Wsl I H p I' H' l ws) (g2 : Gr [] I' H' I2 H2) : Wsl I H p I2 H2 l ws := w.step g2.nil (w.po.up g2 (by simp))
theorem Wsl.push (w : Wsl I H p I' H' l ws) (x : Str) : Wsl I H p I' (upd H' l (.lst (ws.map V.str ++ [.str x]))) l (ws ++ [x]) := by
  have g1 : Gr [l] I' H' I' (upd H' l (.lst (ws.map V.str ++ [.str x]))) := Gr.mut w.g.ih w.il (by simp)
  have g2 : Gr [l, p] I H I' (upd H' l (.lst (ws.map V.str ++ [.str x]))) := (w.g.mono fun _ z => List.mem_cons_of_mem _ z).trans (g1.mono fun a z => by simp at z; simp [z])
  exact ⟨g2.drop w.h0, w.po.up g1 (by simpa using w.np), w.il, w.h0, w.np, by rw [upd_same]; simp⟩
theorem Wsl.put {vs : List V} {ws2 : List Str} (w : Wsl I H p I' H' l ws) (e : vs = ws2.map V.str) : Wsl I H p I' (upd H' l (.lst vs)) l ws2 := by
  have g1 : Gr [l] I' H' I' (upd H' l (.lst vs)) := Gr.mut w.g.ih w.il (by simp)
  have g2 : Gr [l, p] I H I' (upd H' l (.lst vs)) := (w.g.mono fun _ z => List.mem_cons_of_mem _ z).trans (g1.mono fun a z => by simp at z; simp [z])
  exact ⟨g2.drop w.h0, w.po.up g1 (by simpa using w.np), w.il, w.h0, w.np, by rw [upd_same, e]⟩
theorem Wsl.pair (w : Wsl I H p I' H' l ws) (s0 : Same I H) (ht : H' t = none) (due : Option Nat) : ∃ I2, Gr [p] I H I2 (upd H' t (.tup [.ref l, oInt due])) ∧ PoolOk I2 (upd H' t (.tup [.ref l, oInt due])) p ∧ iPair I2 t ws due := by
  have g1 : Gr [l, p] I H I' H' := w.g.mono fun _ z => List.mem_cons_of_mem _ z
  have g2 := g1.frz s0 w.h0 w.hl
  have po2 : PoolOk (upd I' l (.lst (ws.map V.str))) H' p := by
    obtain ⟨i, c, cells, pos, b, sd, lf, bd, h1, h2, h3, h5⟩ := w.po
    exact ⟨by rw [upd_ne w.np]; exact i, c, cells, pos, b, sd, lf, bd, sNew w.il _ _ h1, h2, h3, h5⟩
  have g3 := Gr.new (ms := []) (o := .tup [.ref l, oInt due]) g2.ih ht
  exact ⟨_, g2.trans g3.nil, po2.up g3 (by simp), l, upd_same, g3.ii _ _ upd_same⟩
end
theorem oInt_over {b : Bool} {n : Nat} : oInt (over b n) = if b = true then .int (n : Int) else .non := by cases b <;> rfl
/-- (None, n)[int(b)] -/
theorem pick_of {I H : Hp} {n : Int} {b : Bool} {Q : VK} (s : Same I H) {m : Nat} (e : n = (m : Int)) (k : ∀ t, Gr [] I H (upd I t (.tup [.non, .int n])) (upd H t (.tup [.non, .int n])) → Q (oInt (over b m)) (upd H t (.tup [.non, .int n]))) (t : Addr) (ht : H t = none) :
    ∃ p xs i v, V.ref t = .ref p ∧ V.int (if b = true then 1 else 0) = .int i ∧ SqT K (upd H t (.tup [.non, .int n])) p xs ∧ atI xs i = some v ∧ Q v (upd H t (.tup [.non, .int n])) := by
  refine ⟨t, _, _, oInt (over b m), rfl, rfl, SqT.of upd_same, ?_, k t (Gr.new s ht)⟩
  subst e
  cases b <;> rfl
theorem letter_at {i : Nat} (h : i < 7) : ∃ ch, atI (Str.cps ("abcdefg" : Str)).toList ((0 : Int) + (i : Int)) = some ch ∧ (⟨#[ch]⟩ : Str) = letter i := by
  have : ∀ i : Nat, i < 7 → atI (Str.cps ("abcdefg" : Str)).toList ((0 : Int) + (i : Int)) = some (97 + i) ∧ (⟨#[97 + i]⟩ : Str) = letter i := by decide +kernel
  exact ⟨_, this i h⟩
theorem w0_len (i : Nat) : (base8.take 4 ++ (List.range i).flatMap (fun k => [wd "var", letter k, wd "9"])).length = 4 + 3 * i := by
  have e : base8.length = 8 := rfl
  rw [List.length_append, List.length_take, e]
  induction i with
  | zero => rfl
  | succ i ih =>
    rw [List.range_succ, List.flatMap_append, List.length_append]
    simp only [List.flatMap_cons, List.flatMap_nil, List.append_nil, List.length_cons, List.length_nil]
    omega
theorem sc__law_many : FnScope ["pool", "words", "way", "count", "k", "most", "inside", "due", "inner", "name"] ["pool"] (defScope s__law_many) := ⟨rfl, rfl, rfl, by decide +kernel, rfl, by decide +kernel, by decide +kernel⟩
theorem ok_many (D : Dt K mg) : Has P w K mg base 2 (He.ga K "_law_many") ["pool"] [] (spFam) := by
  obtain ⟨fd, F⟩ := fd__law_many D
  have H__law_draw := ok_draw (P := P) (w := w) (base := base) D
  refine hasN F (F.bindsN fun _ _ _ _ _ _ us hl => match us, hl with | [_], _ => rfl) sc__law_many (fun vs H Q E h => ?_) (fun cdv A outer s H vs Q E hr h => ?_)
  · obtain ⟨I, p, rfl, _⟩ := h; rfl
  · obtain ⟨I, p, rfl, s0, po, k⟩ := h
    refine ⟨_, (pss_cons (ps_set (i := 1) sc__law_many.nd rfl (Or.inl rfl) (pe_lst (pa_cons pe_str (pa_cons pe_str (pa_cons pe_str (pa_cons pe_str (pa_cons pe_str (pa_cons pe_str (pa_cons pe_str (pa_cons pe_str pa_nil))))))))))
      (pss_cons (ps_set (i := 2) sc__law_many.nd rfl (Or.inl rfl) (pe_callH H__law_draw (hr.mono (by omega)) rfl (glo__law_draw D) passL (pa_cons (pv 0) (pa_cons pe_int pa_nil))))
      (pss_cons (ps_if (pt_cmpR op_eq (pv 2) pe_int (nomark _))
      (pss_cons (ps_set (i := 3) sc__law_many.nd rfl (Or.inl rfl) (pe_op op_add pe_int (pe_callH H__law_draw (hr.mono (by omega)) rfl (glo__law_draw D) passL (pa_cons (pv 0) (pa_cons pe_int pa_nil)))))
      (pss_cons (ps_set (i := 1) sc__law_many.nd rfl (Or.inl rfl) (pe_slice (sl_listK K) (pv 1) po_none (po_some pe_int)))
      (pss_cons (ps_for PassesOwn.never rfl (pi_range1 rfl (free_range D) (pa_cons (pv 3) pa_nil)) (pg_name (i := 4) sc__law_many.nd rfl (Or.inl rfl))
      (pss_one (ps_set (i := 1) sc__law_many.nd rfl (Or.inl rfl) (pe_op op_cat (pv 1) (pe_lst (pa_cons pe_str (pa_cons (pe_ix ix_str pe_str (pv 4) (fun _ _ => rfl)) (pa_cons pe_str pa_nil))))))))
      (pss_one (ps_ret (pe_tup (pa_cons (pe_op op_cat (pv 1) (pe_lst (pa_cons pe_str (pa_cons pe_str pa_nil)))) (pa_cons (pe_ix (ix_tupK K) (pe_tup (pa_cons pe_non (pa_cons (pe_op op_add pe_int pe_int) pa_nil))) (pe_callTy call_int1 rfl (free_int D) (by decide +kernel) (pa_cons (pe_cmpR op_gt (pv 3) pe_int (nomark _)) pa_nil)) (fun _ _ => rfl)) pa_nil))))))))
      pss_nil)
      (pss_cons (ps_if (pt_cmpR op_lt (pv 2) pe_int (nomark _))
      (pss_cons (ps_set (i := 5) sc__law_many.nd rfl (Or.inl rfl) (pe_ix (ix_tupK K) (pe_tup (pa_cons pe_int (pa_cons pe_int pa_nil))) (pe_op op_sub (pv 2) pe_int) (fun _ _ => rfl)))
      (pss_cons (ps_set (i := 3) sc__law_many.nd rfl (Or.inl rfl) (pe_op op_add (pe_op op_sub (pv 5) pe_int) (pe_callH H__law_draw (hr.mono (by omega)) rfl (glo__law_draw D) passL (pa_cons (pv 0) (pa_cons pe_int pa_nil)))))
      (pss_cons (ps_set (i := 6) sc__law_many.nd rfl (Or.inl rfl) (pe_callH H__law_draw (hr.mono (by omega)) rfl (glo__law_draw D) passL (pa_cons (pv 0) (pa_cons (pe_op op_add (pv 3) pe_int) pa_nil))))
      (pss_cons (ps_set (i := 7) sc__law_many.nd rfl (Or.inl rfl) pe_non)
      (pss_cons (ps_for PassesOwn.never rfl (pi_range1 rfl (free_range D) (pa_cons (pv 3) pa_nil)) (pg_name (i := 4) sc__law_many.nd rfl (Or.inl rfl))
      (pss_cons (ps_if (pt_cmpR op_eq (pv 4) (pv 6) (nomark _))
      (pss_one (ps_expr (pe_bm PySem.F.plainAttrs_list PySem.F.slot_list_append PySem.F.type_list_append mt_append (pv 1) (pa_cons pe_str pa_nil))))
      pss_nil)
      (pss_cons (ps_set (i := 8) sc__law_many.nd rfl (Or.inl rfl) (pe_callH H__law_draw (hr.mono (by omega)) rfl (glo__law_draw D) passL (pa_cons (pv 0) (pa_cons pe_int pa_nil))))
      (pss_cons (ps_if (pt_cmpR op_eq (pv 8) pe_int (nomark _))
      (pss_one (ps_set (i := 1) sc__law_many.nd rfl (Or.inl rfl) (pe_op op_cat (pv 1) (pe_lst (pa_cons pe_str (pa_cons pe_str pa_nil))))))
      pss_nil)
      (pss_cons (ps_if (pt_cmpR op_eq (pv 4) (pv 5) (nomark _))
      (pss_one (ps_set (i := 7) sc__law_many.nd rfl (Or.inl rfl) (pe_callB (call_lenK K) rfl (free_len D) PySem.boot_len (pa_cons (pv 1) pa_nil))))
      pss_nil)
      (pss_cons (ps_set (i := 1) sc__law_many.nd rfl (Or.inl rfl) (pe_op op_cat (pv 1) (pe_ix (ix_tupK K) (pe_tup (pa_cons (pe_lst (pa_cons pe_str (pa_cons pe_str (pa_cons pe_str pa_nil)))) (pa_cons (pe_lst (pa_cons pe_str (pa_cons pe_str (pa_cons pe_str pa_nil)))) pa_nil))) (pe_op op_sub (pv 2) pe_int) (fun _ _ => rfl))))
      (pss_one (ps_if (pt_cmpR op_eq (pv 8) pe_int (nomark _))
      (pss_one (ps_expr (pe_bm PySem.F.plainAttrs_list PySem.F.slot_list_append PySem.F.type_list_append mt_append (pv 1) (pa_cons pe_str pa_nil))))
      pss_nil))))))))
      (pss_cons (ps_if (pt_cmpR op_eq (pv 6) (pv 3) (nomark _))
      (pss_one (ps_expr (pe_bm PySem.F.plainAttrs_list PySem.F.slot_list_append PySem.F.type_list_append mt_append (pv 1) (pa_cons pe_str pa_nil))))
      pss_nil)
      (pss_one (ps_ret (pe_tup (pa_cons (pv 1) (pa_cons (pv 7) pa_nil)))))))))))
      pss_nil)
      (pss_cons (ps_if (pt_cmpR op_eq (pv 2) pe_int (nomark _))
      (pss_cons (ps_set (i := 3) sc__law_many.nd rfl (Or.inl rfl) (pe_op op_add pe_int (pe_callH H__law_draw (hr.mono (by omega)) rfl (glo__law_draw D) passL (pa_cons (pv 0) (pa_cons pe_int pa_nil)))))
      (pss_cons (ps_set (i := 8) sc__law_many.nd rfl (Or.inl rfl) (pe_ix (ix_tupK K) (pe_tup (pa_cons (pe_lst (pa_cons pe_str (pa_cons pe_str pa_nil))) (pa_cons (pe_lst (pa_cons pe_str (pa_cons pe_str (pa_cons pe_str (pa_cons pe_str (pa_cons pe_str (pa_cons pe_str pa_nil))))))) pa_nil))) (pe_callH H__law_draw (hr.mono (by omega)) rfl (glo__law_draw D) passL (pa_cons (pv 0) (pa_cons pe_int pa_nil))) (fun _ _ => rfl)))
      (pss_cons (ps_set (i := 7) sc__law_many.nd rfl (Or.inl rfl) (pe_ix (ix_tupK K) (pe_tup (pa_cons pe_non (pa_cons (pe_op op_add (pe_callB (call_lenK K) rfl (free_len D) PySem.boot_len (pa_cons (pv 1) pa_nil)) (pe_op op_mulW pe_int (pe_callB (call_lenK K) rfl (free_len D) PySem.boot_len (pa_cons (pv 8) pa_nil)))) pa_nil))) (pe_callTy call_int1 rfl (free_int D) (by decide +kernel) (pa_cons (pe_cmpR op_gt (pv 3) pe_int (nomark _)) pa_nil)) (fun _ _ => rfl)))
      (pss_one (ps_ret (pe_tup (pa_cons (pe_op op_cat (pe_op op_cat (pe_op op_cat (pe_op op_cat (pv 1) (pe_op op_rep (pv 8) (pv 3))) (pe_lst (pa_cons pe_str (pa_cons pe_str (pa_cons pe_str pa_nil))))) (pe_op op_rep (pe_lst (pa_cons pe_str pa_nil)) (pv 3))) (pe_lst (pa_cons pe_str pa_nil))) (pa_cons (pv 7) pa_nil))))))))
      pss_nil)
      (pss_cons (ps_if (pt_cmpR op_eq (pv 2) pe_int (nomark _))
      (pss_cons (ps_set (i := 3) sc__law_many.nd rfl (Or.inl rfl) (pe_op op_add pe_int (pe_callH H__law_draw (hr.mono (by omega)) rfl (glo__law_draw D) passL (pa_cons (pv 0) (pa_cons pe_int pa_nil)))))
      (pss_cons (ps_set (i := 1) sc__law_many.nd rfl (Or.inl rfl) (pe_op op_cat (pv 1) (pe_lst (pa_cons pe_str (pa_cons pe_str pa_nil)))))
      (pss_cons (ps_if (pt_cmpR op_eq (pe_callH H__law_draw (hr.mono (by omega)) rfl (glo__law_draw D) passL (pa_cons (pv 0) (pa_cons pe_int pa_nil))) pe_int (nomark _))
      (pss_one (ps_ret (pe_tup (pa_cons (pe_op op_cat (pe_op op_cat (pv 1) (pe_op op_rep (pe_lst (pa_cons pe_str (pa_cons pe_str pa_nil))) (pv 3))) (pe_lst (pa_cons pe_str pa_nil))) (pa_cons (pe_ix (ix_tupK K) (pe_tup (pa_cons pe_non (pa_cons (pe_op op_add (pe_callB (call_lenK K) rfl (free_len D) PySem.boot_len (pa_cons (pv 1) pa_nil)) pe_int) pa_nil))) (pe_callTy call_int1 rfl (free_int D) (by decide +kernel) (pa_cons (pe_cmpR op_gt (pv 3) pe_int (nomark _)) pa_nil)) (fun _ _ => rfl)) pa_nil)))))
      pss_nil)
      (pss_one (ps_ret (pe_tup (pa_cons (pe_op op_cat (pe_op op_cat (pv 1) (pe_op op_rep (pe_lst (pa_cons pe_str pa_nil)) (pv 3))) (pe_op op_rep (pe_lst (pa_cons pe_str pa_nil)) (pe_op op_add (pv 3) pe_int))) (pa_cons (pe_ix (ix_tupK K) (pe_tup (pa_cons pe_non (pa_cons (pe_op op_add (pe_callB (call_lenK K) rfl (free_len D) PySem.boot_len (pa_cons (pv 1) pa_nil)) pe_int) pa_nil))) (pe_callTy call_int1 rfl (free_int D) (by decide +kernel) (pa_cons (pe_cmpR op_gt (pv 3) pe_int (nomark _)) pa_nil)) (fun _ _ => rfl)) pa_nil))))))))
      pss_nil)
      (pss_cons (ps_set (i := 9) sc__law_many.nd rfl (Or.inl rfl) (pe_slice sl_str pe_str po_none (po_some (pe_op op_add pe_int (pe_callH H__law_draw (hr.mono (by omega)) rfl (glo__law_draw D) passL (pa_cons (pv 0) (pa_cons pe_int pa_nil)))))))
      (pss_cons (ps_asg (pv 9) (pg_sub (pv 1) pe_int set_list))
      (pss_one (ps_ret (pe_tup (pa_cons (pe_op op_cat (pv 1) (pe_lst (pa_cons pe_str pa_nil))) (pa_cons (pe_ix (ix_tupK K) (pe_tup (pa_cons pe_non (pa_cons pe_int pa_nil))) (pe_callTy call_int1 rfl (free_int D) (by decide +kernel) (pa_cons (pe_cmpR op_gt (pe_callB (call_lenK K) rfl (free_len D) PySem.boot_len (pa_cons (pv 9) pa_nil)) pe_int (nomark _)) pa_nil)) (fun _ _ => rfl)) pa_nil))))))))))))), ?_⟩
    obtain ⟨m0, m3, m4a, m4b, m5⟩ := many_small
    refine ⟨(by show 8 ≤ sizeLine; decide), fun l hl => ?_⟩
    have w0' : Wsl I H p I (upd H l (.lst (base8.map V.str))) l base8 := Wsl.new (Gr.refl s0) po hl rfl
    refine ⟨_, rfl, I, p, 6, rfl, w0'.g.ih, w0'.po, by decide, by decide, fun v H1 a0 a6 g1 po1 => ?_⟩
    obtain ⟨way, rfl⟩ := Int.eq_ofNat_of_zero_le a0
    have w1 := w0'.step g1 po1
    (try dsimp only)
    have fin : ∀ {I' H' : Hp} {l : Addr} {ws : List Str} {due : Option Nat}, Wsl I H p I' H' l ws → goodB ws due = true → tidyB ws = true → ∀ t, H' t = none → Q (.ref t) (upd H' t (.tup [.ref l, oInt due])) := fun {I' H' l ws due} w h1 h2 t ht => by
      obtain ⟨I2, g, po, ip⟩ := w.pair s0 ht due
      exact k _ _ t ws due g po ip h1 h2
    refine ⟨_, rfl, rfl, _, rfl, ifB (fun c0 => ?_) (fun c0 => ?_)⟩
    · -- variables
      refine ⟨_, rfl, I, p, 4, rfl, w1.g.ih, w1.po, by decide, by decide, fun v H2 b0 b4 g2 po2 => ?_⟩
      obtain ⟨j, rfl⟩ := Int.eq_ofNat_of_zero_le b0
      have w2 := w1.step g2 po2
      refine ⟨_, _, rfl, rfl, ?_⟩
      have hc : (3 : Int) + (j : Int) = ((3 + j : Nat) : Int) := by omega
      (try dsimp only)
      rw [hc]
      refine ⟨_, rfl, _, rfl, l, _, rfl, SqL.of w2.hl, fun l2 hl2 => ?_⟩
      have w3 : Wsl I H p I (upd H2 l2 (.lst (cutV (base8.map V.str) none (some 4)))) l2 (base8.take 4) := Wsl.new w2.g po2 hl2 rfl
      (try dsimp only)
      refine seq_cut (fun σ' H' => ∃ I' l' kv, σ' = [some (V.ref p), some (V.ref l'), some (V.int (way : Int)), some (V.int ((3 + j : Nat) : Int)), kv, none, none, none, none, none] ∧ Wsl I H p I' H' l' (base8.take 4 ++ (List.range (3 + j)).flatMap (fun k => [wd "var", letter k, wd "9"]))) (fun nx q => ?_) ?_
      · refine ⟨_, rfl, _, rfl, by omega, by omega, ?_⟩
        refine for_rangeP (n := 3 + j) (fun σ' H' => ∃ I' l' kv, σ' = [some (V.ref p), some (V.ref l'), some (V.int (way : Int)), some (V.int ((3 + j : Nat) : Int)), kv, none, none, none, none, none] ∧ Wsl I H p I' H' l' (base8.take 4 ++ (List.range (3 + j)).flatMap (fun k => [wd "var", letter k, wd "9"])))
          (fun i σ' H' => ∃ I' l' kv, σ' = [some (V.ref p), some (V.ref l'), some (V.int (way : Int)), some (V.int ((3 + j : Nat) : Int)), kv, none, none, none, none, none] ∧ Wsl I H p I' H' l' (base8.take 4 ++ (List.range i).flatMap (fun k => [wd "var", letter k, wd "9"])))
          ⟨_, l2, none, rfl, by simpa using w3⟩ (fun nx q i σ' H' hi h => ?_) (fun σ' H' h => h) q
        obtain ⟨I4, l4, kv, rfl, w4⟩ := h
        have hch := letter_at (i := i) (by omega)
        obtain ⟨ch, e1, e2⟩ := hch
        refine ⟨_, rfl, _, rfl, "abcdefg", _, ch, rfl, rfl, (by decide +kernel), e1, ?_⟩
        rw [e2]
        refine ⟨(by show 3 ≤ sizeLine; decide), fun d hd => ?_⟩
        have w5 := w4.step0 (Gr.new (o := .lst [.str "var", .str (letter i), .str "9"]) w4.g.ih hd)
        refine ⟨l4, d, _, _, rfl, rfl, w5.hl, upd_same, ?_, fun l5 hl5 => ?_⟩
        · rw [List.length_map, w0_len]; exact le_line (by show 4 + 3 * i + 3 ≤ _; omega)
        · refine ⟨_, l5, _, rfl, Wsl.new w5.g w5.po hl5 ?_⟩
          rw [List.range_succ, List.flatMap_append]; simp; exact ⟨rfl, rfl⟩
      rintro σ' H' ⟨I4, l4, kv, rfl, w4⟩
      (try dsimp only)
      refine ⟨_, rfl, (by show 2 ≤ sizeLine; decide), fun d hd => ?_⟩
      have w5 := w4.step0 (Gr.new (o := .lst [.str "start", .str "press"]) w4.g.ih hd)
      refine ⟨l4, d, _, _, rfl, rfl, w5.hl, upd_same, ?_, fun l5 hl5 => ?_⟩
      · rw [List.length_map, w0_len]; exact le_line (by show 4 + 3 * (3 + j) + 2 ≤ _; omega)
      have w6 : Wsl I H p _ _ l5 (w0 (3 + j)) := Wsl.new w5.g w5.po hl5 (by unfold w0; simp; rfl)
      refine ⟨_, _, rfl, rfl, (by show 2 ≤ sizeLine; decide), fun t ht => ?_⟩
      refine ⟨_, rfl, _, _, rfl, rfl, .inr ⟨_, rfl, ?_⟩⟩
      refine pick_of (K := K) (m := 16) w6.g.ih rfl (fun t g => ?_) t ht
      have eb : decide (((3 + j : Nat) : Int) > 4) = decide (4 < 3 + j) := by rw [decide_eq_decide]; omega
      rw [eb]
      refine ⟨(by show 2 ≤ sizeLine; decide), fun t3 ht3 => ?_⟩
      have h := m0 (3 + j) (by omega) (by omega)
      exact fin (w6.step0 g) h.1 h.2 t3 ht3
    (try unfold tNext)
    (try dsimp only)
    have c0' : way ≠ 0 := by rintro rfl; revert c0; decide
    refine ⟨_, rfl, _, _, rfl, rfl, _, rfl, ifD (fun c1 => ?_) (fun c1 => ?_)⟩
    · -- draws and uses
      obtain ⟨d, hd⟩ : ∃ d : Bool, (way : Int) = if d = true then 1 else 2 := by
        have : way = 1 ∨ way = 2 := by omega
        rcases this with rfl | rfl
        · exact ⟨true, rfl⟩
        · exact ⟨false, rfl⟩
      refine ⟨(by show 2 ≤ sizeLine; decide), fun t ht => ?_⟩
      have gt := Gr.new (ms := []) (o := .tup [.int 3, .int 24]) w1.g.ih ht
      have w2 := w1.step0 gt
      refine ⟨_, rfl, _, _, rfl, rfl, t, _, _, .int (mostW d : Int), rfl, rfl, SqT.of upd_same, at_of (j := if d = true then 0 else 1) (by rw [hd]; cases d <;> rfl) (by cases d <;> rfl), ?_⟩
      have hmm : 3 ≤ mostW d ∧ mostW d ≤ 24 := by cases d <;> exact ⟨by decide, by decide⟩
      (try dsimp only)
      refine seq_cut (fun σ' H' => ∃ I' c, σ' = [some (V.ref p), some (V.ref l), some (V.int (way : Int)), some (V.int ((c : Nat) : Int)), none, some (V.int (mostW d : Int)), none, none, none, none] ∧ Wsl I H p I' H' l base8 ∧ 2 ≤ c ∧ c ≤ mostW d + 2) (fun nx q => ?_) ?_
      · refine ⟨_, rfl, _, _, rfl, rfl, _, rfl, _, p, 4, rfl, w2.g.ih, w2.po, by decide, by decide, fun v H3 b0 b4 g3 po3 => ?_⟩
        obtain ⟨j, rfl⟩ := Int.eq_ofNat_of_zero_le b0
        refine ⟨_, _, rfl, rfl, q _ _ ⟨_, mostW d - 1 + j, ?_, w2.step g3 po3, by omega, by omega⟩⟩
        have : (mostW d : Int) - 1 + (j : Int) = ((mostW d - 1 + j : Nat) : Int) := by omega
        show [_, _, _, some (V.int ((mostW d : Int) - 1 + (j : Int))), _, _, _, _, _, _] = _
        rw [this]
      rintro σ' H' ⟨I3, c, rfl, w3, hc1, hc2⟩
      (try dsimp only)
      refine seq_cut (fun σ' H' => ∃ I' ins, σ' = [some (V.ref p), some (V.ref l), some (V.int (way : Int)), some (V.int ((c : Nat) : Int)), none, some (V.int (mostW d : Int)), some (V.int ((ins : Nat) : Int)), none, none, none] ∧ Wsl I H p I' H' l base8 ∧ ins ≤ c) (fun nx q => ?_) ?_
      · refine ⟨_, rfl, _, rfl, _, _, rfl, rfl, _, p, _, rfl, w3.g.ih, w3.po, by omega, by omega, fun v H3 b0 b4 g3 po3 => ?_⟩
        obtain ⟨j, rfl⟩ := Int.eq_ofNat_of_zero_le b0
        exact q _ _ ⟨_, j, rfl, w3.step g3 po3, by omega⟩
      rintro σ' H' ⟨I4, ins, rfl, w4, hins⟩
      (try dsimp only)
      refine seq_cut (fun σ' H2 => σ' = [some (V.ref p), some (V.ref l), some (V.int (way : Int)), some (V.int ((c : Nat) : Int)), none, some (V.int (mostW d : Int)), some (V.int ((ins : Nat) : Int)), some .non, none, none] ∧ H2 = H') (fun nx q => q _ _ ⟨rfl, rfl⟩) ?_
      rintro σ' H2 ⟨rfl, rfl⟩
      (try dsimp only)
      refine seq_cut (fun σ' H' => ∃ I' l' kv iv bits, σ' = [some (V.ref p), some (V.ref l'), some (V.int (way : Int)), some (V.int ((c : Nat) : Int)), kv, some (V.int (mostW d : Int)), some (V.int ((ins : Nat) : Int)), some (oInt (mDue d bits ins)), iv, none] ∧ Wsl I H p I' H' l' (pW d bits ins) ∧ bits.length = c) (fun nx q => ?_) ?_
      · refine ⟨_, rfl, _, rfl, by omega, by omega, ?_⟩
        refine for_rangeP (n := c) (fun σ' H' => ∃ I' l' kv iv bits, σ' = [some (V.ref p), some (V.ref l'), some (V.int (way : Int)), some (V.int ((c : Nat) : Int)), kv, some (V.int (mostW d : Int)), some (V.int ((ins : Nat) : Int)), some (oInt (mDue d bits ins)), iv, none] ∧ Wsl I H p I' H' l' (pW d bits ins) ∧ bits.length = c)
          (fun i σ' H' => ∃ I' l' kv iv bits, σ' = [some (V.ref p), some (V.ref l'), some (V.int (way : Int)), some (V.int ((c : Nat) : Int)), kv, some (V.int (mostW d : Int)), some (V.int ((ins : Nat) : Int)), some (oInt (mDue d bits ins)), iv, none] ∧ Wsl I H p I' H' l' (pW d bits ins) ∧ bits.length = i)
          ⟨_, l, none, none, [], rfl, by rw [pW_zero]; exact w4, rfl⟩ (fun nx q i σ' H' hi h => ?_) (fun σ' H' h => h) q
        obtain ⟨I5, l5, kv, iv, bits, rfl, w5, hbl⟩ := h
        have hk0 : (0 : Int) + (i : Int) = (i : Int) := Int.zero_add _
        refine seq_cut (fun σ' H' => ∃ I', σ' = [some (V.ref p), some (V.ref l5), some (V.int (way : Int)), some (V.int ((c : Nat) : Int)), some (V.int (i : Int)), some (V.int (mostW d : Int)), some (V.int ((ins : Nat) : Int)), some (oInt (mDue d bits ins)), iv, none] ∧ Wsl I H p I' H' l5 (qW d bits ins)) (fun nx q => ?_) ?_
        · refine ⟨_, rfl, _, rfl, rfl, _, rfl, ?_⟩
          rw [qW_of] at q
          refine ifB (fun e => ?_) (fun e => ?_)
          · have e : bits.length = ins := by
              have := of_decide_eq_true e
              injection this with this
              omega
            rw [if_pos e] at q
            refine ⟨_, rfl, .inl ⟨rfl, _, SqL.of w5.hl⟩, l5, _, _, rfl, rfl, w5.hl, ?_, ?_⟩
            · have := pW_len d bits ins
              rw [List.length_map]; exact lt_sl (by omega)
            · refine q _ _ ⟨_, ?_, w5.push (wd "press")⟩
              show [_, _, _, _, some (V.int ((0 : Int) + (i : Int))), _, _, _, _, _] = _
              rw [hk0]
          · have e : ¬ bits.length = ins := fun z => by
              have := of_decide_eq_false e
              exact this (by congr 1; omega)
            rw [if_neg e] at q
            refine q _ _ ⟨_, ?_, w5⟩
            show [_, _, _, _, some (V.int ((0 : Int) + (i : Int))), _, _, _, _, _] = _
            rw [hk0]
        rintro σ' H6 ⟨I6, rfl, w6⟩
        (try dsimp only)
        refine ⟨_, rfl, I6, p, 3, rfl, w6.g.ih, w6.po, by decide, by decide, fun v H7 b0 b3 g7 po7 => ?_⟩
        have w7 := w6.step g7 po7
        obtain ⟨b, hb⟩ : ∃ b : Bool, decide (v = 0) = b := ⟨_, rfl⟩
        have hv : decide (V.int v = V.int 0) = b := by rw [← hb, decide_eq_decide]; constructor <;> (intro z; first | (injection z) | rw [z])
        have lq := qW_len d bits ins
        have lb := bw_len d bits
        have hin : (if ins ≤ bits.length then 1 else 0) ≤ 1 := by split <;> omega
        (try dsimp only)
        refine seq_cut (fun σ' H' => ∃ I' l', σ' = [some (V.ref p), some (V.ref l'), some (V.int (way : Int)), some (V.int ((c : Nat) : Int)), some (V.int (i : Int)), some (V.int (mostW d : Int)), some (V.int ((ins : Nat) : Int)), some (oInt (mDue d bits ins)), some (V.int v), none] ∧ Wsl I H p I' H' l' (qW d bits ins ++ (if b = true then [wd "if", wd "x"] else []))) (fun nx q => ?_) ?_
        · refine ⟨_, rfl, rfl, _, rfl, ?_⟩
          rw [hv]
          cases b with
          | true =>
            refine ifT rfl ⟨_, rfl, (by show 2 ≤ sizeLine; decide), fun e he => ?_⟩
            have w8 := w7.step0 (Gr.new (o := .lst [.str "if", .str "x"]) w7.g.ih he)
            refine ⟨l5, e, _, _, rfl, rfl, w8.hl, upd_same, ?_, fun l8 hl8 => ?_⟩
            · rw [List.length_map]; exact le_line (by show (qW d bits ins).length + 2 ≤ _; omega)
            · exact q _ _ ⟨_, l8, rfl, Wsl.new w8.g w8.po hl8 (by rw [if_pos rfl, List.map_append]; rfl)⟩
          | false => exact ifF rfl (q _ _ ⟨_, l5, rfl, by simpa using w7⟩)
        rintro σ' H8 ⟨I8, l8, rfl, w8⟩
        (try dsimp only)
        have len8 : (qW d bits ins ++ (if b = true then [wd "if", wd "x"] else [])).length = (qW d bits ins).length + (if b = true then 2 else 0) := by cases b <;> simp
        refine seq_cut (fun σ' H' => σ' = [some (V.ref p), some (V.ref l8), some (V.int (way : Int)), some (V.int ((c : Nat) : Int)), some (V.int (i : Int)), some (V.int (mostW d : Int)), some (V.int ((ins : Nat) : Int)), some (oInt (mDue d (bits ++ [b]) ins)), some (V.int v), none] ∧ H' = H8) (fun nx q => ?_) ?_
        · rw [mDue_next] at q
          refine ⟨_, rfl, _, rfl, rfl, _, rfl, ifB (fun e => ?_) (fun e => ?_)⟩
          · have e : bits.length = mostW d := by
              have := of_decide_eq_true e
              injection this with this
              omega
            rw [if_pos e] at q
            refine ⟨_, rfl, _, _, rfl, .inl ⟨_, SqL.of w8.hl, rfl⟩, ?_⟩
            refine q _ _ ⟨?_, rfl⟩
            rw [List.length_map, len8]; rfl
          · have e : ¬ bits.length = mostW d := fun z => by
              have := of_decide_eq_false e
              exact this (by congr 1; omega)
            rw [if_neg e] at q
            exact q _ _ ⟨rfl, rfl⟩
        rintro σ' H9 ⟨rfl, rfl⟩
        (try dsimp only)
        refine seq_cut (fun σ' H' => ∃ I' l', σ' = [some (V.ref p), some (V.ref l'), some (V.int (way : Int)), some (V.int ((c : Nat) : Int)), some (V.int (i : Int)), some (V.int (mostW d : Int)), some (V.int ((ins : Nat) : Int)), some (oInt (mDue d (bits ++ [b]) ins)), some (V.int v), none] ∧ Wsl I H p I' H' l' (qW d bits ins ++ (if b = true then [wd "if", wd "x"] else []) ++ (stW d).words)) (fun nx q => ?_) ?_
        · refine ⟨_, rfl, (by show 3 ≤ sizeLine; decide), fun d1 hd1 => ?_⟩
          have w10 := w8.step0 (Gr.new (o := .lst [.str "draw", .str "x", .str "2"]) w8.g.ih hd1)
          refine ⟨(by show 3 ≤ sizeLine; decide), fun d2 hd2 => ?_⟩
          have g11 := Gr.new (ms := []) (o := .lst [.str "use", .str "x", .str "1"]) w10.g.ih hd2
          have w11 := w10.step0 g11
          refine ⟨(by show 2 ≤ sizeLine; decide), fun d3 hd3 => ?_⟩
          have g12 := Gr.new (ms := []) (o := .tup [.ref d1, .ref d2]) w11.g.ih hd3
          have w12 := w11.step0 g12
          refine ⟨_, rfl, _, _, rfl, rfl, d3, _, _, .ref (if d = true then d1 else d2), rfl, rfl, SqT.of upd_same, at_of (j := if d = true then 0 else 1) (by rw [hd]; cases d <;> rfl) (by cases d <;> rfl), ?_⟩
          have hsel : (upd (upd (upd H9 d1 (.lst [.str "draw", .str "x", .str "2"])) d2 (.lst [.str "use", .str "x", .str "1"])) d3 (.tup [.ref d1, .ref d2])) (if d = true then d1 else d2) = some (.lst ((stW d).words.map V.str)) := by
            rw [stW_words]
            obtain ⟨x2, x1⟩ := dec12
            cases d with
            | true =>
              have h1 := g12.hh _ _ (by simp) (g11.hh d1 _ (by simp) (upd_same (H := H9) (a := d1)))
              rw [if_pos rfl, if_pos rfl, h1, x2]; rfl
            | false =>
              have h1 := g12.hh _ _ (by simp) (upd_same (H := upd H9 d1 (.lst [.str "draw", .str "x", .str "2"])) (a := d2) (o := .lst [.str "use", .str "x", .str "1"]))
              rw [if_neg Bool.false_ne_true, if_neg Bool.false_ne_true, h1, x1]; rfl
          refine ⟨l8, _, _, _, rfl, rfl, w12.hl, hsel, ?_, fun l9 hl9 => ?_⟩
          · have : (stW d).words.length = 3 := by rw [stW_words]; cases d <;> rfl
            rw [List.length_map, List.length_map, len8, this]
            have : (if b = true then 2 else 0) ≤ 2 := by split <;> omega
            exact le_line (by omega)
          · exact q _ _ ⟨_, l9, rfl, Wsl.new w12.g w12.po hl9 (by simp only [List.map_append])⟩
        rintro σ' H13 ⟨I13, l13, rfl, w13⟩
        (try dsimp only)
        have enx : pW d (bits ++ [b]) ins = qW d bits ins ++ (if b = true then [wd "if", wd "x"] else []) ++ (stW d).words ++ (if b = true then [wd "end"] else []) := by rw [pW_next, toStm_words]; simp
        refine ⟨_, rfl, rfl, _, rfl, ?_⟩
        rw [hv]
        cases b with
        | true =>
          refine ifT rfl ⟨_, rfl, .inl ⟨rfl, _, SqL.of w13.hl⟩, l13, _, _, rfl, rfl, w13.hl, ?_, ?_⟩
          · have : (stW d).words.length = 3 := by rw [stW_words]; cases d <;> rfl
            rw [List.length_map, List.length_append, len8, this, if_pos rfl]
            exact lt_sl (by omega)
          · exact ⟨_, l13, _, _, bits ++ [true], rfl, by rw [enx]; exact w13.push (wd "end"), by simp; omega⟩
        | false =>
          exact ifF rfl ⟨_, l13, _, _, bits ++ [false], rfl, by rw [enx]; simpa using w13, by simp; omega⟩
      rintro σ' H5 ⟨I5, l5, kv, iv, bits, rfl, w5, hbl⟩
      (try dsimp only)
      have hend := mW_end d bits ins (by omega)
      have hgood := many_good (d := d) (bits := bits) (ins := ins) (by omega) (by omega)
      have htidy := mW_tidy (d := d) (bits := bits) (ins := ins) (by omega)
      refine seq_cut (fun σ' H' => ∃ I', σ' = [some (V.ref p), some (V.ref l5), some (V.int (way : Int)), some (V.int ((c : Nat) : Int)), kv, some (V.int (mostW d : Int)), some (V.int ((ins : Nat) : Int)), some (oInt (mDue d bits ins)), iv, none] ∧ Wsl I H p I' H' l5 (mW d bits ins)) (fun nx q => ?_) ?_
      · rw [hend] at q
        refine ⟨_, rfl, _, rfl, rfl, _, rfl, ifB (fun e => ?_) (fun e => ?_)⟩
        · have e : ins = bits.length := by
            have := of_decide_eq_true e
            injection this with this
            omega
          rw [if_pos e] at q
          refine ⟨_, rfl, .inl ⟨rfl, _, SqL.of w5.hl⟩, l5, _, _, rfl, rfl, w5.hl, ?_, ?_⟩
          · have := pW_len d bits ins
            rw [List.length_map]; exact lt_sl (by omega)
          · exact q _ _ ⟨_, rfl, w5.push (wd "press")⟩
        · have e : ¬ ins = bits.length := fun z => by
            have := of_decide_eq_false e
            exact this (by congr 1; omega)
          rw [if_neg e] at q
          exact q _ _ ⟨_, rfl, w5⟩
      rintro σ' H6 ⟨I6, rfl, w6⟩
      (try dsimp only)
      refine ⟨_, rfl, _, rfl, (by show 2 ≤ sizeLine; decide), fun t3 ht3 => ?_⟩
      exact fin w6 hgood htidy t3 ht3
    (try unfold tNext)
    (try dsimp only)
    have three : ∀ {c : Nat} {I' H' : Hp} {l : Addr} {ws : List Str}, True := fun {c I' H' l ws} => trivial
    refine ⟨_, rfl, rfl, _, rfl, ifB (fun c3 => ?_) (fun c3 => ?_)⟩
    · -- choices in choices
      refine seq_cut (fun σ' H' => ∃ I' c, σ' = [some (V.ref p), some (V.ref l), some (V.int (way : Int)), some (V.int ((c : Nat) : Int)), none, none, none, none, none, none] ∧ Wsl I H p I' H' l base8 ∧ 3 ≤ c ∧ c < 7) (fun nx q => ?_) ?_
      · refine ⟨_, rfl, _, p, 4, rfl, w1.g.ih, w1.po, by decide, by decide, fun v H2 b0 b4 g2 po2 => ?_⟩
        obtain ⟨j, rfl⟩ := Int.eq_ofNat_of_zero_le b0
        refine ⟨_, _, rfl, rfl, q _ _ ⟨_, 3 + j, ?_, w1.step g2 po2, by omega, by omega⟩⟩
        have hc : (3 : Int) + (j : Int) = ((3 + j : Nat) : Int) := by omega
        show [_, _, _, some (V.int ((3 : Int) + (j : Int))), _, _, _, _, _, _] = _
        rw [hc]
      rintro σ' H2 ⟨I2, c, rfl, w2, hc1, hc2⟩
      (try dsimp only)
      refine seq_cut (fun σ' H' => ∃ I' e i, σ' = [some (V.ref p), some (V.ref l), some (V.int (way : Int)), some (V.int ((c : Nat) : Int)), none, none, none, none, some (V.ref e), none] ∧ Wsl I H p I' H' l base8 ∧ I' e = some (.lst ((w3i i).map V.str)) ∧ i < 2) (fun nx q => ?_) ?_
      · refine ⟨(by show 2 ≤ sizeLine; decide), fun d1 hd1 => ?_⟩
        have w10 := w2.step0 (Gr.new (o := .lst [.str "if", .str "x"]) w2.g.ih hd1)
        refine ⟨(by show 6 ≤ sizeLine; decide), fun d2 hd2 => ?_⟩
        have g11 := Gr.new (ms := []) (o := .lst [.str "if", .str "x", .str "set", .str "x", .str "1", .str "else"]) w10.g.ih hd2
        have w11 := w10.step0 g11
        refine ⟨(by show 2 ≤ sizeLine; decide), fun d3 hd3 => ?_⟩
        have g12 := Gr.new (ms := []) (o := .tup [.ref d1, .ref d2]) w11.g.ih hd3
        have w12 := w11.step0 g12
        refine ⟨_, rfl, _, p, 2, rfl, w12.g.ih, w12.po, by decide, by decide, fun v H5 b0 b4 g5 po5 => ?_⟩
        obtain ⟨i, rfl⟩ := Int.eq_ofNat_of_zero_le b0
        have w13 := w12.step g5 po5
        refine ⟨d3, _, _, .ref (if i = 0 then d1 else d2), rfl, rfl, SqT.of (w13.g.ih _ _ (g5.ii _ _ upd_same)), at_of (j := i) rfl ?_, ?_⟩
        · have : i = 0 ∨ i = 1 := by omega
          rcases this with rfl | rfl <;> rfl
        · refine q _ _ ⟨_, _, i, rfl, w13, ?_, by omega⟩
          have : i = 0 ∨ i = 1 := by omega
          rcases this with rfl | rfl
          · exact g5.ii _ _ (g12.ii _ _ (g11.ii _ _ upd_same))
          · exact g5.ii _ _ (g12.ii _ _ upd_same)
      rintro σ' H3 ⟨I3, e, i, rfl, w3', he, hi⟩
      (try dsimp only)
      have hgd := m3 c hc1 hc2 i hi
      have hli : (w3i i).length = if i = 0 then 2 else 6 := by
        have : i = 0 ∨ i = 1 := by omega
        rcases this with rfl | rfl <;> rfl
      have hlb : base8.length = 8 := rfl
      refine seq_cut (fun σ' H' => ∃ I', σ' = [some (V.ref p), some (V.ref l), some (V.int (way : Int)), some (V.int ((c : Nat) : Int)), none, none, none, some (oInt (over (decide (4 < c)) (8 + 4 * (w3i i).length))), some (V.ref e), none] ∧ Wsl I H p I' H' l base8 ∧ I' e = some (.lst ((w3i i).map V.str))) (fun nx q => ?_) ?_
      · refine ⟨_, rfl, _, _, rfl, .inl ⟨_, SqL.of w3'.hl, rfl⟩, _, rfl, _, _, rfl, .inl ⟨_, SqL.of (w3'.g.ih _ _ he), rfl⟩, _, _, rfl, rfl, wide_mul (a := 64) (b := 64) (by decide) (by rw [Int.natAbs_natCast, List.length_map, hli]; split <;> decide) (by decide) (by decide) (by decide), _, _, rfl, rfl, (by show 2 ≤ sizeLine; decide), fun t ht => ?_⟩
        refine ⟨_, rfl, _, _, rfl, rfl, .inr ⟨_, rfl, ?_⟩⟩
        refine pick_of (K := K) (m := 8 + 4 * (w3i i).length) w3'.g.ih (by rw [List.length_map, List.length_map, hlb]; omega) (fun t g => ?_) t ht
        have eb : decide (((c : Nat) : Int) > 4) = decide (4 < c) := by rw [decide_eq_decide]; omega
        rw [eb]
        exact q _ _ ⟨_, rfl, w3'.step0 g, g.ii _ _ he⟩
      rintro σ' H4 ⟨I4, rfl, w4, he4⟩
      (try dsimp only)
      have hc64 : -(2 ^ 63) ≤ (c : Int) ∧ (c : Int) < 2 ^ 63 := by omega
      have hl6 : ((w3i i).map V.str).length ≤ 6 := by rw [List.length_map, hli]; split <;> omega
      have lrep : ((List.replicate ((c : Int)).toNat ((w3i i).map V.str)).flatten).length ≤ 42 := by
        rw [List.length_flatten, List.map_replicate, List.sum_replicate_nat, Int.toNat_natCast]
        exact Nat.le_trans (Nat.mul_le_mul (show c ≤ 6 by omega) hl6) (by decide)
      have lend : ((List.replicate ((c : Int)).toNat [V.str "end"]).flatten).length ≤ 6 := by
        rw [List.length_flatten, List.map_replicate, List.sum_replicate_nat, Int.toNat_natCast]
        show c * 1 ≤ 6; omega
      refine ⟨_, rfl, _, rfl, _, rfl, e, _, _, rfl, rfl, w4.g.ih _ _ he4, hc64.1, hc64.2, ?_, fun r1 hr1 => ?_⟩
      · rw [Int.toNat_natCast]; exact Nat.le_trans (Nat.mul_le_mul hl6 (show c ≤ 6 by omega)) (by decide)
      have w5 := w4.step0 (Gr.new (o := .lst (List.replicate ((c : Int)).toNat ((w3i i).map V.str)).flatten) w4.g.ih hr1)
      refine ⟨l, r1, _, _, rfl, rfl, w5.hl, upd_same, ?_, fun a1 ha1 => ?_⟩
      · rw [List.length_map, hlb]; exact le_line (by omega)
      have g6 := Gr.new (ms := []) (o := .lst (base8.map V.str ++ (List.replicate ((c : Int)).toNat ((w3i i).map V.str)).flatten)) w5.g.ih ha1
      have w6 := w5.step0 g6
      have la1 : (base8.map V.str ++ (List.replicate ((c : Int)).toNat ((w3i i).map V.str)).flatten).length ≤ 50 := by rw [List.length_append, List.length_map, hlb]; omega
      refine ⟨(by show 3 ≤ sizeLine; decide), fun b1 hb1 => ?_⟩
      have g7 := Gr.new (ms := []) (o := .lst [.str "set", .str "x", .str "2"]) w6.g.ih hb1
      have w7 := w6.step0 g7
      refine ⟨a1, b1, _, _, rfl, rfl, g7.hh _ _ (by simp) upd_same, upd_same, (by simp only [List.length_cons, List.length_nil]; exact le_line (by omega)), fun a2 ha2 => ?_⟩
      have g8 := Gr.new (ms := []) (o := .lst (base8.map V.str ++ (List.replicate ((c : Int)).toNat ((w3i i).map V.str)).flatten ++ [.str "set", .str "x", .str "2"])) w7.g.ih ha2
      have w8 := w7.step0 g8
      refine ⟨(by show 1 ≤ sizeLine; decide), fun b2 hb2 => ?_⟩
      have g9 := Gr.new (ms := []) (o := .lst [.str "end"]) w8.g.ih hb2
      have w9 := w8.step0 g9
      refine ⟨_, rfl, b2, _, _, rfl, rfl, upd_same, hc64.1, hc64.2, ?_, fun r2 hr2 => ?_⟩
      · rw [Int.toNat_natCast]; exact Nat.le_trans (Nat.mul_le_mul (show 1 ≤ 1 by omega) (show c ≤ 6 by omega)) (by decide)
      have g10 := Gr.new (ms := []) (o := .lst (List.replicate ((c : Int)).toNat [V.str "end"]).flatten) w9.g.ih hr2
      have w10 := w9.step0 g10
      refine ⟨a2, r2, _, _, rfl, rfl, g10.hh _ _ (by simp) (g9.hh _ _ (by simp) upd_same), upd_same, (by rw [List.length_append]; simp only [List.length_cons, List.length_nil]; exact le_line (by omega)), fun a3 ha3 => ?_⟩
      have g11 := Gr.new (ms := []) (o := .lst (base8.map V.str ++ (List.replicate ((c : Int)).toNat ((w3i i).map V.str)).flatten ++ [.str "set", .str "x", .str "2"] ++ (List.replicate ((c : Int)).toNat [V.str "end"]).flatten)) w10.g.ih ha3
      have w11 := w10.step0 g11
      refine ⟨(by show 1 ≤ sizeLine; decide), fun b3 hb3 => ?_⟩
      have g12 := Gr.new (ms := []) (o := .lst [.str "press"]) w11.g.ih hb3
      have w12 := w11.step0 g12
      refine ⟨a3, b3, _, _, rfl, rfl, g12.hh _ _ (by simp) upd_same, upd_same, (by rw [List.length_append, List.length_append]; simp only [List.length_cons, List.length_nil]; exact le_line (by omega)), fun a4 ha4 => ?_⟩
      have efl : ∀ (n : Nat) (xs : List Str), (List.replicate n xs).flatten.map V.str = (List.replicate n (xs.map V.str)).flatten := fun n xs => by
        rw [List.map_flatten, List.map_replicate]
      have efe : ∀ (n : Nat) (x : Str), (List.replicate n x).map V.str = (List.replicate n [V.str x]).flatten := fun n x => by
        induction n with
        | zero => rfl
        | succ n ih => rw [List.replicate_succ, List.replicate_succ, List.map_cons, List.flatten_cons, ih]; rfl
      have w13 : Wsl I H p _ _ a4 (w3 c i) := Wsl.new w12.g w12.po ha4 (by
        unfold w3
        rw [List.map_append, List.map_append, List.map_append, List.map_append, efl, efe] <;> rfl)
      refine ⟨_, rfl, (by show 2 ≤ sizeLine; decide), fun t3 ht3 => ?_⟩
      exact fin w13 hgd.1 hgd.2 t3 ht3
    (try unfold tNext)
    (try dsimp only)
    refine ⟨_, rfl, rfl, _, rfl, ifB (fun c4 => ?_) (fun c4 => ?_)⟩
    · -- operators in operators
      refine seq_cut (fun σ' H' => ∃ I' c, σ' = [some (V.ref p), some (V.ref l), some (V.int (way : Int)), some (V.int ((c : Nat) : Int)), none, none, none, none, none, none] ∧ Wsl I H p I' H' l base8 ∧ 3 ≤ c ∧ c < 7) (fun nx q => ?_) ?_
      · refine ⟨_, rfl, _, p, 4, rfl, w1.g.ih, w1.po, by decide, by decide, fun v H2 b0 b4 g2 po2 => ?_⟩
        obtain ⟨j, rfl⟩ := Int.eq_ofNat_of_zero_le b0
        refine ⟨_, _, rfl, rfl, q _ _ ⟨_, 3 + j, ?_, w1.step g2 po2, by omega, by omega⟩⟩
        have hc : (3 : Int) + (j : Int) = ((3 + j : Nat) : Int) := by omega
        show [_, _, _, some (V.int ((3 : Int) + (j : Int))), _, _, _, _, _, _] = _
        rw [hc]
      rintro σ' H2 ⟨I2, c, rfl, w2, hc1, hc2⟩
      (try dsimp only)
      have hlb : base8.length = 8 := rfl
      have hc64 : -(2 ^ 63) ≤ (c : Int) ∧ (c : Int) < 2 ^ 63 := by omega
      have hd64 : -(2 ^ 63) ≤ (c : Int) + 1 ∧ (c : Int) + 1 < 2 ^ 63 := by omega
      have hcn : ((c : Int) + 1).toNat = c + 1 := by omega
      have eb : decide (((c : Nat) : Int) > 4) = decide (4 < c) := by rw [decide_eq_decide]; omega
      have efl : ∀ (n : Nat) (xs : List Str), (List.replicate n xs).flatten.map V.str = (List.replicate n (xs.map V.str)).flatten := fun n xs => by
        rw [List.map_flatten, List.map_replicate]
      have efe : ∀ (n : Nat) (x : Str), (List.replicate n x).map V.str = (List.replicate n [V.str x]).flatten := fun n x => by
        induction n with
        | zero => rfl
        | succ n ih => rw [List.replicate_succ, List.replicate_succ, List.map_cons, List.flatten_cons, ih]; rfl
      have lfl : ∀ (n : Nat) (xs : List V), (List.replicate n xs).flatten.length = n * xs.length := fun n xs => by
        rw [List.length_flatten, List.map_replicate, List.sum_replicate_nat]
      refine seq_cut (fun σ' H' => ∃ I' l', σ' = [some (V.ref p), some (V.ref l'), some (V.int (way : Int)), some (V.int ((c : Nat) : Int)), none, none, none, none, none, none] ∧ Wsl I H p I' H' l' (base8 ++ [wd "press", wd "say"])) (fun nx q => ?_) ?_
      · refine ⟨_, rfl, (by show 2 ≤ sizeLine; decide), fun b1 hb1 => ?_⟩
        have w3' := w2.step0 (Gr.new (o := .lst [.str "press", .str "say"]) w2.g.ih hb1)
        refine ⟨l, b1, _, _, rfl, rfl, w3'.hl, upd_same, (by show 8 + 2 ≤ sizeLine; decide), fun a1 ha1 => ?_⟩
        exact q _ _ ⟨_, a1, rfl, Wsl.new w3'.g w3'.po ha1 (by rw [List.map_append]; rfl)⟩
      rintro σ' H3 ⟨I3, l3, rfl, w3'⟩
      (try dsimp only)
      have hl10 : ((base8 ++ [wd "press", wd "say"]).map V.str).length = 10 := rfl
      refine ⟨_, rfl, _, p, 2, rfl, w3'.g.ih, w3'.po, by decide, by decide, fun v H4 b0 b2 g4 po4 => ?_⟩
      have w4 := w3'.step g4 po4
      refine ⟨rfl, _, rfl, ifB (fun _ => ?_) (fun _ => ?_)⟩
      · refine ⟨_, rfl, (by show 2 ≤ sizeLine; decide), fun b1 hb1 => ?_⟩
        have w5 := w4.step0 (Gr.new (o := .lst [.str "mod", .str "7"]) w4.g.ih hb1)
        refine ⟨_, rfl, b1, _, _, rfl, rfl, upd_same, hc64.1, hc64.2, ?_, fun r1 hr1 => ?_⟩
        · rw [Int.toNat_natCast]; exact Nat.le_trans (Nat.mul_le_mul (show 2 ≤ 2 by omega) (show c ≤ 6 by omega)) (by decide)
        have w6 := w5.step0 (Gr.new (o := .lst (List.replicate ((c : Int)).toNat [V.str "mod", V.str "7"]).flatten) w5.g.ih hr1)
        refine ⟨l3, r1, _, _, rfl, rfl, w6.hl, upd_same, ?_, fun a1 ha1 => ?_⟩
        · rw [hl10, lfl, Int.toNat_natCast]; exact le_line (by show 10 + c * 2 ≤ _; omega)
        have w7 := w6.step0 (Gr.new (o := .lst ((base8 ++ [wd "press", wd "say"]).map V.str ++ (List.replicate ((c : Int)).toNat [V.str "mod", V.str "7"]).flatten)) w6.g.ih ha1)
        refine ⟨(by show 1 ≤ sizeLine; decide), fun b2 hb2 => ?_⟩
        have g8 := Gr.new (ms := []) (o := .lst [.str "1"]) w7.g.ih hb2
        have w8 := w7.step0 g8
        refine ⟨a1, b2, _, _, rfl, rfl, g8.hh _ _ (by simp) upd_same, upd_same, ?_, fun a2 ha2 => ?_⟩
        · rw [List.length_append, hl10, lfl, Int.toNat_natCast]; exact le_line (by show 10 + c * 2 + 1 ≤ _; omega)
        have w9 : Wsl I H p _ _ a2 (w4a c) := Wsl.new w8.g w8.po ha2 (by
          unfold w4a; rw [List.map_append, List.map_append, efl] <;> rfl)
        refine ⟨_, rfl, _, _, rfl, .inl ⟨_, SqL.of (w8.step0 (Gr.tmp w8.g.ih ha2)).hl, rfl⟩, _, _, rfl, rfl, (by show 2 ≤ sizeLine; decide), fun t ht => ?_⟩
        refine ⟨_, rfl, _, _, rfl, rfl, .inr ⟨_, rfl, ?_⟩⟩
        refine pick_of (K := K) (m := 18) w9.g.ih rfl (fun t g => ?_) t ht
        rw [eb]
        refine ⟨(by show 2 ≤ sizeLine; decide), fun t3 ht3 => ?_⟩
        have h := m4a c hc1 hc2
        exact fin (w9.step0 g) h.1 h.2 t3 ht3
      · (try unfold tNext)
        (try dsimp only)
        refine ⟨_, rfl, (by show 1 ≤ sizeLine; decide), fun b1 hb1 => ?_⟩
        have w5 := w4.step0 (Gr.new (o := .lst [.str "mod"]) w4.g.ih hb1)
        refine ⟨_, rfl, b1, _, _, rfl, rfl, upd_same, hc64.1, hc64.2, ?_, fun r1 hr1 => ?_⟩
        · rw [Int.toNat_natCast]; exact Nat.le_trans (Nat.mul_le_mul (show 1 ≤ 1 by omega) (show c ≤ 6 by omega)) (by decide)
        have w6 := w5.step0 (Gr.new (o := .lst (List.replicate ((c : Int)).toNat [V.str "mod"]).flatten) w5.g.ih hr1)
        refine ⟨l3, r1, _, _, rfl, rfl, w6.hl, upd_same, ?_, fun a1 ha1 => ?_⟩
        · rw [hl10, lfl, Int.toNat_natCast]; exact le_line (by show 10 + c * 1 ≤ _; omega)
        have w7 := w6.step0 (Gr.new (o := .lst ((base8 ++ [wd "press", wd "say"]).map V.str ++ (List.replicate ((c : Int)).toNat [V.str "mod"]).flatten)) w6.g.ih ha1)
        refine ⟨(by show 1 ≤ sizeLine; decide), fun b2 hb2 => ?_⟩
        have g8 := Gr.new (ms := []) (o := .lst [.str "1"]) w7.g.ih hb2
        have w8 := w7.step0 g8
        refine ⟨_, rfl, _, _, rfl, rfl, b2, _, _, rfl, rfl, upd_same, hd64.1, hd64.2, ?_, fun r2 hr2 => ?_⟩
        · rw [hcn]; exact Nat.le_trans (Nat.mul_le_mul (show 1 ≤ 1 by omega) (show c + 1 ≤ 7 by omega)) (by decide)
        have g9 := Gr.new (ms := []) (o := .lst (List.replicate ((c : Int) + 1).toNat [V.str "1"]).flatten) w8.g.ih hr2
        have w9 := w8.step0 g9
        refine ⟨a1, r2, _, _, rfl, rfl, g9.hh _ _ (by simp) (g8.hh _ _ (by simp) upd_same), upd_same, ?_, fun a2 ha2 => ?_⟩
        · rw [List.length_append, hl10, lfl, lfl, Int.toNat_natCast, hcn]; exact le_line (by show 10 + c * 1 + (c + 1) * 1 ≤ _; omega)
        have w10 : Wsl I H p _ _ a2 (w4b c) := Wsl.new w9.g w9.po ha2 (by
          unfold w4b; rw [List.map_append, List.map_append, efe, efe, ← hcn] <;> rfl)
        refine ⟨_, rfl, _, _, rfl, .inl ⟨_, SqL.of (w9.step0 (Gr.tmp w9.g.ih ha2)).hl, rfl⟩, _, _, rfl, rfl, (by show 2 ≤ sizeLine; decide), fun t ht => ?_⟩
        refine ⟨_, rfl, _, _, rfl, rfl, .inr ⟨_, rfl, ?_⟩⟩
        refine pick_of (K := K) (m := 14) w10.g.ih rfl (fun t g => ?_) t ht
        rw [eb]
        refine ⟨(by show 2 ≤ sizeLine; decide), fun t3 ht3 => ?_⟩
        have h := m4b c hc1 hc2
        exact fin (w10.step0 g) h.1 h.2 t3 ht3
    · -- letters
      (try unfold tNext)
      (try dsimp only)
      refine seq_cut (fun σ' H' => ∃ I' n, σ' = [some (V.ref p), some (V.ref l), some (V.int (way : Int)), none, none, none, none, none, none, some (V.str (nameOf n))] ∧ Wsl I H p I' H' l base8 ∧ 7 ≤ n ∧ n < 11) (fun nx q => ?_) ?_
      · refine ⟨_, rfl, _, p, 4, rfl, w1.g.ih, w1.po, by decide, by decide, fun v H2 b0 b4 g2 po2 => ?_⟩
        obtain ⟨j, rfl⟩ := Int.eq_ofNat_of_zero_le b0
        refine ⟨_, _, rfl, rfl, ?_⟩
        refine ⟨_, rfl, "abcdefghij", rfl, (by decide +kernel), ?_⟩
        refine q _ _ ⟨_, 7 + j, ?_, w1.step g2 po2, by omega, by omega⟩
        have e : ∀ n : Nat, n < 11 → cutS "abcdefghij" none (some (n : Int)) = nameOf n := by decide +kernel
        have hc : (7 : Int) + (j : Int) = ((7 + j : Nat) : Int) := by omega
        show [_, _, _, _, _, _, _, _, _, some (V.str (cutS "abcdefghij" none (some ((7 : Int) + (j : Int)))))] = _
        rw [hc, e _ (by omega)]
      rintro σ' H2 ⟨I2, n, rfl, w2, hn1, hn2⟩
      (try dsimp only)
      refine ⟨_, rfl, _, rfl, l, _, _, 5, rfl, rfl, w2.hl, rfl, ?_⟩
      have w3' : Wsl I H p I2 (upd H2 l (.lst ((base8.map V.str).set 5 (.str (nameOf n))))) l (base8.set 5 (nameOf n)) := w2.put (by rw [List.map_set])
      (try dsimp only)
      refine ⟨_, rfl, (by show 1 ≤ sizeLine; decide), fun b1 hb1 => ?_⟩
      have w4 := w3'.step0 (Gr.new (o := .lst [.str "press"]) w3'.g.ih hb1)
      refine ⟨l, b1, _, _, rfl, rfl, w4.hl, upd_same, (by show 8 + 1 ≤ sizeLine; decide), fun a1 ha1 => ?_⟩
      have w5' : Wsl I H p _ _ a1 (w5 n) := Wsl.new w4.g w4.po ha1 (by unfold w5; rw [List.map_append, List.map_set] <;> rfl)
      refine ⟨(by show 2 ≤ sizeLine; decide), fun t ht => ?_⟩
      have hnl : (nameOf n).length = n := by
        have : ∀ n : Nat, n < 11 → (nameOf n).length = n := by decide +kernel
        exact this n hn2
      refine ⟨_, rfl, _, _, rfl, ⟨le_line (by omega), rfl⟩, _, _, rfl, rfl, .inr ⟨_, rfl, ?_⟩⟩
      refine pick_of (K := K) (m := 5) w5'.g.ih rfl (fun t g => ?_) t ht
      have eb : decide (((nameOf n).length : Int) > 8) = decide (8 < n) := by rw [hnl, decide_eq_decide]; omega
      rw [eb]
      refine ⟨(by show 2 ≤ sizeLine; decide), fun t3 ht3 => ?_⟩
      have h := m5 n hn1 hn2
      exact fin (w5'.step0 g) h.1 h.2 t3 ht3
end
end K

set_option Elab.async false
set_option linter.all false
set_option maxRecDepth 100000
set_option maxHeartbeats 4000000
namespace K
open PySem PySem.Spec PyProof.Rows L2 Tk Hd Rd
section
variable {P : Program} {w : World} {K : PySem.W.Frag} {mg : Str → Option Value} {base : Heap}
def spLaw (K : PySem.W.Frag) : Sp := fun vs H Q _ => ∃ (a : Addr) (ns : List Int), vs = [.ref a] ∧ SqL K H a (ns.map V.int) ∧ ns.length ≤ 63 ∧ ∀ H', Q (.bl true) H'
def dueDa (ws : List Str) : Option Nat → Da
  | some n => .int (n : Int)
  | none => .str (jn ws)
theorem told_eq {ws : List Str} {u : Bool} {due : Option Nat} (h : rdB ws u = due) : toldR ws u = dueDa ws due := by
  subst h; unfold toldR rdB; cases readR ws u <;> rfl
theorem wsOk_of {ws : List Str} (h : tidyB ws = true) : WsOk ws := by
  obtain ⟨h1, h2, h3, h4, h5⟩ := tidy_facts h
  refine ⟨?_, by omega, by omega⟩
  unfold wordsOf
  rw [if_neg (show ¬ jn ws = ("" : Str) from h3)]
  exact words_split h1 h2
theorem dep_told (ws : List Str) (u : Bool) : dep (toldR ws u) = 0 ∧ tame (toldR ws u) := by unfold toldR; cases readR ws u <;> exact ⟨by simp [dep], by simp [tame]⟩
theorem dep_due (ws : List Str) (d : Option Nat) : dep (dueDa ws d) = 0 ∧ tame (dueDa ws d) := by cases d <;> exact ⟨by simp [dueDa, dep], by simp [dueDa, tame]⟩
def Nlaw : List Str := ["script", "pool", "words", "due", "place"]
theorem sc_law : FnScope Nlaw ["script"] (defScope s_law) := ⟨rfl, rfl, rfl, by decide +kernel, rfl, by decide +kernel, by decide +kernel⟩
theorem ok_law (D : Dt K mg) {fd : FuncData} (F : FnP K "law" "law" s_law [] (He.ga K "law") fd) : FnOk P w K mg base (L2.CX P w) 40 (He.ga K "law") fd ["script"] (spLaw K) := by
  have H__law_pool := ok_pool (P := P) (w := w) (base := base) D
  have H__law_draw := ok_draw (P := P) (w := w) (base := base) D
  have H__law_numbers := ok_numbers (P := P) (w := w) (base := base) D
  have H__law_many := ok_many (P := P) (w := w) (base := base) D
  have H__law_told := ok_told (P := P) (w := w) (base := base) D
  have H__law_same := ok_same (P := P) (w := w) (base := base) D 2
  refine fnN F sc_law (fun vs H Q E h => ?_) (fun cdv A outer s H vs Q E hr h => ?_)
  · obtain ⟨a, ns, rfl, _⟩ := h; rfl
  · obtain ⟨a, ns, rfl, hS, hl, k⟩ := h
    refine ⟨_, (pss_cons (ps_set (i := 1) sc_law.nd rfl (Or.inl rfl) (pe_callH H__law_pool (hr.mono (by omega)) rfl (glo__law_pool D) passL (pa_cons (pv 0) (pa_cons pe_int pa_nil))))
      (pss_cons (ps_for PassesOwn.never rfl (pi_tupK K (pe_tup (pa_cons (pe_callH H__law_numbers (hr.mono (by omega)) rfl (glo__law_numbers D) passL (pa_cons (pv 1) pa_nil)) (pa_cons (pe_callH H__law_many (hr.mono (by omega)) rfl (glo__law_many D) passL (pa_cons (pv 1) pa_nil)) pa_nil)))) (pg_tupK K rfl (pgs_cons (pg_name (i := 2) sc_law.nd rfl (Or.inl rfl)) (pgs_cons (pg_name (i := 3) sc_law.nd rfl (Or.inl rfl)) pgs_nil)))
      (pss_cons (ps_if (pt_cmpR op_isN (pv 3) pe_non (nomark _))
      (pss_one (ps_set (i := 3) sc_law.nd rfl (Or.inl rfl) (pe_bm PySem.F.plainAttrs_str PySem.F.slot_str_join PySem.F.type_str_join mt_join pe_str (pa_cons (pv 2) pa_nil))))
      pss_nil)
      (pss_one (ps_if (PW.pt (pw_or (pt_not (pt_val (pe_callH H__law_same (hr.mono (by omega)) rfl (glo__law_same D) passL (pa_cons (pe_callH H__law_told (hr.mono (by omega)) rfl (glo__law_told D) passL (pa_cons (pv 2) (pa_cons pe_bl pa_nil))) (pa_cons (pv 3) pa_nil))))) (pw_or1 (PW.pt (pw_and (pt_cmpR (op_notIn_seqK K) pe_str (pv 2) rfl) (pw_and1 (pt_not (pt_val (pe_callH H__law_same (hr.mono (by omega)) rfl (glo__law_same D) passL (pa_cons (pe_callH H__law_told (hr.mono (by omega)) rfl (glo__law_told D) passL (pa_cons (pv 2) (pa_cons pe_bl pa_nil))) (pa_cons (pv 3) pa_nil)))))))))))
      (pss_one (ps_ret pe_bl))
      pss_nil))))
      (pss_cons (ps_set (i := 4) sc_law.nd rfl (Or.inl rfl) (pe_op op_add pe_int (pe_op op_mulW pe_int (pe_callH H__law_draw (hr.mono (by omega)) rfl (glo__law_draw D) passL (pa_cons (pv 1) (pa_cons pe_int pa_nil))))))
      (pss_cons (ps_set (i := 2) sc_law.nd rfl (Or.inl rfl) (pe_lst (pa_cons pe_str (pa_cons pe_str (pa_cons pe_str (pa_cons pe_str (pa_cons pe_str (pa_cons pe_str (pa_cons pe_str (pa_cons pe_str (pa_cons pe_str (pa_cons pe_str (pa_cons pe_str (pa_cons pe_str pa_nil))))))))))))))
      (pss_cons (ps_set (i := 2) sc_law.nd rfl (Or.inl rfl) (pe_op op_cat (pe_op op_cat (pe_slice (sl_listK K) (pv 2) po_none (po_some (pv 4))) (pe_lst (pa_cons pe_str (pa_cons pe_str (pa_cons pe_str pa_nil))))) (pe_slice (sl_listK K) (pv 2) (po_some (pv 4)) po_none)))
      (pss_one (ps_ret (pe_callH H__law_same (hr.mono (by omega)) rfl (glo__law_same D) passL (pa_cons (pe_lst (pa_cons (pe_callH H__law_told (hr.mono (by omega)) rfl (glo__law_told D) passL (pa_cons (pv 2) (pa_cons pe_bl pa_nil))) (pa_cons (pe_callH H__law_told (hr.mono (by omega)) rfl (glo__law_told D) passL (pa_cons (pv 2) (pa_cons pe_bl pa_nil))) pa_nil))) (pa_cons (pe_lst (pa_cons (pe_bm PySem.F.plainAttrs_str PySem.F.slot_str_join PySem.F.type_str_join mt_join pe_str (pa_cons (pv 2) pa_nil)) (pa_cons (pv 4) pa_nil))) pa_nil)))))))))), ?_⟩
    --BODY
    (try dsimp only)
    refine ⟨_, rfl, fun _ => none, a, ns, 0, rfl, (fun _ _ h => nomatch h), hS, by omega, fun I1 H1 p g1 po1 _ => ?_⟩
    (try dsimp only)
    refine ⟨_, rfl, I1, p, rfl, g1.ih, po1, fun I2 H2 t1 ws1 due1 g2 po2 ip1 gd1 td1 => ?_⟩
    refine ⟨_, rfl, I2, p, rfl, g2.ih, po2, fun I3 H3 t2 ws2 due2 g3 po3 ip2 gd2 td2 => ?_⟩
    refine ⟨(by show 2 ≤ sizeLine; decide), fun t ht => ?_⟩
    have g4 := Gr.new (ms := []) (o := .tup [.ref t1, .ref t2]) g3.ih ht
    have po4 := po3.up g4 (by simp)
    have jp1 : iPair (upd I3 t (.tup [.ref t1, .ref t2])) t1 ws1 due1 := by
      obtain ⟨wl, e1, e2⟩ := ip1; exact ⟨wl, g4.ii _ _ (g3.ii _ _ e1), g4.ii _ _ (g3.ii _ _ e2)⟩
    have jp2 : iPair (upd I3 t (.tup [.ref t1, .ref t2])) t2 ws2 due2 := by
      obtain ⟨wl, e1, e2⟩ := ip2; exact ⟨wl, g4.ii _ _ e1, g4.ii _ _ e2⟩
    refine ⟨t, rfl, ⟨_, SqT.of upd_same⟩, ?_⟩
    refine for_wk (wk_tup (I := upd I3 t (.tup [.ref t1, .ref t2])) upd_same)
      (fun σ' H' => ∃ (I' : Hp) (w2 w3 : Option V), σ' = [some (.ref a), some (.ref p), w2, w3, none] ∧ Same I' H' ∧ PoolOk I' H' p)
      (fun i σ' H' => ∃ (I' : Hp) (w2 w3 : Option V), σ' = [some (.ref a), some (.ref p), w2, w3, none] ∧ Gr [p] (upd I3 t (.tup [.ref t1, .ref t2])) (upd H3 t (.tup [.ref t1, .ref t2])) I' H' ∧ PoolOk I' H' p)
      (fun i σ' H' h => by obtain ⟨I', _, _, _, gr, _⟩ := h; exact gr.ii.trans gr.ih)
      ⟨_, _, _, rfl, Gr.refl g4.ih, po4⟩ (fun nx2 q2 i σ' H4 hi h => ?_) (fun σ' H' h => ?_) (fun σ' H' h => ?_)
    · obtain ⟨I4, w2, w3, rfl, gr, po⟩ := h
      have it : ∃ tt ws due, gv [V.ref t1, V.ref t2] i = .ref tt ∧ iPair I4 tt ws due ∧ goodB ws due = true ∧ tidyB ws = true := by
        have up9 : ∀ {tt ws due}, iPair (upd I3 t (.tup [.ref t1, .ref t2])) tt ws due → iPair I4 tt ws due := fun z => by
          obtain ⟨wl, e1, e2⟩ := z; exact ⟨wl, gr.ii _ _ e1, gr.ii _ _ e2⟩
        have : i = 0 ∨ i = 1 := by simp at hi; omega
        rcases this with rfl | rfl
        · exact ⟨t1, ws1, due1, rfl, up9 jp1, gd1, td1⟩
        · exact ⟨t2, ws2, due2, rfl, up9 jp2, gd2, td2⟩
      obtain ⟨tt, ws, due, ett, ip, gd, td⟩ := it
      rw [ett]
      obtain ⟨wl, e1, e2⟩ := ip
      have e1' := gr.ih _ _ e1
      have e2' := gr.ih _ _ e2
      have ok := wsOk_of td
      refine ⟨tt, _, rfl, SqT.of e1', rfl, _, _, rfl, _, _, rfl, rfl, ?_⟩
      (try dsimp only)
      refine seq_cut (fun σ' H' => ∃ v3, σ' = [some (.ref a), some (.ref p), some (.ref wl), some v3, none] ∧ H' = H4 ∧ ∀ H, dR H v3 (dueDa ws due)) (fun nx q => ?_) ?_
      · cases due with
        | none =>
          refine ⟨_, rfl, rfl, _, rfl, ifT rfl ?_⟩
          exact ⟨rfl, _, rfl, " ", wl, ws, rfl, rfl, .inl (SqL.of e2'), ws_join ok.jl, q _ _ ⟨_, rfl, rfl, fun _ => dR_str⟩⟩
        | some n =>
          refine ⟨_, rfl, rfl, _, rfl, ifF rfl ?_⟩
          exact q _ _ ⟨_, rfl, rfl, fun _ => dR_int⟩
      rintro σ' H5 ⟨v3, rfl, rfl, r3⟩
      (try dsimp only)
      have gdd : rdB ws true = due ∧ (wd "use" ∈ ws ∨ rdB ws false = due) := by
        unfold goodB at gd
        simpa using gd
      have dd := dep_due ws due
      refine ⟨_, rfl, I4, _, ws, true, rfl, gr.ih, ⟨wl, rfl, e2⟩, ok, fun I6 H6 v6 g6 r6 => ?_⟩
      have e6 := g6.ih _ _ (g6.ii _ _ e2)
      have fin : ∀ I8 H8, Gr [] I6 H6 I8 H8 → ∃ (I' : Hp) (w2 w3 : Option V), [some (.ref a), some (.ref p), some (V.ref wl), some v3, none] = [some (.ref a), some (.ref p), w2, w3, none] ∧ Gr [p] (upd I3 t (.tup [.ref t1, .ref t2])) (upd H3 t (.tup [.ref t1, .ref t2])) I' H8 ∧ PoolOk I' H8 p := fun I8 H8 g8 =>
        ⟨I8, _, _, rfl, gr.trans (g6.trans g8).nil, po.up (g6.trans g8) (by simp)⟩
      refine ⟨_, rfl, v6, v3, toldR ws true, dueDa ws due, rfl, dR_up g6.ih _ _ r6, r3 _, by omega, (dep_told ws true).2, dd.2, _, rfl, ?_⟩
      rw [(eqd_iff _ _).mpr (told_eq gdd.1)]
      refine ifF rfl ?_
      refine ⟨_, rfl, wl, _, rfl, .inl (SqL.of e6), rfl, flat_strs ws, _, rfl, ?_⟩
      rw [inV_strs]
      by_cases hu : wd "use" ∈ ws
      · refine ifF (by rw [decide_eq_true (show ("use" : Str) ∈ ws from hu)]; rfl) ?_
        exact ifF rfl (fin _ _ (Gr.refl g6.ih))
      · refine ifT (by rw [decide_eq_false (show ¬ ("use" : Str) ∈ ws from hu)]; rfl) ?_
        refine ⟨_, rfl, I6, _, ws, false, rfl, g6.ih, ⟨wl, rfl, g6.ii _ _ e2⟩, ok, fun I7 H7 v7 g7 r7 => ?_⟩
        refine ⟨_, rfl, v7, v3, toldR ws false, dueDa ws due, rfl, dR_up g7.ih _ _ r7, r3 _, by omega, (dep_told ws false).2, dd.2, _, rfl, ?_⟩
        rw [(eqd_iff _ _).mpr (told_eq (gdd.2.resolve_left hu))]
        exact ifF rfl (fin _ _ g7)
    · obtain ⟨I', w2, w3, rfl, gr, po⟩ := h
      exact ⟨I', w2, w3, rfl, gr.ih, po⟩
    · obtain ⟨I', w2, w3, rfl, s5, po5⟩ := h
      (try dsimp only)
      refine seq_cut (fun σ' H' => ∃ (I' : Hp) (m : Nat), m < 2 ∧ σ' = [some (.ref a), some (.ref p), w2, w3, some (.int ((8 + 3 * m : Nat) : Int))] ∧ Same I' H') (fun nx q => ?_) ?_
      · refine ⟨_, rfl, _, p, 2, rfl, s5, po5, by decide, by decide, fun v H6 a0 a1 g6 po6 => ?_⟩
        obtain ⟨m, rfl⟩ := Int.eq_ofNat_of_zero_le a0
        refine ⟨_, _, rfl, rfl, wide_mul (a := 64) (b := 64) (by decide) (by omega) (by decide) (by decide) (by decide), _, _, rfl, rfl, ?_⟩
        refine q _ _ ⟨_, m, by omega, ?_, g6.ih⟩
        have e : (8 : Int) + 3 * (m : Int) = ((8 + 3 * m : Nat) : Int) := by omega
        show [_, _, _, _, some (V.int ((8 : Int) + 3 * (m : Int)))] = _
        rw [e]
      clear s5 po5 I'
      rintro σ' H6 ⟨I6, m, hm, rfl, s6⟩
      (try dsimp only)
      refine seq_cut (fun σ' H' => ∃ (l : Addr) (I' : Hp), σ' = [some (.ref a), some (.ref p), some (.ref l), w3, some (.int ((8 + 3 * m : Nat) : Int))] ∧ Same I' H' ∧ I' l = some (.lst (base12.map V.str))) (fun nx q => ?_) ?_
      · refine ⟨(by show 12 ≤ sizeLine; decide), fun l hl => ?_⟩
        exact q _ _ ⟨l, _, rfl, (Gr.new (ms := []) (o := .lst (base12.map V.str)) s6 hl).ih, upd_same⟩
      clear s6 I6
      rintro σ' H6 ⟨l, I6, rfl, s6, hl⟩
      (try dsimp only)
      refine seq_cut (fun σ' H' => ∃ (s5 : Addr) (I' : Hp) (ws : List Str) (pl : Nat), σ' = [some (.ref a), some (.ref p), some (.ref s5), w3, some (.int (pl : Int))] ∧ Same I' H' ∧ I' s5 = some (.lst (ws.map V.str)) ∧ rdB ws true = none ∧ rdB ws false = some pl ∧ tidyB ws = true) (fun nx q => ?_) ?_
      · refine ⟨_, rfl, _, rfl, _, rfl, l, base12.map V.str, rfl, SqL.of (s6 _ _ hl), fun s1 hs1 => ?_⟩
        have g8 := Gr.new (ms := []) (o := .lst (cutV (base12.map V.str) none (some ((8 + 3 * m : Nat) : Int)))) s6 hs1
        refine ⟨(by show 3 ≤ sizeLine; decide), fun s2 hs2 => ?_⟩
        have g9 := Gr.new (ms := []) (o := .lst [.str "use", .str "x", .str "1"]) g8.ih hs2
        have hc1 : cutV (base12.map V.str) none (some ((8 + 3 * m : Nat) : Int)) = (base12.take (8 + 3 * m)).map V.str ∧ cutV (base12.map V.str) (some ((8 + 3 * m : Nat) : Int)) none = (base12.drop (8 + 3 * m)).map V.str := by
          have : m = 0 ∨ m = 1 := by omega
          rcases this with rfl | rfl <;> exact ⟨rfl, rfl⟩
        have hn12 : base12.length = 12 := rfl
        refine ⟨s1, s2, _, _, rfl, rfl, g9.hh _ _ (by simp) upd_same, upd_same, ?_, fun s3 hs3 => ?_⟩
        · rw [hc1.1, List.length_map, List.length_take, hn12]; exact le_line (by show min (8 + 3 * m) 12 + 3 ≤ _; omega)
        have g10 := Gr.new (ms := []) (o := .lst (cutV (base12.map V.str) none (some ((8 + 3 * m : Nat) : Int)) ++ [.str "use", .str "x", .str "1"])) g9.ih hs3
        refine ⟨_, rfl, _, rfl, _, rfl, l, base12.map V.str, rfl, SqL.of (((g8.trans g9).trans g10).hh _ _ (by simp) (s6 _ _ hl)), fun s4 hs4 => ?_⟩
        have g11 := Gr.new (ms := []) (o := .lst (cutV (base12.map V.str) (some ((8 + 3 * m : Nat) : Int)) none)) g10.ih hs4
        refine ⟨s3, s4, _, _, rfl, rfl, g11.hh _ _ (by simp) upd_same, upd_same, ?_, fun s5 hs5 => ?_⟩
        · rw [hc1.1, hc1.2, List.length_append, List.length_map, List.length_map, List.length_take, List.length_drop, hn12]; exact le_line (by show min (8 + 3 * m) 12 + 3 + (12 - (8 + 3 * m)) ≤ _; omega)
        have ew : cutV (base12.map V.str) none (some ((8 + 3 * m : Nat) : Int)) ++ [.str "use", .str "x", .str "1"] ++ cutV (base12.map V.str) (some ((8 + 3 * m : Nat) : Int)) none = (wF (8 + 3 * m)).map V.str := by
          rw [hc1.1, hc1.2]; unfold wF; rw [List.map_append, List.map_append]; rfl
        rw [ew]
        have hg := last_good m hm
        exact q _ _ ⟨s5, _, wF (8 + 3 * m), 8 + 3 * m, rfl, (Gr.new (ms := []) (o := .lst ((wF (8 + 3 * m)).map V.str)) g11.ih hs5).ih, upd_same, hg⟩
      clear s6 hl I6
      rintro σ' H8 ⟨s5, I8, wsF, pl, rfl, s8, e5, hg⟩
      (try dsimp only)
      have ok := wsOk_of hg.2.2
      refine ⟨_, rfl, _, _, wsF, true, rfl, s8, ⟨s5, rfl, e5⟩, ok, fun I6 H6 v6 g6 r6 => ?_⟩
      refine ⟨_, rfl, I6, _, wsF, false, rfl, g6.ih, ⟨s5, rfl, g6.ii _ _ e5⟩, ok, fun I7 H7 v7 g7 r7 => ?_⟩
      refine ⟨(by show 2 ≤ sizeLine; decide), fun b1 hb1 => ?_⟩
      have g13 := Gr.new (ms := []) (o := .lst [v6, v7]) g7.ih hb1
      have e5' := g13.ih _ _ (g13.ii _ _ (g7.ii _ _ (g6.ii _ _ e5)))
      refine ⟨rfl, _, rfl, " ", s5, _, rfl, rfl, .inl (SqL.of e5'), ws_join ok.jl, _, rfl, (by show 2 ≤ sizeLine; decide), fun b2 hb2 => ?_⟩
      have g14 := Gr.new (ms := []) (o := .lst [.str (jn wsF), .int ((pl : Nat) : Int)]) g13.ih hb2
      refine ⟨_, _, .lst [toldR wsF true, toldR wsF false], .lst [.str (jn wsF), .int ((pl : Nat) : Int)], rfl,
        dR_lst (g14.hh _ _ (by simp) upd_same) (dRs_cons (dR_up g14.ih _ _ (dR_up (g7.trans (g13.trans g14)).ii _ _ r6)) (dRs_cons (dR_up g14.ih _ _ (dR_up (g13.trans g14).ii _ _ r7)) dRs_nil)),
        dR_lst upd_same (dRs_cons dR_str (dRs_cons dR_int dRs_nil)), (by simp [dep, deps]), ?_, (by simp [tame, tames]), ?_⟩
      · have h1 := (dep_told wsF true).2
        have h2 := (dep_told wsF false).2
        simp only [tame, tames]; exact ⟨by simp, h1, h2, trivial⟩
      · rw [told_eq hg.1, told_eq hg.2.1]
        have e9 : eqd (Da.lst [dueDa wsF none, dueDa wsF (some pl)]) (Da.lst [Da.str (jn wsF), Da.int (pl : Int)]) = true := (eqd_iff _ _).mpr rfl
        rw [e9]
        exact k _
end
end K

set_option Elab.async false
set_option linter.all false
set_option maxRecDepth 100000
namespace K
open PySem PySem.Spec PyProof.Rows L2 Tk Hd Rd
theorem facts {P : Program} {w : World} {K : PySem.W.Frag} {h : Heap} {mg : Str → Option Value} {f : Addr} (X : K.In h) (G : h.Ns mainGlobals mg) (hfa : mg ("law" : Str) = some (.ref f)) (c : SaysY ex fn K) :
    ∃ fd : FuncData, (∀ (s : Shared) (v : Value), BindsTo s fd ⟨[v], []⟩ [("script", v)]) ∧ ∀ base : Heap, K.In base → base.Ns mainGlobals mg → FnOk P w K mg base CX0 40 f fd ["script"] (fun vs H Q _ => spLaw K vs H Q E0) := by
  have D : Dt K mg := ⟨c, h, X, G⟩
  obtain ⟨fd, F⟩ := fd_law D
  have e := hfa.symm.trans (glo_law D)
  cases e
  have b := FunD.bindsA (ps := ["script"]) F fun _ _ _ _ _ _ us hl => match us, hl with | [_], _ => rfl
  exact ⟨fd, fun s v => b s [v] rfl, fun base _ _ => fn0 (ok_law D F)⟩
end K
open PySem PySem.W PySem.Calls PyProof.Rows
set_option maxHeartbeats 0 in
theorem PySem.Challenge.cw_notesttells_k52_bounds_of_boxes_holds : PySem.Challenge.rw_notesttells_k52_bounds_of_boxes.Holds := by
  w_on; o_law
  refine HandSHeadRun.head_any (r := Hd.R) (q := Hd.vw) (H := Hd.hk) (ob := Hd.ob) (M := 20000) (loose := Hd.loose) (d := HandSHeadRun.topDef Hd.R.prog 41) (kwd := []) Hd.ob_eq (by kernel_rfl) (fun s => by kernel_rfl) Hd.run
    (by kernel_rfl) (by kernel_rfl) (by kernel_rfl) (by rfl) (by first | assumption | decide +kernel) (by decide +kernel) ⟨rfl, rfl, rfl, rfl, rfl, by decide +kernel⟩ ?hw ?hc
  case hw => w_witness2
  case hc =>
    refine L2.walk_ofE (l := PySem.Challenge.rw_notesttells_k52_bounds_of_boxes) (n := 63) (k := 40) (x := "script") (CX := L2.CX0) rfl (by decide) (by kernel_rfl) ⟨rfl, by decide, by decide⟩ ?F (fun _ _ _ _ z => z)
    intro w mg fa h Y G hmg0
    obtain ⟨Kf, KX, c⟩ := Y
    have hmg : mg ("law" : PySem.Str) = some (.ref fa) := by
      have e : (HandSHeadRun.topDef Hd.R.prog 41).name = ("law" : PySem.Str) := by kernel_rfl
      rw [← e]
      exact hmg0
    obtain ⟨fd, hb, hF⟩ := K.facts (P := (PySem.Challenge.rw_notesttells_k52_bounds_of_boxes).prog) (w := w) KX G hmg c
    exact ⟨Kf, fd, _, KX, hb, fun H a ns hl _ hS => ⟨a, ns, rfl, hS, hl, fun _ => rfl⟩, hF⟩

