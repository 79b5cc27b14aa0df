import PyProof.Rows.All
import Wide.All
import OpenK.AllK
import Wide.FinOn
import KE.KCallOwn
import HandS.ForExc
import HandS.Gcd
import HandS.Wide
import HandS.Defaults
import HandS.ExcIs
import HandS.IsInst
import HandS.HeadEnd
import HandS.HeadHook2
import HandS.Head3
import HandS.MakeKwOnly
import HandS.MakeKw
import HandS.FStr
import HandS.CallSlots
import HandS.ForMost
import HandS.ExcInit
import HandS.ExcField
import KE.KExcIs
import PyProof.FitsInt
import PyProof.Rows.StrDigitsNeg
import HandS.Comp
import HandS.Zip
import HandS.ForList
import KE.GoesMore
import KE.GoesZip
import HandS.TupAny
import HandS.Text
import HandS.Iter
import KE.KMathGC
import KE.GoesEnum
import HandS.Dict
import HandS.Star
import HandS.StrMore
import HandS.RaiseMore
import PyProof.ListIndex
import HandS.ExcCtx
import HandS.HotCalls
import HandS.ExcInitHot
import PySem.Challenge.RW_notesttells_k41_tests_that_are_too_long
set_option Elab.async false
set_option linter.all false
set_option maxRecDepth 100000
set_option maxHeartbeats 4000000
namespace Tk
open PySem PySem.Spec PyProof.Rows L2

section
variable {X : Cx} {CXx : CXT} {k : Nat} {f C : Addr} {fd : FuncData} {ps : List Str} {sp : Sp} {E : XK}

/-- a def runs at any depth of this body -/
theorem runAt {A' : Around} {pins : List (Addr × Obj)} {σ : L2.St} {H : Hp} {s : Shared} {Q : VK} {us ds : List Value} {vs dvs : List V}
    (F : FnOk X.prog X.w X.K X.mg X.base CXx k f fd ps sp) (hr : Room k A') (he : Env0 X.prog X.w X.K X.mg X.base A' X.stack s H)
    (hb : Binds X.K fd ps ds) (hd : Vals dvs ds) (hx : Passes CXx X E) (I : Inv X pins σ H s) (r : Vals vs us) (h : sp (vs ++ dvs) H Q E) :
    wpAny (model X.prog X.w) A' (call (.ref f) us) (EP X pins σ Q) X.xe s := by
  have r2 := r.append hd
  have hl := r2.length.symm.trans (F.len _ _ _ _ h)
  refine wpAny_call (codeAny_mono (F.run A' X.stack s H ⟨us, []⟩ (us ++ ds) (vs ++ dvs) Q E hr he (hb s us I.kIn hl) r2 h) ?_)
  intro res s' z
  cases res with
  | error e => exact hx _ _ _ _ _ _ I z
  | ok fl => cases fl with
    | ret u => exact I.after z
    | _ => exact False.elim z

/-- what an operator of a class's own asks: both instances of it, the def's promise -/
def rOwn (C : Addr) (sp : Sp) (E : XK) : R2 := fun x y H Q => ∃ a b dx dy fs gs, x = .ref a ∧ y = .ref b ∧ H a = some (.ins C dx fs) ∧ H b = some (.ins C dy gs) ∧ sp [x, y] H Q E

theorem notNI {v : V} {u : Value} (r : RelV v u) : u ≠ .notImplemented := by
  intro e; subst e
  cases v with
  | non => cases (show Value.notImplemented = Value.none from r)
  | bl b => cases (show Value.notImplemented = Value.bool b from r)
  | int i => obtain ⟨t, e⟩ := (show ∃ t, Value.notImplemented = Value.int i t from r); cases e
  | str x => obtain ⟨t, e⟩ := (show ∃ t, Value.notImplemented = Value.str x t from r); cases e
  | byt b => obtain ⟨t, e⟩ := (show ∃ t, Value.notImplemented = Value.bytes b t from r); cases e
  | flt b => obtain ⟨t, e⟩ := (show ∃ t, Value.notImplemented = Value.float b t from r); cases e
  | ref a => cases (show Value.notImplemented = Value.ref a from r)
  | ty n => cases (show Value.notImplemented = Value.type n from r)
theorem cmpBack_of {Q : Value → Shared → Prop} {u : Value} {s : Shared} (n : u ≠ .notImplemented) (q : Q u s) : PySem.W.CmpBack Q u s := by
  cases u <;> first | exact absurd rfl n | exact q
theorem inst_of {pins : List (Addr × Obj)} {σ : L2.St} {H : Hp} {s : Shared} (I : Inv X pins σ H s) {a dx : Addr} {fs : List (Str × V)} (e : H a = some (.ins C dx fs)) : ∃ od, PySem.W.InstAt s.heap a (PySem.W.instObj C dx) C (some od) := by
  obtain ⟨mA, O, _⟩ := ins_get I.hok e
  obtain ⟨od, J, _⟩ := O.look
  exact ⟨od, J⟩

/-- a + b and the like by the class's own __add__ and the like -/
theorem op_own {op : Operator} (F : FnOk X.prog X.w X.K X.mg X.base CXx k f fd ps sp) (hr : Room k X.A) (hb : Binds X.K fd ps []) (hx : Passes CXx X E)
    (hc : PySem.W.selfFirst X.K C = true) (hs : PySem.W.findIn X.K (.ref C) (PySem.dunder op.info.2) = some (some (.ref f))) (hf : PySem.W.isFn X.K (.ref f) = true) :
    OpR X (binaryOp op) (rOwn C sp E) := by
  intro pins s σ H x y v u Q I rx ry h
  obtain ⟨a, b, dx, dy, fs, gs, rfl, rfl, ea, eb, h⟩ := h
  cases rx; cases ry
  obtain ⟨od, J⟩ := inst_of I ea
  obtain ⟨od', J'⟩ := inst_of I eb
  have KX := I.kIn
  obtain ⟨cd, hcd, hm⟩ := PySem.W.any_some hc
  obtain ⟨rest, hm⟩ : ∃ rest, cd.mro = .ref C :: rest := by
    cases q : cd.mro with
    | nil => rw [q] at hm; cases hm
    | cons z r => rw [q] at hm; rw [List.head?_cons] at hm; exact ⟨r, by rw [Option.some.inj (eq_of_beq hm)]⟩
  unfold binaryOp
  refine wpAny_holding (wpAny_bind ?_)
  unfold binaryOp1
  refine wpAny_bind (J.type.here (wpAny_bind (J'.type.here (wpAny_bind ((PySem.W.fills_K KX hcd hm hs).here ?_)))))
  simp only [beq_self_eq_true, if_true]
  refine wpAny_bind (wpAny_pure ?_)
  simp only [Bool.and_false, Bool.false_eq_true, if_false, Bool.false_and]
  refine wpAny_bind (wpAny_pure ?_)
  simp only [Bool.false_eq_true, if_false]
  refine wpAny_bind (m := tryMethod (.ref a) _ (.ref b)) ?_
  unfold tryMethod
  refine wpAny_bind (PySem.W.special_fn KX J hs (beq_iff_eq.mp hf) (wpAny_mono (runAt (vs := [.ref a, .ref b]) (dvs := []) F hr I.env0 hb .nil hx I (.cons rfl (.cons rfl .nil)) h) (fun r s' hv => ?_) fun _ _ e => e))
  obtain ⟨v', H', I', rv, q⟩ := hv
  have hn := notNI rv
  cases r <;> first | exact absurd rfl hn | exact wpAny_pure (wpAny_pure (wpAny_pure ⟨v', H', I', rv, q⟩))

/-- a == b by the class's own __eq__; b is of the same class -/
theorem rc_own {op : CmpOp} (F : FnOk X.prog X.w X.K X.mg X.base CXx k f fd ps sp) (hr : Room k X.A) (hb : Binds X.K fd ps []) (hx : Passes CXx X E)
    (hs : PySem.W.findIn X.K (.ref C) (cmpInfo op).2.1 = some (some (.ref f))) (hf : PySem.W.isFn X.K (.ref f) = true) :
    OpR X (richCompare op) (rOwn C sp E) := by
  intro pins s σ H x y v u Q I rx ry h
  obtain ⟨a, b, dx, dy, fs, gs, rfl, rfl, ea, eb, h⟩ := h
  cases rx; cases ry
  obtain ⟨od, J⟩ := inst_of I ea
  obtain ⟨od', J'⟩ := inst_of I eb
  have KX := I.kIn
  have one : wpAny (model X.prog X.w) X.A (tryCompare (.ref a) (cmpInfo op).2.1 (.ref b)) (fun r s' => ∃ v, r = some v ∧ EP X pins σ Q v s') X.xe s := by
    unfold tryCompare
    refine wpAny_bind (PySem.W.ifBound_K KX J hs hf (wpAny_mono (runAt (vs := [.ref a, .ref b]) (dvs := []) F hr I.env0 hb .nil hx I (.cons rfl (.cons rfl .nil)) h) (fun r s' hv => ?_) fun _ _ e => e))
    obtain ⟨v', H', I', rv, q⟩ := hv
    have hn := notNI rv
    cases r <;> first | exact absurd rfl hn | exact wpAny_pure ⟨_, rfl, v', H', I', rv, q⟩
  unfold richCompare
  simp only [oneThing_ref]
  refine wpAny_holding (wpAny_bind (wpAny_cRoomFor hr.units0 ?_))
  refine wpAny_bind (J.type.here (wpAny_bind (J'.type.here ?_)))
  split
  · rename_i q
    exact absurd q (by simp)
  · refine wpAny_bind (wpAny_pure ?_)
    simp only [Bool.false_eq_true, if_false]
    refine wpAny_bind (wpAny_mono one (fun r s' z => ?_) fun _ _ e => e)
    obtain ⟨v, rfl, hq⟩ := z
    exact wpAny_pure hq
theorem op_eqOwn (F : FnOk X.prog X.w X.K X.mg X.base CXx k f fd ps sp) (hr : Room k X.A) (hb : Binds X.K fd ps []) (hx : Passes CXx X E)
    (hs : PySem.W.findIn X.K (.ref C) "__eq__" = some (some (.ref f))) (hf : PySem.W.isFn X.K (.ref f) = true) : OpR X (compareOp .Eq) (rOwn C sp E) :=
  rc_own (op := .Eq) F hr hb hx hs hf

/-- str(x) by the class's own __str__, which hands back a text -/
def rStrOwn (C : Addr) (sp : Sp) (E : XK) : List V → Hp → VK → Prop := fun xs H Q => ∃ a dx fs, xs = [.ref a] ∧ H a = some (.ins C dx fs) ∧ sp [.ref a] H (fun v H' => (∃ z, v = .str z) ∧ Q v H') E
theorem call_strOwn (F : FnOk X.prog X.w X.K X.mg X.base CXx k f fd ps sp) (hr : Room (k + 2) X.A) (hb : Binds X.K fd ps []) (hx : Passes CXx X E)
    (hs : PySem.W.findIn X.K (.ref C) "__str__" = some (some (.ref f))) (hf : PySem.W.isFn X.K (.ref f) = true) : CallR X (.type "str") (rStrOwn C sp E) := by
  intro pins s σ H xs us Q I r h
  obtain ⟨a, dx, fs, rfl, ea, h⟩ := h
  obtain ⟨u, rfl, ru⟩ := vals1 r
  cases ru
  obtain ⟨od, J⟩ := inst_of I ea
  have r1 : Room (k + 1) X.A.in1 := hr.in1
  have r2 : Room k X.A.in1.in1 := r1.in1
  refine PySem.W.kso_call r2.units0 I.kIn J hs hf (wpAny_mono (runAt (vs := [.ref a]) (dvs := []) F r2 I.env0.in1.in1 hb .nil hx I (.cons rfl .nil) h) (fun r s' hv => ?_) fun _ _ e => e)
  obtain ⟨v', H', I', rv, ⟨z, rfl⟩, q⟩ := hv
  obtain ⟨t, rfl⟩ := rv
  exact ⟨.str z, H', I', ⟨t, rfl⟩, q⟩
end
end Tk

set_option Elab.async false
set_option linter.all false
set_option maxRecDepth 100000
set_option maxHeartbeats 4000000
/-! Heaps that grow: I is the part that never changes again, H all of it; ms may change. -/
namespace Tk
open PySem PySem.Spec PyProof.Rows L2

structure Gr (ms : List Addr) (I H I' H' : Hp) : Prop where
  ii : Same I I'
  ih : Same I' H'
  hh : ∀ a o, a ∉ ms → H a = some o → H' a = some o
  th : ∀ a o, H a = some o → ∃ o', H' a = some o'
  nw : ∀ a o, I a = none → H a = some o → I' a = none
section
variable {ms ns : List Addr} {I H I' H' I'' H'' : Hp} {p m : Addr} {o o' : HO}
theorem sNew (h : H p = none) : Same H (upd H p o) := fun a u e => by rw [upd_ne (ne_of_none e h)]; exact e
theorem sBoth (s : Same I H) : Same (upd I p o) (upd H p o) := fun a u e => by
  by_cases q : a = p
  · subst q; rw [upd_same] at e ⊢; exact e
  · rw [upd_ne q] at e ⊢; exact s a u e
theorem sUnder (s : Same I H) (h : I p = none) : Same I (upd H p o) := fun a u e => by
  rw [upd_ne (ne_of_none e h)]; exact s a u e
theorem sNone (s : Same I H) (h : H p = none) : I p = none := s.free h
theorem Gr.refl (s : Same I H) : Gr ms I H I H := ⟨Same.refl I, s, fun _ _ _ e => e, fun _ o e => ⟨o, e⟩, fun _ _ e _ => e⟩
theorem Gr.trans (a : Gr ms I H I' H') (b : Gr ms I' H' I'' H'') : Gr ms I H I'' H'' :=
  ⟨a.ii.trans b.ii, b.ih, fun x o n e => b.hh x o n (a.hh x o n e), fun x o e => by obtain ⟨u, q⟩ := a.th x o e; exact b.th x u q,
    fun x o e1 e2 => by obtain ⟨u, q⟩ := a.th x o e2; exact b.nw x u (a.nw x o e1 e2) q⟩
theorem Gr.mono (a : Gr ms I H I' H') (h : ∀ x ∈ ms, x ∈ ns) : Gr ns I H I' H' := ⟨a.ii, a.ih, fun x o n e => a.hh x o (fun z => n (h x z)) e, a.th, a.nw⟩
theorem Gr.nil (a : Gr [] I H I' H') : Gr ms I H I' H' := a.mono (fun _ z => nomatch z)
/-- a new thing that stays as it is -/
theorem Gr.new (s : Same I H) (h : H p = none) : Gr ms I H (upd I p o) (upd H p o) :=
  ⟨sNew (s.free h), sBoth s, fun _ _ _ e => sNew h _ _ e, fun _ u e => ⟨u, sNew h _ _ e⟩, fun a u e1 e2 => by rw [upd_ne (ne_of_none e2 h)]; exact e1⟩
/-- a new thing that may change -/
theorem Gr.tmp (s : Same I H) (h : H p = none) : Gr ms I H I (upd H p o) :=
  ⟨Same.refl I, sUnder s (s.free h), fun _ _ _ e => sNew h _ _ e, fun _ u e => ⟨u, sNew h _ _ e⟩, fun a u e1 _ => e1⟩
/-- a change -/
theorem Gr.mut (s : Same I H) (hi : I m = none) (hm : m ∈ ms) : Gr ms I H I (upd H m o) :=
  ⟨Same.refl I, sUnder s hi, fun a u n e => by rw [upd_ne (fun (z : a = m) => n (z ▸ hm))]; exact e,
    fun a u e => by
      by_cases q : a = m
      · subst q; exact ⟨_, upd_same⟩
      · exact ⟨u, by rw [upd_ne q]; exact e⟩, fun a u e1 _ => e1⟩
/-- what was new and may have changed stays from here on as it is -/
theorem Gr.frz (g : Gr (m :: ms) I H I' H') (s : Same I H) (h : H m = none) (e : H' m = some o) : Gr ms I H (upd I' m o) H' := by
  have h1 : ∀ a u, H a = some u → a ≠ m := fun a u q => ne_of_none q h
  refine ⟨fun a u q => ?_, fun a u q => ?_, fun a u n q => ?_, g.th, fun a u e1 e2 => ?_⟩
  · rw [upd_ne (h1 a u (s a u q))]; exact g.ii a u q
  · by_cases z : a = m
    · subst z; rw [upd_same] at q; rw [← q]; exact e
    · rw [upd_ne z] at q; exact g.ih a u q
  · exact g.hh a u (fun z => (List.mem_cons.mp z).elim (h1 a u q) n) q
  · rw [upd_ne (h1 a u e2)]; exact g.nw a u e1 e2
/-- a mutable thing that is not in I stays out of it -/
theorem Gr.out (g : Gr ms I H I' H') (hi : I m = none) (h : H m = some o) : I' m = none := g.nw m o hi h
theorem Gr.at (g : Gr ms I H I' H') (h : H m = some o) (n : m ∉ ms) : H' m = some o := g.hh m o n h
end

/-! What a value is, by the part that stays. -/
abbrev Rp (α : Type) := Hp → V → α → Prop
class Mono {α : Type} (R : Rp α) : Prop where
  up : ∀ {H H' : Hp} {v : V} {x : α}, Same H H' → R H v x → R H' v x
section
variable {α β : Type}
def iI : Rp Int := fun _ v i => v = .int i
def iN : Rp Nat := fun _ v i => v = .int (i : Int)
def iB : Rp Bool := fun _ v b => v = .bl b
def iS : Rp Str := fun _ v z => v = .str z
/-- a list, a tuple of things of one kind -/
inductive All2 (R : V → α → Prop) : List V → List α → Prop where
  | nil : All2 R [] []
  | cons {v : V} {x : α} {vs : List V} {xs : List α} (h : R v x) (t : All2 R vs xs) : All2 R (v :: vs) (x :: xs)
def iL (R : Rp α) : Rp (List α) := fun H v xs => ∃ a vs, v = .ref a ∧ H a = some (.lst vs) ∧ All2 (R H) vs xs
def iT (R : Rp α) : Rp (List α) := fun H v xs => ∃ a vs, v = .ref a ∧ H a = some (.tup vs) ∧ All2 (R H) vs xs
def iP (R : Rp α) (S : Rp β) : Rp (α × β) := fun H v p => ∃ a x y, v = .ref a ∧ H a = some (.tup [x, y]) ∧ R H x p.1 ∧ S H y p.2
theorem All2.mono {R S : V → α → Prop} (h : ∀ v x, R v x → S v x) : ∀ {vs : List V} {xs : List α}, All2 R vs xs → All2 S vs xs
  | _, _, .nil => .nil
  | _, _, .cons a t => .cons (h _ _ a) (t.mono h)
theorem All2.len {R : V → α → Prop} : ∀ {vs : List V} {xs : List α}, All2 R vs xs → vs.length = xs.length
  | _, _, .nil => rfl
  | _, _, .cons _ t => congrArg Nat.succ t.len
theorem All2.get {R : V → α → Prop} : ∀ {vs : List V} {xs : List α} {i : Nat} {v : V}, All2 R vs xs → vs[i]? = some v → ∃ x, xs[i]? = some x ∧ R v x
  | _, _, _, _, .nil, e => by simp at e
  | _, _, 0, _, .cons a t, e => by simp at e; subst e; exact ⟨_, rfl, a⟩
  | _, _, i + 1, v, .cons a t, e => by
    obtain ⟨x, h1, h2⟩ := All2.get (i := i) (v := v) t (by simpa using e)
    exact ⟨x, by simpa using h1, h2⟩
theorem All2.get' {R : V → α → Prop} : ∀ {vs : List V} {xs : List α} {i : Nat} {x : α}, All2 R vs xs → xs[i]? = some x → ∃ v, vs[i]? = some v ∧ R v x
  | _, _, _, _, .nil, e => by simp at e
  | _, _, 0, _, .cons a t, e => by simp at e; subst e; exact ⟨_, rfl, a⟩
  | _, _, i + 1, v, .cons a t, e => by
    obtain ⟨x, h1, h2⟩ := All2.get' (i := i) (x := v) t (by simpa using e)
    exact ⟨x, by simpa using h1, h2⟩
theorem All2.append {R : V → α → Prop} : ∀ {vs ws : List V} {xs ys : List α}, All2 R vs xs → All2 R ws ys → All2 R (vs ++ ws) (xs ++ ys)
  | _, _, _, _, .nil, h => h
  | _, _, _, _, .cons a t, h => .cons a (t.append h)
theorem All2.set {R : V → α → Prop} : ∀ {vs : List V} {xs : List α} (i : Nat) {v : V} {x : α}, All2 R vs xs → R v x → All2 R (vs.set i v) (xs.set i x)
  | _, _, _, _, _, .nil, _ => .nil
  | _, _, 0, _, _, .cons _ t, h => .cons h t
  | _, _, i + 1, _, _, .cons a t, h => .cons a (t.set i h)
theorem All2.ints : ∀ {xs : List Int} {vs : List V}, All2 (fun v x => v = V.int x) vs xs → vs = xs.map V.int
  | _, _, .nil => rfl
  | _, _, .cons a t => by rw [a, t.ints]; rfl
theorem All2.ofInts {H : Hp} : ∀ (xs : List Int), All2 (iI H) (xs.map V.int) xs
  | [] => .nil
  | x :: r => .cons rfl (All2.ofInts r)
instance : Mono iI := ⟨fun _ h => h⟩
instance : Mono iN := ⟨fun _ h => h⟩
instance : Mono iB := ⟨fun _ h => h⟩
instance : Mono iS := ⟨fun _ h => h⟩
instance {R : Rp α} [m : Mono R] : Mono (iL R) := ⟨fun s ⟨a, vs, e, h, t⟩ => ⟨a, vs, e, s _ _ h, t.mono fun _ _ => m.up s⟩⟩
instance {R : Rp α} [m : Mono R] : Mono (iT R) := ⟨fun s ⟨a, vs, e, h, t⟩ => ⟨a, vs, e, s _ _ h, t.mono fun _ _ => m.up s⟩⟩
instance {R : Rp α} {S : Rp β} [m : Mono R] [n : Mono S] : Mono (iP R S) := ⟨fun s ⟨a, x, y, e, h, p, q⟩ => ⟨a, x, y, e, s _ _ h, m.up s p, n.up s q⟩⟩
theorem up {R : Rp α} [m : Mono R] {H H' : Hp} {v : V} {x : α} (s : Same H H') (h : R H v x) : R H' v x := m.up s h
end
end Tk

set_option Elab.async false
set_option linter.all false
set_option maxRecDepth 100000
set_option maxHeartbeats 4000000
/-! The head: what the top leaves, told by one Bool and the defs' own texts. -/
namespace Tk
open PySem PySem.Spec PyProof.Rows L2
def obsY (ex : PySem.W.Frag → Bool) (fn : List He.DefD) (K : PySem.W.Frag) : He.AlD := (ex K && fn.all fun d => d.ok K, fn.map fun d => He.fnW K d.at_)
def SaysY (ex : PySem.W.Frag → Bool) (fn : List He.DefD) (K : PySem.W.Frag) : Prop := obsY ex fn K = He.valD fn
def obsYG (n : Nat) (ex : PySem.W.Frag → Bool) (fn : List He.DefD) (g : Addr → Option Obj) : He.AlD := obsY ex fn (He.frG g (He.asD g n))
def hookY (n : Nat) (ex : PySem.W.Frag → Bool) (fn : List He.DefD) : PySem.W.Hook :=
  { α := He.AlD, obs := fun s => obsYG n ex fn s.heap.get?, val := fun _ => He.valD fn, says := fun _ h => ∃ K : PySem.W.Frag, K.In h ∧ SaysY ex fn K,
    of := fun _ _ e => ⟨_, He.frG_in, e⟩, keeps := fun _ _ _ z k => by obtain ⟨K, hK, c⟩ := z; exact ⟨K, PySem.W.Frag.In.keeps hK k, c⟩ }
theorem obsYG_eq {n : Nat} {ex : PySem.W.Frag → Bool} {fn : List He.DefD} {g : Addr → Option Obj} {s : Shared} (h : ∀ a, g a = s.heap.get? a) : obsYG n ex fn g = (hookY n ex fn).obs s := by
  rw [show g = s.heap.get? from funext h]; rfl
section
variable {ex : PySem.W.Frag → Bool} {fn : List He.DefD} {K : PySem.W.Frag}
theorem SaysY.more (c : SaysY ex fn K) : ex K = true := (He.ba (show (ex K && fn.all fun d => d.ok K) = true from congrArg (fun z : He.AlD => z.1) c)).1
theorem SaysY.get (c : SaysY ex fn K) (i : Nat) {d : He.DefD} (h : fn[i]? = some d := by rfl) : ∃ fd, FunD K d.name d.qual d.params d.body d.scope (d.dvs K) (d.kws K) (He.fAd K d.at_) fd := by
  have c2 := (He.ba (show (ex K && fn.all fun d => d.ok K) = true from congrArg (fun z : He.AlD => z.1) c)).2
  have e : fn.map (fun d => He.fnW K d.at_) = fn.map He.DefD.val := congrArg (fun z : He.AlD => z.2) c
  have e2 := congrArg (fun l : List He.FnW => l[i]?) e
  simp only [List.getElem?_map, h] at e2
  exact He.DefD.funD (Option.some.inj e2) (List.all_eq_true.mp c2 d (List.mem_of_getElem? h))
end
def blB (K : PySem.W.Frag) (x : Str) (id : String) : Bool := He.eqO (PySem.W.nsIn K mainGlobals x) (some (some (.builtin id)))
def instB (K : PySem.W.Frag) (x : Str) : Bool :=
  He.eqO (PySem.W.findIn K (.ref (He.ga K x)) "__class__") (some (some (.builtin "object.__class__"))) &&
  (He.eqO (PySem.W.specialIn K (.builtin "object.__class__") "__get__") (some (some (.builtin "getset_descriptor.__get__"))) &&
  (decide (PySem.W.takesIn K (.builtin "object.__class__") = some true) && decide (PySem.W.mroIn K (He.ga K x) (.type "object") = some true)))
def isEB (K : PySem.W.Frag) (x : Str) : Bool :=
  He.eqO (PySem.W.findIn K (.ref (He.ga K x)) "__getattribute__") (some (some (.builtin "BaseException.__getattribute__"))) &&
  (He.eqO (PySem.W.findIn K (.ref (He.ga K x)) "__getattr__") (some none) &&
  (decide (PySem.W.subIn K (.ref (He.ga K x)) (.type "BaseException") = some true) && (PySem.W.hasDictIn K (He.ga K x) && instB K x)))
section
variable {K : PySem.W.Frag} {h : Heap} {mg : Str → Option Value} {x : Str} {id : String}
theorem blB_ok (X : K.In h) (G : h.Ns mainGlobals mg) (c : blB K x id = true) : mg x = some (.builtin id) := PySem.W.mg_of X G (He.eqO_ok c)
structure InstC (K : PySem.W.Frag) (C : Addr) : Prop where
  ha : PySem.W.findIn K (.ref C) "__class__" = some (some (.builtin "object.__class__"))
  hn : PySem.W.specialIn K (.builtin "object.__class__") "__get__" = some (some (.builtin "getset_descriptor.__get__"))
  ht : PySem.W.takesIn K (.builtin "object.__class__") = some true
  hm : PySem.W.mroIn K C (.type "object") = some true
theorem instB_ok (c : instB K x = true) : InstC K (He.ga K x) := by
  obtain ⟨c1, c⟩ := He.ba c
  obtain ⟨c2, c⟩ := He.ba c
  obtain ⟨c3, c4⟩ := He.ba c
  exact ⟨He.eqO_ok c1, He.eqO_ok c2, of_decide_eq_true c3, of_decide_eq_true c4⟩
theorem isEB_ok (c : isEB K x = true) : ExcC K (He.ga K x) := by
  obtain ⟨c1, c⟩ := He.ba c
  obtain ⟨c2, c⟩ := He.ba c
  obtain ⟨c3, c⟩ := He.ba c
  obtain ⟨c4, c5⟩ := He.ba c
  have i := instB_ok c5
  exact { hg := He.eqO_ok c1, hk := He.eqO_ok c2, hs := of_decide_eq_true c3, hd := c4, ha := i.ha, hn := i.hn, ht := i.ht, hm := i.hm }
theorem InstC.ty {H : Hp} {C a dx : Addr} {fs : List (Str × V)} (i : InstC K C) (cl : Cls K C) (e : H a = some (.ins C dx fs)) : TyX K H (.ref a) (.ref C) := .base (.ins e cl i.ha i.hn i.ht i.hm)
end
end Tk

set_option Elab.async false
set_option linter.all false
set_option maxRecDepth 100000
set_option maxHeartbeats 4000000
/-! A def that stands and keeps its promise; how it is called. -/
namespace Tk
open PySem PySem.Spec PyProof.Rows L2
def Has (P : Program) (w : World) (K : PySem.W.Frag) (mg : Str → Option Value) (base : Heap) (k : Nat) (f : Addr) (ps : List Str) (dvs : List V) (sp : Sp) : Prop :=
  PySem.W.keepIn K (.ref f) = true ∧ ∃ (fd : FuncData) (ds : List Value), Vals dvs ds ∧ Binds K fd ps ds ∧ FnOk P w K mg base (L2.CX P w) k f fd ps sp
theorem Has.mono {P : Program} {w : World} {K : PySem.W.Frag} {mg : Str → Option Value} {base : Heap} {j k : Nat} {f : Addr} {ps : List Str} {dvs : List V} {sp : Sp} (h : Has P w K mg base j f ps dvs sp) (l : j ≤ k) : Has P w K mg base k f ps dvs sp := by
  obtain ⟨a, fd, ds, b, c, F⟩ := h
  exact ⟨a, fd, ds, b, c, F.mono l⟩
section
variable {X : Cx} {k : Nat} {f C : Addr} {ps : List Str} {sp : Sp} {dvs : List V} {E : XK} {x m : Str} {p pos apos : Pos} {e o : Expr} {es : List Expr} {ta : TE} {t : TA}
abbrev HasX (X : Cx) := Has X.prog X.w X.K X.mg X.base
theorem pe_callH (h : HasX X k f ps dvs sp) (hr : Room k X.A) (hg : Gl X x) (hm : X.mg x = some (.ref f)) (hx : Passes (L2.CX X.prog X.w) X E) (ha : PA X (e :: es) t)
    (hdb : (x == ("__debug__" : Str)) = false := by decide) (he : starEach (e :: es) X.env = (false, eval e X.env) :: starEach es X.env := by rfl) (hpl : (backTo pos (starEach es X.env)).any (·.1) = false := by rfl) :
    PE X (.Call (.Name x p) (e :: es) [] pos) (tCall sp dvs E t) := by
  obtain ⟨hk, fd, ds, hd, hb, F⟩ := h
  exact pe_call F hr hg hm hk hb hd hx ha hdb he hpl
theorem pe_methH {pl : Sem Bool} (he : PE X o ta) (c : Cls X.K C) (hm : Meth X.K C m f) (h : HasX X k f ps dvs sp) (hr : Room k X.A) (hx : Passes (L2.CX X.prog X.w) X E) (ha : PA X (e :: es) t)
    (hst : starEach (e :: es) X.env = (false, eval e X.env) :: starEach es X.env := by rfl) (hpl : (backTo pos (starEach es X.env)).any (·.1) = false := by rfl)
    (ht : eval (.Call (.Attribute o m apos) (e :: es) [] pos) X.env = (do
      let ov ← eval o X.env
      standAt apos.atName
      let (f, first) ← holding [ov] (getMethod ov m pl)
      callWith pos f first (backTo pos (starEach (e :: es) X.env)) (backToKw pos (keywordEach [] X.env))) := by rfl) :
    PE X (.Call (.Attribute o m apos) (e :: es) [] pos) (tMeth C m sp dvs E ta t) := by
  obtain ⟨hk, fd, ds, hd, hb, F⟩ := h
  exact pe_meth (pl := pl) he c hm F hr hb hd hx ha hst hpl ht
theorem pe_makeH (M : Mk X.K C f) (h : HasX X k f ps dvs sp) (hr : Room (k + 1) X.A) (hg : Gl X x) (hm : X.mg x = some (.ref C)) (hx : Passes (L2.CX X.prog X.w) X E) (ha : PA X (e :: es) t)
    (hdb : (x == ("__debug__" : Str)) = false := by decide) (he : starEach (e :: es) X.env = (false, eval e X.env) :: starEach es X.env := by rfl) (hpl : (backTo pos (starEach es X.env)).any (·.1) = false := by rfl) :
    PE X (.Call (.Name x p) (e :: es) [] pos) (tMake C sp dvs E t) := by
  obtain ⟨hk, fd, ds, hd, hb, F⟩ := h
  exact pe_make M F hr hg hm hb hd hx ha hdb he hpl
theorem op_ownH {op : Operator} (h : HasX X k f ps [] sp) (hr : Room k X.A) (hx : Passes (L2.CX X.prog X.w) X E)
    (hc : PySem.W.selfFirst X.K C = true) (hm : Meth X.K C (PySem.dunder op.info.2) f) : OpR X (binaryOp op) (rOwn C sp E) := by
  obtain ⟨hk, fd, ds, hd, hb, F⟩ := h
  cases hd
  exact op_own F hr hb hx hc hm.at_ hm.fn
theorem op_eqOwnH (h : HasX X k f ps [] sp) (hr : Room k X.A) (hx : Passes (L2.CX X.prog X.w) X E) (hm : Meth X.K C "__eq__" f) : OpR X (compareOp .Eq) (rOwn C sp E) := by
  obtain ⟨hk, fd, ds, hd, hb, F⟩ := h
  cases hd
  exact op_eqOwn F hr hb hx hm.at_ hm.fn
theorem call_strOwnH (h : HasX X k f ps [] sp) (hr : Room (k + 2) X.A) (hx : Passes (L2.CX X.prog X.w) X E) (hm : Meth X.K C "__str__" f) : CallR X (.type "str") (rStrOwn C sp E) := by
  obtain ⟨hk, fd, ds, hd, hb, F⟩ := h
  cases hd
  exact call_strOwn F hr hb hx hm.at_ hm.fn
/-- a class called with keywords alone -/
def HasK (P : Program) (w : World) (K : PySem.W.Frag) (mg : Str → Option Value) (base : Heap) (k : Nat) (f : Addr) (ps : List Str) (n : Nat) (ks : List Str) (gV : List V → List V → List V) (sp : Sp) : Prop :=
  ∃ (fd : FuncData) (g : List Value → List Value → List Value), KBn K fd ps n ks g gV ∧ FnOk P w K mg base (L2.CX P w) k f fd ps sp
/-- the law's own def, as the end wants it -/
def IsLaw (P : Program) (w : World) (K : PySem.W.Frag) (mg : Str → Option Value) (base : Heap) (k : Nat) (f : Addr) (fd : FuncData) (ps : List Str) (sp : Sp) : Prop := FnOk P w K mg base (L2.CX P w) k f fd ps sp
end

/-! a def of no defaults: from its body to what it is -/
section
variable {P : Program} {w : World} {K : PySem.W.Frag} {mg : Str → Option Value} {base : Heap} {x qual : Str} {st : Stmt} {f : Addr} {fd : FuncData} {N ps : List Str} {k : Nat} {sp : Sp}
abbrev FnQ (K : PySem.W.Frag) (x q : Str) (st : Stmt) (ds : List V) (f : Addr) (fd : FuncData) : Prop := FunD K x q (defArgs st) (defBody st) (defScope st) ds [] f fd
/-- nothing is raised -/
theorem hasN (F : FnQ K x qual st [] f fd) (b : Binds K fd ps []) (S : FnScope N ps (defScope st)) (len : ∀ vs H Q E, sp vs H Q E → vs.length = ps.length)
    (hbody : ∀ (cdv : Value) (A : Around) (outer : List Env) (s : Shared) (H : Hp) (vs : List V) (Q : VK) (E : XK), Room k (A.deeper (envOfC qual (defScope st) s.heap.objs.size f cdv)) → sp vs H Q E →
      ∃ t, PSs (cxOf (L2.CX P w) P w K mg base N qual (defScope st) f cdv A outer s H E).nox (defBody st) t ∧ t { nx := fun _ H' => Q .non H', rt := Q } (start N vs) H) :
    Has P w K mg base (k + 1) f ps [] sp :=
  ⟨F.kp, fd, [], .nil, b, F.ok S len fun cdv A outer s H vs Q E hr h => by obtain ⟨t, h1, h2⟩ := hbody cdv A outer s H vs Q E hr h; exact ⟨t, h1.nox, h2⟩⟩
theorem hasX (F : FnQ K x qual st [] f fd) (b : Binds K fd ps []) (S : FnScope N ps (defScope st)) (len : ∀ vs H Q E, sp vs H Q E → vs.length = ps.length)
    (hbody : ∀ (cdv : Value) (A : Around) (outer : List Env) (s : Shared) (H : Hp) (vs : List V) (Q : VK) (E : XK), Room k (A.deeper (envOfC qual (defScope st) s.heap.objs.size f cdv)) → sp vs H Q E →
      ∃ t, PSs (cxOf (L2.CX P w) P w K mg base N qual (defScope st) f cdv A outer s H E) (defBody st) t ∧ t { nx := fun _ H' => Q .non H', rt := Q } (start N vs) H) :
    Has P w K mg base (k + 1) f ps [] sp :=
  ⟨F.kp, fd, [], .nil, b, F.ok S len hbody⟩
end

/-! one step of a reading -/
theorem ifT {c : Bool} {A B : Prop} (hc : c = true) (h : A) : if c = true then A else B := by rw [if_pos hc]; exact h
theorem ifF {c : Bool} {A B : Prop} (hc : c = false) (h : B) : if c = true then A else B := by rw [hc]; exact iteF h
theorem ifD {p : Prop} [Decidable p] {A B : Prop} (h1 : p → A) (h2 : ¬ p → B) : if (decide p) = true then A else B := by
  by_cases h : p
  · rw [if_pos (decide_eq_true h)]; exact h1 h
  · rw [if_neg (by rw [decide_eq_false h]; exact Bool.false_ne_true)]; exact h2 h
theorem ifB {c : Bool} {A B : Prop} (h1 : c = true → A) (h2 : c = false → B) : if c = true then A else B := by
  cases c with
  | true => exact iteT (h1 rfl)
  | false => exact iteF (h2 rfl)
end Tk

set_option linter.all false
/-! Fractions: what the program and the law make of a numerator and a denominator. -/
namespace Mt
abbrev rt (n d : Int) : Rat := Rat.divInt n d
def gz (n d : Int) : Int := (Nat.gcd n.natAbs d.natAbs : Nat)
theorem gz_pos {n d : Int} (h : 0 < d) : 0 < gz n d := by
  unfold gz
  have : 0 < Nat.gcd n.natAbs d.natAbs := Nat.gcd_pos_of_pos_right _ (by omega)
  omega
theorem gz_le {n d : Int} (h : 0 < d) : gz n d ≤ d := by
  unfold gz
  have : Nat.gcd n.natAbs d.natAbs ≤ d.natAbs := Nat.le_of_dvd (by omega) (Nat.gcd_dvd_right _ _)
  omega
theorem rt_num {n d : Int} (h : 0 < d) : (rt n d).num = n / gz n d := by
  unfold rt gz
  rw [Rat.num_divInt, Int.sign_eq_one_of_pos h, Int.one_mul]
  congr 1
  rw [Int.gcd_comm]; rfl
theorem rt_den {n d : Int} (h : 0 < d) : ((rt n d).den : Int) = d / gz n d := by
  unfold rt gz
  rw [Rat.den_divInt, if_neg (by omega)]
  have e : d.gcd n = Nat.gcd n.natAbs d.natAbs := by rw [Int.gcd_comm]; rfl
  rw [e]
  have : ((d.natAbs : Nat) : Int) = d := by omega
  rw [Int.natCast_ediv, this]
theorem rt_self (q : Rat) : rt q.num q.den = q := Rat.num_divInt_den q
theorem den_pos (q : Rat) : 0 < (q.den : Int) := by have := q.den_nz; omega

/-- Euclid, so many turns -/
def eu : Nat → Int → Int → Int
  | 0, a, _ => a
  | k + 1, a, b => if b = 0 then a else eu k b (a % b)
theorem eu_zero (k : Nat) (a : Int) : eu k a 0 = a := by cases k <;> simp [eu]
theorem gcd_step (a b : Int) (ha : 0 ≤ a) (hb : 0 < b) : Nat.gcd a.natAbs b.natAbs = Nat.gcd b.natAbs (a % b).natAbs := by
  have e : (a % b).natAbs = a.natAbs % b.natAbs := by
    obtain ⟨x, rfl⟩ := Int.eq_ofNat_of_zero_le ha
    obtain ⟨y, rfl⟩ := Int.eq_ofNat_of_zero_le (Int.le_of_lt hb)
    rw [← Int.natCast_emod]; rfl
  rw [e, Nat.gcd_comm, Nat.gcd_rec, Nat.gcd_comm]
theorem half (b r s : Int) (h0 : 0 < r) (h1 : r < b) (hs : s = b % r) : 2 * s < b := by
  subst hs
  have h2 := Int.emod_lt_of_pos b h0
  have h3 := Int.emod_nonneg b (by omega : r ≠ 0)
  have h4 := Int.mul_ediv_add_emod b r
  have h5 : 1 ≤ b / r := by
    have := Int.le_ediv_of_mul_le h0 (by omega : 1 * r ≤ b)
    exact this
  have h6 : r ≤ r * (b / r) := by
    have := Int.mul_le_mul_of_nonneg_left h5 (Int.le_of_lt h0)
    omega
  omega
theorem eu_gcd : ∀ (m k : Nat) (a b : Int), 0 ≤ a → 0 ≤ b → b < 2 ^ m → 2 * m + 2 ≤ k → eu k a b = (Nat.gcd a.natAbs b.natAbs : Nat)
  | m, k, a, b, ha, hb, hm, hk => by
    by_cases h0 : b = 0
    · subst h0; rw [eu_zero]; simp; omega
    · obtain ⟨k, rfl⟩ : ∃ j, k = j + 2 := ⟨k - 2, by omega⟩
      have hb' : 0 < b := by omega
      rw [gcd_step a b ha hb']
      have hr0 := Int.emod_nonneg a h0
      have hr1 := Int.emod_lt_of_pos a hb'
      show (if b = 0 then a else eu (k + 1) b (a % b)) = _
      rw [if_neg h0]
      by_cases h1 : a % b = 0
      · rw [h1, eu_zero]; simp; omega
      · have hr' : 0 < a % b := by omega
        rw [gcd_step b (a % b) hb hr']
        show (if a % b = 0 then b else eu k (a % b) (b % (a % b))) = _
        rw [if_neg h1]
        have hh := half b (a % b) _ hr' hr1 rfl
        cases m with
        | zero => simp at hm; omega
        | succ m =>
          have : b % (a % b) < 2 ^ m := by rw [Int.pow_succ] at hm; omega
          exact eu_gcd m k _ _ (by omega) (Int.emod_nonneg _ h1) this (by omega)
theorem eu_gz {n d : Int} (h : 0 < d) (hd : d < 2 ^ 1999) : eu 4000 (if n < 0 then -n else n) d = gz n d := by
  rw [eu_gcd 1999 4000 _ d (by split <;> omega) (by omega) hd (by omega)]
  unfold gz
  congr 2
  split <;> omega
/-! sizes -/
/-- the fraction's denominator divides N, the fraction lies between -B and B -/
def Sz (N B : Nat) (q : Rat) : Prop := q.den ∣ N ∧ q.num.natAbs ≤ B * q.den
end Mt

set_option Elab.async false
set_option linter.all false
set_option maxRecDepth 100000
set_option maxHeartbeats 4000000
/-! Cuts: what holds between two statements, behind a loop. -/
namespace Tk
open PySem PySem.Spec PyProof.Rows L2
theorem seq_cut {s1 s2 : TS} {D : Ends} {σ : L2.St} {H : Hp} (Mid : L2.St → Hp → Prop) (h1 : ∀ nx : L2.St → Hp → Prop, (∀ σ' H', Mid σ' H' → nx σ' H') → s1 { D with nx := nx } σ H) (h2 : ∀ σ' H', Mid σ' H' → s2 D σ' H') : tSeq s1 s2 D σ H :=
  h1 (s2 D) h2
theorem for_rangeP {lo : Int} {n : Nat} {g : TG} {tb : TS} {D : Ends} {σ : L2.St} {H : Hp} (Post : L2.St → Hp → Prop) (Pv : Nat → L2.St → Hp → Prop) (h0 : Pv 0 σ H)
    (hs : ∀ nx : L2.St → Hp → Prop, (∀ σ' H', Post σ' H' → nx σ' H') → ∀ i σ H, i < n → Pv i σ H → g (.int (lo + i)) σ H fun σ2 H2 => tb { D with nx := Pv (i + 1), ct := Pv (i + 1), bk := nx } σ2 H2)
    (hd : ∀ σ H, Pv n σ H → Post σ H) (fin : ∀ σ' H', Post σ' H' → D.nx σ' H') :
    ∃ W : Nat → Nat → L2.St → Hp → Prop, (∃ m, W 0 m σ H) ∧ ∀ i m σ H, W i m σ H →
      ((Itr lo n).stop i H ∧ D.nx σ H) ∨ ((Itr lo n).go i H ∧ ∃ N : L2.St → Hp → Prop, (∀ σ' H', N σ' H' → ∃ m', m' < m ∧ W (i + 1) m' σ' H') ∧ ∀ x H', (Itr lo n).yld i H x H' → g x σ H' fun σ2 H2 => tb { D with nx := N, ct := N, bk := D.nx } σ2 H2) :=
  for_range Pv h0 (hs D.nx fin) (fun σ H p => fin σ H (hd σ H p))
theorem ix_l {K : PySem.W.Frag} {H : Hp} {a : Addr} {xs : List V} {j : Nat} {v : V} {i : Int} {Q : VK} (h : SqL K H a xs) (e : i = (j : Int)) (hj : xs[j]? = some v) (k : Q v H) : rIxL K (.ref a) (.int i) H Q := ⟨a, xs, i, v, rfl, rfl, h, at_of e hj, k⟩
theorem ix_t {K : PySem.W.Frag} {H : Hp} {a : Addr} {xs : List V} {j : Nat} {v : V} {i : Int} {Q : VK} (h : SqT K H a xs) (e : i = (j : Int)) (hj : xs[j]? = some v) (k : Q v H) : rIxT K (.ref a) (.int i) H Q := ⟨a, xs, i, v, rfl, rfl, h, at_of e hj, k⟩
end Tk
namespace Tk
open PySem PySem.Spec PyProof.Rows L2
section
variable {P : Program} {w : World} {K : PySem.W.Frag} {mg : Str → Option Value} {base : Heap} {x qual : Str} {st : Stmt} {f : Addr} {fd : FuncData} {N ps : List Str} {k : Nat} {sp sp' : Sp} {CX : CXT}
theorem fnOr (A : FnOk P w K mg base CX k f fd ps sp) (B : FnOk P w K mg base CX k f fd ps sp') : FnOk P w K mg base CX k f fd ps (fun vs H Q E => sp vs H Q E ∨ sp' vs H Q E) :=
  ⟨fun vs H Q E h => h.elim (A.len vs H Q E) (B.len vs H Q E), fun A' outer s H args us vs Q E hr he hb hv h => h.elim (A.run A' outer s H args us vs Q E hr he hb hv) (B.run A' outer s H args us vs Q E hr he hb hv)⟩
theorem fnN (F : FnQ K x qual st [] f fd) (S : FnScope N ps (defScope st)) (len : ∀ vs H Q E, sp vs H Q E → vs.length = ps.length)
    (hbody : ∀ (cdv : Value) (A : Around) (outer : List Env) (s : Shared) (H : Hp) (vs : List V) (Q : VK) (E : XK), Room k (A.deeper (envOfC qual (defScope st) s.heap.objs.size f cdv)) → sp vs H Q E →
      ∃ t, PSs (cxOf (L2.CX P w) P w K mg base N qual (defScope st) f cdv A outer s H E).nox (defBody st) t ∧ t { nx := fun _ H' => Q .non H', rt := Q } (start N vs) H) :
    FnOk P w K mg base (L2.CX P w) (k + 1) f fd ps sp :=
  F.ok S len fun cdv A outer s H vs Q E hr h => by obtain ⟨t, h1, h2⟩ := hbody cdv A outer s H vs Q E hr h; exact ⟨t, h1.nox, h2⟩
end
end Tk

set_option Elab.async false
set_option linter.all false
set_option maxRecDepth 100000
set_option maxHeartbeats 4000000
/-! Errors: calls in a try, isinstance of what was caught. -/
namespace Tk
open PySem PySem.Spec PyProof.Rows L2
section
variable {X : Cx} {k : Nat} {f C : Addr} {ps : List Str} {sp : Sp} {dvs : List V} {E : L2.St → XK} {x m : Str} {p pos apos : Pos} {e o : Expr} {es : List Expr} {ta : TE} {t : TA}
/-- C(e, ..) in a try: what is raised is wished for at the slots as they are -/
def tMakeS (C : Addr) (sp : Sp) (dvs : List V) (E : L2.St → XK) (t : TA) : TE := fun σ H Q => t σ H fun vs H1 => ∀ x dx, H1 x = none → H1 dx = none → dx ≠ x →
  sp (.ref x :: (vs ++ dvs)) (upd (upd H1 dx (.own x)) x (.ins C dx [])) (fun v H2 => v = .non ∧ Q (.ref x) H2) (E σ)
theorem pe_makeSH (M : Mk X.K C f) (h : HasX X k f ps dvs sp) (hr : Room (k + 1) X.A) (hg : Gl X x) (hm : X.mg x = some (.ref C)) (hx : ∀ σ, PassesAt (L2.CX X.prog X.w) X σ (E σ)) (ha : PA X (e :: es) t)
    (hdb : (x == ("__debug__" : Str)) = false := by decide) (he : starEach (e :: es) X.env = (false, eval e X.env) :: starEach es X.env := by rfl) (hpl : (backTo pos (starEach es X.env)).any (·.1) = false := by rfl) :
    PE X (.Call (.Name x p) (e :: es) [] pos) (tMakeS C sp dvs E t) := by
  obtain ⟨_, fd, ds, hd, hb, F⟩ := h
  constructor
  intro pins s σ H Q I hq0
  refine wpAny_Call_Name_kw (ld_glob I hg hm (PySem.W.callWith_K (h₀ := X.base) I.ok.mod.kin M.kp (thn (ha.run pos pins s σ H _ I hq0) ?_) he hpl) hdb)
  rintro us s1 ⟨vs, H1, I1, r, q⟩
  refine ⟨I1.kIn, ?_⟩
  have q' := q (s1.heap.objs.size + 1) s1.heap.objs.size (I1.hok.fresh (Nat.le_succ _)) (I1.hok.fresh (Nat.le_refl _)) (Nat.ne_of_lt (Nat.lt_succ_self _))
  have I2 := Inv.made (C := C) I1
  have rr : Vals (V.ref (s1.heap.objs.size + 1) :: (vs ++ dvs)) (Value.ref (s1.heap.objs.size + 1) :: us ++ ds) := .cons rfl (r.append hd)
  have hl := rr.length.symm.trans (F.len _ _ _ _ q')
  have go := F.run _ X.stack _ _ ⟨Value.ref (s1.heap.objs.size + 1) :: us, []⟩ _ _ _ _ (hr.make C us []) (I2.env0.make C us []) (hb _ _ I2.kIn hl) rr q'
  refine wpAny_call (make_map (f := f) I1.kIn M.makes M.init (beq_iff_eq.mp M.fn) (codeAny_mono go ?_))
  intro res s' z
  cases res with
  | error err => exact hx σ pins _ _ err s' I2 z
  | ok fl => cases fl with
    | ret u =>
      obtain ⟨v, H', I3, rv, ev, q3⟩ := I2.after z
      subst ev
      exact ⟨rv, V.ref (s1.heap.objs.size + 1), H', I3, rfl, q3⟩
    | _ => exact False.elim z
/-- o.m(e, ..) in a try -/
def tMethS (C : Addr) (m : Str) (sp : Sp) (dvs : List V) (E : L2.St → XK) (ta : TE) (t : TA) : TE := fun σ H Q => ta σ H fun x H1 => ∃ a dx fs, x = .ref a ∧ H1 a = some (.ins C dx fs) ∧ fs.lookup m = none ∧
  t σ H1 fun vs H2 => sp (x :: (vs ++ dvs)) H2 Q (E σ)
theorem pe_methSH {pl : Sem Bool} (he : PE X o ta) (c : Cls X.K C) (hm : Meth X.K C m f) (h : HasX X k f ps dvs sp) (hr : Room k X.A) (hx : ∀ σ, PassesAt (L2.CX X.prog X.w) X σ (E σ)) (ha : PA X (e :: es) t)
    (hst : starEach (e :: es) X.env = (false, eval e X.env) :: starEach es X.env := by rfl) (hpl : (backTo pos (starEach es X.env)).any (·.1) = false := by rfl)
    (ht : eval (.Call (.Attribute o m apos) (e :: es) [] pos) X.env = (do
      let ov ← eval o X.env
      standAt apos.atName
      let (f, first) ← holding [ov] (getMethod ov m pl)
      callWith pos f first (backTo pos (starEach (e :: es) X.env)) (backToKw pos (keywordEach [] X.env))) := by rfl) :
    PE X (.Call (.Attribute o m apos) (e :: es) [] pos) (tMethS C m sp dvs E ta t) := by
  obtain ⟨_, fd, ds, hd, hb, F⟩ := h
  constructor
  intro pins s σ H Q I hq0
  refine PySem.W.methodCall_KW (pl := pl) (thn (he.run pins s σ H _ I hq0) ?_) ht
  rintro u s1 ⟨x, H1, I1, rx, a, dx, fs, rfl, ea, l, q⟩
  cases rx
  refine getmeth_ok I1 ea c hm l (PySem.W.callWith_K (first := [.ref a]) (h₀ := X.base) I.ok.mod.kin hm.kp (thn (ha.run pos pins s1 σ H1 _ I1 q) ?_) hst hpl)
  rintro us s2 ⟨vs, H2, I2, r, q2⟩
  exact ⟨I2.kIn, run_fnSD (us := .ref a :: us) (vs := .ref a :: vs) F hr hb hd (hx σ) I2 (.cons rfl r) q2⟩
/-- isinstance of the caught exception, its class D (no fields) told by the reading -/
def rIsEq (K : PySem.W.Frag) (D a : Addr) (cls : Value) (d : Option Addr) : List V → Hp → VK → Prop := fun xs H Q => cls = .ref D ∧ d = none ∧ rIsE K D a xs H Q
theorem call_isEq {a D : Addr} {oe : Obj} {cls : Value} {d : Option Addr} {pn : List (Addr × Obj)} (c : ExcC X.K D) (hz : Zc cls d oe) (hf : ∃ vs, oe.data = .fields vs) : CallR (X.suite a ((a, oe) :: pn)) (.builtin "isinstance") (rIsEq X.K D a cls d) := by
  intro pins s σ H xs us Q I r h
  obtain ⟨rfl, rfl, h⟩ := h
  exact call_isE (X := X) (a := a) (oe := oe) (pn := pn) c hz hf pins s σ H xs us Q I r h
def rIsET (K : PySem.W.Frag) (D a : Addr) (cls : Value) (d : Option Addr) : List V → Hp → VK → Prop := fun xs H Q => cls = .ref D ∧ d = none ∧ ∃ (tp : Addr) (cs : List V) (us : List Value) (b : Bool), xs = [.ref a, .ref tp] ∧ H tp = some (.tup cs) ∧ Paired ClsV cs us ∧ PySem.W.kitAny K (.ref D) us = some b ∧ Q (.bl b) H
theorem call_isET {a D : Addr} {oe : Obj} {cls : Value} {d : Option Addr} {pn : List (Addr × Obj)} (c : ExcC X.K D) (hz : Zc cls d oe) (hf : ∃ vs, oe.data = .fields vs) : CallR (X.suite a ((a, oe) :: pn)) (.builtin "isinstance") (rIsET X.K D a cls d) := by
  intro pins s σ H xs us Q I r h
  obtain ⟨rfl, rfl, tp, cs, ws, b, rfl, htp, hcs, e, q⟩ := h
  obtain ⟨u1, u2, rfl, r1, r2⟩ := vals2 r
  cases r1; cases r2
  obtain ⟨hget, _⟩ := I.pin (a, oe) (List.mem_append.mpr (.inl List.mem_cons_self))
  obtain ⟨vs, hv⟩ := hf
  have J : PySem.W.InstAt s.heap a oe D none := by
    obtain ⟨oc, od, oda, osl⟩ := oe
    obtain ⟨h1, h2⟩ := hz
    dsimp only at h1 h2 hv
    subst h1 h2 hv
    exact ⟨hget, rfl, rfl, trivial⟩
  have ob : ObjOk X.prog X.w H s.heap tp (.tup cs) := I.hok tp _ htp
  obtain ⟨_, its, rv, ⟨oc, od, oda, osl⟩, g1, g2, n, g3⟩ := ob
  dsimp only at g2 g3
  subst g2 g3
  have ew := ClsV.all hcs rv
  subst ew
  exact PySem.W.kia_tup (PySem.W.handS_kitx_exc c.hg c.hk c.hs c.hd c.ha c.hn c.ht c.hm) I.kIn J g1 e (fun z => nomatch z) fun tk => ⟨.bl b, H, I.kept (t' := tk) fun _ _ z => z, rfl, q⟩
end
end Tk
namespace Tk
open PySem PySem.Spec PyProof.Rows L2
theorem cx_none {P : Program} {w : World} {outer : List Env} {H : Hp} {s s' : Shared} {e : Value} (h : L2.CX P w outer H s E0 e s') : False := by
  obtain ⟨_, _, _, _, _, _, _, _, _, _, _, _, z⟩ := h
  exact z
/-- a def that raises nothing, seen so -/
theorem fn0 {P : Program} {w : World} {K : PySem.W.Frag} {mg : Str → Option Value} {base : Heap} {k : Nat} {f : Addr} {fd : FuncData} {ps : List Str} {sp : Sp} (F : FnOk P w K mg base (L2.CX P w) k f fd ps sp) :
    FnOk P w K mg base CX0 k f fd ps (fun vs H Q _ => sp vs H Q E0) :=
  ⟨fun vs H Q _ h => F.len vs H Q E0 h, fun A outer s H args us vs Q E hr he hb hv h => codeAny_mono (F.run A outer s H args us vs Q E0 hr he hb hv h) (fun r s' z => by
    cases r with
    | error e => exact (cx_none z).elim
    | ok fl => cases fl <;> exact z)⟩
end Tk

set_option Elab.async false
set_option linter.all false
set_option maxRecDepth 100000
set_option maxHeartbeats 4000000
/-! Errors with fields: what was caught is asked for its class and read. -/
namespace Tk
open PySem PySem.Spec PyProof.Rows L2
section
variable {X : Cx}
theorem xd_inst {a D dd : Addr} {oe : Obj} {pn : List (Addr × Obj)} {fs : List (Str × V)} {pins : List (Addr × Obj)} {σ : L2.St} {H : Hp} {s : Shared} (I : Inv (X.suite a ((a, oe) :: pn)) pins σ H s)
    (hz : Zc (.ref D) (some dd) oe) (hf : ∃ vs, oe.data = .fields vs) (h : H dd = some (.xd fs)) : ∃ od, PySem.W.InstAt s.heap a oe D (some od) := by
  obtain ⟨hget, _⟩ := I.pin (a, oe) (List.mem_append.mpr (.inl List.mem_cons_self))
  obtain ⟨vs, hv⟩ := hf
  have hx : ObjOk X.prog X.w H s.heap dd (.xd fs) := I.hok dd _ h
  obtain ⟨mA, hns, hr⟩ := hx
  obtain ⟨od, ho, hl⟩ := lookIn_ns hns
  exact ⟨od, hget, hz.1, by unfold PySem.W.notCls; rw [hv] <;> rfl, by rw [hz.2]; exact ho⟩
theorem exc_cls {K : PySem.W.Frag} {D : Addr} (c : ExcC K D) : (PySem.W.clsIn K D).isSome = true := by
  obtain ⟨cd, hc, _⟩ := PySem.W.any_some c.hd
  rw [hc]; rfl
/-- isinstance of the caught exception, one that has fields -/
def rIsEd (K : PySem.W.Frag) (D a : Addr) (cls : Value) (d : Option Addr) : List V → Hp → VK → Prop := fun xs H Q => cls = .ref D ∧ (∃ dd fs, d = some dd ∧ H dd = some (.xd fs)) ∧ rIsE K D a xs H Q
theorem call_isEd {a D : Addr} {oe : Obj} {cls : Value} {d : Option Addr} {pn : List (Addr × Obj)} (c : ExcC X.K D) (hz : Zc cls d oe) (hf : ∃ vs, oe.data = .fields vs) : CallR (X.suite a ((a, oe) :: pn)) (.builtin "isinstance") (rIsEd X.K D a cls d) := by
  intro pins s σ H xs us Q I r h
  obtain ⟨rfl, ⟨dd, fs, rfl, hd⟩, cc, cv, b, rfl, hcv, e, q⟩ := h
  obtain ⟨u1, u2, rfl, r1, r2⟩ := vals2 r
  cases r1
  have ec := hcv _ r2
  subst ec
  obtain ⟨od, J⟩ := xd_inst I hz hf hd
  exact PySem.W.kia_one (PySem.W.kitx_exc (exc_cls c) c.hg c.hk c.hs c.ha c.hn c.ht c.hm) I.kIn J e (fun z => nomatch z) fun tk => ⟨.bl b, H, I.kept (t' := tk) fun _ _ z => z, rfl, q⟩
def rIsETd (K : PySem.W.Frag) (D a : Addr) (cls : Value) (d : Option Addr) : List V → Hp → VK → Prop := fun xs H Q => cls = .ref D ∧ (∃ dd fs, d = some dd ∧ H dd = some (.xd fs)) ∧ ∃ (tp : Addr) (cs : List V) (us : List Value) (b : Bool), xs = [.ref a, .ref tp] ∧ H tp = some (.tup cs) ∧ Paired ClsV cs us ∧ PySem.W.kitAny K (.ref D) us = some b ∧ Q (.bl b) H
theorem call_isETd {a D : Addr} {oe : Obj} {cls : Value} {d : Option Addr} {pn : List (Addr × Obj)} (c : ExcC X.K D) (hz : Zc cls d oe) (hf : ∃ vs, oe.data = .fields vs) : CallR (X.suite a ((a, oe) :: pn)) (.builtin "isinstance") (rIsETd X.K D a cls d) := by
  intro pins s σ H xs us Q I r h
  obtain ⟨rfl, ⟨dd, fs, rfl, hd⟩, tp, cs, ws, b, rfl, htp, hcs, e, q⟩ := h
  obtain ⟨u1, u2, rfl, r1, r2⟩ := vals2 r
  cases r1; cases r2
  obtain ⟨od, J⟩ := xd_inst I hz hf hd
  have ob : ObjOk X.prog X.w H s.heap tp (.tup cs) := I.hok tp _ htp
  obtain ⟨_, its, rv, ⟨oc, od', oda, osl⟩, g1, g2, n, g3⟩ := ob
  dsimp only at g2 g3
  subst g2 g3
  have ew := ClsV.all hcs rv
  subst ew
  exact PySem.W.kia_tup (PySem.W.kitx_exc (exc_cls c) c.hg c.hk c.hs c.ha c.hn c.ht c.hm) I.kIn J g1 e (fun z => nomatch z) fun tk => ⟨.bl b, H, I.kept (t' := tk) fun _ _ z => z, rfl, q⟩
end
/-- an error class over ValueError, as it lies there -/
def clsO (C : Addr) (o : Obj) : Bool := match o.data with
  | .cls cd => decide (o.cls = .type "type") && (decide (cd.mro.head? = some (.ref C)) && (HandSPX.refsVE cd.mro.tail && (decide (o.slots.size = 6) && (decide (o.slots[4]? = some (some (.builtin "ValueError.__new__"))) && (cd.hasDict && !cd.hasDel)))))
  | _ => false
theorem six {α : Type} {l : List α} (h : l.length = 6) : ∃ a b c d e f, l = [a, b, c, d, e, f] := by
  match l, h with
  | [a, b, c, d, e, f], _ => exact ⟨a, b, c, d, e, f, rfl⟩
theorem clsO_ok {C : Addr} {o : Obj} (h : clsO C o = true) : ∃ nm q N bs bm sn sub ab col dd k0 k1 k2 k3 k5, o = excClassObj nm q C N bs bm true sn sub ab col dd k0 k1 k2 k3 k5 "ValueError.__new__" ∧ HandSPX.refsVE bm = true := by
  obtain ⟨oc, od, oda, osl⟩ := o
  unfold clsO at h
  split at h
  case h_2 => cases h
  rename_i cd e
  dsimp only at e
  subst e
  obtain ⟨h1, h⟩ := He.ba h
  obtain ⟨h2, h⟩ := He.ba h
  obtain ⟨h3, h⟩ := He.ba h
  obtain ⟨h4, h⟩ := He.ba h
  obtain ⟨h5, h⟩ := He.ba h
  obtain ⟨h6, h7⟩ := He.ba h
  replace h1 := of_decide_eq_true h1
  replace h2 := of_decide_eq_true h2
  replace h4 := of_decide_eq_true h4
  replace h5 := of_decide_eq_true h5
  obtain ⟨nm, bs, mro, ns, qn, hd, sn, sub, ab, col, del⟩ := cd
  dsimp only at h1 h2 h3 h4 h5 h6 h7
  obtain ⟨l⟩ := osl
  obtain ⟨k0, k1, k2, k3, k4, k5, rfl⟩ := six (show l.length = 6 from h4)
  replace h5 : k4 = some (.builtin "ValueError.__new__") := by simpa using h5
  cases mro with
  | nil => cases h2
  | cons m bm =>
    replace h2 : m = .ref C := by simpa using h2
    subst h1 h2 h5 h6
    replace h7 : del = false := by simpa using h7
    subst h7
    exact ⟨nm, qn, ns, bs, bm, sn, sub, ab, col, od, k0, k1, k2, k3, k5, rfl, h3⟩
/-- what the head tells of such a class with its own __init__ and a field -/
structure OexF (K : PySem.W.Frag) (C f : Addr) (fld : Str) : Prop where
  T : OexC K C
  iC : PySem.W.findIn K (.ref C) "__init__" = some (some (.ref f))
  tI : PySem.W.typeIn K (.ref f) = some (.type "function")
  no : PySem.W.findIn K (.ref C) fld = some none
  xf : XfC K C
def oexB (K : PySem.W.Frag) (x fld : Str) : Bool :=
  (match K.lookup (He.ga K x) with
    | some o => clsO (He.ga K x) o
    | none => false) &&
  (decide (PySem.W.findIn K (.ref (He.ga K x)) "__setattr__" = some (some (.builtin "object.__setattr__"))) &&
  (decide (PySem.W.subIn K (.ref (He.ga K x)) (.type "BaseException") = some true) &&
  (decide (PySem.W.typeIn K (.ref (He.ga K x)) = some (.type "type")) &&
  (PySem.W.keepIn K (.ref (He.ga K x)) &&
  (decide (PySem.W.findIn K (.ref (He.ga K x)) "__init__" = some (some (.ref (He.ma K (He.ga K x) "__init__")))) &&
  (decide (PySem.W.typeIn K (.ref (He.ma K (He.ga K x) "__init__")) = some (.type "function")) &&
  (decide (PySem.W.findIn K (.ref (He.ga K x)) fld = some none) && xfB K (He.ga K x))))))))
theorem oexB_ok {K : PySem.W.Frag} {x fld : Str} (h : oexB K x fld = true) : OexF K (He.ga K x) (He.ma K (He.ga K x) "__init__") fld := by
  obtain ⟨h1, h⟩ := He.ba h
  obtain ⟨h2, h⟩ := He.ba h
  obtain ⟨h3, h⟩ := He.ba h
  obtain ⟨h4, h⟩ := He.ba h
  obtain ⟨h5, h⟩ := He.ba h
  obtain ⟨h6, h⟩ := He.ba h
  obtain ⟨h7, h⟩ := He.ba h
  obtain ⟨h8, h9⟩ := He.ba h
  have hc : ∃ nm q N bs bm sn sub ab col dd k0 k1 k2 k3 k5, K.lookup (He.ga K x) = some (excClassObj nm q (He.ga K x) N bs bm true sn sub ab col dd k0 k1 k2 k3 k5 "ValueError.__new__") ∧ HandSPX.refsVE bm = true := by
    cases e : K.lookup (He.ga K x) with
    | none => rw [e] at h1; cases h1
    | some o =>
      rw [e] at h1
      obtain ⟨nm, q, N, bs, bm, sn, sub, ab, col, dd, k0, k1, k2, k3, k5, eo, hb⟩ := clsO_ok h1
      exact ⟨nm, q, N, bs, bm, sn, sub, ab, col, dd, k0, k1, k2, k3, k5, by rw [eo], hb⟩
  exact ⟨⟨hc, of_decide_eq_true h2, of_decide_eq_true h3, of_decide_eq_true h4, h5⟩, of_decide_eq_true h6, of_decide_eq_true h7, of_decide_eq_true h8, xfB_ok h9⟩
end Tk

set_option Elab.async false
set_option linter.all false
set_option maxRecDepth 100000
set_option maxHeartbeats 4000000
/-! Tuples of texts that the top leaves. -/
namespace Tk
open PySem PySem.Spec PyProof.Rows L2
def strsB : List Value → List Str → Bool
  | [], [] => true
  | .str x _ :: r, y :: s => decide (x = y) && strsB r s
  | _, _ => false
theorem strsB_ok : ∀ {us : List Value} {ys : List Str}, strsB us ys = true → Vals (ys.map V.str) us := by
  intro us
  induction us with
  | nil =>
    intro ys h
    cases ys with
    | nil => exact .nil
    | cons y s => cases h
  | cons u r ih =>
    intro ys h
    cases ys with
    | nil => cases u <;> cases h
    | cons y s =>
      cases u with
      | str x t =>
        obtain ⟨h1, h2⟩ := He.ba (show (decide (x = y) && strsB r s) = true from h)
        have e := of_decide_eq_true h1
        subst e
        exact .cons ⟨t, rfl⟩ (ih h2)
      | _ => cases h
def tupO (o : Obj) (l : List Str) : Bool := match o.data with
  | .seq its n => decide (o.cls = .type "tuple") && (decide (its.size ≤ sizeLine) && strsB its.toList l)
  | _ => false
def tupB (K : PySem.W.Frag) (x : Str) (l : List Str) : Bool := match K.lookup (He.ga K x) with
  | some o => tupO o l
  | none => false
theorem tupO_ok {o : Obj} {l : List Str} (h : tupO o l = true) : ∃ its n, o.cls = .type "tuple" ∧ o.data = .seq its n ∧ its.size ≤ sizeLine ∧ Vals (l.map V.str) its.toList := by
  unfold tupO at h
  split at h
  · rename_i its n q
    obtain ⟨h1, h⟩ := He.ba h
    obtain ⟨h2, h3⟩ := He.ba h
    exact ⟨its, n, of_decide_eq_true h1, q, of_decide_eq_true h2, strsB_ok h3⟩
  · cases h
theorem tupB_ok {K : PySem.W.Frag} {x : Str} {l : List Str} (h : tupB K x l = true) (H : Hp) : SqT K H (He.ga K x) (l.map V.str) := by
  unfold tupB at h
  cases e : K.lookup (He.ga K x) with
  | none => rw [e] at h; cases h
  | some o =>
    rw [e] at h
    obtain ⟨its, n, h1, h2, h3, h4⟩ := tupO_ok h
    exact .inr ⟨o, its, n, e, h1, h2, h3, h4⟩
end Tk

set_option Elab.async false
set_option linter.all false
set_option maxRecDepth 100000
set_option maxHeartbeats 0
/-! ### the text by places, the head -/
namespace Hd
open PySem PySem.Spec PyProof.Rows L2 Tk
def top (i : Nat) : Stmt := PySem.Challenge.pw_notesttells_k41_tests_that_are_too_long.main.body.getD i (.Pass ⟨0, 0, 0, 0⟩)
abbrev s__wall : Stmt := top 1
abbrev s_weights_of : Stmt := top 3
abbrev s_leading : Stmt := top 4
abbrev s_next_numbers : Stmt := top 5
abbrev s__digits : Stmt := top 15
abbrev s_total : Stmt := top 17
abbrev s_are_lots : Stmt := top 18
abbrev s_common_factor : Stmt := top 21
abbrev s_whole : Stmt := top 22
abbrev s__leaving : Stmt := top 28
abbrev s_best_test : Stmt := top 29
abbrev s_plan_chance : Stmt := top 30
abbrev s__ask_test : Stmt := top 31
abbrev s__table : Stmt := top 37
abbrev s__fault : Stmt := top 38
abbrev s__out_of : Stmt := top 39
abbrev s__is_square : Stmt := top 40
abbrev s__leads_on : Stmt := top 41
abbrev s__law_pool : Stmt := top 43
abbrev s__law_draw : Stmt := top 44
abbrev s__law_same : Stmt := top 45
abbrev s__law_less : Stmt := top 46
abbrev s__law_cells : Stmt := top 47
abbrev s__law_machine : Stmt := top 48
abbrev s__law_made : Stmt := top 49
abbrev s_law : Stmt := top 50
abbrev s_BadText_init : Stmt := inClass (top 8) 0
abbrev s_BadPaper_init : Stmt := inClass (top 9) 0
abbrev s_BadMachine_init : Stmt := inClass (top 10) 0
abbrev s_TooLarge_init : Stmt := inClass (top 11) 0
abbrev s_Ratio_init : Stmt := inClass (top 16) 0
abbrev s_Ratio_add : Stmt := inClass (top 16) 1
abbrev s_Ratio_sub : Stmt := inClass (top 16) 2
abbrev s_Ratio_mul : Stmt := inClass (top 16) 3
abbrev s_Ratio_eq : Stmt := inClass (top 16) 4
abbrev s_Ratio_str : Stmt := inClass (top 16) 5
abbrev s_Ratio_less : Stmt := inClass (top 16) 6
abbrev s_Ratio_by : Stmt := inClass (top 16) 7
abbrev s_Whole_init : Stmt := inClass (top 20) 0
abbrev s_Whole_ratios : Stmt := inClass (top 20) 1
abbrev s_Both_init : Stmt := inClass (top 24) 0
abbrev s_Both__columns : Stmt := inClass (top 24) 1
abbrev s_Both_next_whole : Stmt := inClass (top 24) 2
abbrev s_Both_is_even : Stmt := inClass (top 24) 3
abbrev s_Trial_init : Stmt := inClass (top 27) 0
abbrev s_Trial_behind : Stmt := inClass (top 27) 1
abbrev s_Trial_likelihood : Stmt := inClass (top 27) 2
abbrev s_Trial_best : Stmt := inClass (top 27) 3
abbrev s_Trial_right : Stmt := inClass (top 27) 4
abbrev s_Machine_init : Stmt := inClass (top 36) 0
abbrev s_Machine_eq : Stmt := inClass (top 36) 1
abbrev s_Machine_states : Stmt := inClass (top 36) 2
abbrev s_Machine_buttons : Stmt := inClass (top 36) 3
abbrev s_Machine_answers : Stmt := inClass (top 36) 4
abbrev FnP (K : PySem.W.Frag) (x q : Str) (st : Stmt) (ds : List V) (f : Addr) (fd : FuncData) : Prop := FunD K x q (defArgs st) (defBody st) (defScope st) ds [] f fd
def d__wall : He.DefD := ⟨("_wall", none), "_wall", "_wall", defArgs s__wall, defBody s__wall, defScope s__wall, [], []⟩
def d_weights_of : He.DefD := ⟨("weights_of", none), "weights_of", "weights_of", defArgs s_weights_of, defBody s_weights_of, defScope s_weights_of, [], []⟩
def d_leading : He.DefD := ⟨("leading", none), "leading", "leading", defArgs s_leading, defBody s_leading, defScope s_leading, [], []⟩
def d_next_numbers : He.DefD := ⟨("next_numbers", none), "next_numbers", "next_numbers", defArgs s_next_numbers, defBody s_next_numbers, defScope s_next_numbers, [], []⟩
def d__digits : He.DefD := ⟨("_digits", none), "_digits", "_digits", defArgs s__digits, defBody s__digits, defScope s__digits, [], []⟩
def d_total : He.DefD := ⟨("total", none), "total", "total", defArgs s_total, defBody s_total, defScope s_total, [], []⟩
def d_are_lots : He.DefD := ⟨("are_lots", none), "are_lots", "are_lots", defArgs s_are_lots, defBody s_are_lots, defScope s_are_lots, [], []⟩
def d_common_factor : He.DefD := ⟨("common_factor", none), "common_factor", "common_factor", defArgs s_common_factor, defBody s_common_factor, defScope s_common_factor, [], []⟩
def d_whole : He.DefD := ⟨("whole", none), "whole", "whole", defArgs s_whole, defBody s_whole, defScope s_whole, [], []⟩
def d__leaving : He.DefD := ⟨("_leaving", none), "_leaving", "_leaving", defArgs s__leaving, defBody s__leaving, defScope s__leaving, [], []⟩
def d_best_test : He.DefD := ⟨("best_test", none), "best_test", "best_test", defArgs s_best_test, defBody s_best_test, defScope s_best_test, [], []⟩
def d_plan_chance : He.DefD := ⟨("plan_chance", none), "plan_chance", "plan_chance", defArgs s_plan_chance, defBody s_plan_chance, defScope s_plan_chance, [], []⟩
def d__ask_test : He.DefD := ⟨("_ask_test", none), "_ask_test", "_ask_test", defArgs s__ask_test, defBody s__ask_test, defScope s__ask_test, [], []⟩
def d__table : He.DefD := ⟨("_table", none), "_table", "_table", defArgs s__table, defBody s__table, defScope s__table, [], []⟩
def d__fault : He.DefD := ⟨("_fault", none), "_fault", "_fault", defArgs s__fault, defBody s__fault, defScope s__fault, [], []⟩
def d__out_of : He.DefD := ⟨("_out_of", none), "_out_of", "_out_of", defArgs s__out_of, defBody s__out_of, defScope s__out_of, [], []⟩
def d__is_square : He.DefD := ⟨("_is_square", none), "_is_square", "_is_square", defArgs s__is_square, defBody s__is_square, defScope s__is_square, [], []⟩
def d__leads_on : He.DefD := ⟨("_leads_on", none), "_leads_on", "_leads_on", defArgs s__leads_on, defBody s__leads_on, defScope s__leads_on, [], []⟩
def d__law_pool : He.DefD := ⟨("_law_pool", none), "_law_pool", "_law_pool", defArgs s__law_pool, defBody s__law_pool, defScope s__law_pool, [], []⟩
def d__law_draw : He.DefD := ⟨("_law_draw", none), "_law_draw", "_law_draw", defArgs s__law_draw, defBody s__law_draw, defScope s__law_draw, [], []⟩
def d__law_same : He.DefD := ⟨("_law_same", none), "_law_same", "_law_same", defArgs s__law_same, defBody s__law_same, defScope s__law_same, [], []⟩
def d__law_less : He.DefD := ⟨("_law_less", none), "_law_less", "_law_less", defArgs s__law_less, defBody s__law_less, defScope s__law_less, [], []⟩
def d__law_cells : He.DefD := ⟨("_law_cells", none), "_law_cells", "_law_cells", defArgs s__law_cells, defBody s__law_cells, defScope s__law_cells, [], []⟩
def d__law_machine : He.DefD := ⟨("_law_machine", none), "_law_machine", "_law_machine", defArgs s__law_machine, defBody s__law_machine, defScope s__law_machine, [], []⟩
def d__law_made : He.DefD := ⟨("_law_made", none), "_law_made", "_law_made", defArgs s__law_made, defBody s__law_made, defScope s__law_made, [], []⟩
def d_law : He.DefD := ⟨("law", none), "law", "law", defArgs s_law, defBody s_law, defScope s_law, [], []⟩
def d_BadText_init : He.DefD := ⟨("BadText", some "__init__"), "__init__", "BadText.__init__", defArgs s_BadText_init, defBody s_BadText_init, defScope s_BadText_init, [], []⟩
def d_BadPaper_init : He.DefD := ⟨("BadPaper", some "__init__"), "__init__", "BadPaper.__init__", defArgs s_BadPaper_init, defBody s_BadPaper_init, defScope s_BadPaper_init, [], []⟩
def d_BadMachine_init : He.DefD := ⟨("BadMachine", some "__init__"), "__init__", "BadMachine.__init__", defArgs s_BadMachine_init, defBody s_BadMachine_init, defScope s_BadMachine_init, [], []⟩
def d_TooLarge_init : He.DefD := ⟨("TooLarge", some "__init__"), "__init__", "TooLarge.__init__", defArgs s_TooLarge_init, defBody s_TooLarge_init, defScope s_TooLarge_init, [], []⟩
def d_Ratio_init : He.DefD := ⟨("Ratio", some "__init__"), "__init__", "Ratio.__init__", defArgs s_Ratio_init, defBody s_Ratio_init, defScope s_Ratio_init, [.int 1], []⟩
def d_Ratio_add : He.DefD := ⟨("Ratio", some "__add__"), "__add__", "Ratio.__add__", defArgs s_Ratio_add, defBody s_Ratio_add, defScope s_Ratio_add, [], []⟩
def d_Ratio_sub : He.DefD := ⟨("Ratio", some "__sub__"), "__sub__", "Ratio.__sub__", defArgs s_Ratio_sub, defBody s_Ratio_sub, defScope s_Ratio_sub, [], []⟩
def d_Ratio_mul : He.DefD := ⟨("Ratio", some "__mul__"), "__mul__", "Ratio.__mul__", defArgs s_Ratio_mul, defBody s_Ratio_mul, defScope s_Ratio_mul, [], []⟩
def d_Ratio_eq : He.DefD := ⟨("Ratio", some "__eq__"), "__eq__", "Ratio.__eq__", defArgs s_Ratio_eq, defBody s_Ratio_eq, defScope s_Ratio_eq, [], []⟩
def d_Ratio_str : He.DefD := ⟨("Ratio", some "__str__"), "__str__", "Ratio.__str__", defArgs s_Ratio_str, defBody s_Ratio_str, defScope s_Ratio_str, [], []⟩
def d_Ratio_less : He.DefD := ⟨("Ratio", some "less"), "less", "Ratio.less", defArgs s_Ratio_less, defBody s_Ratio_less, defScope s_Ratio_less, [], []⟩
def d_Ratio_by : He.DefD := ⟨("Ratio", some "by"), "by", "Ratio.by", defArgs s_Ratio_by, defBody s_Ratio_by, defScope s_Ratio_by, [], []⟩
def d_Whole_init : He.DefD := ⟨("Whole", some "__init__"), "__init__", "Whole.__init__", defArgs s_Whole_init, defBody s_Whole_init, defScope s_Whole_init, [], []⟩
def d_Whole_ratios : He.DefD := ⟨("Whole", some "ratios"), "ratios", "Whole.ratios", defArgs s_Whole_ratios, defBody s_Whole_ratios, defScope s_Whole_ratios, [], []⟩
def d_Both_init : He.DefD := ⟨("Both", some "__init__"), "__init__", "Both.__init__", defArgs s_Both_init, defBody s_Both_init, defScope s_Both_init, [], []⟩
def d_Both__columns : He.DefD := ⟨("Both", some "_columns"), "_columns", "Both._columns", defArgs s_Both__columns, defBody s_Both__columns, defScope s_Both__columns, [], []⟩
def d_Both_next_whole : He.DefD := ⟨("Both", some "next_whole"), "next_whole", "Both.next_whole", defArgs s_Both_next_whole, defBody s_Both_next_whole, defScope s_Both_next_whole, [], []⟩
def d_Both_is_even : He.DefD := ⟨("Both", some "is_even"), "is_even", "Both.is_even", defArgs s_Both_is_even, defBody s_Both_is_even, defScope s_Both_is_even, [], []⟩
def d_Trial_init : He.DefD := ⟨("Trial", some "__init__"), "__init__", "Trial.__init__", defArgs s_Trial_init, defBody s_Trial_init, defScope s_Trial_init, [], []⟩
def d_Trial_behind : He.DefD := ⟨("Trial", some "behind"), "behind", "Trial.behind", defArgs s_Trial_behind, defBody s_Trial_behind, defScope s_Trial_behind, [], []⟩
def d_Trial_likelihood : He.DefD := ⟨("Trial", some "likelihood"), "likelihood", "Trial.likelihood", defArgs s_Trial_likelihood, defBody s_Trial_likelihood, defScope s_Trial_likelihood, [], []⟩
def d_Trial_best : He.DefD := ⟨("Trial", some "best"), "best", "Trial.best", defArgs s_Trial_best, defBody s_Trial_best, defScope s_Trial_best, [], []⟩
def d_Trial_right : He.DefD := ⟨("Trial", some "right"), "right", "Trial.right", defArgs s_Trial_right, defBody s_Trial_right, defScope s_Trial_right, [], []⟩
def d_Machine_init : He.DefD := ⟨("Machine", some "__init__"), "__init__", "Machine.__init__", defArgs s_Machine_init, defBody s_Machine_init, defScope s_Machine_init, [], []⟩
def d_Machine_eq : He.DefD := ⟨("Machine", some "__eq__"), "__eq__", "Machine.__eq__", defArgs s_Machine_eq, defBody s_Machine_eq, defScope s_Machine_eq, [], []⟩
def d_Machine_states : He.DefD := ⟨("Machine", some "states"), "states", "Machine.states", defArgs s_Machine_states, defBody s_Machine_states, defScope s_Machine_states, [], []⟩
def d_Machine_buttons : He.DefD := ⟨("Machine", some "buttons"), "buttons", "Machine.buttons", defArgs s_Machine_buttons, defBody s_Machine_buttons, defScope s_Machine_buttons, [], []⟩
def d_Machine_answers : He.DefD := ⟨("Machine", some "answers"), "answers", "Machine.answers", defArgs s_Machine_answers, defBody s_Machine_answers, defScope s_Machine_answers, [], []⟩
def fn : List He.DefD := [d__wall, d_weights_of, d_leading, d_next_numbers, d__digits, d_total, d_are_lots, d_common_factor, d_whole, d__leaving, d_best_test, d_plan_chance, d__ask_test, d__table, d__fault, d__out_of, d__is_square, d__leads_on, d__law_pool, d__law_draw, d__law_same, d__law_less, d__law_cells, d__law_machine, d__law_made, d_law, d_BadText_init, d_BadPaper_init, d_BadMachine_init, d_TooLarge_init, d_Ratio_init, d_Ratio_add, d_Ratio_sub, d_Ratio_mul, d_Ratio_eq, d_Ratio_str, d_Ratio_less, d_Ratio_by, d_Whole_init, d_Whole_ratios, d_Both_init, d_Both__columns, d_Both_next_whole, d_Both_is_even, d_Trial_init, d_Trial_behind, d_Trial_likelihood, d_Trial_best, d_Trial_right, d_Machine_init, d_Machine_eq, d_Machine_states, d_Machine_buttons, d_Machine_answers]
def fas (K : PySem.W.Frag) : List Bool := [(He.Fa.free "ValueError").ok K,
  (He.Fa.free "abs").ok K,
  (He.Fa.free "all").ok K,
  (He.Fa.free "any").ok K,
  (He.Fa.free "bool").ok K,
  (He.Fa.free "divmod").ok K,
  (He.Fa.free "enumerate").ok K,
  (He.Fa.free "int").ok K,
  (He.Fa.free "isinstance").ok K,
  (He.Fa.free "len").ok K,
  (He.Fa.free "list").ok K,
  (He.Fa.free "min").ok K,
  (He.Fa.free "range").ok K,
  (He.Fa.free "str").ok K,
  (He.Fa.free "sum").ok K,
  (He.Fa.free "tuple").ok K,
  (He.Fa.free "zip").ok K,
  (He.Fa.glo "_wall").ok K,
  (He.Fa.glo "weights_of").ok K,
  (He.Fa.glo "leading").ok K,
  (He.Fa.glo "next_numbers").ok K,
  (He.Fa.glo "_digits").ok K,
  (He.Fa.glo "total").ok K,
  (He.Fa.glo "are_lots").ok K,
  (He.Fa.glo "common_factor").ok K,
  (He.Fa.glo "whole").ok K,
  (He.Fa.glo "_leaving").ok K,
  (He.Fa.glo "best_test").ok K,
  (He.Fa.glo "plan_chance").ok K,
  (He.Fa.glo "_ask_test").ok K,
  (He.Fa.glo "_table").ok K,
  (He.Fa.glo "_fault").ok K,
  (He.Fa.glo "_out_of").ok K,
  (He.Fa.glo "_is_square").ok K,
  (He.Fa.glo "_leads_on").ok K,
  (He.Fa.glo "_law_pool").ok K,
  (He.Fa.glo "_law_draw").ok K,
  (He.Fa.glo "_law_same").ok K,
  (He.Fa.glo "_law_less").ok K,
  (He.Fa.glo "_law_cells").ok K,
  (He.Fa.glo "_law_machine").ok K,
  (He.Fa.glo "_law_made").ok K,
  (He.Fa.glo "law").ok K,
  blB K "gcd" "math.gcd",
  blB K "lcm" "math.lcm",
  (He.Fa.int "PART_END" (10000000000000000000000000000000000000000000000000000000000000000)).ok K,
  (He.Fa.int "MOST_TESTS" (5000)).ok K,
  (He.Fa.int "MOST_STATES" (12)).ok K,
  (He.Fa.int "MOST_BUTTONS" (4)).ok K,
  (He.Fa.int "MOST_ANSWERS" (4)).ok K,
  (He.Fa.glo "TestError").ok K,
  (He.Fa.keep "TestError").ok K,
  (He.Fa.exc "TestError").ok K,
  isEB K "TestError",
  (He.Fa.glo "BadText").ok K,
  (He.Fa.keep "BadText").ok K,
  isEB K "BadText",
  oexB K "BadText" "at",
  (He.Fa.glo "BadPaper").ok K,
  (He.Fa.keep "BadPaper").ok K,
  isEB K "BadPaper",
  oexB K "BadPaper" "at",
  (He.Fa.glo "BadMachine").ok K,
  (He.Fa.keep "BadMachine").ok K,
  isEB K "BadMachine",
  oexB K "BadMachine" "what",
  (He.Fa.glo "TooLarge").ok K,
  (He.Fa.keep "TooLarge").ok K,
  isEB K "TooLarge",
  oexB K "TooLarge" "what",
  (He.Fa.glo "BadRatio").ok K,
  (He.Fa.keep "BadRatio").ok K,
  (He.Fa.exc "BadRatio").ok K,
  isEB K "BadRatio",
  (He.Fa.glo "Ratio").ok K,
  (He.Fa.keep "Ratio").ok K,
  (He.Fa.cls "Ratio").ok K,
  instB K "Ratio",
  (He.Fa.mkr "Ratio").ok K,
  PySem.W.selfFirst K (He.ga K "Ratio"),
  (He.Fa.meth "Ratio" "__init__").ok K,
  (He.Fa.meth "Ratio" "__add__").ok K,
  (He.Fa.meth "Ratio" "__sub__").ok K,
  (He.Fa.meth "Ratio" "__mul__").ok K,
  (He.Fa.meth "Ratio" "__eq__").ok K,
  (He.Fa.meth "Ratio" "__str__").ok K,
  (He.Fa.meth "Ratio" "less").ok K,
  (He.Fa.meth "Ratio" "by").ok K,
  (He.Fa.noat "Ratio" "num").ok K,
  (He.Fa.noat "Ratio" "den").ok K,
  (He.Fa.glo "Whole").ok K,
  (He.Fa.keep "Whole").ok K,
  (He.Fa.cls "Whole").ok K,
  instB K "Whole",
  (He.Fa.mkr "Whole").ok K,
  PySem.W.selfFirst K (He.ga K "Whole"),
  (He.Fa.meth "Whole" "__init__").ok K,
  (He.Fa.meth "Whole" "ratios").ok K,
  (He.Fa.noat "Whole" "numbers").ok K,
  (He.Fa.noat "Whole" "bottom").ok K,
  (He.Fa.glo "Both").ok K,
  (He.Fa.keep "Both").ok K,
  (He.Fa.cls "Both").ok K,
  instB K "Both",
  (He.Fa.mkr "Both").ok K,
  PySem.W.selfFirst K (He.ga K "Both"),
  (He.Fa.meth "Both" "__init__").ok K,
  (He.Fa.meth "Both" "_columns").ok K,
  (He.Fa.meth "Both" "next_whole").ok K,
  (He.Fa.meth "Both" "is_even").ok K,
  (He.Fa.noat "Both" "first").ok K,
  (He.Fa.noat "Both" "size").ok K,
  (He.Fa.noat "Both" "start").ok K,
  (He.Fa.noat "Both" "bottom").ok K,
  (He.Fa.noat "Both" "steps").ok K,
  (He.Fa.glo "Trial").ok K,
  (He.Fa.keep "Trial").ok K,
  (He.Fa.cls "Trial").ok K,
  instB K "Trial",
  (He.Fa.mkr "Trial").ok K,
  PySem.W.selfFirst K (He.ga K "Trial"),
  (He.Fa.meth "Trial" "__init__").ok K,
  (He.Fa.meth "Trial" "behind").ok K,
  (He.Fa.meth "Trial" "likelihood").ok K,
  (He.Fa.meth "Trial" "best").ok K,
  (He.Fa.meth "Trial" "right").ok K,
  (He.Fa.noat "Trial" "both").ok K,
  (He.Fa.noat "Trial" "presses").ok K,
  (He.Fa.glo "Machine").ok K,
  (He.Fa.keep "Machine").ok K,
  (He.Fa.cls "Machine").ok K,
  instB K "Machine",
  (He.Fa.mkr "Machine").ok K,
  PySem.W.selfFirst K (He.ga K "Machine"),
  (He.Fa.meth "Machine" "__init__").ok K,
  (He.Fa.meth "Machine" "__eq__").ok K,
  (He.Fa.meth "Machine" "states").ok K,
  (He.Fa.meth "Machine" "buttons").ok K,
  (He.Fa.meth "Machine" "answers").ok K,
  (He.Fa.noat "Machine" "start").ok K,
  (He.Fa.noat "Machine" "moves").ok K,
  decide (PySem.W.kitOne K (.ref (He.ga K "BadText")) (.type "ValueError") = some true),
  decide (PySem.W.kitOne K (.ref (He.ga K "BadText")) (.ref (He.ga K "TestError")) = some true),
  decide (PySem.W.exmOne K (.ref (He.ga K "BadText")) (.ref (He.ga K "TestError")) = some true),
  decide (PySem.W.kitOne K (.ref (He.ga K "BadText")) (.ref (He.ga K "BadText")) = some true),
  decide (PySem.W.exmOne K (.ref (He.ga K "BadText")) (.ref (He.ga K "BadText")) = some true),
  decide (PySem.W.kitOne K (.ref (He.ga K "BadText")) (.ref (He.ga K "BadPaper")) = some false),
  decide (PySem.W.exmOne K (.ref (He.ga K "BadText")) (.ref (He.ga K "BadPaper")) = some false),
  decide (PySem.W.kitOne K (.ref (He.ga K "BadText")) (.ref (He.ga K "BadMachine")) = some false),
  decide (PySem.W.exmOne K (.ref (He.ga K "BadText")) (.ref (He.ga K "BadMachine")) = some false),
  decide (PySem.W.kitOne K (.ref (He.ga K "BadText")) (.ref (He.ga K "TooLarge")) = some false),
  decide (PySem.W.exmOne K (.ref (He.ga K "BadText")) (.ref (He.ga K "TooLarge")) = some false),
  decide (PySem.W.kitOne K (.ref (He.ga K "BadText")) (.ref (He.ga K "BadRatio")) = some false),
  decide (PySem.W.exmOne K (.ref (He.ga K "BadText")) (.ref (He.ga K "BadRatio")) = some false),
  decide (PySem.W.kitOne K (.ref (He.ga K "BadPaper")) (.type "ValueError") = some true),
  decide (PySem.W.kitOne K (.ref (He.ga K "BadPaper")) (.ref (He.ga K "TestError")) = some true),
  decide (PySem.W.exmOne K (.ref (He.ga K "BadPaper")) (.ref (He.ga K "TestError")) = some true),
  decide (PySem.W.kitOne K (.ref (He.ga K "BadPaper")) (.ref (He.ga K "BadText")) = some false),
  decide (PySem.W.exmOne K (.ref (He.ga K "BadPaper")) (.ref (He.ga K "BadText")) = some false),
  decide (PySem.W.kitOne K (.ref (He.ga K "BadPaper")) (.ref (He.ga K "BadPaper")) = some true),
  decide (PySem.W.exmOne K (.ref (He.ga K "BadPaper")) (.ref (He.ga K "BadPaper")) = some true),
  decide (PySem.W.kitOne K (.ref (He.ga K "BadPaper")) (.ref (He.ga K "BadMachine")) = some false),
  decide (PySem.W.exmOne K (.ref (He.ga K "BadPaper")) (.ref (He.ga K "BadMachine")) = some false),
  decide (PySem.W.kitOne K (.ref (He.ga K "BadPaper")) (.ref (He.ga K "TooLarge")) = some false),
  decide (PySem.W.exmOne K (.ref (He.ga K "BadPaper")) (.ref (He.ga K "TooLarge")) = some false),
  decide (PySem.W.kitOne K (.ref (He.ga K "BadPaper")) (.ref (He.ga K "BadRatio")) = some false),
  decide (PySem.W.exmOne K (.ref (He.ga K "BadPaper")) (.ref (He.ga K "BadRatio")) = some false),
  decide (PySem.W.kitOne K (.ref (He.ga K "BadMachine")) (.type "ValueError") = some true),
  decide (PySem.W.kitOne K (.ref (He.ga K "BadMachine")) (.ref (He.ga K "TestError")) = some true),
  decide (PySem.W.exmOne K (.ref (He.ga K "BadMachine")) (.ref (He.ga K "TestError")) = some true),
  decide (PySem.W.kitOne K (.ref (He.ga K "BadMachine")) (.ref (He.ga K "BadText")) = some false),
  decide (PySem.W.exmOne K (.ref (He.ga K "BadMachine")) (.ref (He.ga K "BadText")) = some false),
  decide (PySem.W.kitOne K (.ref (He.ga K "BadMachine")) (.ref (He.ga K "BadPaper")) = some false),
  decide (PySem.W.exmOne K (.ref (He.ga K "BadMachine")) (.ref (He.ga K "BadPaper")) = some false),
  decide (PySem.W.kitOne K (.ref (He.ga K "BadMachine")) (.ref (He.ga K "BadMachine")) = some true),
  decide (PySem.W.exmOne K (.ref (He.ga K "BadMachine")) (.ref (He.ga K "BadMachine")) = some true),
  decide (PySem.W.kitOne K (.ref (He.ga K "BadMachine")) (.ref (He.ga K "TooLarge")) = some false),
  decide (PySem.W.exmOne K (.ref (He.ga K "BadMachine")) (.ref (He.ga K "TooLarge")) = some false),
  decide (PySem.W.kitOne K (.ref (He.ga K "BadMachine")) (.ref (He.ga K "BadRatio")) = some false),
  decide (PySem.W.exmOne K (.ref (He.ga K "BadMachine")) (.ref (He.ga K "BadRatio")) = some false),
  decide (PySem.W.kitOne K (.ref (He.ga K "TooLarge")) (.type "ValueError") = some true),
  decide (PySem.W.kitOne K (.ref (He.ga K "TooLarge")) (.ref (He.ga K "TestError")) = some true),
  decide (PySem.W.exmOne K (.ref (He.ga K "TooLarge")) (.ref (He.ga K "TestError")) = some true),
  decide (PySem.W.kitOne K (.ref (He.ga K "TooLarge")) (.ref (He.ga K "BadText")) = some false),
  decide (PySem.W.exmOne K (.ref (He.ga K "TooLarge")) (.ref (He.ga K "BadText")) = some false),
  decide (PySem.W.kitOne K (.ref (He.ga K "TooLarge")) (.ref (He.ga K "BadPaper")) = some false),
  decide (PySem.W.exmOne K (.ref (He.ga K "TooLarge")) (.ref (He.ga K "BadPaper")) = some false),
  decide (PySem.W.kitOne K (.ref (He.ga K "TooLarge")) (.ref (He.ga K "BadMachine")) = some false),
  decide (PySem.W.exmOne K (.ref (He.ga K "TooLarge")) (.ref (He.ga K "BadMachine")) = some false),
  decide (PySem.W.kitOne K (.ref (He.ga K "TooLarge")) (.ref (He.ga K "TooLarge")) = some true),
  decide (PySem.W.exmOne K (.ref (He.ga K "TooLarge")) (.ref (He.ga K "TooLarge")) = some true),
  decide (PySem.W.kitOne K (.ref (He.ga K "TooLarge")) (.ref (He.ga K "BadRatio")) = some false),
  decide (PySem.W.exmOne K (.ref (He.ga K "TooLarge")) (.ref (He.ga K "BadRatio")) = some false),
  decide (PySem.W.kitOne K (.ref (He.ga K "BadRatio")) (.type "ValueError") = some true),
  decide (PySem.W.kitOne K (.ref (He.ga K "BadRatio")) (.ref (He.ga K "TestError")) = some true),
  decide (PySem.W.exmOne K (.ref (He.ga K "BadRatio")) (.ref (He.ga K "TestError")) = some true),
  decide (PySem.W.kitOne K (.ref (He.ga K "BadRatio")) (.ref (He.ga K "BadText")) = some false),
  decide (PySem.W.exmOne K (.ref (He.ga K "BadRatio")) (.ref (He.ga K "BadText")) = some false),
  decide (PySem.W.kitOne K (.ref (He.ga K "BadRatio")) (.ref (He.ga K "BadPaper")) = some false),
  decide (PySem.W.exmOne K (.ref (He.ga K "BadRatio")) (.ref (He.ga K "BadPaper")) = some false),
  decide (PySem.W.kitOne K (.ref (He.ga K "BadRatio")) (.ref (He.ga K "BadMachine")) = some false),
  decide (PySem.W.exmOne K (.ref (He.ga K "BadRatio")) (.ref (He.ga K "BadMachine")) = some false),
  decide (PySem.W.kitOne K (.ref (He.ga K "BadRatio")) (.ref (He.ga K "TooLarge")) = some false),
  decide (PySem.W.exmOne K (.ref (He.ga K "BadRatio")) (.ref (He.ga K "TooLarge")) = some false),
  decide (PySem.W.kitOne K (.ref (He.ga K "BadRatio")) (.ref (He.ga K "BadRatio")) = some true),
  decide (PySem.W.exmOne K (.ref (He.ga K "BadRatio")) (.ref (He.ga K "BadRatio")) = some true),
  decide (PySem.W.kitOne K (.type "NoneType") (.ref (He.ga K "Ratio")) = some false)]
def ex (K : PySem.W.Frag) : Bool := (fas K).all id
theorem fas_at {K : PySem.W.Frag} (c : ex K = true) (i : Nat) {b : Bool} (h : (fas K)[i]? = some b) : b = true := List.all_eq_true.mp c b (List.mem_of_getElem? h)
structure Dt (K : PySem.W.Frag) (mg : Str → Option Value) : Prop where
  s : SaysY ex fn K
  n : ∃ h : Heap, K.In h ∧ h.Ns mainGlobals mg
section
variable {K : PySem.W.Frag} {mg : Str → Option Value}
theorem free_ValueError (D : Dt K mg) : mg "ValueError" = none := by obtain ⟨h, X, G⟩ := D.n; exact He.free_ok X G (fas_at D.s.more 0 rfl)
theorem free_abs (D : Dt K mg) : mg "abs" = none := by obtain ⟨h, X, G⟩ := D.n; exact He.free_ok X G (fas_at D.s.more 1 rfl)
theorem free_all (D : Dt K mg) : mg "all" = none := by obtain ⟨h, X, G⟩ := D.n; exact He.free_ok X G (fas_at D.s.more 2 rfl)
theorem free_any (D : Dt K mg) : mg "any" = none := by obtain ⟨h, X, G⟩ := D.n; exact He.free_ok X G (fas_at D.s.more 3 rfl)
theorem free_bool (D : Dt K mg) : mg "bool" = none := by obtain ⟨h, X, G⟩ := D.n; exact He.free_ok X G (fas_at D.s.more 4 rfl)
theorem free_divmod (D : Dt K mg) : mg "divmod" = none := by obtain ⟨h, X, G⟩ := D.n; exact He.free_ok X G (fas_at D.s.more 5 rfl)
theorem free_enumerate (D : Dt K mg) : mg "enumerate" = none := by obtain ⟨h, X, G⟩ := D.n; exact He.free_ok X G (fas_at D.s.more 6 rfl)
theorem free_int (D : Dt K mg) : mg "int" = none := by obtain ⟨h, X, G⟩ := D.n; exact He.free_ok X G (fas_at D.s.more 7 rfl)
theorem free_isinstance (D : Dt K mg) : mg "isinstance" = none := by obtain ⟨h, X, G⟩ := D.n; exact He.free_ok X G (fas_at D.s.more 8 rfl)
theorem free_len (D : Dt K mg) : mg "len" = none := by obtain ⟨h, X, G⟩ := D.n; exact He.free_ok X G (fas_at D.s.more 9 rfl)
theorem free_list (D : Dt K mg) : mg "list" = none := by obtain ⟨h, X, G⟩ := D.n; exact He.free_ok X G (fas_at D.s.more 10 rfl)
theorem free_min (D : Dt K mg) : mg "min" = none := by obtain ⟨h, X, G⟩ := D.n; exact He.free_ok X G (fas_at D.s.more 11 rfl)
theorem free_range (D : Dt K mg) : mg "range" = none := by obtain ⟨h, X, G⟩ := D.n; exact He.free_ok X G (fas_at D.s.more 12 rfl)
theorem free_str (D : Dt K mg) : mg "str" = none := by obtain ⟨h, X, G⟩ := D.n; exact He.free_ok X G (fas_at D.s.more 13 rfl)
theorem free_sum (D : Dt K mg) : mg "sum" = none := by obtain ⟨h, X, G⟩ := D.n; exact He.free_ok X G (fas_at D.s.more 14 rfl)
theorem free_tuple (D : Dt K mg) : mg "tuple" = none := by obtain ⟨h, X, G⟩ := D.n; exact He.free_ok X G (fas_at D.s.more 15 rfl)
theorem free_zip (D : Dt K mg) : mg "zip" = none := by obtain ⟨h, X, G⟩ := D.n; exact He.free_ok X G (fas_at D.s.more 16 rfl)
theorem glo__wall (D : Dt K mg) : mg "_wall" = some (.ref (He.ga K "_wall")) := by obtain ⟨h, X, G⟩ := D.n; exact He.glo_ok X G (fas_at D.s.more 17 rfl)
theorem glo_weights_of (D : Dt K mg) : mg "weights_of" = some (.ref (He.ga K "weights_of")) := by obtain ⟨h, X, G⟩ := D.n; exact He.glo_ok X G (fas_at D.s.more 18 rfl)
theorem glo_leading (D : Dt K mg) : mg "leading" = some (.ref (He.ga K "leading")) := by obtain ⟨h, X, G⟩ := D.n; exact He.glo_ok X G (fas_at D.s.more 19 rfl)
theorem glo_next_numbers (D : Dt K mg) : mg "next_numbers" = some (.ref (He.ga K "next_numbers")) := by obtain ⟨h, X, G⟩ := D.n; exact He.glo_ok X G (fas_at D.s.more 20 rfl)
theorem glo__digits (D : Dt K mg) : mg "_digits" = some (.ref (He.ga K "_digits")) := by obtain ⟨h, X, G⟩ := D.n; exact He.glo_ok X G (fas_at D.s.more 21 rfl)
theorem glo_total (D : Dt K mg) : mg "total" = some (.ref (He.ga K "total")) := by obtain ⟨h, X, G⟩ := D.n; exact He.glo_ok X G (fas_at D.s.more 22 rfl)
theorem glo_are_lots (D : Dt K mg) : mg "are_lots" = some (.ref (He.ga K "are_lots")) := by obtain ⟨h, X, G⟩ := D.n; exact He.glo_ok X G (fas_at D.s.more 23 rfl)
theorem glo_common_factor (D : Dt K mg) : mg "common_factor" = some (.ref (He.ga K "common_factor")) := by obtain ⟨h, X, G⟩ := D.n; exact He.glo_ok X G (fas_at D.s.more 24 rfl)
theorem glo_whole (D : Dt K mg) : mg "whole" = some (.ref (He.ga K "whole")) := by obtain ⟨h, X, G⟩ := D.n; exact He.glo_ok X G (fas_at D.s.more 25 rfl)
theorem glo__leaving (D : Dt K mg) : mg "_leaving" = some (.ref (He.ga K "_leaving")) := by obtain ⟨h, X, G⟩ := D.n; exact He.glo_ok X G (fas_at D.s.more 26 rfl)
theorem glo_best_test (D : Dt K mg) : mg "best_test" = some (.ref (He.ga K "best_test")) := by obtain ⟨h, X, G⟩ := D.n; exact He.glo_ok X G (fas_at D.s.more 27 rfl)
theorem glo_plan_chance (D : Dt K mg) : mg "plan_chance" = some (.ref (He.ga K "plan_chance")) := by obtain ⟨h, X, G⟩ := D.n; exact He.glo_ok X G (fas_at D.s.more 28 rfl)
theorem glo__ask_test (D : Dt K mg) : mg "_ask_test" = some (.ref (He.ga K "_ask_test")) := by obtain ⟨h, X, G⟩ := D.n; exact He.glo_ok X G (fas_at D.s.more 29 rfl)
theorem glo__table (D : Dt K mg) : mg "_table" = some (.ref (He.ga K "_table")) := by obtain ⟨h, X, G⟩ := D.n; exact He.glo_ok X G (fas_at D.s.more 30 rfl)
theorem glo__fault (D : Dt K mg) : mg "_fault" = some (.ref (He.ga K "_fault")) := by obtain ⟨h, X, G⟩ := D.n; exact He.glo_ok X G (fas_at D.s.more 31 rfl)
theorem glo__out_of (D : Dt K mg) : mg "_out_of" = some (.ref (He.ga K "_out_of")) := by obtain ⟨h, X, G⟩ := D.n; exact He.glo_ok X G (fas_at D.s.more 32 rfl)
theorem glo__is_square (D : Dt K mg) : mg "_is_square" = some (.ref (He.ga K "_is_square")) := by obtain ⟨h, X, G⟩ := D.n; exact He.glo_ok X G (fas_at D.s.more 33 rfl)
theorem glo__leads_on (D : Dt K mg) : mg "_leads_on" = some (.ref (He.ga K "_leads_on")) := by obtain ⟨h, X, G⟩ := D.n; exact He.glo_ok X G (fas_at D.s.more 34 rfl)
theorem glo__law_pool (D : Dt K mg) : mg "_law_pool" = some (.ref (He.ga K "_law_pool")) := by obtain ⟨h, X, G⟩ := D.n; exact He.glo_ok X G (fas_at D.s.more 35 rfl)
theorem glo__law_draw (D : Dt K mg) : mg "_law_draw" = some (.ref (He.ga K "_law_draw")) := by obtain ⟨h, X, G⟩ := D.n; exact He.glo_ok X G (fas_at D.s.more 36 rfl)
theorem glo__law_same (D : Dt K mg) : mg "_law_same" = some (.ref (He.ga K "_law_same")) := by obtain ⟨h, X, G⟩ := D.n; exact He.glo_ok X G (fas_at D.s.more 37 rfl)
theorem glo__law_less (D : Dt K mg) : mg "_law_less" = some (.ref (He.ga K "_law_less")) := by obtain ⟨h, X, G⟩ := D.n; exact He.glo_ok X G (fas_at D.s.more 38 rfl)
theorem glo__law_cells (D : Dt K mg) : mg "_law_cells" = some (.ref (He.ga K "_law_cells")) := by obtain ⟨h, X, G⟩ := D.n; exact He.glo_ok X G (fas_at D.s.more 39 rfl)
theorem glo__law_machine (D : Dt K mg) : mg "_law_machine" = some (.ref (He.ga K "_law_machine")) := by obtain ⟨h, X, G⟩ := D.n; exact He.glo_ok X G (fas_at D.s.more 40 rfl)
theorem glo__law_made (D : Dt K mg) : mg "_law_made" = some (.ref (He.ga K "_law_made")) := by obtain ⟨h, X, G⟩ := D.n; exact He.glo_ok X G (fas_at D.s.more 41 rfl)
theorem glo_law (D : Dt K mg) : mg "law" = some (.ref (He.ga K "law")) := by obtain ⟨h, X, G⟩ := D.n; exact He.glo_ok X G (fas_at D.s.more 42 rfl)
theorem blt_gcd (D : Dt K mg) : mg "gcd" = some (.builtin "math.gcd") := by obtain ⟨h, X, G⟩ := D.n; exact blB_ok X G (fas_at D.s.more 43 rfl)
theorem blt_lcm (D : Dt K mg) : mg "lcm" = some (.builtin "math.lcm") := by obtain ⟨h, X, G⟩ := D.n; exact blB_ok X G (fas_at D.s.more 44 rfl)
theorem int_PART_END (D : Dt K mg) : ∃ t, mg "PART_END" = some (.int (10000000000000000000000000000000000000000000000000000000000000000) t) := by obtain ⟨h, X, G⟩ := D.n; exact He.int_ok X G (fas_at D.s.more 45 rfl)
theorem int_MOST_TESTS (D : Dt K mg) : ∃ t, mg "MOST_TESTS" = some (.int (5000) t) := by obtain ⟨h, X, G⟩ := D.n; exact He.int_ok X G (fas_at D.s.more 46 rfl)
theorem int_MOST_STATES (D : Dt K mg) : ∃ t, mg "MOST_STATES" = some (.int (12) t) := by obtain ⟨h, X, G⟩ := D.n; exact He.int_ok X G (fas_at D.s.more 47 rfl)
theorem int_MOST_BUTTONS (D : Dt K mg) : ∃ t, mg "MOST_BUTTONS" = some (.int (4) t) := by obtain ⟨h, X, G⟩ := D.n; exact He.int_ok X G (fas_at D.s.more 48 rfl)
theorem int_MOST_ANSWERS (D : Dt K mg) : ∃ t, mg "MOST_ANSWERS" = some (.int (4) t) := by obtain ⟨h, X, G⟩ := D.n; exact He.int_ok X G (fas_at D.s.more 49 rfl)
theorem glo_TestError (D : Dt K mg) : mg "TestError" = some (.ref (He.ga K "TestError")) := by obtain ⟨h, X, G⟩ := D.n; exact He.glo_ok X G (fas_at D.s.more 50 rfl)
theorem kp_TestError (D : Dt K mg) : PySem.W.keepIn K (.ref (He.ga K "TestError")) = true := He.keep_ok (fas_at D.s.more 51 rfl)
theorem exc_TestError (D : Dt K mg) : PySem.W.excIn K (He.ga K "TestError") He.veBase "ValueError.__new__" = true ∧ PySem.W.keepIn K (.ref (He.ga K "TestError")) = true ∧ PySem.W.subIn K (.ref (He.ga K "TestError")) (.type "BaseException") = some true ∧ PySem.W.typeIn K (.ref (He.ga K "TestError")) = some (.type "type") := He.exc_ok (fas_at D.s.more 52 rfl)
theorem isE_TestError (D : Dt K mg) : ExcC K (He.ga K "TestError") := isEB_ok (fas_at D.s.more 53 rfl)
theorem glo_BadText (D : Dt K mg) : mg "BadText" = some (.ref (He.ga K "BadText")) := by obtain ⟨h, X, G⟩ := D.n; exact He.glo_ok X G (fas_at D.s.more 54 rfl)
theorem kp_BadText (D : Dt K mg) : PySem.W.keepIn K (.ref (He.ga K "BadText")) = true := He.keep_ok (fas_at D.s.more 55 rfl)
theorem isE_BadText (D : Dt K mg) : ExcC K (He.ga K "BadText") := isEB_ok (fas_at D.s.more 56 rfl)
theorem oex_BadText (D : Dt K mg) : OexF K (He.ga K "BadText") (He.ma K (He.ga K "BadText") "__init__") "at" := oexB_ok (fas_at D.s.more 57 rfl)
theorem glo_BadPaper (D : Dt K mg) : mg "BadPaper" = some (.ref (He.ga K "BadPaper")) := by obtain ⟨h, X, G⟩ := D.n; exact He.glo_ok X G (fas_at D.s.more 58 rfl)
theorem kp_BadPaper (D : Dt K mg) : PySem.W.keepIn K (.ref (He.ga K "BadPaper")) = true := He.keep_ok (fas_at D.s.more 59 rfl)
theorem isE_BadPaper (D : Dt K mg) : ExcC K (He.ga K "BadPaper") := isEB_ok (fas_at D.s.more 60 rfl)
theorem oex_BadPaper (D : Dt K mg) : OexF K (He.ga K "BadPaper") (He.ma K (He.ga K "BadPaper") "__init__") "at" := oexB_ok (fas_at D.s.more 61 rfl)
theorem glo_BadMachine (D : Dt K mg) : mg "BadMachine" = some (.ref (He.ga K "BadMachine")) := by obtain ⟨h, X, G⟩ := D.n; exact He.glo_ok X G (fas_at D.s.more 62 rfl)
theorem kp_BadMachine (D : Dt K mg) : PySem.W.keepIn K (.ref (He.ga K "BadMachine")) = true := He.keep_ok (fas_at D.s.more 63 rfl)
theorem isE_BadMachine (D : Dt K mg) : ExcC K (He.ga K "BadMachine") := isEB_ok (fas_at D.s.more 64 rfl)
theorem oex_BadMachine (D : Dt K mg) : OexF K (He.ga K "BadMachine") (He.ma K (He.ga K "BadMachine") "__init__") "what" := oexB_ok (fas_at D.s.more 65 rfl)
theorem glo_TooLarge (D : Dt K mg) : mg "TooLarge" = some (.ref (He.ga K "TooLarge")) := by obtain ⟨h, X, G⟩ := D.n; exact He.glo_ok X G (fas_at D.s.more 66 rfl)
theorem kp_TooLarge (D : Dt K mg) : PySem.W.keepIn K (.ref (He.ga K "TooLarge")) = true := He.keep_ok (fas_at D.s.more 67 rfl)
theorem isE_TooLarge (D : Dt K mg) : ExcC K (He.ga K "TooLarge") := isEB_ok (fas_at D.s.more 68 rfl)
theorem oex_TooLarge (D : Dt K mg) : OexF K (He.ga K "TooLarge") (He.ma K (He.ga K "TooLarge") "__init__") "what" := oexB_ok (fas_at D.s.more 69 rfl)
theorem glo_BadRatio (D : Dt K mg) : mg "BadRatio" = some (.ref (He.ga K "BadRatio")) := by obtain ⟨h, X, G⟩ := D.n; exact He.glo_ok X G (fas_at D.s.more 70 rfl)
theorem kp_BadRatio (D : Dt K mg) : PySem.W.keepIn K (.ref (He.ga K "BadRatio")) = true := He.keep_ok (fas_at D.s.more 71 rfl)
theorem exc_BadRatio (D : Dt K mg) : PySem.W.excIn K (He.ga K "BadRatio") He.veBase "ValueError.__new__" = true ∧ PySem.W.keepIn K (.ref (He.ga K "BadRatio")) = true ∧ PySem.W.subIn K (.ref (He.ga K "BadRatio")) (.type "BaseException") = some true ∧ PySem.W.typeIn K (.ref (He.ga K "BadRatio")) = some (.type "type") := He.exc_ok (fas_at D.s.more 72 rfl)
theorem isE_BadRatio (D : Dt K mg) : ExcC K (He.ga K "BadRatio") := isEB_ok (fas_at D.s.more 73 rfl)
theorem glo_Ratio (D : Dt K mg) : mg "Ratio" = some (.ref (He.ga K "Ratio")) := by obtain ⟨h, X, G⟩ := D.n; exact He.glo_ok X G (fas_at D.s.more 74 rfl)
theorem kp_Ratio (D : Dt K mg) : PySem.W.keepIn K (.ref (He.ga K "Ratio")) = true := He.keep_ok (fas_at D.s.more 75 rfl)
theorem cls_Ratio (D : Dt K mg) : Cls K (He.ga K "Ratio") := He.cls_ok (fas_at D.s.more 76 rfl)
theorem inst_Ratio (D : Dt K mg) : InstC K (He.ga K "Ratio") := instB_ok (fas_at D.s.more 77 rfl)
theorem mkr_Ratio (D : Dt K mg) : Mk K (He.ga K "Ratio") (He.ma K (He.ga K "Ratio") "__init__") := He.mkr_ok (fas_at D.s.more 78 rfl)
theorem self_Ratio (D : Dt K mg) : PySem.W.selfFirst K (He.ga K "Ratio") = true := fas_at D.s.more 79 rfl
theorem me_Ratio_init (D : Dt K mg) : Meth K (He.ga K "Ratio") "__init__" (He.ma K (He.ga K "Ratio") "__init__") := He.meth_ok (fas_at D.s.more 80 rfl)
theorem me_Ratio_add (D : Dt K mg) : Meth K (He.ga K "Ratio") "__add__" (He.ma K (He.ga K "Ratio") "__add__") := He.meth_ok (fas_at D.s.more 81 rfl)
theorem me_Ratio_sub (D : Dt K mg) : Meth K (He.ga K "Ratio") "__sub__" (He.ma K (He.ga K "Ratio") "__sub__") := He.meth_ok (fas_at D.s.more 82 rfl)
theorem me_Ratio_mul (D : Dt K mg) : Meth K (He.ga K "Ratio") "__mul__" (He.ma K (He.ga K "Ratio") "__mul__") := He.meth_ok (fas_at D.s.more 83 rfl)
theorem me_Ratio_eq (D : Dt K mg) : Meth K (He.ga K "Ratio") "__eq__" (He.ma K (He.ga K "Ratio") "__eq__") := He.meth_ok (fas_at D.s.more 84 rfl)
theorem me_Ratio_str (D : Dt K mg) : Meth K (He.ga K "Ratio") "__str__" (He.ma K (He.ga K "Ratio") "__str__") := He.meth_ok (fas_at D.s.more 85 rfl)
theorem me_Ratio_less (D : Dt K mg) : Meth K (He.ga K "Ratio") "less" (He.ma K (He.ga K "Ratio") "less") := He.meth_ok (fas_at D.s.more 86 rfl)
theorem me_Ratio_by (D : Dt K mg) : Meth K (He.ga K "Ratio") "by" (He.ma K (He.ga K "Ratio") "by") := He.meth_ok (fas_at D.s.more 87 rfl)
theorem na_Ratio_num (D : Dt K mg) : NoAttr K (He.ga K "Ratio") "num" := He.noat_ok (fas_at D.s.more 88 rfl)
theorem na_Ratio_den (D : Dt K mg) : NoAttr K (He.ga K "Ratio") "den" := He.noat_ok (fas_at D.s.more 89 rfl)
theorem glo_Whole (D : Dt K mg) : mg "Whole" = some (.ref (He.ga K "Whole")) := by obtain ⟨h, X, G⟩ := D.n; exact He.glo_ok X G (fas_at D.s.more 90 rfl)
theorem kp_Whole (D : Dt K mg) : PySem.W.keepIn K (.ref (He.ga K "Whole")) = true := He.keep_ok (fas_at D.s.more 91 rfl)
theorem cls_Whole (D : Dt K mg) : Cls K (He.ga K "Whole") := He.cls_ok (fas_at D.s.more 92 rfl)
theorem inst_Whole (D : Dt K mg) : InstC K (He.ga K "Whole") := instB_ok (fas_at D.s.more 93 rfl)
theorem mkr_Whole (D : Dt K mg) : Mk K (He.ga K "Whole") (He.ma K (He.ga K "Whole") "__init__") := He.mkr_ok (fas_at D.s.more 94 rfl)
theorem self_Whole (D : Dt K mg) : PySem.W.selfFirst K (He.ga K "Whole") = true := fas_at D.s.more 95 rfl
theorem me_Whole_init (D : Dt K mg) : Meth K (He.ga K "Whole") "__init__" (He.ma K (He.ga K "Whole") "__init__") := He.meth_ok (fas_at D.s.more 96 rfl)
theorem me_Whole_ratios (D : Dt K mg) : Meth K (He.ga K "Whole") "ratios" (He.ma K (He.ga K "Whole") "ratios") := He.meth_ok (fas_at D.s.more 97 rfl)
theorem na_Whole_numbers (D : Dt K mg) : NoAttr K (He.ga K "Whole") "numbers" := He.noat_ok (fas_at D.s.more 98 rfl)
theorem na_Whole_bottom (D : Dt K mg) : NoAttr K (He.ga K "Whole") "bottom" := He.noat_ok (fas_at D.s.more 99 rfl)
theorem glo_Both (D : Dt K mg) : mg "Both" = some (.ref (He.ga K "Both")) := by obtain ⟨h, X, G⟩ := D.n; exact He.glo_ok X G (fas_at D.s.more 100 rfl)
theorem kp_Both (D : Dt K mg) : PySem.W.keepIn K (.ref (He.ga K "Both")) = true := He.keep_ok (fas_at D.s.more 101 rfl)
theorem cls_Both (D : Dt K mg) : Cls K (He.ga K "Both") := He.cls_ok (fas_at D.s.more 102 rfl)
theorem inst_Both (D : Dt K mg) : InstC K (He.ga K "Both") := instB_ok (fas_at D.s.more 103 rfl)
theorem mkr_Both (D : Dt K mg) : Mk K (He.ga K "Both") (He.ma K (He.ga K "Both") "__init__") := He.mkr_ok (fas_at D.s.more 104 rfl)
theorem self_Both (D : Dt K mg) : PySem.W.selfFirst K (He.ga K "Both") = true := fas_at D.s.more 105 rfl
theorem me_Both_init (D : Dt K mg) : Meth K (He.ga K "Both") "__init__" (He.ma K (He.ga K "Both") "__init__") := He.meth_ok (fas_at D.s.more 106 rfl)
theorem me_Both__columns (D : Dt K mg) : Meth K (He.ga K "Both") "_columns" (He.ma K (He.ga K "Both") "_columns") := He.meth_ok (fas_at D.s.more 107 rfl)
theorem me_Both_next_whole (D : Dt K mg) : Meth K (He.ga K "Both") "next_whole" (He.ma K (He.ga K "Both") "next_whole") := He.meth_ok (fas_at D.s.more 108 rfl)
theorem me_Both_is_even (D : Dt K mg) : Meth K (He.ga K "Both") "is_even" (He.ma K (He.ga K "Both") "is_even") := He.meth_ok (fas_at D.s.more 109 rfl)
theorem na_Both_first (D : Dt K mg) : NoAttr K (He.ga K "Both") "first" := He.noat_ok (fas_at D.s.more 110 rfl)
theorem na_Both_size (D : Dt K mg) : NoAttr K (He.ga K "Both") "size" := He.noat_ok (fas_at D.s.more 111 rfl)
theorem na_Both_start (D : Dt K mg) : NoAttr K (He.ga K "Both") "start" := He.noat_ok (fas_at D.s.more 112 rfl)
theorem na_Both_bottom (D : Dt K mg) : NoAttr K (He.ga K "Both") "bottom" := He.noat_ok (fas_at D.s.more 113 rfl)
theorem na_Both_steps (D : Dt K mg) : NoAttr K (He.ga K "Both") "steps" := He.noat_ok (fas_at D.s.more 114 rfl)
theorem glo_Trial (D : Dt K mg) : mg "Trial" = some (.ref (He.ga K "Trial")) := by obtain ⟨h, X, G⟩ := D.n; exact He.glo_ok X G (fas_at D.s.more 115 rfl)
theorem kp_Trial (D : Dt K mg) : PySem.W.keepIn K (.ref (He.ga K "Trial")) = true := He.keep_ok (fas_at D.s.more 116 rfl)
theorem cls_Trial (D : Dt K mg) : Cls K (He.ga K "Trial") := He.cls_ok (fas_at D.s.more 117 rfl)
theorem inst_Trial (D : Dt K mg) : InstC K (He.ga K "Trial") := instB_ok (fas_at D.s.more 118 rfl)
theorem mkr_Trial (D : Dt K mg) : Mk K (He.ga K "Trial") (He.ma K (He.ga K "Trial") "__init__") := He.mkr_ok (fas_at D.s.more 119 rfl)
theorem self_Trial (D : Dt K mg) : PySem.W.selfFirst K (He.ga K "Trial") = true := fas_at D.s.more 120 rfl
theorem me_Trial_init (D : Dt K mg) : Meth K (He.ga K "Trial") "__init__" (He.ma K (He.ga K "Trial") "__init__") := He.meth_ok (fas_at D.s.more 121 rfl)
theorem me_Trial_behind (D : Dt K mg) : Meth K (He.ga K "Trial") "behind" (He.ma K (He.ga K "Trial") "behind") := He.meth_ok (fas_at D.s.more 122 rfl)
theorem me_Trial_likelihood (D : Dt K mg) : Meth K (He.ga K "Trial") "likelihood" (He.ma K (He.ga K "Trial") "likelihood") := He.meth_ok (fas_at D.s.more 123 rfl)
theorem me_Trial_best (D : Dt K mg) : Meth K (He.ga K "Trial") "best" (He.ma K (He.ga K "Trial") "best") := He.meth_ok (fas_at D.s.more 124 rfl)
theorem me_Trial_right (D : Dt K mg) : Meth K (He.ga K "Trial") "right" (He.ma K (He.ga K "Trial") "right") := He.meth_ok (fas_at D.s.more 125 rfl)
theorem na_Trial_both (D : Dt K mg) : NoAttr K (He.ga K "Trial") "both" := He.noat_ok (fas_at D.s.more 126 rfl)
theorem na_Trial_presses (D : Dt K mg) : NoAttr K (He.ga K "Trial") "presses" := He.noat_ok (fas_at D.s.more 127 rfl)
theorem glo_Machine (D : Dt K mg) : mg "Machine" = some (.ref (He.ga K "Machine")) := by obtain ⟨h, X, G⟩ := D.n; exact He.glo_ok X G (fas_at D.s.more 128 rfl)
theorem kp_Machine (D : Dt K mg) : PySem.W.keepIn K (.ref (He.ga K "Machine")) = true := He.keep_ok (fas_at D.s.more 129 rfl)
theorem cls_Machine (D : Dt K mg) : Cls K (He.ga K "Machine") := He.cls_ok (fas_at D.s.more 130 rfl)
theorem inst_Machine (D : Dt K mg) : InstC K (He.ga K "Machine") := instB_ok (fas_at D.s.more 131 rfl)
theorem mkr_Machine (D : Dt K mg) : Mk K (He.ga K "Machine") (He.ma K (He.ga K "Machine") "__init__") := He.mkr_ok (fas_at D.s.more 132 rfl)
theorem self_Machine (D : Dt K mg) : PySem.W.selfFirst K (He.ga K "Machine") = true := fas_at D.s.more 133 rfl
theorem me_Machine_init (D : Dt K mg) : Meth K (He.ga K "Machine") "__init__" (He.ma K (He.ga K "Machine") "__init__") := He.meth_ok (fas_at D.s.more 134 rfl)
theorem me_Machine_eq (D : Dt K mg) : Meth K (He.ga K "Machine") "__eq__" (He.ma K (He.ga K "Machine") "__eq__") := He.meth_ok (fas_at D.s.more 135 rfl)
theorem me_Machine_states (D : Dt K mg) : Meth K (He.ga K "Machine") "states" (He.ma K (He.ga K "Machine") "states") := He.meth_ok (fas_at D.s.more 136 rfl)
theorem me_Machine_buttons (D : Dt K mg) : Meth K (He.ga K "Machine") "buttons" (He.ma K (He.ga K "Machine") "buttons") := He.meth_ok (fas_at D.s.more 137 rfl)
theorem me_Machine_answers (D : Dt K mg) : Meth K (He.ga K "Machine") "answers" (He.ma K (He.ga K "Machine") "answers") := He.meth_ok (fas_at D.s.more 138 rfl)
theorem na_Machine_start (D : Dt K mg) : NoAttr K (He.ga K "Machine") "start" := He.noat_ok (fas_at D.s.more 139 rfl)
theorem na_Machine_moves (D : Dt K mg) : NoAttr K (He.ga K "Machine") "moves" := He.noat_ok (fas_at D.s.more 140 rfl)
theorem kitV_BadText (D : Dt K mg) : PySem.W.kitOne K (.ref (He.ga K "BadText")) (.type "ValueError") = some true := of_decide_eq_true (fas_at D.s.more 141 rfl)
theorem kit_BadText_TestError (D : Dt K mg) : PySem.W.kitOne K (.ref (He.ga K "BadText")) (.ref (He.ga K "TestError")) = some true := of_decide_eq_true (fas_at D.s.more 142 rfl)
theorem exm_BadText_TestError (D : Dt K mg) : PySem.W.exmOne K (.ref (He.ga K "BadText")) (.ref (He.ga K "TestError")) = some true := of_decide_eq_true (fas_at D.s.more 143 rfl)
theorem kit_BadText_BadText (D : Dt K mg) : PySem.W.kitOne K (.ref (He.ga K "BadText")) (.ref (He.ga K "BadText")) = some true := of_decide_eq_true (fas_at D.s.more 144 rfl)
theorem exm_BadText_BadText (D : Dt K mg) : PySem.W.exmOne K (.ref (He.ga K "BadText")) (.ref (He.ga K "BadText")) = some true := of_decide_eq_true (fas_at D.s.more 145 rfl)
theorem kit_BadText_BadPaper (D : Dt K mg) : PySem.W.kitOne K (.ref (He.ga K "BadText")) (.ref (He.ga K "BadPaper")) = some false := of_decide_eq_true (fas_at D.s.more 146 rfl)
theorem exm_BadText_BadPaper (D : Dt K mg) : PySem.W.exmOne K (.ref (He.ga K "BadText")) (.ref (He.ga K "BadPaper")) = some false := of_decide_eq_true (fas_at D.s.more 147 rfl)
theorem kit_BadText_BadMachine (D : Dt K mg) : PySem.W.kitOne K (.ref (He.ga K "BadText")) (.ref (He.ga K "BadMachine")) = some false := of_decide_eq_true (fas_at D.s.more 148 rfl)
theorem exm_BadText_BadMachine (D : Dt K mg) : PySem.W.exmOne K (.ref (He.ga K "BadText")) (.ref (He.ga K "BadMachine")) = some false := of_decide_eq_true (fas_at D.s.more 149 rfl)
theorem kit_BadText_TooLarge (D : Dt K mg) : PySem.W.kitOne K (.ref (He.ga K "BadText")) (.ref (He.ga K "TooLarge")) = some false := of_decide_eq_true (fas_at D.s.more 150 rfl)
theorem exm_BadText_TooLarge (D : Dt K mg) : PySem.W.exmOne K (.ref (He.ga K "BadText")) (.ref (He.ga K "TooLarge")) = some false := of_decide_eq_true (fas_at D.s.more 151 rfl)
theorem kit_BadText_BadRatio (D : Dt K mg) : PySem.W.kitOne K (.ref (He.ga K "BadText")) (.ref (He.ga K "BadRatio")) = some false := of_decide_eq_true (fas_at D.s.more 152 rfl)
theorem exm_BadText_BadRatio (D : Dt K mg) : PySem.W.exmOne K (.ref (He.ga K "BadText")) (.ref (He.ga K "BadRatio")) = some false := of_decide_eq_true (fas_at D.s.more 153 rfl)
theorem kitV_BadPaper (D : Dt K mg) : PySem.W.kitOne K (.ref (He.ga K "BadPaper")) (.type "ValueError") = some true := of_decide_eq_true (fas_at D.s.more 154 rfl)
theorem kit_BadPaper_TestError (D : Dt K mg) : PySem.W.kitOne K (.ref (He.ga K "BadPaper")) (.ref (He.ga K "TestError")) = some true := of_decide_eq_true (fas_at D.s.more 155 rfl)
theorem exm_BadPaper_TestError (D : Dt K mg) : PySem.W.exmOne K (.ref (He.ga K "BadPaper")) (.ref (He.ga K "TestError")) = some true := of_decide_eq_true (fas_at D.s.more 156 rfl)
theorem kit_BadPaper_BadText (D : Dt K mg) : PySem.W.kitOne K (.ref (He.ga K "BadPaper")) (.ref (He.ga K "BadText")) = some false := of_decide_eq_true (fas_at D.s.more 157 rfl)
theorem exm_BadPaper_BadText (D : Dt K mg) : PySem.W.exmOne K (.ref (He.ga K "BadPaper")) (.ref (He.ga K "BadText")) = some false := of_decide_eq_true (fas_at D.s.more 158 rfl)
theorem kit_BadPaper_BadPaper (D : Dt K mg) : PySem.W.kitOne K (.ref (He.ga K "BadPaper")) (.ref (He.ga K "BadPaper")) = some true := of_decide_eq_true (fas_at D.s.more 159 rfl)
theorem exm_BadPaper_BadPaper (D : Dt K mg) : PySem.W.exmOne K (.ref (He.ga K "BadPaper")) (.ref (He.ga K "BadPaper")) = some true := of_decide_eq_true (fas_at D.s.more 160 rfl)
theorem kit_BadPaper_BadMachine (D : Dt K mg) : PySem.W.kitOne K (.ref (He.ga K "BadPaper")) (.ref (He.ga K "BadMachine")) = some false := of_decide_eq_true (fas_at D.s.more 161 rfl)
theorem exm_BadPaper_BadMachine (D : Dt K mg) : PySem.W.exmOne K (.ref (He.ga K "BadPaper")) (.ref (He.ga K "BadMachine")) = some false := of_decide_eq_true (fas_at D.s.more 162 rfl)
theorem kit_BadPaper_TooLarge (D : Dt K mg) : PySem.W.kitOne K (.ref (He.ga K "BadPaper")) (.ref (He.ga K "TooLarge")) = some false := of_decide_eq_true (fas_at D.s.more 163 rfl)
theorem exm_BadPaper_TooLarge (D : Dt K mg) : PySem.W.exmOne K (.ref (He.ga K "BadPaper")) (.ref (He.ga K "TooLarge")) = some false := of_decide_eq_true (fas_at D.s.more 164 rfl)
theorem kit_BadPaper_BadRatio (D : Dt K mg) : PySem.W.kitOne K (.ref (He.ga K "BadPaper")) (.ref (He.ga K "BadRatio")) = some false := of_decide_eq_true (fas_at D.s.more 165 rfl)
theorem exm_BadPaper_BadRatio (D : Dt K mg) : PySem.W.exmOne K (.ref (He.ga K "BadPaper")) (.ref (He.ga K "BadRatio")) = some false := of_decide_eq_true (fas_at D.s.more 166 rfl)
theorem kitV_BadMachine (D : Dt K mg) : PySem.W.kitOne K (.ref (He.ga K "BadMachine")) (.type "ValueError") = some true := of_decide_eq_true (fas_at D.s.more 167 rfl)
theorem kit_BadMachine_TestError (D : Dt K mg) : PySem.W.kitOne K (.ref (He.ga K "BadMachine")) (.ref (He.ga K "TestError")) = some true := of_decide_eq_true (fas_at D.s.more 168 rfl)
theorem exm_BadMachine_TestError (D : Dt K mg) : PySem.W.exmOne K (.ref (He.ga K "BadMachine")) (.ref (He.ga K "TestError")) = some true := of_decide_eq_true (fas_at D.s.more 169 rfl)
theorem kit_BadMachine_BadText (D : Dt K mg) : PySem.W.kitOne K (.ref (He.ga K "BadMachine")) (.ref (He.ga K "BadText")) = some false := of_decide_eq_true (fas_at D.s.more 170 rfl)
theorem exm_BadMachine_BadText (D : Dt K mg) : PySem.W.exmOne K (.ref (He.ga K "BadMachine")) (.ref (He.ga K "BadText")) = some false := of_decide_eq_true (fas_at D.s.more 171 rfl)
theorem kit_BadMachine_BadPaper (D : Dt K mg) : PySem.W.kitOne K (.ref (He.ga K "BadMachine")) (.ref (He.ga K "BadPaper")) = some false := of_decide_eq_true (fas_at D.s.more 172 rfl)
theorem exm_BadMachine_BadPaper (D : Dt K mg) : PySem.W.exmOne K (.ref (He.ga K "BadMachine")) (.ref (He.ga K "BadPaper")) = some false := of_decide_eq_true (fas_at D.s.more 173 rfl)
theorem kit_BadMachine_BadMachine (D : Dt K mg) : PySem.W.kitOne K (.ref (He.ga K "BadMachine")) (.ref (He.ga K "BadMachine")) = some true := of_decide_eq_true (fas_at D.s.more 174 rfl)
theorem exm_BadMachine_BadMachine (D : Dt K mg) : PySem.W.exmOne K (.ref (He.ga K "BadMachine")) (.ref (He.ga K "BadMachine")) = some true := of_decide_eq_true (fas_at D.s.more 175 rfl)
theorem kit_BadMachine_TooLarge (D : Dt K mg) : PySem.W.kitOne K (.ref (He.ga K "BadMachine")) (.ref (He.ga K "TooLarge")) = some false := of_decide_eq_true (fas_at D.s.more 176 rfl)
theorem exm_BadMachine_TooLarge (D : Dt K mg) : PySem.W.exmOne K (.ref (He.ga K "BadMachine")) (.ref (He.ga K "TooLarge")) = some false := of_decide_eq_true (fas_at D.s.more 177 rfl)
theorem kit_BadMachine_BadRatio (D : Dt K mg) : PySem.W.kitOne K (.ref (He.ga K "BadMachine")) (.ref (He.ga K "BadRatio")) = some false := of_decide_eq_true (fas_at D.s.more 178 rfl)
theorem exm_BadMachine_BadRatio (D : Dt K mg) : PySem.W.exmOne K (.ref (He.ga K "BadMachine")) (.ref (He.ga K "BadRatio")) = some false := of_decide_eq_true (fas_at D.s.more 179 rfl)
theorem kitV_TooLarge (D : Dt K mg) : PySem.W.kitOne K (.ref (He.ga K "TooLarge")) (.type "ValueError") = some true := of_decide_eq_true (fas_at D.s.more 180 rfl)
theorem kit_TooLarge_TestError (D : Dt K mg) : PySem.W.kitOne K (.ref (He.ga K "TooLarge")) (.ref (He.ga K "TestError")) = some true := of_decide_eq_true (fas_at D.s.more 181 rfl)
theorem exm_TooLarge_TestError (D : Dt K mg) : PySem.W.exmOne K (.ref (He.ga K "TooLarge")) (.ref (He.ga K "TestError")) = some true := of_decide_eq_true (fas_at D.s.more 182 rfl)
theorem kit_TooLarge_BadText (D : Dt K mg) : PySem.W.kitOne K (.ref (He.ga K "TooLarge")) (.ref (He.ga K "BadText")) = some false := of_decide_eq_true (fas_at D.s.more 183 rfl)
theorem exm_TooLarge_BadText (D : Dt K mg) : PySem.W.exmOne K (.ref (He.ga K "TooLarge")) (.ref (He.ga K "BadText")) = some false := of_decide_eq_true (fas_at D.s.more 184 rfl)
theorem kit_TooLarge_BadPaper (D : Dt K mg) : PySem.W.kitOne K (.ref (He.ga K "TooLarge")) (.ref (He.ga K "BadPaper")) = some false := of_decide_eq_true (fas_at D.s.more 185 rfl)
theorem exm_TooLarge_BadPaper (D : Dt K mg) : PySem.W.exmOne K (.ref (He.ga K "TooLarge")) (.ref (He.ga K "BadPaper")) = some false := of_decide_eq_true (fas_at D.s.more 186 rfl)
theorem kit_TooLarge_BadMachine (D : Dt K mg) : PySem.W.kitOne K (.ref (He.ga K "TooLarge")) (.ref (He.ga K "BadMachine")) = some false := of_decide_eq_true (fas_at D.s.more 187 rfl)
theorem exm_TooLarge_BadMachine (D : Dt K mg) : PySem.W.exmOne K (.ref (He.ga K "TooLarge")) (.ref (He.ga K "BadMachine")) = some false := of_decide_eq_true (fas_at D.s.more 188 rfl)
theorem kit_TooLarge_TooLarge (D : Dt K mg) : PySem.W.kitOne K (.ref (He.ga K "TooLarge")) (.ref (He.ga K "TooLarge")) = some true := of_decide_eq_true (fas_at D.s.more 189 rfl)
theorem exm_TooLarge_TooLarge (D : Dt K mg) : PySem.W.exmOne K (.ref (He.ga K "TooLarge")) (.ref (He.ga K "TooLarge")) = some true := of_decide_eq_true (fas_at D.s.more 190 rfl)
theorem kit_TooLarge_BadRatio (D : Dt K mg) : PySem.W.kitOne K (.ref (He.ga K "TooLarge")) (.ref (He.ga K "BadRatio")) = some false := of_decide_eq_true (fas_at D.s.more 191 rfl)
theorem exm_TooLarge_BadRatio (D : Dt K mg) : PySem.W.exmOne K (.ref (He.ga K "TooLarge")) (.ref (He.ga K "BadRatio")) = some false := of_decide_eq_true (fas_at D.s.more 192 rfl)
theorem kitV_BadRatio (D : Dt K mg) : PySem.W.kitOne K (.ref (He.ga K "BadRatio")) (.type "ValueError") = some true := of_decide_eq_true (fas_at D.s.more 193 rfl)
theorem kit_BadRatio_TestError (D : Dt K mg) : PySem.W.kitOne K (.ref (He.ga K "BadRatio")) (.ref (He.ga K "TestError")) = some true := of_decide_eq_true (fas_at D.s.more 194 rfl)
theorem exm_BadRatio_TestError (D : Dt K mg) : PySem.W.exmOne K (.ref (He.ga K "BadRatio")) (.ref (He.ga K "TestError")) = some true := of_decide_eq_true (fas_at D.s.more 195 rfl)
theorem kit_BadRatio_BadText (D : Dt K mg) : PySem.W.kitOne K (.ref (He.ga K "BadRatio")) (.ref (He.ga K "BadText")) = some false := of_decide_eq_true (fas_at D.s.more 196 rfl)
theorem exm_BadRatio_BadText (D : Dt K mg) : PySem.W.exmOne K (.ref (He.ga K "BadRatio")) (.ref (He.ga K "BadText")) = some false := of_decide_eq_true (fas_at D.s.more 197 rfl)
theorem kit_BadRatio_BadPaper (D : Dt K mg) : PySem.W.kitOne K (.ref (He.ga K "BadRatio")) (.ref (He.ga K "BadPaper")) = some false := of_decide_eq_true (fas_at D.s.more 198 rfl)
theorem exm_BadRatio_BadPaper (D : Dt K mg) : PySem.W.exmOne K (.ref (He.ga K "BadRatio")) (.ref (He.ga K "BadPaper")) = some false := of_decide_eq_true (fas_at D.s.more 199 rfl)
theorem kit_BadRatio_BadMachine (D : Dt K mg) : PySem.W.kitOne K (.ref (He.ga K "BadRatio")) (.ref (He.ga K "BadMachine")) = some false := of_decide_eq_true (fas_at D.s.more 200 rfl)
theorem exm_BadRatio_BadMachine (D : Dt K mg) : PySem.W.exmOne K (.ref (He.ga K "BadRatio")) (.ref (He.ga K "BadMachine")) = some false := of_decide_eq_true (fas_at D.s.more 201 rfl)
theorem kit_BadRatio_TooLarge (D : Dt K mg) : PySem.W.kitOne K (.ref (He.ga K "BadRatio")) (.ref (He.ga K "TooLarge")) = some false := of_decide_eq_true (fas_at D.s.more 202 rfl)
theorem exm_BadRatio_TooLarge (D : Dt K mg) : PySem.W.exmOne K (.ref (He.ga K "BadRatio")) (.ref (He.ga K "TooLarge")) = some false := of_decide_eq_true (fas_at D.s.more 203 rfl)
theorem kit_BadRatio_BadRatio (D : Dt K mg) : PySem.W.kitOne K (.ref (He.ga K "BadRatio")) (.ref (He.ga K "BadRatio")) = some true := of_decide_eq_true (fas_at D.s.more 204 rfl)
theorem exm_BadRatio_BadRatio (D : Dt K mg) : PySem.W.exmOne K (.ref (He.ga K "BadRatio")) (.ref (He.ga K "BadRatio")) = some true := of_decide_eq_true (fas_at D.s.more 205 rfl)
theorem kitN_Ratio (D : Dt K mg) : PySem.W.kitOne K (.type "NoneType") (.ref (He.ga K "Ratio")) = some false := of_decide_eq_true (fas_at D.s.more 206 rfl)
theorem fd__wall (D : Dt K mg) : ∃ fd, FnP K "_wall" "_wall" s__wall [] (He.ga K "_wall") fd := D.s.get 0 (d := d__wall) rfl
theorem fd_weights_of (D : Dt K mg) : ∃ fd, FnP K "weights_of" "weights_of" s_weights_of [] (He.ga K "weights_of") fd := D.s.get 1 (d := d_weights_of) rfl
theorem fd_leading (D : Dt K mg) : ∃ fd, FnP K "leading" "leading" s_leading [] (He.ga K "leading") fd := D.s.get 2 (d := d_leading) rfl
theorem fd_next_numbers (D : Dt K mg) : ∃ fd, FnP K "next_numbers" "next_numbers" s_next_numbers [] (He.ga K "next_numbers") fd := D.s.get 3 (d := d_next_numbers) rfl
theorem fd__digits (D : Dt K mg) : ∃ fd, FnP K "_digits" "_digits" s__digits [] (He.ga K "_digits") fd := D.s.get 4 (d := d__digits) rfl
theorem fd_total (D : Dt K mg) : ∃ fd, FnP K "total" "total" s_total [] (He.ga K "total") fd := D.s.get 5 (d := d_total) rfl
theorem fd_are_lots (D : Dt K mg) : ∃ fd, FnP K "are_lots" "are_lots" s_are_lots [] (He.ga K "are_lots") fd := D.s.get 6 (d := d_are_lots) rfl
theorem fd_common_factor (D : Dt K mg) : ∃ fd, FnP K "common_factor" "common_factor" s_common_factor [] (He.ga K "common_factor") fd := D.s.get 7 (d := d_common_factor) rfl
theorem fd_whole (D : Dt K mg) : ∃ fd, FnP K "whole" "whole" s_whole [] (He.ga K "whole") fd := D.s.get 8 (d := d_whole) rfl
theorem fd__leaving (D : Dt K mg) : ∃ fd, FnP K "_leaving" "_leaving" s__leaving [] (He.ga K "_leaving") fd := D.s.get 9 (d := d__leaving) rfl
theorem fd_best_test (D : Dt K mg) : ∃ fd, FnP K "best_test" "best_test" s_best_test [] (He.ga K "best_test") fd := D.s.get 10 (d := d_best_test) rfl
theorem fd_plan_chance (D : Dt K mg) : ∃ fd, FnP K "plan_chance" "plan_chance" s_plan_chance [] (He.ga K "plan_chance") fd := D.s.get 11 (d := d_plan_chance) rfl
theorem fd__ask_test (D : Dt K mg) : ∃ fd, FnP K "_ask_test" "_ask_test" s__ask_test [] (He.ga K "_ask_test") fd := D.s.get 12 (d := d__ask_test) rfl
theorem fd__table (D : Dt K mg) : ∃ fd, FnP K "_table" "_table" s__table [] (He.ga K "_table") fd := D.s.get 13 (d := d__table) rfl
theorem fd__fault (D : Dt K mg) : ∃ fd, FnP K "_fault" "_fault" s__fault [] (He.ga K "_fault") fd := D.s.get 14 (d := d__fault) rfl
theorem fd__out_of (D : Dt K mg) : ∃ fd, FnP K "_out_of" "_out_of" s__out_of [] (He.ga K "_out_of") fd := D.s.get 15 (d := d__out_of) rfl
theorem fd__is_square (D : Dt K mg) : ∃ fd, FnP K "_is_square" "_is_square" s__is_square [] (He.ga K "_is_square") fd := D.s.get 16 (d := d__is_square) rfl
theorem fd__leads_on (D : Dt K mg) : ∃ fd, FnP K "_leads_on" "_leads_on" s__leads_on [] (He.ga K "_leads_on") fd := D.s.get 17 (d := d__leads_on) rfl
theorem fd__law_pool (D : Dt K mg) : ∃ fd, FnP K "_law_pool" "_law_pool" s__law_pool [] (He.ga K "_law_pool") fd := D.s.get 18 (d := d__law_pool) rfl
theorem fd__law_draw (D : Dt K mg) : ∃ fd, FnP K "_law_draw" "_law_draw" s__law_draw [] (He.ga K "_law_draw") fd := D.s.get 19 (d := d__law_draw) rfl
theorem fd__law_same (D : Dt K mg) : ∃ fd, FnP K "_law_same" "_law_same" s__law_same [] (He.ga K "_law_same") fd := D.s.get 20 (d := d__law_same) rfl
theorem fd__law_less (D : Dt K mg) : ∃ fd, FnP K "_law_less" "_law_less" s__law_less [] (He.ga K "_law_less") fd := D.s.get 21 (d := d__law_less) rfl
theorem fd__law_cells (D : Dt K mg) : ∃ fd, FnP K "_law_cells" "_law_cells" s__law_cells [] (He.ga K "_law_cells") fd := D.s.get 22 (d := d__law_cells) rfl
theorem fd__law_machine (D : Dt K mg) : ∃ fd, FnP K "_law_machine" "_law_machine" s__law_machine [] (He.ga K "_law_machine") fd := D.s.get 23 (d := d__law_machine) rfl
theorem fd__law_made (D : Dt K mg) : ∃ fd, FnP K "_law_made" "_law_made" s__law_made [] (He.ga K "_law_made") fd := D.s.get 24 (d := d__law_made) rfl
theorem fd_law (D : Dt K mg) : ∃ fd, FnP K "law" "law" s_law [] (He.ga K "law") fd := D.s.get 25 (d := d_law) rfl
theorem fd_BadText_init (D : Dt K mg) : ∃ fd, FnP K "__init__" "BadText.__init__" s_BadText_init [] (He.ma K (He.ga K "BadText") "__init__") fd := D.s.get 26 (d := d_BadText_init) rfl
theorem fd_BadPaper_init (D : Dt K mg) : ∃ fd, FnP K "__init__" "BadPaper.__init__" s_BadPaper_init [] (He.ma K (He.ga K "BadPaper") "__init__") fd := D.s.get 27 (d := d_BadPaper_init) rfl
theorem fd_BadMachine_init (D : Dt K mg) : ∃ fd, FnP K "__init__" "BadMachine.__init__" s_BadMachine_init [] (He.ma K (He.ga K "BadMachine") "__init__") fd := D.s.get 28 (d := d_BadMachine_init) rfl
theorem fd_TooLarge_init (D : Dt K mg) : ∃ fd, FnP K "__init__" "TooLarge.__init__" s_TooLarge_init [] (He.ma K (He.ga K "TooLarge") "__init__") fd := D.s.get 29 (d := d_TooLarge_init) rfl
theorem fd_Ratio_init (D : Dt K mg) : ∃ fd, FnP K "__init__" "Ratio.__init__" s_Ratio_init [V.int 1] (He.ma K (He.ga K "Ratio") "__init__") fd := D.s.get 30 (d := d_Ratio_init) rfl
theorem fd_Ratio_add (D : Dt K mg) : ∃ fd, FnP K "__add__" "Ratio.__add__" s_Ratio_add [] (He.ma K (He.ga K "Ratio") "__add__") fd := D.s.get 31 (d := d_Ratio_add) rfl
theorem fd_Ratio_sub (D : Dt K mg) : ∃ fd, FnP K "__sub__" "Ratio.__sub__" s_Ratio_sub [] (He.ma K (He.ga K "Ratio") "__sub__") fd := D.s.get 32 (d := d_Ratio_sub) rfl
theorem fd_Ratio_mul (D : Dt K mg) : ∃ fd, FnP K "__mul__" "Ratio.__mul__" s_Ratio_mul [] (He.ma K (He.ga K "Ratio") "__mul__") fd := D.s.get 33 (d := d_Ratio_mul) rfl
theorem fd_Ratio_eq (D : Dt K mg) : ∃ fd, FnP K "__eq__" "Ratio.__eq__" s_Ratio_eq [] (He.ma K (He.ga K "Ratio") "__eq__") fd := D.s.get 34 (d := d_Ratio_eq) rfl
theorem fd_Ratio_str (D : Dt K mg) : ∃ fd, FnP K "__str__" "Ratio.__str__" s_Ratio_str [] (He.ma K (He.ga K "Ratio") "__str__") fd := D.s.get 35 (d := d_Ratio_str) rfl
theorem fd_Ratio_less (D : Dt K mg) : ∃ fd, FnP K "less" "Ratio.less" s_Ratio_less [] (He.ma K (He.ga K "Ratio") "less") fd := D.s.get 36 (d := d_Ratio_less) rfl
theorem fd_Ratio_by (D : Dt K mg) : ∃ fd, FnP K "by" "Ratio.by" s_Ratio_by [] (He.ma K (He.ga K "Ratio") "by") fd := D.s.get 37 (d := d_Ratio_by) rfl
theorem fd_Whole_init (D : Dt K mg) : ∃ fd, FnP K "__init__" "Whole.__init__" s_Whole_init [] (He.ma K (He.ga K "Whole") "__init__") fd := D.s.get 38 (d := d_Whole_init) rfl
theorem fd_Whole_ratios (D : Dt K mg) : ∃ fd, FnP K "ratios" "Whole.ratios" s_Whole_ratios [] (He.ma K (He.ga K "Whole") "ratios") fd := D.s.get 39 (d := d_Whole_ratios) rfl
theorem fd_Both_init (D : Dt K mg) : ∃ fd, FnP K "__init__" "Both.__init__" s_Both_init [] (He.ma K (He.ga K "Both") "__init__") fd := D.s.get 40 (d := d_Both_init) rfl
theorem fd_Both__columns (D : Dt K mg) : ∃ fd, FnP K "_columns" "Both._columns" s_Both__columns [] (He.ma K (He.ga K "Both") "_columns") fd := D.s.get 41 (d := d_Both__columns) rfl
theorem fd_Both_next_whole (D : Dt K mg) : ∃ fd, FnP K "next_whole" "Both.next_whole" s_Both_next_whole [] (He.ma K (He.ga K "Both") "next_whole") fd := D.s.get 42 (d := d_Both_next_whole) rfl
theorem fd_Both_is_even (D : Dt K mg) : ∃ fd, FnP K "is_even" "Both.is_even" s_Both_is_even [] (He.ma K (He.ga K "Both") "is_even") fd := D.s.get 43 (d := d_Both_is_even) rfl
theorem fd_Trial_init (D : Dt K mg) : ∃ fd, FnP K "__init__" "Trial.__init__" s_Trial_init [] (He.ma K (He.ga K "Trial") "__init__") fd := D.s.get 44 (d := d_Trial_init) rfl
theorem fd_Trial_behind (D : Dt K mg) : ∃ fd, FnP K "behind" "Trial.behind" s_Trial_behind [] (He.ma K (He.ga K "Trial") "behind") fd := D.s.get 45 (d := d_Trial_behind) rfl
theorem fd_Trial_likelihood (D : Dt K mg) : ∃ fd, FnP K "likelihood" "Trial.likelihood" s_Trial_likelihood [] (He.ma K (He.ga K "Trial") "likelihood") fd := D.s.get 46 (d := d_Trial_likelihood) rfl
theorem fd_Trial_best (D : Dt K mg) : ∃ fd, FnP K "best" "Trial.best" s_Trial_best [] (He.ma K (He.ga K "Trial") "best") fd := D.s.get 47 (d := d_Trial_best) rfl
theorem fd_Trial_right (D : Dt K mg) : ∃ fd, FnP K "right" "Trial.right" s_Trial_right [] (He.ma K (He.ga K "Trial") "right") fd := D.s.get 48 (d := d_Trial_right) rfl
theorem fd_Machine_init (D : Dt K mg) : ∃ fd, FnP K "__init__" "Machine.__init__" s_Machine_init [] (He.ma K (He.ga K "Machine") "__init__") fd := D.s.get 49 (d := d_Machine_init) rfl
theorem fd_Machine_eq (D : Dt K mg) : ∃ fd, FnP K "__eq__" "Machine.__eq__" s_Machine_eq [] (He.ma K (He.ga K "Machine") "__eq__") fd := D.s.get 50 (d := d_Machine_eq) rfl
theorem fd_Machine_states (D : Dt K mg) : ∃ fd, FnP K "states" "Machine.states" s_Machine_states [] (He.ma K (He.ga K "Machine") "states") fd := D.s.get 51 (d := d_Machine_states) rfl
theorem fd_Machine_buttons (D : Dt K mg) : ∃ fd, FnP K "buttons" "Machine.buttons" s_Machine_buttons [] (He.ma K (He.ga K "Machine") "buttons") fd := D.s.get 52 (d := d_Machine_buttons) rfl
theorem fd_Machine_answers (D : Dt K mg) : ∃ fd, FnP K "answers" "Machine.answers" s_Machine_answers [] (He.ma K (He.ga K "Machine") "answers") fd := D.s.get 53 (d := d_Machine_answers) rfl
end
abbrev R : PySem.W.OpenRow := PySem.W.OpenLaw.row PySem.Challenge.rw_notesttells_k41_tests_that_are_too_long
abbrev hk : PySem.W.Hook := hookY 4 ex fn
def ob (s : PySem.W.SharedT) : He.AlD := obsYG 4 ex fn (HandSHeadRun.getT s)
theorem ob_eq (s : PySem.W.SharedT) : ob s = hk.obs s.abs := obsYG_eq (HandSHeadRun.getT_eq s)
def loose0 : List Str := ["_wall", "__name__", "weights_of", "leading", "next_numbers", "TestError", "BadText", "BadPaper", "BadMachine", "TooLarge", "BadRatio", "PART_END", "_digits", "Ratio", "total", "are_lots", "Whole", "common_factor", "whole", "Both"]
def loose1 : List Str := ["MOST_TESTS", "Trial", "_leaving", "best_test", "plan_chance", "_ask_test", "MOST_STATES", "MOST_BUTTONS", "MOST_ANSWERS", "Machine", "_table", "_fault", "_out_of", "_is_square", "_leads_on", "_law_pool", "_law_draw", "_law_same", "_law_less", "_law_cells"]
def loose2 : List Str := ["_law_machine", "_law_made"]
def loose : List Str := loose0 ++ loose1 ++ loose2
abbrev vw : Program := PySem.W.view R.prog [0, 50]
theorem run (w : World) : HandSHeadRun.RunEqI R vw hk ob 20000 loose w := by
  unfold HandSHeadRun.RunEqI
  kernel_rfl
end Hd


set_option Elab.async false
set_option linter.all false
set_option maxRecDepth 100000
set_option maxHeartbeats 4000000
namespace K
open PySem PySem.Spec PyProof.Rows L2 Tk Hd Mt
/-! ### a fraction as it stands -/
theorem nd_ : ¬ (("num" : Str) = "den") := by decide +kernel
def rf (q : Rat) : List (Str × V) := putF "den" (.int q.den) (putF "num" (.int q.num) [])
theorem rf_num (q : Rat) : (rf q).lookup ("num" : Str) = some (.int q.num) := by
  unfold rf; rw [lookup_putF, if_neg nd_, lookup_putF, if_pos rfl]
theorem rf_den (q : Rat) : (rf q).lookup ("den" : Str) = some (.int q.den) := by
  unfold rf; rw [lookup_putF, if_pos rfl]
theorem rf_no (q : Rat) {m : Str} (h1 : ¬ m = "den") (h2 : ¬ m = "num") : (rf q).lookup m = none := by
  unfold rf; rw [lookup_putF, if_neg h1, lookup_putF, if_neg h2]; rfl
abbrev CR (K : PySem.W.Frag) : Addr := He.ga K "Ratio"
abbrev CB (K : PySem.W.Frag) : Addr := He.ga K "BadRatio"
def iR (C : Addr) : Rp Rat := fun H v q => ∃ a dx, v = .ref a ∧ H a = some (.ins C dx (rf q))
instance {C : Addr} : Mono (iR C) := ⟨fun s ⟨a, dx, e, h⟩ => ⟨a, dx, e, s _ _ h⟩⟩
/-- numbers that // still takes -/
def Sm (i : Int) : Prop := i.natAbs < 2 ^ 2000
theorem Sm.div {n d : Int} (h : 0 < d) (hd : Sm d) : CDivW n (gz n d) :=
  wide_div (gz_pos h) (Nat.lt_of_le_of_lt (by have := gz_le (n := n) h; have := gz_pos (n := n) h; omega) hd) (by decide) (by decide)
theorem Sm.mul {a b : Int} (ha : Sm a) (hb : Sm b) : CMulW a b := wide_mul ha hb (by decide) (by decide) (by decide)
theorem sm_of {i : Int} (h1 : -(2 ^ 1999) < i) (h2 : i < 2 ^ 1999) : Sm i := by
  have : i.natAbs < 2 ^ 1999 := by omega
  exact Nat.lt_trans this (Nat.pow_lt_pow_right (by decide) (by decide))

/-- Ratio.__init__ -/
def spInit (C B : Addr) : Sp := fun vs H Q E => ∃ (x dx : Addr) (n d : Int), vs = [.ref x, .int n, .int d] ∧ H x = some (.ins C dx []) ∧ Sm d ∧
  (0 < d → Q .non (upd H x (.ins C dx (rf (rt n d))))) ∧ (d ≤ 0 → E (.ref B) none H)
section
variable {P : Program} {w : World} {K : PySem.W.Frag} {mg : Str → Option Value} {base : Heap}
theorem sc_init : FnScope ["self", "num", "den", "common"] ["self", "num", "den"] (defScope s_Ratio_init) := ⟨rfl, rfl, rfl, by decide +kernel, rfl, by decide +kernel, by decide +kernel⟩
theorem ok_init (D : Dt K mg) {fd : FuncData} (F : FnP K "__init__" "Ratio.__init__" s_Ratio_init [.int 1] (He.ma K (CR K) "__init__") fd) :
    FnOk P w K mg base (L2.CX P w) 1 (He.ma K (CR K) "__init__") fd ["self", "num", "den"] (spInit (CR K) (CB K)) := by
  refine F.ok sc_init (fun vs H Q E h => ?_) (fun cdv A outer s H vs Q E hr h => ?_)
  · obtain ⟨x, dx, n, d, rfl, _⟩ := h; rfl
  · obtain ⟨x, dx, n, d, rfl, hx, hd, k1, k2⟩ := h
    obtain ⟨xP, kP, bP, tP⟩ := exc_BadRatio D
    refine ⟨_, pss_cons (ps_if (pt_cmpR op_le (pv 2) pe_int (nomark _)) (pss_one (ps_raise rfl (takes_of rfl rfl rfl rfl) (pmk_own PySem.F.excBase_ValueError xP (glo_BadRatio D) kP (raises_own bP tP) rfl))) pss_nil)
      (pss_cons (ps_set (i := 3) sc_init.nd rfl (Or.inl rfl) (pe_callBfun cr_gcd rfl (blt_gcd D) (pa_cons (pv 1) (pa_cons (pv 2) pa_nil))))
      (pss_cons (ps_fld (pv 0) (pe_op op_fdivW (pv 1) (pv 3)) rfl) (pss_one (ps_fld (pv 0) (pe_op op_fdivW (pv 2) (pv 3)) rfl)))), ?_⟩
    refine ⟨_, rfl, _, _, rfl, rfl, _, rfl, ifD (fun hle => ?_) (fun hgt => ?_)⟩
    · exact k2 hle
    · have h0 : 0 < d := by omega
      refine ⟨_, rfl, _, rfl, n, d, rfl, ?_⟩
      refine ⟨_, rfl, _, rfl, _, _, rfl, rfl, Sm.div h0 hd, _, rfl, x, _, dx, _, rfl, hx, cls_Ratio D, na_Ratio_num D, (by show 0 < 1000; decide), ?_⟩
      refine ⟨_, rfl, _, rfl, _, _, rfl, rfl, Sm.div h0 hd, _, rfl, x, _, dx, _, rfl, upd_same, cls_Ratio D, na_Ratio_den D, (by show 1 < 1000; decide), ?_⟩
      have e1 := rt_num (n := n) h0
      have e2 := rt_den (n := n) h0
      have e3 : putF "den" (V.int (d / gz n d)) (putF "num" (V.int (n / gz n d)) []) = rf (rt n d) := by rw [← e1, ← e2]; rfl
      rw [upd_upd]
      have := k1 h0
      rw [← e3] at this
      exact this
theorem has_init (D : Dt K mg) : Has P w K mg base 1 (He.ma K (CR K) "__init__") ["self", "num", "den"] [] (spInit (CR K) (CB K)) := by
  obtain ⟨fd, F⟩ := fd_Ratio_init D
  obtain ⟨ds, h1, h2⟩ := FunD.binds1 (ps := ["self", "num", "den"]) F 3 1 (by simp) rfl (fun T kV doc pm an cdv ct us its hu hi => match us, hu, its, hi with | [_, _, _], _, [_], _ => ⟨_, rfl, rfl⟩)
  exact ⟨F.kp, fd, ds, h1, h2, ok_init D F⟩
theorem has_init1 (D : Dt K mg) : Has P w K mg base 1 (He.ma K (CR K) "__init__") ["self", "num", "den"] [.int 1] (spInit (CR K) (CB K)) := by
  obtain ⟨fd, F⟩ := fd_Ratio_init D
  obtain ⟨ds, h1, h2⟩ := FunD.binds1 (ps := ["self", "num", "den"]) F 2 0 (by simp) rfl (fun T kV doc pm an cdv ct us its hu hi => match us, hu, its, hi with | [_, _], _, [_], _ => ⟨_, rfl, rfl⟩)
  exact ⟨F.kp, fd, ds, h1, h2, ok_init D F⟩
end
end K

set_option Elab.async false
set_option linter.all false
set_option maxRecDepth 100000
set_option maxHeartbeats 4000000
set_option exponentiation.threshold 5000
namespace K
open PySem PySem.Spec PyProof.Rows L2 Tk Hd Mt
/-- what is wanted of a def that hands back an x and leaves all else -/
def Ret {α : Type} (ms : List Addr) (I H : Hp) (R : Rp α) (x : α) (Q : VK) : Prop := ∀ I' H' v, Gr ms I H I' H' → R I' v x → Q v H'
theorem upd3 {H : Hp} {x : Addr} {a b c : HO} : upd (upd (upd H x a) x b) x c = upd H x c := by rw [upd_upd, upd_upd]
theorem rat_new {ms : List Addr} {I H : Hp} {x dx C : Addr} {q : Rat} (s : Same I H) (nx : H x = none) (nd : H dx = none) (ne : dx ≠ x) :
    Gr ms I H (upd (upd I dx (.own x)) x (.ins C dx (rf q))) (upd (upd (upd H dx (.own x)) x (.ins C dx [])) x (.ins C dx (rf q))) ∧ iR C (upd (upd I dx (.own x)) x (.ins C dx (rf q))) (.ref x) q := by
  rw [upd_upd]
  refine ⟨(Gr.new s nd).trans (Gr.new (sBoth s) ?_), x, dx, rfl, upd_same⟩
  rw [upd_ne (Ne.symm ne)]; exact nx
def Fit (q : Rat) : Prop := q.num.natAbs < 2 ^ 900 ∧ q.den < 2 ^ 900
theorem fit_lt {a b : Int} {m n k : Nat} (ha : a.natAbs < 2 ^ m) (hb : b.natAbs < 2 ^ n) (h : m + n ≤ k) : (a * b).natAbs < 2 ^ k :=
  Nat.lt_of_lt_of_le (wide_lt ha hb) (Nat.pow_le_pow_right (by decide) h)
theorem Fit.mul_n {p q : Rat} (hp : Fit p) (hq : Fit q) : CMulW p.num q.den := wide_mul hp.1 (show (q.den : Int).natAbs < 2 ^ 900 from hq.2) (by decide) (by decide) (by decide)
theorem Fit.mul_d {p q : Rat} (hp : Fit p) (hq : Fit q) : CMulW p.den q.den := wide_mul (show (p.den : Int).natAbs < 2 ^ 900 from hp.2) (show (q.den : Int).natAbs < 2 ^ 900 from hq.2) (by decide) (by decide) (by decide)
theorem Fit.mul_nn {p q : Rat} (hp : Fit p) (hq : Fit q) : CMulW p.num q.num := wide_mul hp.1 hq.1 (by decide) (by decide) (by decide)
theorem Fit.sm_dd {p q : Rat} (hp : Fit p) (hq : Fit q) : Sm ((p.den : Int) * q.den) := fit_lt (m := 900) (n := 900) (show (p.den : Int).natAbs < 2 ^ 900 from hp.2) (show (q.den : Int).natAbs < 2 ^ 900 from hq.2) (by decide)
theorem dd_pos (p q : Rat) : 0 < (p.den : Int) * q.den := Int.mul_pos (den_pos p) (den_pos q)
theorem rt_add (p q : Rat) : rt (p.num * q.den + q.num * p.den) (p.den * q.den) = p + q := by
  have h1 : (p.den : Int) ≠ 0 := by have := den_pos p; omega
  have h2 : (q.den : Int) ≠ 0 := by have := den_pos q; omega
  unfold rt
  rw [← Rat.divInt_add_divInt _ _ h1 h2, Rat.num_divInt_den, Rat.num_divInt_den]
theorem rt_sub (p q : Rat) : rt (p.num * q.den - q.num * p.den) (p.den * q.den) = p - q := by
  have h1 : (p.den : Int) ≠ 0 := by have := den_pos p; omega
  have h2 : (q.den : Int) ≠ 0 := by have := den_pos q; omega
  have e : p - q = rt p.num p.den + rt (-q.num) q.den := by
    rw [rt_self, show rt (-q.num) q.den = -q from by rw [show rt (-q.num) q.den = -(rt q.num q.den) from by unfold rt; rw [Rat.neg_divInt], rt_self]]
    exact Rat.sub_eq_add_neg p q
  rw [e]; unfold rt
  rw [Rat.divInt_add_divInt _ _ h1 h2]
  congr 1
  rw [Int.neg_mul]; omega
theorem rt_mul (p q : Rat) : rt (p.num * q.num) (p.den * q.den) = p * q := by
  unfold rt
  rw [← Rat.divInt_mul_divInt, Rat.num_divInt_den, Rat.num_divInt_den]

section
variable {P : Program} {w : World} {K : PySem.W.Frag} {mg : Str → Option Value} {base : Heap}
/-- an operator that makes a new fraction of two -/
def spBin (C : Addr) (g : Rat → Rat → Rat) : Sp := fun vs H Q _ => ∃ (I : Hp) (a b : V) (p q : Rat), vs = [a, b] ∧ Same I H ∧ iR C I a p ∧ iR C I b q ∧ Fit p ∧ Fit q ∧ Ret [] I H (iR C) (g p q) Q
theorem bin2 {f : Addr} {fd : FuncData} {st : Stmt} {x qual : Str} (F : FnP K x qual st [] f fd)
    (h : ∀ (kV doc pm : Value) (an : Option Addr) (cdv ct : Value) (us : List Value), us.length = 2 → bindArgs (PySem.W.fnOf x qual (defArgs st) (defBody st) (defScope st) .none kV doc pm an cdv ct) ⟨us, []⟩ = pure ((["self", "other"] : List Str).zip us)) : Binds K fd ["self", "other"] [] := FunD.bindsN F h
theorem sc_add : FnScope ["self", "other"] ["self", "other"] (defScope s_Ratio_add) := ⟨rfl, rfl, rfl, by decide +kernel, rfl, by decide +kernel, by decide +kernel⟩
theorem ok_add (D : Dt K mg) : Has P w K mg base 3 (He.ma K (CR K) "__add__") ["self", "other"] [] (spBin (CR K) (· + ·)) := by
  obtain ⟨fd, F⟩ := fd_Ratio_add D
  have H_Ratio_init := has_init (P := P) (w := w) (base := base) D
  refine hasN F (F.bindsN fun _ _ _ _ _ _ us hl => match us, hl with | [_, _], _ => rfl) sc_add (fun vs H Q E h => ?_) (fun cdv A outer s H vs Q E hr h => ?_)
  · obtain ⟨I, a, b, p, q, rfl, _⟩ := h; rfl
  · obtain ⟨I, va, vb, p, q, rfl, s0, ⟨a, dx, rfl, ha⟩, ⟨b, dy, rfl, hb⟩, fp, fq, k⟩ := h
    have ha' := s0 _ _ ha
    have hb' := s0 _ _ hb
    refine ⟨_, (pss_one (ps_ret (pe_makeH (mkr_Ratio D) H_Ratio_init (hr.mono (by decide)) rfl (glo_Ratio D) passL (pa_cons (pe_op op_add (pe_op op_mulW (pe_fld (pv 0) rfl) (pe_fld (pv 1) rfl)) (pe_op op_mulW (pe_fld (pv 1) rfl) (pe_fld (pv 0) rfl))) (pa_cons (pe_op op_mulW (pe_fld (pv 0) rfl) (pe_fld (pv 1) rfl)) pa_nil))))), ?_⟩
    refine ⟨_, rfl, _, _, _, _, _, rfl, ha', cls_Ratio D, na_Ratio_num D, rf_num p, _, rfl, _, _, _, _, _, rfl, hb', cls_Ratio D, na_Ratio_den D, rf_den q, _, _, rfl, rfl, fp.mul_n fq, _, rfl, _, _, _, _, _, rfl, hb', cls_Ratio D, na_Ratio_num D, rf_num q, _, rfl, _, _, _, _, _, rfl, ha', cls_Ratio D, na_Ratio_den D, rf_den p, _, _, rfl, rfl, fq.mul_n fp, _, _, rfl, rfl, ?_⟩
    refine ⟨_, rfl, _, _, _, _, _, rfl, ha', cls_Ratio D, na_Ratio_den D, rf_den p, _, rfl, _, _, _, _, _, rfl, hb', cls_Ratio D, na_Ratio_den D, rf_den q, _, _, rfl, rfl, fp.mul_d fq, fun x dx nx nd ne => ?_⟩
    refine ⟨x, dx, _, _, rfl, upd_same, fp.sm_dd fq, fun _ => ⟨rfl, ?_⟩, fun hle => absurd (dd_pos p q) (by omega)⟩
    obtain ⟨g, r⟩ := rat_new (ms := []) (q := rt (p.num * q.den + q.num * p.den) (p.den * q.den)) s0 nx nd ne
    rw [rt_add] at r g
    rw [rt_add]
    exact k _ _ _ g r
theorem sc_mul : FnScope ["self", "other"] ["self", "other"] (defScope s_Ratio_mul) := ⟨rfl, rfl, rfl, by decide +kernel, rfl, by decide +kernel, by decide +kernel⟩
theorem ok_mul (D : Dt K mg) : Has P w K mg base 3 (He.ma K (CR K) "__mul__") ["self", "other"] [] (spBin (CR K) (· * ·)) := by
  obtain ⟨fd, F⟩ := fd_Ratio_mul D
  have H_Ratio_init := has_init (P := P) (w := w) (base := base) D
  refine hasN F (F.bindsN fun _ _ _ _ _ _ us hl => match us, hl with | [_, _], _ => rfl) sc_mul (fun vs H Q E h => ?_) (fun cdv A outer s H vs Q E hr h => ?_)
  · obtain ⟨I, a, b, p, q, rfl, _⟩ := h; rfl
  · obtain ⟨I, va, vb, p, q, rfl, s0, ⟨a, dx, rfl, ha⟩, ⟨b, dy, rfl, hb⟩, fp, fq, k⟩ := h
    have ha' := s0 _ _ ha
    have hb' := s0 _ _ hb
    refine ⟨_, (pss_one (ps_ret (pe_makeH (mkr_Ratio D) H_Ratio_init (hr.mono (by decide)) rfl (glo_Ratio D) passL (pa_cons (pe_op op_mulW (pe_fld (pv 0) rfl) (pe_fld (pv 1) rfl)) (pa_cons (pe_op op_mulW (pe_fld (pv 0) rfl) (pe_fld (pv 1) rfl)) pa_nil))))), ?_⟩
    refine ⟨_, rfl, _, _, _, _, _, rfl, ha', cls_Ratio D, na_Ratio_num D, rf_num p, _, rfl, _, _, _, _, _, rfl, hb', cls_Ratio D, na_Ratio_num D, rf_num q, _, _, rfl, rfl, fp.mul_nn fq, _, rfl, _, _, _, _, _, rfl, ha', cls_Ratio D, na_Ratio_den D, rf_den p, _, rfl, _, _, _, _, _, rfl, hb', cls_Ratio D, na_Ratio_den D, rf_den q, _, _, rfl, rfl, fp.mul_d fq, fun x dx nx nd ne => ?_⟩
    refine ⟨x, dx, _, _, rfl, upd_same, fp.sm_dd fq, fun _ => ⟨rfl, ?_⟩, fun hle => absurd (dd_pos p q) (by omega)⟩
    obtain ⟨g, r⟩ := rat_new (ms := []) (q := rt (p.num * q.num) (p.den * q.den)) s0 nx nd ne
    rw [rt_mul] at r g
    rw [rt_mul]
    exact k _ _ _ g r
end
end K

set_option Elab.async false
set_option linter.all false
set_option maxRecDepth 100000
set_option maxHeartbeats 4000000
set_option exponentiation.threshold 5000
namespace K
open PySem PySem.Spec PyProof.Rows L2 Tk Hd Mt
theorem rt_div_pos (p q : Rat) : rt (p.num * q.den) (q.num * p.den) = p / q := by
  unfold rt
  rw [Rat.div_def, Rat.inv_def, Int.mul_comm q.num]
  rw [← Rat.divInt_mul_divInt, Rat.num_divInt_den]
theorem rt_div_neg (p q : Rat) : rt (-p.num * q.den) (-q.num * p.den) = p / q := by
  rw [← rt_div_pos]; unfold rt
  rw [Int.neg_mul, Int.neg_mul, Rat.neg_divInt_neg]
theorem kit_self {K : PySem.W.Frag} {t : Value} : PySem.W.kitOne K t t = some true := by
  unfold PySem.W.kitOne; rw [if_pos (by simp)]
theorem str_app (a b : String) : (PySem.Str.ofString (a ++ b)) = PySem.Str.ofString a ++ PySem.Str.ofString b := by
  rw [PySem.Str.ofString_eq_toList, PySem.Str.ofString_eq_toList, PySem.Str.ofString_eq_toList, String.toList_append, List.map_append]
  show _ = PySem.Str.append _ _
  simp [PySem.Str.append]
theorem empty_app (a : Str) : Str.empty ++ a = a := by
  show PySem.Str.append _ _ = _
  simp [PySem.Str.append, PySem.Str.empty]
/-- str of a fraction -/
def rtext (q : Rat) : Str := if (q.den : Int) > 1 then (PySem.Str.ofString (toString q.num)) ++ ("/" : Str) ++ (PySem.Str.ofString (toString (q.den : Int))) else PySem.Str.ofString (toString q.num)
def Few (i : Int) : Prop := i.natAbs < 10 ^ 64
theorem Few.log {i : Int} (h : Few i) : i.natAbs.log2 < 1920 := by
  by_cases h0 : i.natAbs = 0
  · rw [h0]; decide
  · exact (Nat.log2_lt h0).mpr (Nat.lt_of_lt_of_le h (by decide +kernel))
theorem txt_len {i : Int} (h : Few i) : (PySem.Str.ofString (toString i)).length ≤ 1000 := by
  have e := int_text_length_le10 (a := i) (k := 64) (by decide) h
  rw [PySem.ofString_length]; omega
theorem app_len (a b : Str) : (a ++ b).length = a.length + b.length := by
  show (PySem.Str.append a b).length = _
  simp [PySem.Str.append, PySem.Str.length]
theorem line_of {n : Nat} (h : n ≤ 100000) : n ≤ sizeLine := Nat.le_trans h (by decide)
theorem neg_text {n : Int} (h : n < 0) : Str.empty ++ ("-" : Str) ++ PySem.Str.ofString (toString (-n)) = PySem.Str.ofString (toString n) := by
  rw [toString_neg h, str_app, empty_app, Int.zero_sub]
section
variable {P : Program} {w : World} {K : PySem.W.Frag} {mg : Str → Option Value} {base : Heap}
def spEq (C : Addr) : Sp := fun vs H Q _ => ∃ (I : Hp) (a b : V) (p q : Rat), vs = [a, b] ∧ Same I H ∧ iR C I a p ∧ iR C I b q ∧ Q (.bl (decide (p = q))) H
def spLess (C : Addr) : Sp := fun vs H Q _ => ∃ (I : Hp) (a b : V) (p q : Rat), vs = [a, b] ∧ Same I H ∧ iR C I a p ∧ iR C I b q ∧ Fit p ∧ Fit q ∧ Q (.bl (decide (p < q))) H
def spBy (C B : Addr) : Sp := fun vs H Q E => ∃ (I : Hp) (a b : V) (p q : Rat), vs = [a, b] ∧ Same I H ∧ iR C I a p ∧ iR C I b q ∧ Fit p ∧ Fit q ∧ (q ≠ 0 → Ret [] I H (iR C) (p / q) Q) ∧ (q = 0 → E (.ref B) none H)
def spStr (C : Addr) : Sp := fun vs H Q _ => ∃ (I : Hp) (a : V) (p : Rat), vs = [a] ∧ Same I H ∧ iR C I a p ∧ Few p.num ∧ Few p.den ∧ Q (.str (rtext p)) H
def spDig : Sp := fun vs H Q _ => ∃ n : Int, vs = [.int n] ∧ Few n ∧ Q (.str (PySem.Str.ofString (toString n))) H
theorem sc_eq : FnScope ["self", "other"] ["self", "other"] (defScope s_Ratio_eq) := ⟨rfl, rfl, rfl, by decide +kernel, rfl, by decide +kernel, by decide +kernel⟩
theorem eq_parts (p q : Rat) : (p = q) ↔ (p.num = q.num ∧ (p.den : Int) = q.den) := by
  constructor
  · rintro rfl; exact ⟨rfl, rfl⟩
  · rintro ⟨h1, h2⟩
    exact Rat.ext h1 (by omega)
theorem ok_eq (D : Dt K mg) : Has P w K mg base 1 (He.ma K (CR K) "__eq__") ["self", "other"] [] (spEq (CR K)) := by
  obtain ⟨fd, F⟩ := fd_Ratio_eq D
  refine hasN F (F.bindsN fun _ _ _ _ _ _ us hl => match us, hl with | [_, _], _ => rfl) sc_eq (fun vs H Q E h => ?_) (fun cdv A outer s H vs Q E hr h => ?_)
  · obtain ⟨I, a, b, p, q, rfl, _⟩ := h; rfl
  · obtain ⟨I, va, vb, p, q, rfl, s0, ⟨a, dx, rfl, ha⟩, ⟨b, dy, rfl, hb⟩, k⟩ := h
    have ha' := s0 _ _ ha
    have hb' := s0 _ _ hb
    refine ⟨_, (pss_one (ps_ret (pe_and (pe_callB call_isi rfl (free_isinstance D) (by decide +kernel) (pa_cons (pv 1) (pa_cons (pe_glob (v := .ref (He.ga K "Ratio")) rfl (glo_Ratio D) rfl) pa_nil))) (pe_and (pe_cmpR op_eq (pe_fld (pv 0) rfl) (pe_fld (pv 1) rfl) (nomark _)) (pe_one (pe_cmpR op_eq (pe_fld (pv 0) rfl) (pe_fld (pv 1) rfl) (nomark _))))))), ?_⟩
    refine ⟨_, rfl, _, _, _, _, true, rfl, .own _, (inst_Ratio D).ty (cls_Ratio D) hb', kit_self, _, rfl, iteT ?_⟩
    refine ⟨_, rfl, _, _, _, _, _, rfl, ha', cls_Ratio D, na_Ratio_num D, rf_num p, _, rfl, _, _, _, _, _, rfl, hb', cls_Ratio D, na_Ratio_num D, rf_num q, rfl, _, rfl, ?_⟩
    have e : decide (p = q) = (decide (V.int p.num = V.int q.num) && decide (V.int (p.den : Int) = V.int q.den)) := by
      rw [← Bool.decide_and]; exact decide_eq_decide.mpr (by rw [eq_parts]; simp)
    rw [e] at k
    refine ifB (fun c => ?_) (fun c => ?_)
    · refine ⟨_, rfl, _, _, _, _, _, rfl, ha', cls_Ratio D, na_Ratio_den D, rf_den p, _, rfl, _, _, _, _, _, rfl, hb', cls_Ratio D, na_Ratio_den D, rf_den q, rfl, ?_⟩
      rw [c, Bool.true_and] at k
      exact k
    · rw [c, Bool.false_and] at k
      exact k
end
end K

set_option Elab.async false
set_option linter.all false
set_option maxRecDepth 100000
set_option maxHeartbeats 4000000
set_option exponentiation.threshold 5000
namespace K
open PySem PySem.Spec PyProof.Rows L2 Tk Hd Mt
/-! ### the law's draws -/
def plist (c : Addr) (pos : Nat) (big seed left bud : Int) : List V := [.ref c, .int pos, .int big, .int seed, .int left, .int bud]
def PoolOk (I H : Hp) (p : Addr) : Prop := I p = none ∧ ∃ (c : Addr) (cells : List Int) (pos : Nat) (big seed left bud : Int), I c = some (.lst (cells.map V.int)) ∧ cells.length ≤ 100000 ∧ pos ≤ cells.length ∧ H p = some (.lst (plist c pos big seed left bud))
theorem PoolOk.up {ms : List Addr} {I H I' H' : Hp} {p : Addr} (h : PoolOk I H p) (g : Gr ms I H I' H') (n : p ∉ ms) : PoolOk I' H' p := by
  obtain ⟨i, c, cells, pos, b, s, l, u, h1, h2, h3, h4⟩ := h
  exact ⟨g.out i h4, c, cells, pos, b, s, l, u, g.ii _ _ h1, h2, h3, g.at h4 n⟩
section
variable {P : Program} {w : World} {K : PySem.W.Frag} {mg : Str → Option Value} {base : Heap}
def spPool (K : PySem.W.Frag) : Sp := fun vs H Q _ => ∃ (I : Hp) (a : Addr) (ns : List Int) (b : Int), vs = [.ref a, .int b] ∧ Same I H ∧ SqL K H a (ns.map V.int) ∧ ns.length ≤ 100000 ∧
  ∀ I' H' p, Gr [] I H I' H' → PoolOk I' H' p → H p = none → Q (.ref p) H'
theorem sc_pool : FnScope ["script", "budget"] ["script", "budget"] (defScope s__law_pool) := ⟨rfl, rfl, rfl, by decide +kernel, rfl, by decide +kernel, by decide +kernel⟩
theorem ok_pool (D : Dt K mg) : Has P w K mg base 1 (He.ga K "_law_pool") ["script", "budget"] [] (spPool K) := by
  obtain ⟨fd, F⟩ := fd__law_pool D
  refine hasN F (F.bindsN fun _ _ _ _ _ _ us hl => match us, hl with | [_, _], _ => rfl) sc_pool (fun vs H Q E h => ?_) (fun cdv A outer s H vs Q E hr h => ?_)
  · obtain ⟨I, a, ns, b, rfl, _⟩ := h; rfl
  · obtain ⟨I, a, ns, b, rfl, s0, hS, hl, k⟩ := h
    refine ⟨_, (pss_one (ps_ret (pe_lst (pa_cons (pe_callTy call_list_of rfl (free_list D) (by decide +kernel) (pa_cons (pv 0) pa_nil)) (pa_cons pe_int (pa_cons pe_int (pa_cons pe_int (pa_cons pe_int (pa_cons (pv 1) pa_nil))))))))), ?_⟩
    refine ⟨_, rfl, a, _, rfl, .inl hS, fun c hc => ?_⟩
    refine ⟨_, rfl, (by show 6 ≤ sizeLine; decide), fun p hp => ?_⟩
    have npc : p ≠ c := fun e => by rw [e, upd_same] at hp; cases hp
    have hp0 : H p = none := by rw [upd_ne npc] at hp; exact hp
    have g : Gr [] I H (upd I c (.lst (ns.map V.int))) (upd (upd H c (.lst (ns.map V.int))) p (.lst (plist c 0 0 1 0 b))) := (Gr.new s0 hc).trans (Gr.tmp (sBoth s0) hp)
    exact k _ _ p g ⟨by rw [upd_ne npc]; exact s0.free hp0, c, ns, 0, 0, 1, 0, b, upd_same, hl, Nat.zero_le _, upd_same⟩ hp0
def spDraw : Sp := fun vs H Q _ => ∃ (I : Hp) (p : Addr) (n : Int), vs = [.ref p, .int n] ∧ Same I H ∧ PoolOk I H p ∧ 0 < n ∧ n < 2 ^ 64 ∧
  ∀ (v : Int) H', 0 ≤ v → v < n → Gr [p] I H I H' → PoolOk I H' p → Q (.int v) H'
theorem sc_draw : FnScope ["pool", "size", "cell", "value"] ["pool", "size"] (defScope s__law_draw) := ⟨rfl, rfl, rfl, by decide +kernel, rfl, by decide +kernel, by decide +kernel⟩
theorem mulc {i : Int} {j : Int} (h1 : -(2 ^ 64) < j) (h2 : j < 2 ^ 64) : CMul i j := .inr ⟨h1, h2⟩
theorem ok_draw (D : Dt K mg) : Has P w K mg base 1 (He.ga K "_law_draw") ["pool", "size"] [] spDraw := by
  obtain ⟨fd, F⟩ := fd__law_draw D
  refine hasN F (F.bindsN fun _ _ _ _ _ _ us hl => match us, hl with | [_, _], _ => rfl) sc_draw (fun vs H Q E h => ?_) (fun cdv A outer s H vs Q E hr h => ?_)
  · obtain ⟨I, p, n, rfl, _⟩ := h; rfl
  · obtain ⟨I, p, n, rfl, s0, ⟨hI, c, cells, pos, big, seed, left, bud, hc, hl, hpos, hp⟩, hn0, hn1, k⟩ := h
    refine ⟨_, (pss_cons (ps_if (PW.pt (pw_and (pt_cmpR op_le (pe_ix ix_list (pv 0) pe_int (fun _ _ => rfl)) pe_int (nomark _)) (pw_and (pt_cmpR op_le (pe_ix ix_list (pv 0) pe_int (fun _ _ => rfl)) pe_int (nomark _)) (pw_and1 (pt_cmpR op_lt (pe_ix ix_list (pv 0) pe_int (fun _ _ => rfl)) (pe_callB call_len rfl (free_len D) PySem.boot_len (pa_cons (pe_ix ix_list (pv 0) pe_int (fun _ _ => rfl)) pa_nil)) (nomark _))))))
      (pss_cons (ps_set (i := 2) sc_draw.nd rfl (Or.inl rfl) (pe_ix ix_list (pe_ix ix_list (pv 0) pe_int (fun _ _ => rfl)) (pe_ix ix_list (pv 0) pe_int (fun _ _ => rfl)) (fun _ _ => rfl)))
      (pss_cons (ps_asg (pe_op op_add (pe_ix ix_list (pv 0) pe_int (fun _ _ => rfl)) pe_int) (pg_sub (pv 0) pe_int set_list))
      (pss_cons (ps_asg (pe_op op_mod (pe_callTy call_int1 rfl (free_int D) (by decide +kernel) (pa_cons (pe_op op_add (pe_op op_mul (pe_ix ix_list (pv 0) pe_int (fun _ _ => rfl)) pe_int) (pv 2)) pa_nil)) pe_int) (pg_sub (pv 0) pe_int set_list))
      (pss_cons (ps_asg pe_int (pg_sub (pv 0) pe_int set_list))
      (pss_one (ps_if (pt_cmpR op_ge (pv 2) (pe_op op_pow pe_int pe_int) (nomark _))
      (pss_one (ps_asg (pv 2) (pg_sub (pv 0) pe_int set_list)))
      pss_nil))))))
      pss_nil)
      (pss_cons (ps_if (pt_cmpR op_gt (pe_ix ix_list (pv 0) pe_int (fun _ _ => rfl)) pe_int (nomark _))
      (pss_cons (ps_set (i := 3) sc_draw.nd rfl (Or.inl rfl) (pe_op op_mod (pe_callTy call_int1 rfl (free_int D) (by decide +kernel) (pa_cons (pe_ix ix_list (pv 0) pe_int (fun _ _ => rfl)) pa_nil)) (pv 1)))
      (pss_cons (ps_asg (pe_op op_fdivW (pe_ix ix_list (pv 0) pe_int (fun _ _ => rfl)) (pv 1)) (pg_sub (pv 0) pe_int set_list))
      (pss_cons (ps_asg pe_int (pg_sub (pv 0) pe_int set_list))
      (pss_one (ps_ret (pv 3))))))
      pss_nil)
      (pss_cons (ps_asg (pe_op op_sub (pe_ix ix_list (pv 0) pe_int (fun _ _ => rfl)) pe_int) (pg_sub (pv 0) pe_int set_list))
      (pss_cons (ps_asg (pe_op op_mod (pe_callTy call_int1 rfl (free_int D) (by decide +kernel) (pa_cons (pe_op op_add (pe_op op_mul (pe_ix ix_list (pv 0) pe_int (fun _ _ => rfl)) pe_int) pe_int) pa_nil)) pe_int) (pg_sub (pv 0) pe_int set_list))
      (pss_one (ps_ret (pe_op op_mod (pe_op op_mod (pe_callTy call_int1 rfl (free_int D) (by decide +kernel) (pa_cons (pe_op op_add (pe_op op_mul (pe_ix ix_list (pv 0) pe_int (fun _ _ => rfl)) pe_int) pe_int) pa_nil)) pe_int) (pv 1)))))))), ?_⟩
    refine seq_cut (fun σ' H' => ∃ (v : Option V) (pos' : Nat) (big' seed' left' : Int), σ' = [some (.ref p), some (.int n), v, none] ∧ Gr [p] I H I H' ∧ pos' ≤ cells.length ∧ H' p = some (.lst (plist c pos' big' seed' left' bud))) (fun nx q => ?_) ?_
    · have hc' := s0 _ _ hc
      have stay : nx [some (.ref p), some (.int n), none, none] H := q _ _ ⟨none, pos, big, seed, left, rfl, Gr.refl s0, hpos, hp⟩
      refine ⟨_, rfl, _, _, _, _, rfl, rfl, SqL.of hp, at_of (j := 2) rfl rfl, _, _, rfl, rfl, _, rfl, ifD (fun _ => ?_) (fun _ => iteF stay)⟩
      refine ⟨_, rfl, _, _, _, _, rfl, rfl, SqL.of hp, at_of (j := 4) rfl rfl, _, _, rfl, rfl, _, rfl, ifD (fun _ => ?_) (fun _ => iteF stay)⟩
      refine ⟨_, rfl, _, _, _, _, rfl, rfl, SqL.of hp, at_of (j := 1) rfl rfl, _, rfl, _, _, _, _, rfl, rfl, SqL.of hp, at_of (j := 0) rfl rfl, _, cells.length, rfl, .inl ⟨_, SqL.of hc', by simp⟩, _, _, rfl, rfl, _, rfl, ?_⟩
      refine ifD (fun hlt => ?_) (fun _ => stay)
      have hlt' : pos < cells.length := by omega
      have hcell : (cells.map V.int)[pos]? = some (.int cells[pos]) := by rw [List.getElem?_map, List.getElem?_eq_getElem hlt']; rfl
      refine ⟨_, rfl, _, _, _, _, rfl, rfl, SqL.of hp, at_of (j := 0) rfl rfl, _, rfl, _, _, _, _, rfl, rfl, SqL.of hp, at_of (j := 1) rfl rfl, _, _, _, _, rfl, rfl, SqL.of hc', at_of rfl hcell, ?_⟩
      refine ⟨_, rfl, _, _, _, _, rfl, rfl, SqL.of hp, at_of (j := 1) rfl rfl, _, _, rfl, rfl, _, rfl, _, _, _, _, rfl, rfl, hp, (show ixN _ _ = some 1 from rfl), ?_⟩
      refine ⟨_, rfl, _, _, _, _, rfl, rfl, SqL.of upd_same, at_of (j := 3) rfl rfl, _, _, rfl, rfl, mulc (by decide) (by decide), _, rfl, _, _, rfl, rfl, .inl ⟨_, rfl, _, _, rfl, rfl, (by show (0 : Int) < 2147483647; decide), _, rfl, _, _, _, _, rfl, rfl, upd_same, (show ixN _ _ = some 3 from rfl), ?_⟩⟩
      refine ⟨_, rfl, _, _, _, _, rfl, rfl, upd_same, (show ixN _ _ = some 4 from rfl), ?_⟩
      have hg : ∀ l : List V, Gr [p] I H I (upd H p (.lst l)) := fun l => Gr.mut s0 hI (by simp)
      refine ⟨_, rfl, _, _, rfl, rfl, ⟨by decide, by decide, by decide⟩, _, _, rfl, rfl, _, rfl, ifD (fun _ => ?_) (fun _ => ?_)⟩
      · refine ⟨_, rfl, _, rfl, _, _, _, _, rfl, rfl, upd_same, (show ixN _ _ = some 2 from rfl), ?_⟩
        refine q _ _ ⟨some (.int cells[pos]), pos + 1, cells[pos], (seed * 31 + cells[pos]) % 2147483647, 7, rfl, ?_, by omega, ?_⟩
        · rw [upd_upd, upd_upd, upd_upd]; exact hg _
        · rw [upd_same]; rfl
      · refine q _ _ ⟨some (.int cells[pos]), pos + 1, big, (seed * 31 + cells[pos]) % 2147483647, 7, rfl, ?_, by omega, ?_⟩
        · rw [upd_upd, upd_upd]; exact hg _
        · rw [upd_same]; rfl
    · rintro σ' H' ⟨v, pos, big, seed, left, rfl, g, hpos, hp⟩
      have s1 : Same I H' := g.ih
      refine ⟨_, rfl, _, _, _, _, rfl, rfl, SqL.of hp, at_of (j := 2) rfl rfl, _, _, rfl, rfl, _, rfl, ifD (fun _ => ?_) (fun _ => ?_)⟩
      · refine ⟨_, rfl, _, _, _, _, rfl, rfl, SqL.of hp, at_of (j := 2) rfl rfl, .inl ⟨_, rfl, _, rfl, _, _, rfl, rfl, hn0, ?_⟩⟩
        refine ⟨_, rfl, _, _, _, _, rfl, rfl, SqL.of hp, at_of (j := 2) rfl rfl, _, rfl, _, _, rfl, rfl, wide_div hn0 (b := 64) (by omega) (by decide) (by decide), _, rfl, _, _, _, _, rfl, rfl, hp, (show ixN _ _ = some 2 from rfl), ?_⟩
        refine ⟨_, rfl, _, _, _, _, rfl, rfl, upd_same, (show ixN _ _ = some 4 from rfl), _, rfl, ?_⟩
        have hm := Int.emod_nonneg big (by omega : n ≠ 0)
        have hm2 := Int.emod_lt_of_pos big hn0
        rw [upd_upd]
        exact k _ _ hm hm2 (g.trans (Gr.mut s1 hI (by simp))) ⟨hI, c, cells, pos, big / n, seed, 0, bud, hc, hl, hpos, upd_same⟩
      · refine ⟨_, rfl, _, _, _, _, rfl, rfl, SqL.of hp, at_of (j := 4) rfl rfl, _, _, rfl, rfl, _, rfl, _, _, _, _, rfl, rfl, hp, (show ixN _ _ = some 4 from rfl), ?_⟩
        refine ⟨_, rfl, _, _, _, _, rfl, rfl, SqL.of upd_same, at_of (j := 3) rfl rfl, _, _, rfl, rfl, mulc (by decide) (by decide), _, _, rfl, rfl, .inl ⟨_, rfl, _, _, rfl, rfl, (by show (0 : Int) < 2147483647; decide), _, rfl, _, _, _, _, rfl, rfl, upd_same, (show ixN _ _ = some 3 from rfl), ?_⟩⟩
        refine ⟨_, rfl, _, _, _, _, rfl, rfl, SqL.of upd_same, at_of (j := 3) rfl rfl, _, _, rfl, rfl, mulc (by decide) (by decide), _, _, rfl, rfl, .inl ⟨_, rfl, _, _, rfl, rfl, (by show (0 : Int) < 2147483647; decide), _, rfl, _, _, rfl, rfl, hn0, ?_⟩⟩
        rw [upd_upd]
        exact k _ _ (Int.emod_nonneg _ (by omega)) (Int.emod_lt_of_pos _ hn0) (g.trans (Gr.mut s1 hI (by simp))) ⟨hI, c, cells, pos, big, _, left - 1, bud, hc, hl, hpos, upd_same⟩
/-! ### the law's own fractions -/
def iQ : Rp Rat := fun H v q => ∃ a, v = .ref a ∧ H a = some (.tup [.int q.num, .int q.den])
instance : Mono iQ := ⟨fun s ⟨a, e, h⟩ => ⟨a, e, s _ _ h⟩⟩
def spLs : Sp := fun vs H Q _ => ∃ (I : Hp) (n d : Int), vs = [.int n, .int d] ∧ Same I H ∧ 0 < d ∧ d < 2 ^ 1999 ∧ Ret [] I H iQ (rt n d) Q
theorem sc_less_ : FnScope ["num", "den", "a", "b", "k"] ["num", "den"] (defScope s__law_less) := ⟨rfl, rfl, rfl, by decide +kernel, rfl, by decide +kernel, by decide +kernel⟩
theorem ok_ls (D : Dt K mg) : Has P w K mg base 1 (He.ga K "_law_less") ["num", "den"] [] spLs := by
  obtain ⟨fd, F⟩ := fd__law_less D
  refine hasN F (F.bindsN fun _ _ _ _ _ _ us hl => match us, hl with | [_, _], _ => rfl) sc_less_ (fun vs H Q E h => ?_) (fun cdv A outer s H vs Q E hr h => ?_)
  · obtain ⟨I, n, d, rfl, _⟩ := h; rfl
  · obtain ⟨I, n, d, rfl, s0, hd, hd2, k⟩ := h
    refine ⟨_, (pss_cons (ps_set (i := 2) sc_less_.nd rfl (Or.inl rfl) (pe_callB call_abs rfl (free_abs D) (by decide +kernel) (pa_cons (pv 0) pa_nil)))
      (pss_cons (ps_set (i := 3) sc_less_.nd rfl (Or.inl rfl) (pv 1))
      (pss_cons (ps_for PassesOwn.never rfl (pi_range1 rfl (free_range D) (pa_cons pe_int pa_nil)) (pg_name (i := 4) sc_less_.nd rfl (Or.inl rfl))
      (pss_cons (ps_if (pt_cmpR op_eq (pv 3) pe_int (nomark _))
      (pss_one ps_break)
      pss_nil)
      (pss_one (ps_par (i := 2) (j := 3) rfl sc_less_.nd rfl rfl (by decide) rfl rfl (pa_cons (pv 3) (pa_cons (pe_op op_mod (pe_callTy call_int1 rfl (free_int D) (by decide +kernel) (pa_cons (pv 2) pa_nil)) (pv 3)) pa_nil)) rfl))))
      (pss_one (ps_ret (pe_tup (pa_cons (pe_op op_fdivW (pv 0) (pv 2)) (pa_cons (pe_op op_fdivW (pv 1) (pv 2)) pa_nil)))))))), ?_⟩
    refine ⟨_, rfl, _, rfl, _, rfl, 4000, rfl, by decide, by decide, ?_⟩
    refine for_rangeP (n := 4000) (fun σ' H' => ∃ (b v : Option V), σ' = [some (.int n), some (.int d), some (.int (gz n d)), b, v] ∧ H' = H)
      (fun i σ' H' => ∃ (a b : Int) (v : Option V), σ' = [some (.int n), some (.int d), some (.int a), some (.int b), v] ∧ H' = H ∧ 0 ≤ a ∧ 0 ≤ b ∧ eu (4000 - i) a b = gz n d)
      ⟨_, d, none, rfl, rfl, by split <;> omega, by omega, eu_gz hd hd2⟩ (fun nx q i σ' H' hi h => ?_) (fun σ' H' h => ?_) ?_
    · obtain ⟨a, b, v, rfl, rfl, ha, hb, he⟩ := h
      obtain ⟨j, hj⟩ : ∃ j, 4000 - i = j + 1 := ⟨4000 - i - 1, by omega⟩
      have hj2 : 4000 - (i + 1) = j := by omega
      rw [hj] at he
      refine ⟨_, rfl, rfl, _, rfl, ifD (fun h0 => ?_) (fun h0 => ?_)⟩
      · have e0 : b = 0 := by simpa using h0
        rw [e0, eu_zero] at he
        exact q _ _ ⟨_, _, by rw [he]; rfl, rfl⟩
      · have e0 : ¬ b = 0 := by simpa using h0
        have b0 : 0 < b := by omega
        refine ⟨_, rfl, _, rfl, .inl ⟨_, rfl, _, rfl, _, _, rfl, rfl, b0, _, _, rfl, ?_⟩⟩
        have he' : eu j b (a % b) = gz n d := by rw [← he]; show _ = if b = 0 then a else eu j b (a % b); rw [if_neg e0]
        exact ⟨b, a % b, _, rfl, rfl, hb, Int.emod_nonneg _ e0, by rw [hj2]; exact he'⟩
    · obtain ⟨a, b, v, rfl, rfl, _, _, he⟩ := h
      have he' : a = gz n d := by rw [← he]; rfl
      rw [he']
      exact ⟨_, _, rfl, rfl⟩
    · rintro σ' H' ⟨b, v, rfl, rfl⟩
      have sm : Sm d := by show d.natAbs < 2 ^ 2000; have : d.natAbs < 2 ^ 1999 := by omega
                           exact Nat.lt_trans this (by decide)
      refine ⟨_, rfl, _, rfl, _, _, rfl, rfl, sm.div hd, _, rfl, _, rfl, _, _, rfl, rfl, sm.div hd, (by show 2 ≤ sizeLine; decide), fun p hp => ?_⟩
      have e1 := rt_num (n := n) hd
      have e2 := rt_den (n := n) hd
      have z := k _ _ (.ref p) (Gr.new (o := .tup [.int (rt n d).num, .int (rt n d).den]) s0 hp) ⟨p, rfl, upd_same⟩
      rw [e1, e2] at z
      exact z
end
end K

set_option Elab.async false
set_option linter.all false
set_option maxRecDepth 100000
set_option maxHeartbeats 4000000
/-! Data as the law compares it. -/
namespace Tk
open PySem PySem.Spec PyProof.Rows L2
inductive Da where
  | non | bl (b : Bool) | int (i : Int) | str (s : Str) | lst (l : List Da) | tup (l : List Da)
mutual
def eqd : Da → Da → Bool
  | .non, .non => true
  | .bl a, .bl b => decide (a = b)
  | .int a, .int b => decide (a = b)
  | .str a, .str b => decide (a = b)
  | .lst a, .lst b => eqds a b
  | .tup a, .tup b => eqds a b
  | _, _ => false
def eqds : List Da → List Da → Bool
  | [], [] => true
  | a :: r, b :: s => eqd a b && eqds r s
  | _, _ => false
end
mutual
def dep : Da → Nat
  | .lst l => deps l + 1
  | .tup l => deps l + 1
  | _ => 0
def deps : List Da → Nat
  | [] => 0
  | a :: r => max (dep a) (deps r)
end
mutual
def tame : Da → Prop
  | .lst l => l.length ≤ 1000000 ∧ tames l
  | .tup l => l.length ≤ 1000000 ∧ tames l
  | _ => True
def tames : List Da → Prop
  | [] => True
  | a :: r => tame a ∧ tames r
end
mutual
def dR (H : Hp) : V → Da → Prop
  | v, .non => v = .non
  | v, .bl b => v = .bl b
  | v, .int i => v = .int i
  | v, .str s => v = .str s
  | v, .lst l => ∃ a vs, v = .ref a ∧ H a = some (.lst vs) ∧ dRs H vs l
  | v, .tup l => ∃ a vs, v = .ref a ∧ H a = some (.tup vs) ∧ dRs H vs l
def dRs (H : Hp) : List V → List Da → Prop
  | vs, [] => vs = []
  | vs, d :: ds => ∃ v r, vs = v :: r ∧ dR H v d ∧ dRs H r ds
end
mutual
theorem dR_up {H H' : Hp} (s : Same H H') : ∀ (v : V) (d : Da), dR H v d → dR H' v d
  | v, .non, h => h
  | v, .bl _, h => h
  | v, .int _, h => h
  | v, .str _, h => h
  | v, .lst l, h => by
    simp only [dR] at h ⊢
    obtain ⟨a, vs, e, h1, h2⟩ := h
    exact ⟨a, vs, e, s _ _ h1, dRs_up s vs l h2⟩
  | v, .tup l, h => by
    simp only [dR] at h ⊢
    obtain ⟨a, vs, e, h1, h2⟩ := h
    exact ⟨a, vs, e, s _ _ h1, dRs_up s vs l h2⟩
theorem dRs_up {H H' : Hp} (s : Same H H') : ∀ (vs : List V) (ds : List Da), dRs H vs ds → dRs H' vs ds
  | vs, [], h => by simp only [dRs] at h ⊢; exact h
  | vs, d :: ds, h => by
    simp only [dRs] at h ⊢
    obtain ⟨v, r, e, h1, h2⟩ := h
    exact ⟨v, r, e, dR_up s v d h1, dRs_up s r ds h2⟩
end
theorem dRs_len {H : Hp} : ∀ {vs : List V} {ds : List Da}, dRs H vs ds → vs.length = ds.length
  | vs, [], h => by simp only [dRs] at h; subst h; rfl
  | vs, d :: ds, h => by
    simp only [dRs] at h
    obtain ⟨v, r, rfl, _, h2⟩ := h
    simp [dRs_len h2]
theorem dRs_at {H : Hp} : ∀ {vs : List V} {ds : List Da} {i : Nat} {d : Da}, dRs H vs ds → ds[i]? = some d → ∃ v, vs[i]? = some v ∧ dR H v d
  | _, [], _, _, _, e => by simp at e
  | vs, d :: ds, 0, x, h, e => by
    simp only [dRs] at h
    obtain ⟨v, r, rfl, h1, _⟩ := h
    simp at e; subst e
    exact ⟨v, rfl, h1⟩
  | vs, d :: ds, i + 1, x, h, e => by
    simp only [dRs] at h
    obtain ⟨v, r, rfl, _, h2⟩ := h
    obtain ⟨u, h3, h4⟩ := dRs_at (i := i) (d := x) h2 (by simpa using e)
    exact ⟨u, by simpa using h3, h4⟩
theorem tames_at : ∀ {ds : List Da} {i : Nat} {d : Da}, tames ds → ds[i]? = some d → tame d
  | [], _, _, _, e => by simp at e
  | d :: ds, 0, x, h, e => by simp at e; subst e; exact h.1
  | d :: ds, i + 1, x, h, e => tames_at (ds := ds) (i := i) h.2 (by simpa using e)
theorem deps_at : ∀ {ds : List Da} {i : Nat} {d : Da}, ds[i]? = some d → dep d ≤ deps ds
  | [], _, _, e => by simp at e
  | d :: ds, 0, x, e => by simp at e; subst e; simp only [deps]; omega
  | d :: ds, i + 1, x, e => by
    have := deps_at (ds := ds) (i := i) (d := x) (by simpa using e)
    simp only [deps]; omega
mutual
theorem eqd_iff : ∀ a b : Da, eqd a b = true ↔ a = b
  | .non, b => by cases b <;> simp [eqd]
  | .bl x, b => by cases b <;> simp [eqd]
  | .int x, b => by cases b <;> simp [eqd]
  | .str x, b => by cases b <;> simp [eqd]
  | .lst x, b => by cases b <;> simp [eqd]; exact eqds_iff _ _
  | .tup x, b => by cases b <;> simp [eqd]; exact eqds_iff _ _
theorem eqds_iff : ∀ a b : List Da, eqds a b = true ↔ a = b
  | [], b => by cases b <;> simp [eqds]
  | a :: r, b => by
    cases b with
    | nil => simp [eqds]
    | cons b s => simp [eqds, eqd_iff a b, eqds_iff r s]
end
theorem eqds_len : ∀ {a b : List Da}, a.length ≠ b.length → eqds a b = false
  | [], [], h => absurd rfl h
  | [], _ :: _, _ => rfl
  | _ :: _, [], _ => rfl
  | a :: r, b :: s, h => by
    have := eqds_len (a := r) (b := s) (by simpa using h)
    simp [eqds, this]
theorem eqds_false : ∀ {a b : List Da} {i : Nat} {x y : Da}, a[i]? = some x → b[i]? = some y → eqd x y = false → eqds a b = false
  | [], _, _, _, _, h, _, _ => by simp at h
  | _ :: _, [], _, _, _, _, h, _ => by simp at h
  | a :: r, b :: s, 0, x, y, h1, h2, h3 => by simp at h1 h2; subst h1 h2; simp [eqds, h3]
  | a :: r, b :: s, i + 1, x, y, h1, h2, h3 => by
    have := eqds_false (a := r) (b := s) (i := i) (by simpa using h1) (by simpa using h2) h3
    simp [eqds, this]
theorem eqds_true : ∀ {a b : List Da}, a.length = b.length → (∀ (i : Nat) (x y : Da), a[i]? = some x → b[i]? = some y → eqd x y = true) → eqds a b = true
  | [], [], _, _ => rfl
  | [], _ :: _, h, _ => by simp at h
  | _ :: _, [], h, _ => by simp at h
  | a :: r, b :: s, h, k => by
    simp only [eqds, Bool.and_eq_true]
    exact ⟨k 0 a b rfl rfl, eqds_true (by simpa using h) fun i x y h1 h2 => k (i + 1) x y (by simpa using h1) (by simpa using h2)⟩
/-- its kind -/
def knd : Da → String
  | .non => "NoneType" | .bl _ => "bool" | .int _ => "int" | .str _ => "str" | .lst _ => "list" | .tup _ => "tuple"
def isT : Da → String → Bool
  | .non, _ => false
  | .bl _, T => T == "bool" || T == "int"
  | .int _, T => T == "int"
  | .str _, T => T == "str"
  | .lst _, T => T == "list"
  | .tup _, T => T == "tuple"
theorem knd_ty {K : PySem.W.Frag} {H : Hp} {v : V} {d : Da} (h : dR H v d) : TyX K H v (.type (knd d)) := by
  cases d with
  | non => simp only [dR] at h; subst h; exact .base .non
  | bl b => simp only [dR] at h; subst h; exact .base (.bl b)
  | int b => simp only [dR] at h; subst h; exact .base (.int b)
  | str b => simp only [dR] at h; subst h; exact .base (.str b)
  | lst l => simp only [dR] at h; obtain ⟨a, vs, rfl, h1, _⟩ := h; exact .base (.lst h1)
  | tup l => simp only [dR] at h; obtain ⟨a, vs, rfl, h1, _⟩ := h; exact .base (.tup h1)
theorem knd_tuple {K : PySem.W.Frag} (d : Da) : PySem.W.kitOne K (.type (knd d)) (.type "tuple") = some (isT d "tuple") := by cases d <;> rfl
theorem knd_list {K : PySem.W.Frag} (d : Da) : PySem.W.kitOne K (.type (knd d)) (.type "list") = some (isT d "list") := by cases d <;> rfl
theorem knd_bool {K : PySem.W.Frag} (d : Da) : PySem.W.kitOne K (.type (knd d)) (.type "bool") = some (isT d "bool") := by cases d <;> rfl
theorem knd_int {K : PySem.W.Frag} (d : Da) : PySem.W.kitOne K (.type (knd d)) (.type "int") = some (isT d "int") := by cases d <;> rfl
theorem knd_str {K : PySem.W.Frag} (d : Da) : PySem.W.kitOne K (.type (knd d)) (.type "str") = some (isT d "str") := by cases d <;> rfl
def isNon : Da → Bool
  | .non => true
  | _ => false
theorem non_dec {H : Hp} {v : V} {d : Da} (h : dR H v d) : decide (v = V.non) = isNon d := by
  cases d with
  | non => simp only [dR] at h; subst h; rfl
  | bl b => simp only [dR] at h; subst h; rfl
  | int b => simp only [dR] at h; subst h; rfl
  | str b => simp only [dR] at h; subst h; rfl
  | lst l => simp only [dR] at h; obtain ⟨a, vs, rfl, h1, _⟩ := h; rfl
  | tup l => simp only [dR] at h; obtain ⟨a, vs, rfl, h1, _⟩ := h; rfl
end Tk

set_option Elab.async false
set_option linter.all false
set_option maxRecDepth 100000
set_option maxHeartbeats 4000000
set_option exponentiation.threshold 5000
namespace K
open PySem PySem.Spec PyProof.Rows L2 Tk Hd Mt
section
variable {P : Program} {w : World} {K : PySem.W.Frag} {mg : Str → Option Value} {base : Heap}
/-! ### _law_same -/
def spSame (n : Nat) : Sp := fun vs H Q _ => ∃ (a d : V) (x y : Da), vs = [a, d] ∧ dR H a x ∧ dR H d y ∧ dep y ≤ n ∧ tame x ∧ tame y ∧ Q (.bl (eqd x y)) H
theorem sc_same : FnScope ["actual", "due", "k"] ["actual", "due"] (defScope s__law_same) := ⟨rfl, rfl, rfl, by decide +kernel, rfl, by decide +kernel, by decide +kernel⟩
theorem dec_bl' (a b : Bool) : decide (V.bl a = V.bl b) = (a == b) := dec_bl
/-- nothing in it: no list, no tuple -/
theorem ok_same0 (D : Dt K mg) {fd : FuncData} (F : FnP K "_law_same" "_law_same" s__law_same [] (He.ga K "_law_same") fd) : FnOk P w K mg base (L2.CX P w) 1 (He.ga K "_law_same") fd ["actual", "due"] (fun vs H Q _ => ∃ (a d : V) (x y : Da), vs = [a, d] ∧ dR H a x ∧ dR H d y ∧ isT y "tuple" = false ∧ isT y "list" = false ∧ Q (.bl (eqd x y)) H) := by
  refine fnN F sc_same (fun vs H Q E h => ?_) (fun cdv A outer s H vs Q E hr h => ?_)
  · obtain ⟨a, d, x, y, rfl, _⟩ := h; rfl
  · obtain ⟨a, d, x, y, rfl, hx, hy, y1, y2, k⟩ := h
    refine ⟨_, (pss_cons (ps_if (PW.pt (pw_or (pt_val (pe_callB call_isi rfl (free_isinstance D) (by decide +kernel) (pa_cons (pv 1) (pa_cons (pe_bltn (v := .ty "tuple") rfl (free_tuple D) (by decide +kernel) rfl) pa_nil)))) (pw_or1 (pt_val (pe_callB call_isi rfl (free_isinstance D) (by decide +kernel) (pa_cons (pv 1) (pa_cons (pe_bltn (v := .ty "list") rfl (free_list D) (by decide +kernel) rfl) pa_nil))))))) pss_never pss_nil)
      (pss_cons (ps_if (PW.pt (pw_or (pt_cmpR op_isN (pv 1) pe_non (nomark _)) (pw_or1 (pt_val (pe_callB call_isi rfl (free_isinstance D) (by decide +kernel) (pa_cons (pv 1) (pa_cons (pe_bltn (v := .ty "bool") rfl (free_bool D) (by decide +kernel) rfl) pa_nil)))))))
      (pss_one (ps_ret (pe_and (pe_cmpR op_eq (pe_cmpR op_isN (pv 0) pe_non (nomark _)) (pe_cmpR op_isN (pv 1) pe_non (nomark _)) (nomark _)) (pe_and (pe_or (pe_cmpR op_isN (pv 1) pe_non (nomark _)) (pe_one (pe_callB call_isi rfl (free_isinstance D) (by decide +kernel) (pa_cons (pv 0) (pa_cons (pe_bltn (v := .ty "bool") rfl (free_bool D) (by decide +kernel) rfl) pa_nil))))) (pe_one (pe_cmpR op_eq (pv 0) (pv 1) (nomark _)))))))
      pss_nil)
      (pss_cons (ps_if (pt_val (pe_callB call_isi rfl (free_isinstance D) (by decide +kernel) (pa_cons (pv 1) (pa_cons (pe_bltn (v := .ty "int") rfl (free_int D) (by decide +kernel) rfl) pa_nil))))
      (pss_one (ps_ret (pe_and (pe_callB call_isi rfl (free_isinstance D) (by decide +kernel) (pa_cons (pv 0) (pa_cons (pe_bltn (v := .ty "int") rfl (free_int D) (by decide +kernel) rfl) pa_nil))) (pe_and (pe_not (pe_callB call_isi rfl (free_isinstance D) (by decide +kernel) (pa_cons (pv 0) (pa_cons (pe_bltn (v := .ty "bool") rfl (free_bool D) (by decide +kernel) rfl) pa_nil)))) (pe_one (pe_cmpR op_eq (pv 0) (pv 1) (nomark _)))))))
      pss_nil)
      (pss_one (ps_ret (pe_and (pe_callB call_isi rfl (free_isinstance D) (by decide +kernel) (pa_cons (pv 0) (pa_cons (pe_bltn (v := .ty "str") rfl (free_str D) (by decide +kernel) rfl) pa_nil))) (pe_one (pe_cmpR op_eq (pv 0) (pv 1) (nomark _))))))))), ?_⟩
    have cv : ∀ T : String, ClsV (.ty T) (.type T) := fun T => .ty T
    refine ⟨_, rfl, _, _, _, _, _, rfl, cv _, knd_ty hy, knd_tuple y, _, rfl, ifF y1 ?_⟩
    refine ⟨_, rfl, _, _, _, _, _, rfl, cv _, knd_ty hy, knd_list y, _, rfl, ifF y2 ?_⟩
    have nx := non_dec hx
    have ny := non_dec hy
    refine ⟨_, rfl, rfl, _, rfl, ?_⟩
    rw [ny]
    have finN : isNon y = true ∨ isT y "bool" = true → ∀ σ : L2.St, True := fun _ _ => trivial
    cases y with
    | lst l => simp [isT] at y2
    | tup l => simp [isT] at y1
    | non =>
      refine iteT ?_
      simp only [dR] at hy
      subst hy
      refine ⟨_, rfl, rfl, _, rfl, rfl, rfl, _, rfl, ?_⟩
      rw [nx, ny]
      cases x with
      | non =>
        simp only [dR] at hx; subst hx
        refine iteT ⟨_, rfl, rfl, _, rfl, iteT ⟨_, rfl, iteT ⟨_, rfl, _, rfl, rfl, ?_⟩⟩⟩
        exact k
      | _ => exact iteF k
    | bl b =>
      refine iteF ⟨_, rfl, _, _, _, _, _, rfl, cv _, knd_ty hy, knd_bool (.bl b), _, rfl, iteT ?_⟩
      refine ⟨_, rfl, rfl, _, rfl, rfl, rfl, _, rfl, ?_⟩
      rw [nx, ny]
      simp only [dR] at hy
      subst hy
      cases x with
      | non => exact iteF k
      | bl c =>
        refine iteT ⟨_, rfl, rfl, _, rfl, iteF ⟨_, rfl, _, _, _, _, _, rfl, cv _, knd_ty hx, knd_bool (.bl c), _, rfl, iteT ?_⟩⟩
        simp only [dR] at hx
        subst hx
        refine ⟨_, rfl, _, rfl, rfl, ?_⟩
        have e : decide (V.bl c = V.bl b) = eqd (.bl c) (.bl b) := by simp [eqd]
        rw [← e] at k; exact k
      | int i => exact iteT ⟨_, rfl, rfl, _, rfl, iteF ⟨_, rfl, _, _, _, _, _, rfl, cv _, knd_ty hx, knd_bool (.int i), _, rfl, iteF k⟩⟩
      | str i => exact iteT ⟨_, rfl, rfl, _, rfl, iteF ⟨_, rfl, _, _, _, _, _, rfl, cv _, knd_ty hx, knd_bool (.str i), _, rfl, iteF k⟩⟩
      | lst i => exact iteT ⟨_, rfl, rfl, _, rfl, iteF ⟨_, rfl, _, _, _, _, _, rfl, cv _, knd_ty hx, knd_bool (.lst i), _, rfl, iteF k⟩⟩
      | tup i => exact iteT ⟨_, rfl, rfl, _, rfl, iteF ⟨_, rfl, _, _, _, _, _, rfl, cv _, knd_ty hx, knd_bool (.tup i), _, rfl, iteF k⟩⟩
    | int b =>
      refine iteF ⟨_, rfl, _, _, _, _, _, rfl, cv _, knd_ty hy, knd_bool (.int b), _, rfl, iteF ?_⟩
      refine ⟨_, rfl, _, _, _, _, _, rfl, cv _, knd_ty hy, knd_int (.int b), _, rfl, iteT ?_⟩
      simp only [dR] at hy
      subst hy
      cases x with
      | int c =>
        refine ⟨_, rfl, _, _, _, _, _, rfl, cv _, knd_ty hx, knd_int (.int c), _, rfl, iteT ?_⟩
        refine ⟨_, rfl, _, _, _, _, _, rfl, cv _, knd_ty hx, knd_bool (.int c), _, rfl, _, rfl, iteT ?_⟩
        simp only [dR] at hx
        subst hx
        refine ⟨_, rfl, _, rfl, rfl, ?_⟩
        have e : decide (V.int c = V.int b) = eqd (.int c) (.int b) := by simp [eqd]
        rw [← e] at k; exact k
      | bl c =>
        refine ⟨_, rfl, _, _, _, _, _, rfl, cv _, knd_ty hx, knd_int (.bl c), _, rfl, iteT ?_⟩
        exact ⟨_, rfl, _, _, _, _, _, rfl, cv _, knd_ty hx, knd_bool (.bl c), _, rfl, _, rfl, iteF k⟩
      | non => exact ⟨_, rfl, _, _, _, _, _, rfl, cv _, knd_ty hx, knd_int .non, _, rfl, iteF k⟩
      | str c => exact ⟨_, rfl, _, _, _, _, _, rfl, cv _, knd_ty hx, knd_int (.str c), _, rfl, iteF k⟩
      | lst c => exact ⟨_, rfl, _, _, _, _, _, rfl, cv _, knd_ty hx, knd_int (.lst c), _, rfl, iteF k⟩
      | tup c => exact ⟨_, rfl, _, _, _, _, _, rfl, cv _, knd_ty hx, knd_int (.tup c), _, rfl, iteF k⟩
    | str b =>
      refine iteF ⟨_, rfl, _, _, _, _, _, rfl, cv _, knd_ty hy, knd_bool (.str b), _, rfl, iteF ?_⟩
      refine ⟨_, rfl, _, _, _, _, _, rfl, cv _, knd_ty hy, knd_int (.str b), _, rfl, iteF ?_⟩
      simp only [dR] at hy
      subst hy
      cases x with
      | str c =>
        refine ⟨_, rfl, _, _, _, _, _, rfl, cv _, knd_ty hx, knd_str (.str c), _, rfl, iteT ?_⟩
        simp only [dR] at hx
        subst hx
        refine ⟨_, rfl, _, rfl, rfl, ?_⟩
        have e : decide (V.str c = V.str b) = eqd (.str c) (.str b) := by simp [eqd]
        rw [← e] at k; exact k
      | bl c => exact ⟨_, rfl, _, _, _, _, _, rfl, cv _, knd_ty hx, knd_str (.bl c), _, rfl, iteF k⟩
      | non => exact ⟨_, rfl, _, _, _, _, _, rfl, cv _, knd_ty hx, knd_str .non, _, rfl, iteF k⟩
      | int c => exact ⟨_, rfl, _, _, _, _, _, rfl, cv _, knd_ty hx, knd_str (.int c), _, rfl, iteF k⟩
      | lst c => exact ⟨_, rfl, _, _, _, _, _, rfl, cv _, knd_ty hx, knd_str (.lst c), _, rfl, iteF k⟩
      | tup c => exact ⟨_, rfl, _, _, _, _, _, rfl, cv _, knd_ty hx, knd_str (.tup c), _, rfl, iteF k⟩
/-- a list or a tuple -/
theorem ok_sameS (D : Dt K mg) (n : Nat) (HREC : Has P w K mg base (n + 1) (He.ga K "_law_same") ["actual", "due"] [] (spSame n)) {fd : FuncData} (F : FnP K "_law_same" "_law_same" s__law_same [] (He.ga K "_law_same") fd) :
    FnOk P w K mg base (L2.CX P w) (n + 2) (He.ga K "_law_same") fd ["actual", "due"] (fun vs H Q _ => ∃ (a d : V) (x y : Da), vs = [a, d] ∧ dR H a x ∧ dR H d y ∧ dep y ≤ n + 1 ∧ tame x ∧ tame y ∧ (isT y "tuple" = true ∨ isT y "list" = true) ∧ Q (.bl (eqd x y)) H) := by
  refine fnN F sc_same (fun vs H Q E h => ?_) (fun cdv A outer s H vs Q E hr h => ?_)
  · obtain ⟨a, d, x, y, rfl, _⟩ := h; rfl
  · obtain ⟨a, d, x, y, rfl, hx, hy, dy, tx, ty, yy, k⟩ := h
    refine ⟨_, (pss_cons (ps_if (PW.pt (pw_or (pt_val (pe_callB call_isi rfl (free_isinstance D) (by decide +kernel) (pa_cons (pv 1) (pa_cons (pe_bltn (v := .ty "tuple") rfl (free_tuple D) (by decide +kernel) rfl) pa_nil)))) (pw_or1 (pt_val (pe_callB call_isi rfl (free_isinstance D) (by decide +kernel) (pa_cons (pv 1) (pa_cons (pe_bltn (v := .ty "list") rfl (free_list D) (by decide +kernel) rfl) pa_nil)))))))
      (pss_cons (ps_if (PW.pt (pw_or (pt_cmpR op_ne (pe_callB call_isi rfl (free_isinstance D) (by decide +kernel) (pa_cons (pv 1) (pa_cons (pe_bltn (v := .ty "tuple") rfl (free_tuple D) (by decide +kernel) rfl) pa_nil))) (pe_callB call_isi rfl (free_isinstance D) (by decide +kernel) (pa_cons (pv 0) (pa_cons (pe_bltn (v := .ty "tuple") rfl (free_tuple D) (by decide +kernel) rfl) pa_nil))) (nomark _)) (pw_or1 (pt_cmpR op_ne (pe_callB call_isi rfl (free_isinstance D) (by decide +kernel) (pa_cons (pv 1) (pa_cons (pe_bltn (v := .ty "list") rfl (free_list D) (by decide +kernel) rfl) pa_nil))) (pe_callB call_isi rfl (free_isinstance D) (by decide +kernel) (pa_cons (pv 0) (pa_cons (pe_bltn (v := .ty "list") rfl (free_list D) (by decide +kernel) rfl) pa_nil))) (nomark _)))))
      (pss_one (ps_ret pe_bl))
      pss_nil)
      (pss_cons (ps_if (pt_cmpR op_ne (pe_callB call_len rfl (free_len D) PySem.boot_len (pa_cons (pv 0) pa_nil)) (pe_callB call_len rfl (free_len D) PySem.boot_len (pa_cons (pv 1) pa_nil)) (nomark _))
      (pss_one (ps_ret pe_bl))
      pss_nil)
      (pss_cons (ps_for PassesOwn.never rfl (pi_range1 rfl (free_range D) (pa_cons (pe_callB call_len rfl (free_len D) PySem.boot_len (pa_cons (pv 1) pa_nil)) pa_nil)) (pg_name (i := 2) sc_same.nd rfl (Or.inl rfl))
      (pss_one (ps_if (pt_not (pt_val (pe_callH HREC (hr.mono (by omega)) rfl (glo__law_same D) passL (pa_cons (pe_ix ix_seq (pv 0) (pv 2) (fun _ _ => rfl)) (pa_cons (pe_ix ix_seq (pv 1) (pv 2) (fun _ _ => rfl)) pa_nil)))))
      (pss_one (ps_ret pe_bl))
      pss_nil)))
      (pss_one (ps_ret pe_bl)))))
      pss_nil)
      pss_never), ?_⟩
    have cv : ∀ T : String, ClsV (.ty T) (.type T) := fun T => .ty T
    cases y with
    | non => simp [isT] at yy
    | bl b => simp [isT] at yy
    | int b => simp [isT] at yy
    | str b => simp [isT] at yy
    | lst l =>
      refine ⟨_, rfl, _, _, _, _, _, rfl, cv _, knd_ty hy, knd_tuple _, _, rfl, iteF ⟨_, rfl, _, _, _, _, _, rfl, cv _, knd_ty hy, knd_list _, _, rfl, iteT ?_⟩⟩
      refine ⟨_, rfl, _, _, _, _, _, rfl, cv _, knd_ty hy, knd_tuple _, _, rfl, _, _, _, _, _, rfl, cv _, knd_ty hx, knd_tuple x, rfl, _, rfl, ?_⟩
      cases x with
      | lst l' =>
        refine ifF rfl ?_
        refine ⟨_, rfl, _, _, _, _, _, rfl, cv _, knd_ty hy, knd_list _, _, rfl, _, _, _, _, _, rfl, cv _, knd_ty hx, knd_list _, rfl, _, rfl, ifF rfl ?_⟩
        simp only [dR] at hx hy
        obtain ⟨pa, va, rfl, ha, ra⟩ := hx
        obtain ⟨pd, vd, rfl, hd, rd⟩ := hy
        have la := dRs_len ra
        have ld := dRs_len rd
        have hl : l.length ≤ 1000000 := ty.1
        refine ⟨_, rfl, _, l'.length, rfl, .inl ⟨_, SqL.of ha, la.symm⟩, _, rfl, _, l.length, rfl, .inl ⟨_, SqL.of hd, ld.symm⟩, rfl, _, rfl, ?_⟩
        by_cases hlen : l'.length = l.length
        · refine ifF (by rw [hlen]; simp) ?_
          refine ⟨_, rfl, _, l.length, rfl, .inl ⟨_, SqL.of hd, ld.symm⟩, _, rfl, by omega, by omega, ?_⟩
          refine for_range (n := l.length) (fun i σ' H' => ∃ v : Option V, σ' = [some (.ref pa), some (.ref pd), v] ∧ H' = H ∧ ∀ (j : Nat) (x y : Da), j < i → l'[j]? = some x → l[j]? = some y → eqd x y = true)
            ⟨none, rfl, rfl, fun j _ _ h => absurd h (Nat.not_lt_zero j)⟩ (fun i σ' H' hi h => ?_) (fun σ' H' h => ?_)
          · obtain ⟨v, rfl, rfl, hj⟩ := h
            obtain ⟨u1, e1, r1⟩ := dRs_at ra (List.getElem?_eq_getElem (by omega : i < l'.length))
            obtain ⟨u2, e2, r2⟩ := dRs_at rd (List.getElem?_eq_getElem hi)
            refine ⟨_, rfl, _, rfl, .inl ⟨_, _, _, _, rfl, rfl, SqL.of ha, at_of (j := i) (by omega) e1, ?_⟩⟩
            refine ⟨_, rfl, _, rfl, .inl ⟨_, _, _, _, rfl, rfl, SqL.of hd, at_of (j := i) (by omega) e2, ?_⟩⟩
            have dd : dep l[i] ≤ n := by
              have := deps_at (List.getElem?_eq_getElem hi)
              simp only [dep] at dy; omega
            refine ⟨_, _, _, _, rfl, r1, r2, dd, tames_at tx.2 (List.getElem?_eq_getElem (by omega)), tames_at ty.2 (List.getElem?_eq_getElem hi), _, rfl, ?_⟩
            cases e : eqd l'[i] l[i] with
            | false =>
              refine iteT ?_
              have z : eqd (.lst l') (.lst l) = false := by simp only [eqd]; exact eqds_false (List.getElem?_eq_getElem (by omega)) (List.getElem?_eq_getElem hi) e
              rw [z] at k; exact k
            | true =>
              refine iteF ⟨_, rfl, rfl, fun j x y hji h1 h2 => ?_⟩
              by_cases q : j = i
              · subst q; rw [List.getElem?_eq_getElem (by omega)] at h1 h2; rw [← Option.some.inj h1, ← Option.some.inj h2]; exact e
              · exact hj j x y (by omega) h1 h2
          · obtain ⟨v, rfl, rfl, hj⟩ := h
            have z : eqd (.lst l') (.lst l) = true := by
              simp only [eqd]
              exact eqds_true hlen fun i x y h1 h2 => hj i x y (by have := (List.getElem?_eq_some_iff.mp h2).1; omega) h1 h2
            rw [z] at k; exact k
        · refine ifT (by simp; omega) ?_
          have z : eqd (.lst l') (.lst l) = false := by simp only [eqd]; exact eqds_len hlen
          rw [z] at k; exact k
      | non =>
        refine ifF rfl ⟨_, rfl, _, _, _, _, _, rfl, cv _, knd_ty hy, knd_list _, _, rfl, _, _, _, _, _, rfl, cv _, knd_ty hx, knd_list _, rfl, _, rfl, ifT rfl k⟩
      | bl b =>
        refine ifF rfl ⟨_, rfl, _, _, _, _, _, rfl, cv _, knd_ty hy, knd_list _, _, rfl, _, _, _, _, _, rfl, cv _, knd_ty hx, knd_list _, rfl, _, rfl, ifT rfl k⟩
      | int b =>
        refine ifF rfl ⟨_, rfl, _, _, _, _, _, rfl, cv _, knd_ty hy, knd_list _, _, rfl, _, _, _, _, _, rfl, cv _, knd_ty hx, knd_list _, rfl, _, rfl, ifT rfl k⟩
      | str b =>
        refine ifF rfl ⟨_, rfl, _, _, _, _, _, rfl, cv _, knd_ty hy, knd_list _, _, rfl, _, _, _, _, _, rfl, cv _, knd_ty hx, knd_list _, rfl, _, rfl, ifT rfl k⟩
      | tup b =>
        exact ifT rfl k
    | tup l =>
      refine ⟨_, rfl, _, _, _, _, _, rfl, cv _, knd_ty hy, knd_tuple _, _, rfl, iteT ?_⟩
      refine ⟨_, rfl, _, _, _, _, _, rfl, cv _, knd_ty hy, knd_tuple _, _, rfl, _, _, _, _, _, rfl, cv _, knd_ty hx, knd_tuple x, rfl, _, rfl, ?_⟩
      cases x with
      | tup l' =>
        refine ifF rfl ?_
        refine ⟨_, rfl, _, _, _, _, _, rfl, cv _, knd_ty hy, knd_list _, _, rfl, _, _, _, _, _, rfl, cv _, knd_ty hx, knd_list _, rfl, _, rfl, ifF rfl ?_⟩
        simp only [dR] at hx hy
        obtain ⟨pa, va, rfl, ha, ra⟩ := hx
        obtain ⟨pd, vd, rfl, hd, rd⟩ := hy
        have la := dRs_len ra
        have ld := dRs_len rd
        have hl : l.length ≤ 1000000 := ty.1
        refine ⟨_, rfl, _, l'.length, rfl, .inr ⟨_, SqT.of ha, la.symm⟩, _, rfl, _, l.length, rfl, .inr ⟨_, SqT.of hd, ld.symm⟩, rfl, _, rfl, ?_⟩
        by_cases hlen : l'.length = l.length
        · refine ifF (by rw [hlen]; simp) ?_
          refine ⟨_, rfl, _, l.length, rfl, .inr ⟨_, SqT.of hd, ld.symm⟩, _, rfl, by omega, by omega, ?_⟩
          refine for_range (n := l.length) (fun i σ' H' => ∃ v : Option V, σ' = [some (.ref pa), some (.ref pd), v] ∧ H' = H ∧ ∀ (j : Nat) (x y : Da), j < i → l'[j]? = some x → l[j]? = some y → eqd x y = true)
            ⟨none, rfl, rfl, fun j _ _ h => absurd h (Nat.not_lt_zero j)⟩ (fun i σ' H' hi h => ?_) (fun σ' H' h => ?_)
          · obtain ⟨v, rfl, rfl, hj⟩ := h
            obtain ⟨u1, e1, r1⟩ := dRs_at ra (List.getElem?_eq_getElem (by omega : i < l'.length))
            obtain ⟨u2, e2, r2⟩ := dRs_at rd (List.getElem?_eq_getElem hi)
            refine ⟨_, rfl, _, rfl, .inr (.inl ⟨_, _, _, _, rfl, rfl, SqT.of ha, at_of (j := i) (by omega) e1, ?_⟩)⟩
            refine ⟨_, rfl, _, rfl, .inr (.inl ⟨_, _, _, _, rfl, rfl, SqT.of hd, at_of (j := i) (by omega) e2, ?_⟩)⟩
            have dd : dep l[i] ≤ n := by
              have := deps_at (List.getElem?_eq_getElem hi)
              simp only [dep] at dy; omega
            refine ⟨_, _, _, _, rfl, r1, r2, dd, tames_at tx.2 (List.getElem?_eq_getElem (by omega)), tames_at ty.2 (List.getElem?_eq_getElem hi), _, rfl, ?_⟩
            cases e : eqd l'[i] l[i] with
            | false =>
              refine iteT ?_
              have z : eqd (.tup l') (.tup l) = false := by simp only [eqd]; exact eqds_false (List.getElem?_eq_getElem (by omega)) (List.getElem?_eq_getElem hi) e
              rw [z] at k; exact k
            | true =>
              refine iteF ⟨_, rfl, rfl, fun j x y hji h1 h2 => ?_⟩
              by_cases q : j = i
              · subst q; rw [List.getElem?_eq_getElem (by omega)] at h1 h2; rw [← Option.some.inj h1, ← Option.some.inj h2]; exact e
              · exact hj j x y (by omega) h1 h2
          · obtain ⟨v, rfl, rfl, hj⟩ := h
            have z : eqd (.tup l') (.tup l) = true := by
              simp only [eqd]
              exact eqds_true hlen fun i x y h1 h2 => hj i x y (by have := (List.getElem?_eq_some_iff.mp h2).1; omega) h1 h2
            rw [z] at k; exact k
        · refine ifT (by simp; omega) ?_
          have z : eqd (.tup l') (.tup l) = false := by simp only [eqd]; exact eqds_len hlen
          rw [z] at k; exact k
      | non =>
        exact ifT rfl k
      | bl b =>
        exact ifT rfl k
      | int b =>
        exact ifT rfl k
      | str b =>
        exact ifT rfl k
      | lst b =>
        exact ifT rfl k
theorem ok_same (D : Dt K mg) : ∀ n, Has P w K mg base (n + 1) (He.ga K "_law_same") ["actual", "due"] [] (spSame n)
  | 0 => by
    obtain ⟨fd, F⟩ := fd__law_same D
    have b := F.bindsN (ps := ["actual", "due"]) fun _ _ _ _ _ _ us hl => match us, hl with | [_, _], _ => rfl
    refine ⟨F.kp, fd, [], .nil, b, (ok_same0 D F).imp fun vs H Q E h => ?_⟩
    obtain ⟨x, y, dx, dy, h1, h2, h3, h4, _, _, k⟩ := h
    refine ⟨x, y, dx, dy, h1, h2, h3, ?_, ?_, k⟩ <;> cases dy <;> first | rfl | (simp only [dep] at h4; omega)
  | n + 1 => by
    obtain ⟨fd, F⟩ := fd__law_same D
    have b := F.bindsN (ps := ["actual", "due"]) fun _ _ _ _ _ _ us hl => match us, hl with | [_, _], _ => rfl
    refine ⟨F.kp, fd, [], .nil, b, (fnOr ((ok_same0 D F).mono (by omega)) (ok_sameS D n (ok_same D n) F)).imp fun vs H Q E h => ?_⟩
    obtain ⟨x, y, dx, dy, h1, h2, h3, h4, h5, h6, k⟩ := h
    by_cases q : isT dy "tuple" = true ∨ isT dy "list" = true
    · exact .inr ⟨x, y, dx, dy, h1, h2, h3, h4, h5, h6, q, k⟩
    · refine .inl ⟨x, y, dx, dy, h1, h2, h3, ?_, ?_, k⟩ <;> cases dy <;> first | rfl | exact absurd (by first | exact .inl rfl | exact .inr rfl) q
/-! ### the law's sums, differences, products -/
def iZ : Rp (Int × Int) := fun H v p => ∃ a, v = .ref a ∧ H a = some (.tup [.int p.1, .int p.2])
instance : Mono iZ := ⟨fun s ⟨a, e, h⟩ => ⟨a, e, s _ _ h⟩⟩
def Fz (p : Int × Int) : Prop := p.1.natAbs < 2 ^ 900 ∧ p.2.natAbs < 2 ^ 900 ∧ 0 < p.2
def spZ (g h : Int × Int → Int × Int → Int) : Sp := fun vs H Q _ => ∃ (I : Hp) (a b : V) (p q : Int × Int), vs = [a, b] ∧ Same I H ∧ iZ I a p ∧ iZ I b q ∧ Fz p ∧ Fz q ∧ Ret [] I H iQ (rt (g p q) (h p q)) Q
theorem Fz.mul12 {p q : Int × Int} (hp : Fz p) (hq : Fz q) : CMulW p.1 q.2 := wide_mul hp.1 hq.2.1 (by decide) (by decide) (by decide)
theorem Fz.mul11 {p q : Int × Int} (hp : Fz p) (hq : Fz q) : CMulW p.1 q.1 := wide_mul hp.1 hq.1 (by decide) (by decide) (by decide)
theorem Fz.mul22 {p q : Int × Int} (hp : Fz p) (hq : Fz q) : CMulW p.2 q.2 := wide_mul hp.2.1 hq.2.1 (by decide) (by decide) (by decide)
theorem Fz.pos {p q : Int × Int} (hp : Fz p) (hq : Fz q) : 0 < p.2 * q.2 := Int.mul_pos hp.2.2 hq.2.2
theorem Fz.lt {p q : Int × Int} (hp : Fz p) (hq : Fz q) : p.2 * q.2 < 2 ^ 1999 := by
  have h := fit_lt (k := 1800) hp.2.1 hq.2.1 (by decide)
  have h2 : (2 : Nat) ^ 1800 < 2 ^ 1999 := by decide
  have h3 := hp.pos hq
  omega
end
end K

set_option Elab.async false
set_option linter.all false
set_option maxRecDepth 100000
set_option maxHeartbeats 4000000
/-! Walks over things that stay; the lists that comprehensions make of them. -/
namespace Tk
open PySem PySem.Spec PyProof.Rows L2
/-- a thing walked in n turns, at turn i the value xs i -/
structure Wk (J : It) (n : Nat) (xs : Nat → V) (I : Hp) : Prop where
  go : ∀ i H, Same I H → i < n → J.go i H
  stop : ∀ H, Same I H → J.stop n H
  yld : ∀ i H x H', Same I H → i < n → J.yld i H x H' → x = xs i ∧ H' = H
def gv (vs : List V) (i : Nat) : V := vs.getD i .non
theorem gv_at {vs : List V} {i : Nat} (h : i < vs.length) : vs[i]? = some (gv vs i) := by
  unfold gv; rw [List.getD_eq_getElem?_getD, List.getElem?_eq_getElem h]; rfl
theorem gv_of {vs : List V} {i : Nat} {v : V} (h : vs[i]? = some v) : gv vs i = v := by
  unfold gv; rw [List.getD_eq_getElem?_getD, h]; rfl
section
variable {K : PySem.W.Frag} {I : Hp} {a : Addr} {vs : List V}
theorem wk_list (h : I a = some (.lst vs)) : Wk (Itl K a) vs.length (gv vs) I :=
  ⟨fun i H s hi => ⟨vs, _, SqL.of (s _ _ h), gv_at hi⟩, fun H s => ⟨vs, SqL.of (s _ _ h), Nat.le_refl _⟩,
    fun i H x H' s hi y => ⟨(gv_of (y.2 vs (SqL.of (s _ _ h)))).symm, y.1⟩⟩
theorem wk_tup (h : I a = some (.tup vs)) : Wk (Itt K a) vs.length (gv vs) I :=
  ⟨fun i H s hi => ⟨vs, _, SqT.of (s _ _ h), gv_at hi⟩, fun H s => ⟨vs, SqT.of (s _ _ h), Nat.le_refl _⟩,
    fun i H x H' s hi y => ⟨(gv_of (y.2 vs (SqT.of (s _ _ h)))).symm, y.1⟩⟩
theorem wk_range {lo : Int} {n : Nat} : Wk (Itr lo n) n (fun i => .int (lo + i)) I :=
  ⟨fun i H s hi => hi, fun H s => Nat.le_refl _, fun i H x H' s hi y => ⟨y.2, y.1⟩⟩
/-- a list or a tuple -/
def LtR (K : PySem.W.Frag) (x : V) (H1 : Hp) (R : It → Hp → Prop) : Prop := ∃ a, x = .ref a ∧ (((∃ xs, SqL K H1 a xs) ∧ R (Itl K a) H1) ∨ ((∃ xs, SqT K H1 a xs) ∧ R (Itt K a) H1))
def iLT (K : PySem.W.Frag) (tl : TE) : TI := fun σ H R => tl σ H fun x H1 => LtR K x H1 R
theorem pi_lt {X : Cx} {tg l : Expr} {tl : TE} (hl : PE X l tl) : PI X tg l (iLT X.K tl) := by
  refine ⟨fun pins s σ H R Iv h => ?_⟩
  refine thn (hl.run pins s σ H _ Iv h) fun v s1 q => ?_
  obtain ⟨x, H1, I1, r1, b, rfl, q⟩ := q
  cases r1
  rcases q with ⟨⟨xs, hq⟩, q⟩ | ⟨⟨xs, hq⟩, q⟩
  · have z : ∀ (te : TE) (v : V), True := fun _ _ => trivial
    obtain ⟨its, rv, p, hz⟩ := I1.list hq
    refine wpAny_pyIter_list p.isList ?_
    have ne : ∀ b' o, s1.heap.get? b' = some o → (s1.heap.push { cls := .type "list_iterator", data := .fields #[.ref b, .int 0 0] }).get? b' = some o := fun b' o e => Heap.get?_push_of_some _ e
    refine ⟨s1.heap.objs.size, [s1.heap.objs.size], _, _, H1, rfl, I1.kept (t' := s1.toks) ne, turn_list b s1.heap.objs.size, ⟨_, Heap.get?_push_size _ rfl, rfl, rfl⟩, fun b' hb => ?_, q⟩
    have e : b' = s1.heap.objs.size := by simpa using hb
    subst e
    exact I1.fpOk (Nat.le_refl _) (I1.hok.fresh (Nat.le_refl _))
  · obtain ⟨its, rv, p, hz⟩ := I1.tuple hq
    refine wpAny_pyIter_tuple p ?_
    have ne : ∀ b' o, s1.heap.get? b' = some o → (s1.heap.push { cls := .type "tuple_iterator", data := .fields #[.ref b, .int 0 0] }).get? b' = some o := fun b' o e => Heap.get?_push_of_some _ e
    refine ⟨s1.heap.objs.size, [s1.heap.objs.size], _, _, H1, rfl, I1.kept (t' := s1.toks) ne, turn_tuple b s1.heap.objs.size, ⟨_, Heap.get?_push_size _ rfl, rfl, rfl⟩, fun b' hb => ?_, q⟩
    have e : b' = s1.heap.objs.size := by simpa using hb
    subst e
    exact I1.fpOk (Nat.le_refl _) (I1.hok.fresh (Nat.le_refl _))
end
theorem lt_of {K : PySem.W.Frag} {I H : Hp} {a : Addr} {vs : List V} {R : It → Hp → Prop} (h : I a = some (.lst vs) ∨ I a = some (.tup vs)) (s : Same I H) (k : ∀ J, Wk J vs.length (gv vs) I → R J H) : LtR K (.ref a) H R :=
  ⟨a, rfl, h.elim (fun h => .inl ⟨⟨vs, SqL.of (s _ _ h)⟩, k _ (wk_list h)⟩) fun h => .inr ⟨⟨vs, SqT.of (s _ _ h)⟩, k _ (wk_tup h)⟩⟩
/-- a loop over such a thing -/
theorem for_wk {J : It} {n : Nat} {xs : Nat → V} {I : Hp} {g : TG} {tb : TS} {D : Ends} {σ : L2.St} {H : Hp} (W : Wk J n xs I) (Post : L2.St → Hp → Prop) (Pv : Nat → L2.St → Hp → Prop) (hS : ∀ i σ H, Pv i σ H → Same I H) (h0 : Pv 0 σ H)
    (hs : ∀ nx : L2.St → Hp → Prop, (∀ σ' H', Post σ' H' → nx σ' H') → ∀ i σ H, i < n → Pv i σ H → g (xs i) σ H fun σ2 H2 => tb { D with nx := Pv (i + 1), ct := Pv (i + 1), bk := nx } σ2 H2)
    (hd : ∀ σ H, Pv n σ H → Post σ H) (fin : ∀ σ' H', Post σ' H' → D.nx σ' H') :
    ∃ Wz : Nat → Nat → L2.St → Hp → Prop, (∃ m, Wz 0 m σ H) ∧ ∀ i m σ H, Wz i m σ H →
      (J.stop i H ∧ D.nx σ H) ∨ (J.go i H ∧ ∃ N : L2.St → Hp → Prop, (∀ σ' H', N σ' H' → ∃ m', m' < m ∧ Wz (i + 1) m' σ' H') ∧ ∀ x H', J.yld i H x H' → g x σ H' fun σ2 H2 => tb { D with nx := N, ct := N, bk := D.nx } σ2 H2) := by
  refine ⟨fun i m σ H => m = n - i ∧ i ≤ n ∧ Pv i σ H, ⟨n, rfl, Nat.zero_le _, h0⟩, ?_⟩
  rintro i m σ H ⟨rfl, hi, p⟩
  have s := hS i σ H p
  by_cases hlt : i < n
  · refine .inr ⟨W.go i H s hlt, Pv (i + 1), fun σ' H' p' => ⟨n - (i + 1), by omega, rfl, hlt, p'⟩, fun x H' y => ?_⟩
    obtain ⟨rfl, rfl⟩ := W.yld i H x H' s hlt y
    exact hs D.nx fin i σ _ hlt p
  · have e : i = n := by omega
    subst e
    exact .inl ⟨W.stop H s, fin σ H (hd σ H p)⟩
/-- the rest of a comprehension's reading, behind its iterator -/
abbrev LcR (J : It) (g : TG) (tt : TT) (te : TE) (vs : List Nat) (σ : L2.St) (H1 : Hp) (D : Addr) (Qd : Hp → Prop) : Prop :=
  ∃ W : Nat → Nat → Hp → Prop, (∃ m, W 0 m (upd H1 D (.lst []))) ∧ ∀ i m H, W i m H →
      (J.stop i H ∧ Qd H) ∨ (J.go i H ∧ ∃ Nx : Hp → Prop, (∀ H', Nx H' → ∃ m', m' < m ∧ W (i + 1) m' H') ∧ ∀ x H', J.yld i H x H' → g x (wipe σ vs) H' fun σ2 H2 => wipe σ2 vs = wipe σ vs ∧ tt σ2 H2 fun b H3 =>
        if b = true then te σ2 H3 fun y H4 => ∃ acc, H4 D = some (.lst acc) ∧ acc.length < sizeLine ∧ Nx (upd H4 D (.lst (acc ++ [y]))) else Nx H3)
theorem All2.snoc {α : Type} {R : V → α → Prop} {vs : List V} {xs : List α} {v : V} {x : α} (h : All2 R vs xs) (r : R v x) : All2 R (vs ++ [v]) (xs ++ [x]) := h.append (.cons r .nil)
/-- what a heap's own rule bears: the list under way at D, and that it stays from then on -/
structure Stb (Jv : Hp → Hp → Prop) (D : Addr) : Prop where
  chg : ∀ {I H : Hp} {l : List V}, I D = none → Jv I H → Jv I (upd H D (.lst l))
  frz : ∀ {I H : Hp} {o : HO}, I D = none → Jv I H → Jv (upd I D o) H
theorem stb_true {D : Addr} : Stb (fun _ _ => True) D := ⟨fun _ _ => trivial, fun _ _ => trivial⟩
theorem Gr.drop {m : Addr} {ms : List Addr} {I H I' H' : Hp} (g : Gr (m :: ms) I H I' H') (h : H m = none) : Gr ms I H I' H' :=
  ⟨g.ii, g.ih, fun a o n e => g.hh a o (fun z => (List.mem_cons.mp z).elim (fun q => by rw [q, h] at e; cases e) n) e, g.th, g.nw⟩
/-- a comprehension without tests over such a thing: one element a turn, what it is told by Rl -/
theorem lc_wk {β : Type} {J : It} {n : Nat} {xs : Nat → V} {I H1 : Hp} {g : TG} {tt : TT} {te : TE} {vs : List Nat} {σ : L2.St} {D : Addr} {Qd : Hp → Prop} (ms : List Addr) (Sy : Rp β) [Mono Sy] (Rl : Nat → β → Prop) (Jv : Hp → Hp → Prop)
    (W : Wk J n xs I) (s0 : Same I H1) (hD : H1 D = none) (hm : D ∉ ms) (hn : n < sizeLine) (st : Stb Jv D) (j0 : Jv I H1)
    (step : ∀ (i : Nat) (I' H' : Hp) (Nx : Hp → Prop) (Qk : VK), i < n → Same I I' → Same I' H' → Jv I' H' → (∀ I'' H'' y z, Gr ms I' H' I'' H'' → Jv I'' H'' → Sy I'' y z → Rl i z → Qk y H'') →
      g (xs i) (wipe σ vs) H' fun σ2 H2 => wipe σ2 vs = wipe σ vs ∧ tt σ2 H2 fun b H3 => if b = true then te σ2 H3 Qk else Nx H3)
    (hd : ∀ I' H' ys zs, Gr ms I H1 I' H' → I' D = some (.lst ys) → All2 (Sy I') ys zs → zs.length = n → (∀ i z, zs[i]? = some z → Rl i z) → Jv I' H' → Qd H') :
    LcR J g tt te vs σ H1 D Qd := by
  refine ⟨fun i m H => m = n - i ∧ i ≤ n ∧ ∃ I' ys zs, Gr ms I H1 I' H ∧ I' D = none ∧ H D = some (.lst ys) ∧ All2 (Sy I') ys zs ∧ zs.length = i ∧ (∀ i z, zs[i]? = some z → Rl i z) ∧ Jv I' H,
    ⟨n, rfl, Nat.zero_le _, I, [], [], (Gr.tmp s0 hD), s0.free hD, upd_same, .nil, rfl, fun i z h => by simp at h, st.chg (s0.free hD) j0⟩, ?_⟩
  rintro i m H ⟨rfl, hi, I', ys, zs, gr, hI, hH, a2, hl, rl, jv⟩
  have s : Same I H := gr.ii.trans gr.ih
  by_cases hlt : i < n
  · refine .inr ⟨W.go i H s hlt, fun H' => i + 1 ≤ n ∧ ∃ I' ys zs, Gr ms I H1 I' H' ∧ I' D = none ∧ H' D = some (.lst ys) ∧ All2 (Sy I') ys zs ∧ zs.length = i + 1 ∧ (∀ i z, zs[i]? = some z → Rl i z) ∧ Jv I' H',
      fun H' p => ⟨n - (i + 1), by omega, rfl, p.1, p.2⟩, fun x H' y => ?_⟩
    obtain ⟨rfl, rfl⟩ := W.yld i H x H' s hlt y
    refine step i I' H' _ _ hlt gr.ii gr.ih jv fun I'' H'' y z g2 jv2 sy r => ?_
    have hD2 : H'' D = some (.lst ys) := g2.at hH hm
    have hI2 : I'' D = none := g2.out hI hH
    refine ⟨ys, hD2, by rw [a2.len, hl]; omega, hlt, I'', ys ++ [y], zs ++ [z], ?_, hI2, upd_same, (a2.mono fun _ _ => up g2.ii).snoc sy, by rw [List.length_append, hl]; rfl, fun j u hu => ?_, st.chg hI2 jv2⟩
    · have g3 := gr.trans g2
      exact ((g3.mono (ns := D :: ms) fun _ z => List.mem_cons_of_mem _ z).trans (Gr.mut g3.ih hI2 List.mem_cons_self)).drop hD
    · by_cases hj : j < zs.length
      · rw [List.getElem?_append_left hj] at hu; exact rl j u hu
      · rw [List.getElem?_append_right (by omega)] at hu
        have : j - zs.length = 0 := by
          rcases Nat.eq_zero_or_pos (j - zs.length) with h | h
          · exact h
          · rw [List.getElem?_eq_none (by simp; omega)] at hu; cases hu
        rw [this] at hu
        simp at hu
        subst hu
        have : j = i := by omega
        rw [this]; exact r
  · have e : i = n := by omega
    subst e
    refine .inl ⟨W.stop H s, hd (upd I' D (.lst ys)) H ys zs (gr.mono (fun _ z => List.mem_cons_of_mem _ z) |>.frz s0 hD hH) upd_same (a2.mono fun _ _ => up (sNew hI)) hl rl (st.frz hI jv)⟩
end Tk

set_option Elab.async false
set_option linter.all false
set_option maxRecDepth 100000
set_option maxHeartbeats 4000000
/-! zip of a list or a tuple with a tuple. -/
namespace Tk
open PySem PySem.Spec PyProof.Rows L2
def SqB (K : PySem.W.Frag) (l : Bool) (H : Hp) (a : Addr) (xs : List V) : Prop := match l with
  | true => SqL K H a xs
  | false => SqT K H a xs
def ItB (l : Bool) (h : Heap) (i a : Addr) (k : Nat) : Prop := match l with
  | true => h.IsListIter i a k
  | false => h.IsTupleIter i a k
def IsB (l : Bool) (h : Heap) (a : Addr) (its : Array Value) : Prop := match l with
  | true => h.IsList a its
  | false => h.IsTuple a its
theorem ItB.fld {l : Bool} {h : Heap} {i a : Addr} {k : Nat} (t : ItB l h i a k) : ∃ o, h.get? i = some o ∧ ∀ v, o.data ≠ .cell v := by
  cases l with
  | true => obtain ⟨o, e, _, d⟩ := t; exact ⟨o, e, fun v q => by rw [d] at q; cases q⟩
  | false => obtain ⟨o, e, _, d⟩ := t; exact ⟨o, e, fun v q => by rw [d] at q; cases q⟩
theorem ItB.keep {l : Bool} {h h' : Heap} {i a : Addr} {k : Nat} (t : ItB l h i a k) (e : ∀ o, h.get? i = some o → h'.get? i = some o) : ItB l h' i a k := by
  cases l with
  | true => exact Heap.IsListIter.at t e
  | false => exact Heap.IsTupleIter.at t e
theorem drawsB {prog : Program} {w : World} {A : Around} (hh : A.handled = none) (l : Bool) (it a : Addr) (hne : a ≠ it) (its : Array Value) :
    Draws prog w A it [it, a] its.size (fun i v => its[i]? = some v) (fun i h => ItB l h it a i ∧ IsB l h a its) := by
  cases l with
  | true => exact Draws.list hh it a hne its
  | false => exact Draws.tuple hh it a hne its
section
variable {X : Cx} {pins : List (Addr × Obj)} {σ : L2.St} {H : Hp} {s : Shared}
theorem sqB_at {l : Bool} {a : Addr} {xs : List V} (I : Inv X pins σ H s) (h : SqB X.K l H a xs) : ∃ its : List Value, Vals xs its ∧ IsB l s.heap a its.toArray ∧ a < s.heap.objs.size := by
  cases l with
  | true => obtain ⟨its, r, p, _⟩ := I.list h; exact ⟨its, r, p.isList, p.lt⟩
  | false =>
    obtain ⟨its, r, p, _⟩ := I.tuple h
    obtain ⟨o, e, _⟩ := id p
    exact ⟨its, r, p, Heap.lt_size e⟩
theorem sqB_inj {l : Bool} {a : Addr} {xs ys : List V} (I : Inv X pins σ H s) (h : SqB X.K l H a xs) (k : SqB X.K l H a ys) : xs = ys := by
  cases l with
  | true => exact I.list_inj h k
  | false => exact I.tuple_inj h k
end
/-- new pairs of what stands at a and at b -/
def ItzM (K : PySem.W.Frag) (l m : Bool) (a b : Addr) : It :=
  ⟨fun i H => ∃ xs ys x y, (SqB K l H a xs ∧ xs[i]? = some x) ∧ SqB K m H b ys ∧ ys[i]? = some y,
    fun i H v H' => ∃ t x y, v = .ref t ∧ H t = none ∧ H' = upd H t (.tup [x, y]) ∧ (∀ xs, SqB K l H a xs → xs[i]? = some x) ∧ ∀ ys, SqB K m H b ys → ys[i]? = some y,
    fun i H => ∃ xs ys, SqB K l H a xs ∧ SqB K m H b ys ∧ i ≤ xs.length ∧ i ≤ ys.length ∧ (i = xs.length ∨ i = ys.length)⟩
/-- where the five objects of a zip lie -/
structure Zs (z TI TO i1 i2 a b : Addr) : Prop where
  sep : ZipSep2 z TI TO i1 i2 [i1, a] [i2, b]
  a1 : a ≠ i1
  b2 : b ≠ i2
theorem two_not {c x y : Addr} (h1 : c ≠ x) (h2 : c ≠ y) : c ∉ [x, y] := fun h => by
  rcases List.mem_cons.mp h with e | h
  · exact h1 e
  · rcases List.mem_cons.mp h with e | h
    · exact h2 e
    · exact nomatch h
theorem zs_new {n a b : Addr} (ha : a < n) (hb : b < n) : Zs (n + 4) (n + 2) (n + 3) n (n + 1) a b := by
  have D := PySem.W.ktu_apart n a b ha hb
  exact ⟨⟨D.TIz, D.TOz, D.TITO, D.TIi1, List.mem_cons_self, two_not D.i1z.symm D.l1z.symm, two_not D.TOi1 D.l1TO.symm, D.TIi2, List.mem_cons_self, two_not D.i2z.symm D.l2z.symm, two_not D.TOi2 D.l2TO.symm, two_not D.i12 D.l2i1.symm, two_not D.i12.symm D.l1i2.symm⟩, D.l1i1, D.l2i2⟩
theorem turn_zipM {P : Program} {w : World} {K : PySem.W.Frag} {elts : List Expr} {kk : Nat} {tpos : Pos} {l m : Bool} {a b z TI TO i1 i2 : Addr} (Z : Zs z TI TO i1 i2 a b) :
    Turn P w K (.Tuple elts kk tpos) (ItzM K l m a b) [z, TI, TO, i1, i2] z (fun i h => (IsZip h z TI TO .none ∧ IsPair h TI (.ref i1) (.ref i2) ∧ ∃ x y, IsPair h TO x y) ∧ ItB l h i1 a i ∧ ItB m h i2 b i) where
  mem := List.mem_cons_self
  obj := fun i h ⟨⟨hz, hI, x, y, hO⟩, h1, h2⟩ c hc => by
    simp only [List.mem_cons, List.not_mem_nil, or_false] at hc
    rcases hc with rfl | rfl | rfl | rfl | rfl
    · exact ⟨_, hz, nofun⟩
    · exact ⟨_, hI, nofun⟩
    · exact ⟨_, hO, nofun⟩
    · exact h1.fld
    · exact h2.fld
  keep := fun i h h' ⟨⟨hz, hI, x, y, hO⟩, h1, h2⟩ k =>
    ⟨⟨k _ (by simp) _ hz, k _ (by simp) _ hI, x, y, k _ (by simp) _ hO⟩, h1.keep (k _ (by simp)), h2.keep (k _ (by simp))⟩
  item := by
    rintro X rfl rfl rfl hc i pins s σ H E Iv hf ⟨⟨hz, hI, x0, y0, hO⟩, h1, h2⟩ ⟨xs, ys, x, y, ⟨qx, hx⟩, qy, hy⟩
    obtain ⟨its, rv, p1, _⟩ := sqB_at Iv qx
    obtain ⟨jts, rw', p2, _⟩ := sqB_at Iv qy
    obtain ⟨u, hu, ru⟩ := rv.get hx
    obtain ⟨u2, hu2, ru2⟩ := rw'.get hy
    have hh : X.A.in1.handled = none := Iv.ok.hd hc
    have lz := Heap.lt_size hz
    have b1 : i < its.toArray.size := by
      have := (List.getElem?_eq_some_iff.mp hu).1; simpa using this
    have b2 : i < jts.toArray.size := by
      have := (List.getElem?_eq_some_iff.mp hu2).1; simpa using this
    refine wpAny_pyNext_zipD2_item Z.sep (drawsB (A := X.A.in1) hh l i1 a Z.a1 its.toArray) (drawsB (A := X.A.in1) hh m i2 b Z.b2 jts.toArray) hz hI hO ⟨h1, p1⟩ ⟨h2, p2⟩ b1 b2 fun v1 v2 h' tk e1 e2 z' O' d1 d2 hT hs hk => ?_
    have e1' : u = v1 := by
      have : its.toArray[i]? = some u := by simpa using hu
      rw [this] at e1; exact Option.some.inj e1
    have e2' : u2 = v2 := by
      have : jts.toArray[i]? = some u2 := by simpa using hu2
      rw [this] at e2; exact Option.some.inj e2
    subst e1' e2'
    refine ⟨_, rfl, wpAny_letOwnedTupleGo_zip (s := { s with heap := h', toks := tk }) z' fun h'' z'' sb => ?_⟩
    have hT2 : h''.get? s.heap.objs.size = some { cls := .type "tuple", data := .seq #[u, u2] } := (sb.2 _ (Nat.ne_of_gt lz)).trans hT
    have hn : H s.heap.objs.size = none := Iv.hok.fresh (Nat.le_refl _)
    have kp : ∀ c o, c ∉ [z, TI, TO, i1, i2] → s.heap.get? c = some o → h''.get? c = some o := fun c o hcn q => by
      simp only [List.mem_cons, List.not_mem_nil, or_false, not_or] at hcn
      exact (sb.2 c hcn.1).trans (hk c o hcn.1 hcn.2.2.1 hcn.2.2.2.1 hcn.2.2.2.2 q)
    have I1 : Inv X pins σ (upd H s.heap.objs.size (.tup [x, y])) { s with heap := h'', toks := tk } :=
      Iv.turnedNew (t' := tk) (ch := [z, TI, TO, i1, i2]) kp hf (Nat.le_refl _) ⟨by show 2 ≤ sizeLine; decide, [u, u2], .cons ru (.cons ru2 .nil), ⟨_, hT2, rfl, _, rfl⟩⟩
    have S := Z.sep
    refine ⟨.ref s.heap.objs.size, _, I1, rfl, ⟨_, x, y, rfl, hn, rfl, fun l hl => by rw [sqB_inj Iv hl qx]; exact hx, fun l hl => by rw [sqB_inj Iv hl qy]; exact hy⟩,
      ⟨⟨z'', (sb.2 _ S.TIz).trans (hk _ _ S.TIz S.TITO S.TIi1 S.TIi2 hI), u, u2, (sb.2 _ S.TOz).trans O'⟩, d1.1.keep fun o q => (sb.2 _ S.zi1.symm).trans q, d2.1.keep fun o q => (sb.2 _ S.zi2.symm).trans q⟩, fun c hcm => ?_⟩
    have hlt : c ≠ s.heap.objs.size := by
      simp only [List.mem_cons, List.not_mem_nil, or_false] at hcm
      rcases hcm with rfl | rfl | rfl | rfl | rfl
      · exact Nat.ne_of_lt lz
      · exact Nat.ne_of_lt (Heap.lt_size hI)
      · exact Nat.ne_of_lt (Heap.lt_size hO)
      · obtain ⟨_, e, _⟩ := h1.fld; exact Nat.ne_of_lt (Heap.lt_size e)
      · obtain ⟨_, e, _⟩ := h2.fld; exact Nat.ne_of_lt (Heap.lt_size e)
    rw [upd_ne hlt]
    exact (hf c hcm).1
  done := by
    rintro X rfl rfl rfl hc i pins s σ H E Iv hf ⟨⟨hz, hI, x0, y0, hO⟩, h1, h2⟩ ⟨xs, ys, qx, qy, l1, l2, hend⟩
    obtain ⟨its, rv, p1, _⟩ := sqB_at Iv qx
    obtain ⟨jts, rw', p2, _⟩ := sqB_at Iv qy
    have hh : X.A.in1.handled = none := Iv.ok.hd hc
    have n1 := rv.length
    have n2 := rw'.length
    refine wpAny_pyNext_zipD2_end Z.sep (drawsB (A := X.A.in1) hh l i1 a Z.a1 its.toArray) (drawsB (A := X.A.in1) hh m i2 b Z.b2 jts.toArray) hz hI hO ⟨h1, p1⟩ ⟨h2, p2⟩ (by simp; omega) (by simp; omega)
      (by simp only [List.size_toArray]; omega) fun h' tk hk => ⟨rfl, Iv.turnedL (t' := tk) (ch := [z, TI, TO, i1, i2]) (fun c o hcn q => ?_) hf⟩
    simp only [List.mem_cons, List.not_mem_nil, or_false, not_or] at hcn
    exact hk c o hcn.1 hcn.2.2.1 hcn.2.2.2.1 hcn.2.2.2.2 q
  self := fun A i s Q E st h => wpAny_pyIter_zip st.1.1 h
def iZipM (K : PySem.W.Frag) (ta : TA) : TI := fun σ H R => ta σ H fun vs H1 => ∃ (l m : Bool) (a b : Addr) (xs ys : List V), vs = [.ref a, .ref b] ∧ SqB K l H1 a xs ∧ SqB K m H1 b ys ∧ R (ItzM K l m a b) H1
theorem beginsB (l : Bool) (a : Addr) (its : Array Value) : ∃ o : Obj, Begins (.ref a) o (fun h => IsB l h a its) ∧ ∀ h i, h.get? i = some o → ItB l h i a 0 := by
  cases l with
  | true => exact ⟨_, begins_list a its, fun h i e => ⟨_, e, rfl, rfl⟩⟩
  | false => exact ⟨_, begins_tuple a its, fun h i e => ⟨_, e, rfl, rfl⟩⟩
theorem pi_zipM {X : Cx} {e e2 : Expr} {ta : TA} {p pos tpos : Pos} {elts : List Expr} {kk : Nat} (hg : Gl X "zip") (hm : X.mg "zip" = none) (ha : PA X [e, e2] ta)
    (hs : starEach [e, e2] X.env = (false, eval e X.env) :: starEach [e2] X.env := by rfl) (hpl : (backTo pos (starEach [e2] X.env)).any (·.1) = false := by rfl) :
    PI X (.Tuple elts kk tpos) (.Call (.Name "zip" p) [e, e2] [] pos) (iZipM X.K ta) := by
  refine ⟨fun pins s σ H R Iv h => ?_⟩
  refine Call_ (ld_blt Iv hg hm PyProof.Rows.boot_zip (PyProof.Rows.callWith_type1 (thn (ha.run pos pins s σ H _ Iv h) fun us s1 q1 => ?_) hs hpl))
  obtain ⟨vs, H1, I1, r1, l, m, a, b, xs, ys, rfl, qx, qy, q⟩ := q1
  cases r1 with
  | cons ra rr =>
    cases rr with
    | cons rb rr =>
      cases rr
      cases ra
      cases rb
      obtain ⟨its, _, p1, la⟩ := sqB_at I1 qx
      obtain ⟨jts, _, p2, lb⟩ := sqB_at I1 qy
      obtain ⟨o1, B1, k1⟩ := beginsB l a its.toArray
      obtain ⟨o2, B2, k2⟩ := beginsB m b jts.toArray
      refine zip_begins2 B1 B2 p1 p2 fun h' hz hI hO g1 g2 hsz hk => wpAny_pyIter_zip hz ?_
      refine ⟨_, _, _, _, H1, rfl, I1.kept (t' := s1.toks) hk, turn_zipM (zs_new la lb), ⟨⟨hz, hI, _, _, hO⟩, k1 _ _ g1, k2 _ _ g2⟩, fun c hcm => ?_, q⟩
      have hle : s1.heap.objs.size ≤ c := by
        simp only [List.mem_cons, List.not_mem_nil, or_false] at hcm
        rcases hcm with rfl | rfl | rfl | rfl | rfl
        · exact Nat.le_add_right _ _
        · exact Nat.le_add_right _ _
        · exact Nat.le_add_right _ _
        · exact Nat.le_refl _
        · exact Nat.le_add_right _ _
      exact I1.fpOk hle (I1.hok.fresh hle)
end Tk

set_option Elab.async false
set_option linter.all false
set_option maxRecDepth 100000
set_option maxHeartbeats 4000000
/-! Rules that name K itself (in a comprehension's block the context's K is no name that the reading could keep). -/
namespace Tk
open PySem PySem.Spec PyProof.Rows L2
structure rTup (K : PySem.W.Frag) (xs : List V) (H : Hp) (Q : VK) : Prop where
  h : ∃ p ys, xs = [.ref p] ∧ ((SqL K H p ys ∧ ∀ l, H l = none → Q (.ref l) (upd H l (.tup ys))) ∨ (SqT K H p ys ∧ Q (.ref p) H))
section
variable {X : Cx} (K : PySem.W.Frag) {e l : Expr} {ta : TE} {f : Str} {pos p tpos : Pos} {tg : Expr} {tl : TE}
theorem pe_fldK (he : PE X e ta) (hb : attributeBase e f X.env (eval e X.env) = eval e X.env) (hK : X.K = K := by rfl) : PE X (.Attribute e f pos) (tFld K ta f) := hK ▸ pe_fld he hb
theorem ix_listK (hK : X.K = K := by rfl) : IxR X (rIxL K) := hK ▸ ix_list
theorem ix_tupK (hK : X.K = K := by rfl) : IxR X (rIxT K) := hK ▸ ix_tup
theorem sl_listK (hK : X.K = K := by rfl) : SlR X (rSlL K) := hK ▸ sl_list
theorem call_lenK (hK : X.K = K := by rfl) : CallR X (.builtin "len") (fun xs H Q => ∃ x n, xs = [x] ∧ LenV K x H n ∧ Q (.int n) H) := hK ▸ call_len
theorem call_list_ofK (hK : X.K = K := by rfl) : CallR X (.type "list") (fun xs H Q => ∃ p ys, xs = [.ref p] ∧ (SqL K H p ys ∨ SqT K H p ys) ∧ ∀ l, H l = none → Q (.ref l) (upd H l (.lst ys))) := hK ▸ call_list_of
theorem call_tuple_ofK (hK : X.K = K := by rfl) : CallR X (.type "tuple") (rTup K) := by
  subst hK
  intro pins s σ H vs us Q I r h
  exact call_tuple_of pins s σ H vs us Q I r h.h
theorem op_catTK (hK : X.K = K := by rfl) : OpR X (binaryOp .Add) (rCatT K) := hK ▸ op_catT
theorem op_neDK (hu : X.A.units + 64 < cLine) (hK : X.K = K := by rfl) : OpR X (compareOp .NotEq) (rNeD K) := hK ▸ op_neD hu
theorem op_eqDK (hu : X.A.units + 64 < cLine) (hK : X.K = K := by rfl) : OpR X (compareOp .Eq) (rEqD K) := hK ▸ op_eqD hu
theorem pg_tupK {es : List Expr} {k : Nat} {t : TGs} {n : Nat} (hc : X.calm = true) (h : PGs X es t) (hK : X.K = K := by rfl)
    (hn : (assignEach es X.env).length = n := by rfl) (hst : (assignEach es X.env).findIdx? (·.1) = none := by rfl) : PG X (.Tuple es k pos) (gTup K n t) := hK ▸ pg_tup hc h hn hst
theorem pi_listK (hl : PE X l tl) (hK : X.K = K := by rfl) : PI X tg l (iList K tl) := hK ▸ pi_list hl
theorem pi_tupK (hl : PE X l tl) (hK : X.K = K := by rfl) : PI X tg l (iTup K tl) := hK ▸ pi_tup hl
theorem pi_ltK (hl : PE X l tl) (hK : X.K = K := by rfl) : PI X tg l (iLT K tl) := hK ▸ pi_lt hl
theorem pi_zipMK {e2 : Expr} {t2 : TA} {elts : List Expr} {kk : Nat} (hg : Gl X "zip") (hm : X.mg "zip" = none) (ha : PA X [e, e2] t2) (hK : X.K = K := by rfl)
    (hs : starEach [e, e2] X.env = (false, eval e X.env) :: starEach [e2] X.env := by rfl) (hpl : (backTo pos (starEach [e2] X.env)).any (·.1) = false := by rfl) :
    PI X (.Tuple elts kk tpos) (.Call (.Name "zip" p) [e, e2] [] pos) (iZipM K t2) := hK ▸ pi_zipM hg hm ha hs hpl
theorem cr_allK (hc : X.calm = true) (hK : X.K = K := by rfl) : CallR X (.builtin "all") (rAll K) := hK ▸ cr_all hc
theorem cr_anyK (hc : X.calm = true) (hK : X.K = K := by rfl) : CallR X (.builtin "any") (rAny K) := hK ▸ cr_any hc
theorem cr_sumK (hc : X.calm = true) (hK : X.K = K := by rfl) : CallR X (.builtin "sum") (rSum K) := hK ▸ cr_sum hc
theorem call_isiK (hK : X.K = K := by rfl) : CallR X (.builtin "isinstance") (rIsi K) := hK ▸ call_isi
end
end Tk

set_option Elab.async false
set_option linter.all false
set_option maxRecDepth 100000
set_option maxHeartbeats 4000000
/-! Two clauses: all elements in one list. -/
namespace Tk
open PySem PySem.Spec PyProof.Rows L2
def flat {β : Type} (ks : Nat → Nat) (f : Nat → Nat → β) (n : Nat) : List β := (List.range n).flatMap fun i => (List.range (ks i)).map (f i)
theorem flat_succ {β : Type} {ks : Nat → Nat} {f : Nat → Nat → β} {n : Nat} : flat ks f (n + 1) = flat ks f n ++ (List.range (ks n)).map (f n) := by
  unfold flat; rw [List.range_succ, List.flatMap_append]; simp
theorem flat_le {β : Type} {ks : Nat → Nat} {f : Nat → Nat → β} {i n : Nat} (h : i ≤ n) : (flat ks f i).length ≤ (flat ks f n).length := by
  induction n with
  | zero => have : i = 0 := by omega
            subst this; exact Nat.le_refl _
  | succ n ih =>
    by_cases e : i = n + 1
    · subst e; exact Nat.le_refl _
    · refine Nat.le_trans (ih (by omega)) ?_
      rw [flat_succ, List.length_append]; omega
theorem flat_lt {β : Type} {ks : Nat → Nat} {f : Nat → Nat → β} {i j n : Nat} (h : i < n) (hj : j < ks i) : (flat ks f i ++ (List.range j).map (f i)).length < (flat ks f n).length := by
  have := flat_le (ks := ks) (f := f) (i := i + 1) (n := n) h
  rw [flat_succ] at this
  simp only [List.length_append, List.length_map, List.length_range] at this ⊢
  omega
abbrev LcR2 (J : It) (g : TG) (tt : TT) (wi1 : TI) (g1 : TG) (tt1 : TT) (te : TE) (vs vs1 : List Nat) (σ : L2.St) (H1 : Hp) (D : Addr) (Qd : Hp → Prop) : Prop :=
  ∃ W : Nat → Nat → Hp → Prop, (∃ m, W 0 m (upd H1 D (.lst []))) ∧ ∀ i m H, W i m H →
  (J.stop i H ∧ Qd H) ∨ (J.go i H ∧ ∃ Nx : Hp → Prop, (∀ H', Nx H' → ∃ m', m' < m ∧ W (i + 1) m' H') ∧ ∀ x H', J.yld i H x H' → g x (wipe σ vs) H' fun σ2 H2 => wipe σ2 vs = wipe σ vs ∧ tt σ2 H2 fun b H3 =>
    if b = true then wi1 σ2 H3 fun J1 H4 => ∃ W1 : Nat → Nat → Hp → Prop, (∃ m, W1 0 m H4) ∧ ∀ j k H, W1 j k H →
      (J1.stop j H ∧ Nx H) ∨ (J1.go j H ∧ ∃ Nx1 : Hp → Prop, (∀ H', Nx1 H' → ∃ k', k' < k ∧ W1 (j + 1) k' H') ∧ ∀ x H', J1.yld j H x H' → g1 x (wipe σ2 vs1) H' fun σ3 H5 => wipe σ3 vs1 = wipe σ2 vs1 ∧ tt1 σ3 H5 fun b H6 =>
        if b = true then te σ3 H6 fun y H7 => ∃ acc, H7 D = some (.lst acc) ∧ acc.length < sizeLine ∧ Nx1 (upd H7 D (.lst (acc ++ [y]))) else Nx1 H6)
    else Nx H3)
theorem lc2_wk {β : Type} {J : It} {n : Nat} {xs : Nat → V} {I H1 : Hp} {g g1 : TG} {tt tt1 : TT} {te : TE} {wi1 : TI} {vs vs1 : List Nat} {σ : L2.St} {D : Addr} {Qd : Hp → Prop} (Sy : Rp β) [Mono Sy] (ks : Nat → Nat) (f : Nat → Nat → β)
    (W : Wk J n xs I) (s0 : Same I H1) (hD : H1 D = none) (hn : (flat ks f n).length ≤ sizeLine)
    (step : ∀ (i : Nat) (I' H' : Hp) (Nx : Hp → Prop) (R2 : L2.St → It → Hp → Prop), i < n → Same I I' → Same I' H' →
      (∀ (σ2 : L2.St) (J1 : It) (xs1 : Nat → V), Wk J1 (ks i) xs1 I' →
        (∀ (j : Nat) (I2 H2 : Hp) (Nx1 : Hp → Prop) (Qk : VK), j < ks i → Same I' I2 → Same I2 H2 → (∀ I'' H'' y, Gr [] I2 H2 I'' H'' → Sy I'' y (f i j) → Qk y H'') →
          g1 (xs1 j) (wipe σ2 vs1) H2 fun σ3 H5 => wipe σ3 vs1 = wipe σ2 vs1 ∧ tt1 σ3 H5 fun b H6 => if b = true then te σ3 H6 Qk else Nx1 H6) → R2 σ2 J1 H') →
      g (xs i) (wipe σ vs) H' fun σ2 H2 => wipe σ2 vs = wipe σ vs ∧ tt σ2 H2 fun b H3 => if b = true then wi1 σ2 H3 (R2 σ2) else Nx H3)
    (hd : ∀ I' H' ys, Gr [] I H1 I' H' → I' D = some (.lst ys) → All2 (Sy I') ys (flat ks f n) → Qd H') :
    LcR2 J g tt wi1 g1 tt1 te vs vs1 σ H1 D Qd := by
  let Mid : List β → Hp → Prop := fun zs H => ∃ I' ys, Gr [] I H1 I' H ∧ I' D = none ∧ H D = some (.lst ys) ∧ All2 (Sy I') ys zs
  refine ⟨fun i m H => m = n - i ∧ i ≤ n ∧ Mid (flat ks f i) H, ⟨n, rfl, Nat.zero_le _, I, [], (Gr.tmp s0 hD), s0.free hD, upd_same, .nil⟩, ?_⟩
  rintro i m H ⟨rfl, hi, I', ys, gr, hI, hH, a2⟩
  have s : Same I H := gr.ii.trans gr.ih
  by_cases hlt : i < n
  · refine .inr ⟨W.go i H s hlt, fun H' => i + 1 ≤ n ∧ Mid (flat ks f (i + 1)) H', fun H' p => ⟨n - (i + 1), by omega, rfl, p.1, p.2⟩, fun x H' y => ?_⟩
    obtain ⟨rfl, rfl⟩ := W.yld i H x H' s hlt y
    refine step i I' H' _ (fun σ2 J1 H4 => ∃ W1 : Nat → Nat → Hp → Prop, (∃ m, W1 0 m H4) ∧ ∀ j k H, W1 j k H → _) hlt gr.ii gr.ih fun σ2 J1 xs1 W1 st => ?_
    refine ⟨fun j k H => k = ks i - j ∧ j ≤ ks i ∧ ∃ I2 ys, Gr [] I H1 I2 H ∧ Same I' I2 ∧ I2 D = none ∧ H D = some (.lst ys) ∧ All2 (Sy I2) ys (flat ks f i ++ (List.range j).map (f i)),
      ⟨ks i, rfl, Nat.zero_le _, I', ys, gr, Same.refl _, hI, hH, by simpa using a2⟩, ?_⟩
    rintro j k H2 ⟨rfl, hj, I2, ys2, gr2, s2, hI2, hH2, a22⟩
    by_cases hjl : j < ks i
    · refine .inr ⟨W1.go j H2 (s2.trans gr2.ih) hjl, fun H => j + 1 ≤ ks i ∧ ∃ I2 ys, Gr [] I H1 I2 H ∧ Same I' I2 ∧ I2 D = none ∧ H D = some (.lst ys) ∧ All2 (Sy I2) ys (flat ks f i ++ (List.range (j + 1)).map (f i)),
        fun H p => ⟨ks i - (j + 1), by omega, rfl, p.1, p.2⟩, fun x H3 y => ?_⟩
      obtain ⟨rfl, rfl⟩ := W1.yld j H2 x H3 (s2.trans gr2.ih) hjl y
      refine st j I2 H3 _ _ hjl s2 gr2.ih fun I3 H4 y g3 sy => ?_
      have hD4 := g3.at hH2 (by simp)
      have hI3 := g3.out hI2 hH2
      have ll := a22.len
      refine ⟨ys2, hD4, Nat.lt_of_lt_of_le (by rw [ll]; exact flat_lt hlt hjl) hn, hjl, I3, ys2 ++ [y], ?_, s2.trans g3.ii, hI3, upd_same, ?_⟩
      · have g4 := gr2.trans g3
        exact ((g4.mono (ns := [D]) fun _ z => nomatch z).trans (Gr.mut g4.ih hI3 List.mem_cons_self)).drop hD
      · rw [List.range_succ, List.map_append, ← List.append_assoc]
        exact (a22.mono fun _ _ => up g3.ii).snoc sy
    · have e : j = ks i := by omega
      subst e
      exact .inl ⟨W1.stop H2 (s2.trans gr2.ih), hlt, I2, ys2, gr2, hI2, hH2, by rw [flat_succ]; exact a22⟩
  · have e : i = n := by omega
    subst e
    exact .inl ⟨W.stop H s, hd (upd I' D (.lst ys)) H ys (gr.mono (ns := [D]) (fun _ z => nomatch z) |>.frz s0 hD hH) upd_same (a2.mono fun _ _ => up (sNew hI))⟩
end Tk
namespace Tk
open PySem PySem.Spec PyProof.Rows L2
section
variable {α β : Type} {K : PySem.W.Frag}
def iA (R : Rp α) : Rp (List α) := fun H v xs => ∃ a vs, v = .ref a ∧ (H a = some (.lst vs) ∨ H a = some (.tup vs)) ∧ All2 (R H) vs xs
instance {R : Rp α} [m : Mono R] : Mono (iA R) := ⟨fun s ⟨a, vs, e, h, t⟩ => ⟨a, vs, e, h.elim (fun h => .inl (s _ _ h)) (fun h => .inr (s _ _ h)), t.mono fun _ _ => m.up s⟩⟩
theorem iA.l {R : Rp α} {H : Hp} {v : V} {xs : List α} (h : iL R H v xs) : iA R H v xs := by
  obtain ⟨a, vs, e, h, t⟩ := h; exact ⟨a, vs, e, .inl h, t⟩
theorem iA.t {R : Rp α} {H : Hp} {v : V} {xs : List α} (h : iT R H v xs) : iA R H v xs := by
  obtain ⟨a, vs, e, h, t⟩ := h; exact ⟨a, vs, e, .inr h, t⟩
theorem All2.imp {R S : V → α → Prop} {vs : List V} {xs : List α} (h : All2 R vs xs) (k : ∀ v x, R v x → S v x) : All2 S vs xs := h.mono k
theorem gv2 {R : V → α → Prop} {vs : List V} {xs : List α} {i : Nat} {x : α} (h : All2 R vs xs) (e : xs[i]? = some x) : R (gv vs i) x := by
  obtain ⟨v, h1, h2⟩ := h.get' e
  rw [gv_of h1]; exact h2
/-- tuple(v) -/
theorem tup_of {R : Rp α} [Mono R] {I H : Hp} {v : V} {xs : List α} {Q : VK} (h : iA R I v xs) (s : Same I H) (k : ∀ I' H' v', Gr [] I H I' H' → iT R I' v' xs → Q v' H') :
    rTup K [v] H Q := by
  obtain ⟨a, vs, rfl, h, t⟩ := h
  refine ⟨⟨a, vs, rfl, h.elim (fun h => .inl ⟨SqL.of (s _ _ h), fun l hl => ?_⟩) (fun h => .inr ⟨SqT.of (s _ _ h), k _ _ _ (Gr.refl s) ⟨a, vs, rfl, h, t⟩⟩)⟩⟩
  have g := Gr.new (ms := []) (o := .tup vs) s hl
  exact k _ _ _ g ⟨l, vs, rfl, upd_same, t.mono fun _ _ => up g.ii⟩
theorem len_of {R : Rp α} {I H : Hp} {v : V} {xs : List α} (h : iA R I v xs) (s : Same I H) : LenV K v H xs.length := by
  obtain ⟨a, vs, rfl, h, t⟩ := h
  rw [← t.len]
  exact h.elim (fun h => .inl ⟨_, SqL.of (s _ _ h), rfl⟩) fun h => .inr ⟨_, SqT.of (s _ _ h), rfl⟩
/-- a new list of what stands for the same things -/
theorem lc_id {J : It} {R Sy : Rp α} [Mono R] [Mono Sy] {vs : List V} {xs : List α} {I H1 : Hp} {g : TG} {tt : TT} {te : TE} {vz : List Nat} {σ : L2.St} {D : Addr} {Qd : Hp → Prop}
    (W : Wk J vs.length (gv vs) I) (a2 : All2 (R I) vs xs) (s0 : Same I H1) (hD : H1 D = none) (hn : xs.length < sizeLine)
    (step : ∀ (i : Nat) (x : α) (I' H' : Hp) (Nx : Hp → Prop) (Qk : VK), xs[i]? = some x → R I' (gv vs i) x → Same I' H' → (∀ I'' H'' y, Gr [] I' H' I'' H'' → Sy I'' y x → Qk y H'') →
      g (gv vs i) (wipe σ vz) H' fun σ2 H2 => wipe σ2 vz = wipe σ vz ∧ tt σ2 H2 fun b H3 => if b = true then te σ2 H3 Qk else Nx H3)
    (hd : ∀ I' H', Gr [] I H1 I' H' → iL Sy I' (.ref D) xs → Qd H') : LcR J g tt te vz σ H1 D Qd := by
  have hl := a2.len
  refine lc_wk [] Sy (fun i z => xs[i]? = some z) (fun _ _ => True) W s0 hD (by simp) (by rw [hl]; exact hn) stb_true trivial (fun i I' H' Nx Qk hi s1 s2 _ kk => ?_) (fun I' H' ys zs g1 hD' b2 hz rl _ => ?_)
  · obtain ⟨x, hx⟩ : ∃ x, xs[i]? = some x := ⟨xs[i]'(by omega), List.getElem?_eq_getElem (by omega)⟩
    exact step i x I' H' Nx Qk hx (up s1 (gv2 a2 hx)) s2 fun I'' H'' y g2 sy => kk _ _ _ _ g2 trivial sy hx
  · have e : zs = xs := by
      refine List.ext_getElem? fun i => ?_
      by_cases hi : i < zs.length
      · rw [rl i _ (List.getElem?_eq_getElem hi), List.getElem?_eq_getElem hi]
      · rw [List.getElem?_eq_none (by omega), List.getElem?_eq_none (by omega)]
    subst e
    exact hd I' H' g1 ⟨D, ys, rfl, hD', b2⟩
theorem map_of {xs : List α} {zs : List β} {f : α → β} (h : zs.length = xs.length) (r : ∀ (i : Nat) (z : β), zs[i]? = some z → ∃ x, xs[i]? = some x ∧ z = f x) : zs = xs.map f := by
  refine List.ext_getElem? fun i => ?_
  by_cases hi : i < zs.length
  · obtain ⟨x, h1, h2⟩ := r i _ (List.getElem?_eq_getElem hi)
    rw [List.getElem?_map, h1, List.getElem?_eq_getElem hi, h2]; rfl
  · rw [List.getElem?_eq_none (by omega), List.getElem?_eq_none (by simp; omega)]
end
end Tk
namespace Tk
open PySem PySem.Spec PyProof.Rows L2
section
variable {α : Type} {K : PySem.W.Frag}
theorem bls_of {H : Hp} : ∀ {vs : List V} {bs : List Bool}, All2 (iB H) vs bs → vs = bs.map V.bl
  | _, _, .nil => rfl
  | _, _, .cons a t => by rw [a, bls_of t]; rfl
theorem all_any {bs : List Bool} {xs : List α} {p : α → Prop} [DecidablePred p] (h : bs.length = xs.length) (r : ∀ (i : Nat) (b : Bool), bs[i]? = some b → ∃ x, xs[i]? = some x ∧ b = decide (p x)) :
    bs.all id = decide (∀ x ∈ xs, p x) ∧ bs.any id = decide (∃ x ∈ xs, p x) := by
  have e : bs = xs.map fun x => decide (p x) := map_of h r
  subst e
  constructor
  · rw [Bool.eq_iff_iff, List.all_eq_true, decide_eq_true_iff]
    simp
  · rw [Bool.eq_iff_iff, List.any_eq_true, decide_eq_true_iff]
    simp
theorem lc_bool {J : It} {R : Rp α} [Mono R] {p : α → Prop} [DecidablePred p] {vs : List V} {xs : List α} {I H1 : Hp} {g : TG} {tt : TT} {te : TE} {vz : List Nat} {σ : L2.St} {D : Addr} {Qd : Hp → Prop}
    (W : Wk J vs.length (gv vs) I) (a2 : All2 (R I) vs xs) (s0 : Same I H1) (hD : H1 D = none) (hn : xs.length < sizeLine)
    (step : ∀ (i : Nat) (x : α) (I' H' : Hp) (Nx : Hp → Prop) (Qk : VK), xs[i]? = some x → R I' (gv vs i) x → Same I I' → Same I' H' → (∀ I'' H'', Gr [] I' H' I'' H'' → Qk (.bl (decide (p x))) H'') →
      g (gv vs i) (wipe σ vz) H' fun σ2 H2 => wipe σ2 vz = wipe σ vz ∧ tt σ2 H2 fun b H3 => if b = true then te σ2 H3 Qk else Nx H3)
    (hd : ∀ I' H' (bs : List Bool), Gr [] I H1 I' H' → SqL K H' D (bs.map V.bl) → bs.all id = decide (∀ x ∈ xs, p x) → bs.any id = decide (∃ x ∈ xs, p x) → Qd H') : LcR J g tt te vz σ H1 D Qd := by
  have hl := a2.len
  refine lc_wk [] iB (fun i b => ∃ x, xs[i]? = some x ∧ b = decide (p x)) (fun _ _ => True) W s0 hD (by simp) (by rw [hl]; exact hn) stb_true trivial (fun i I' H' Nx Qk hi s1 s2 _ kk => ?_) (fun I' H' ys zs g1 hD' b2 hz rl _ => ?_)
  · obtain ⟨x, hx⟩ : ∃ x, xs[i]? = some x := ⟨xs[i]'(by omega), List.getElem?_eq_getElem (by omega)⟩
    exact step i x I' H' Nx Qk hx (up s1 (gv2 a2 hx)) s1 s2 fun I'' H'' g2 => kk _ _ _ _ g2 trivial rfl ⟨x, hx, rfl⟩
  · have e := all_any (p := p) (by rw [hz, hl]) rl
    exact hd I' H' zs g1 (SqL.of (g1.ih _ _ (by rw [← bls_of b2]; exact hD'))) e.1 e.2
end
end Tk
namespace Tk
open PySem PySem.Spec PyProof.Rows L2
theorem All2.up {α : Type} {R : Rp α} [Mono R] {I I' : Hp} {vs : List V} {xs : List α} (h : All2 (R I) vs xs) (s : Same I I') : All2 (R I') vs xs := h.mono fun _ _ => Tk.up s
end Tk
namespace Tk
open PySem PySem.Spec PyProof.Rows L2
section
variable {β : Type} {K : PySem.W.Frag}
theorem range_of {n : Nat} {f : Nat → β} {zs : List β} (hl : zs.length = n) (r : ∀ (i : Nat) (z : β), zs[i]? = some z → z = f i) : zs = (List.range n).map f := by
  refine map_of (by rw [hl, List.length_range]) fun i z h => ⟨i, ?_, r i z h⟩
  have : i < zs.length := (List.getElem?_eq_some_iff.mp h).1
  rw [List.getElem?_range (by omega)]
/-- over a zip: new pairs -/
theorem lc_zip {l m : Bool} {a b : Addr} {vs us : List V} {n : Nat} {I H1 : Hp} {g : TG} {tt : TT} {te : TE} {vz : List Nat} {σ : L2.St} {D : Addr} {Qd : Hp → Prop} (Sy : Rp β) [Mono Sy] (f : Nat → β)
    (qa : ∀ H, Same I H → SqB K l H a vs) (qb : ∀ H, Same I H → SqB K m H b us) (la : vs.length = n) (lb : us.length = n) (s0 : Same I H1) (hD : H1 D = none) (hn : n < sizeLine)
    (step : ∀ (i : Nat) (t : Addr) (I' H' : Hp) (Nx : Hp → Prop) (Qk : VK), i < n → Same I I' → Same I' H' → H' t = some (.tup [gv vs i, gv us i]) → (∀ I'' H'' y, Gr [] I' H' I'' H'' → Sy I'' y (f i) → Qk y H'') →
      g (.ref t) (wipe σ vz) H' fun σ2 H2 => wipe σ2 vz = wipe σ vz ∧ tt σ2 H2 fun b H3 => if b = true then te σ2 H3 Qk else Nx H3)
    (hd : ∀ I' H', Gr [] I H1 I' H' → iL Sy I' (.ref D) ((List.range n).map f) → Qd H') : LcR (ItzM K l m a b) g tt te vz σ H1 D Qd := by
  refine ⟨fun i k H => k = n - i ∧ i ≤ n ∧ ∃ I' ys zs, Gr [] I H1 I' H ∧ I' D = none ∧ H D = some (.lst ys) ∧ All2 (Sy I') ys zs ∧ zs.length = i ∧ ∀ i z, zs[i]? = some z → z = f i,
    ⟨n, rfl, Nat.zero_le _, I, [], [], (Gr.tmp s0 hD), s0.free hD, upd_same, .nil, rfl, fun i z h => by simp at h⟩, ?_⟩
  rintro i k H ⟨rfl, hi, I', ys, zs, gr, hI, hH, a2, hl, rl⟩
  have s : Same I H := gr.ii.trans gr.ih
  by_cases hlt : i < n
  · refine .inr ⟨⟨vs, us, _, _, ⟨qa H s, gv_at (by omega)⟩, qb H s, gv_at (by omega)⟩, fun H' => i + 1 ≤ n ∧ ∃ I' ys zs, Gr [] I H1 I' H' ∧ I' D = none ∧ H' D = some (.lst ys) ∧ All2 (Sy I') ys zs ∧ zs.length = i + 1 ∧ ∀ i z, zs[i]? = some z → z = f i,
      fun H' p => ⟨n - (i + 1), by omega, rfl, p.1, p.2⟩, fun x H' y => ?_⟩
    obtain ⟨t, u, v, rfl, ht, rfl, y1, y2⟩ := y
    have e1 := gv_of (y1 vs (qa H s))
    have e2 := gv_of (y2 us (qb H s))
    subst e1 e2
    have g1 : Gr [] I' H I' (upd H t (.tup [gv vs i, gv us i])) := Gr.tmp gr.ih ht
    refine step i t I' _ _ _ hlt gr.ii g1.ih upd_same fun I'' H'' y g2 sy => ?_
    have g3 := g1.trans g2
    have hD2 : H'' D = some (.lst ys) := g3.at hH (by simp)
    have hI2 : I'' D = none := g3.out hI hH
    refine ⟨ys, hD2, by rw [a2.len, hl]; omega, hlt, I'', ys ++ [y], zs ++ [f i], ?_, hI2, upd_same, (a2.mono fun _ _ => up g2.ii).snoc sy, by rw [List.length_append, hl]; rfl, fun j w hw => ?_⟩
    · have g4 := gr.trans g3
      exact ((g4.mono (ns := [D]) fun _ z => nomatch z).trans (Gr.mut g4.ih hI2 List.mem_cons_self)).drop hD
    · by_cases hj : j < zs.length
      · rw [List.getElem?_append_left hj] at hw; exact rl j w hw
      · rw [List.getElem?_append_right (by omega)] at hw
        have h0 : j - zs.length = 0 := by
          rcases Nat.eq_zero_or_pos (j - zs.length) with h | h
          · exact h
          · rw [List.getElem?_eq_none (by simp; omega)] at hw; cases hw
        rw [h0] at hw
        simp at hw
        have : j = i := by omega
        rw [this]; exact hw.symm
  · have e : i = n := by omega
    subst e
    refine .inl ⟨⟨vs, us, qa H s, qb H s, by omega, by omega, .inl la.symm⟩, hd (upd I' D (.lst ys)) H (gr.mono (ns := [D]) (fun _ z => nomatch z) |>.frz s0 hD hH) ⟨D, ys, rfl, upd_same, ?_⟩⟩
    rw [← range_of hl rl]
    exact a2.mono fun _ _ => up (sNew hI)
/-- over numbers: what is told of each -/
theorem lc_range1 {lo : Int} {n : Nat} {I H1 : Hp} {g : TG} {tt : TT} {te : TE} {vz : List Nat} {σ : L2.St} {D : Addr} {Qd : Hp → Prop} (Sy : Rp β) [Mono Sy] (f : Nat → β) (s0 : Same I H1) (hD : H1 D = none) (hn : n < sizeLine)
    (step : ∀ (i : Nat) (I' H' : Hp) (Nx : Hp → Prop) (Qk : VK), i < n → Same I I' → Same I' H' → (∀ I'' H'' y, Gr [] I' H' I'' H'' → Sy I'' y (f i) → Qk y H'') →
      g (.int (lo + i)) (wipe σ vz) H' fun σ2 H2 => wipe σ2 vz = wipe σ vz ∧ tt σ2 H2 fun b H3 => if b = true then te σ2 H3 Qk else Nx H3)
    (hd : ∀ I' H', Gr [] I H1 I' H' → iL Sy I' (.ref D) ((List.range n).map f) → Qd H') : LcR (Itr lo n) g tt te vz σ H1 D Qd := by
  refine lc_wk [] Sy (fun i z => z = f i) (fun _ _ => True) (wk_range (I := I)) s0 hD (by simp) hn stb_true trivial (fun i I' H' Nx Qk hi s1 s2 _ kk => ?_) (fun I' H' ys zs g1 hD' b2 hz rl _ => ?_)
  · exact step i I' H' Nx Qk hi s1 s2 fun I'' H'' y g2 sy => kk _ _ _ _ g2 trivial sy rfl
  · exact hd I' H' g1 ⟨D, ys, rfl, hD', by rw [← range_of hz rl]; exact b2⟩
end
end Tk

set_option linter.all false
/-! Sums of fractions; chances of machines. -/
namespace Mt
/-- a natural number of N-ths, at most B in all -/
def Gd (N B : Nat) (q : Rat) : Prop := 0 < N ∧ ∃ a : Nat, a ≤ B * N ∧ q = rt a N
theorem rt_addN (a b : Int) {n : Int} (h : n ≠ 0) : rt a n + rt b n = rt (a + b) n := by
  unfold rt
  rw [Rat.divInt_add_divInt _ _ h h, ← Int.add_mul]
  exact Rat.divInt_mul_right h
theorem Gd.zero {N : Nat} (h : 0 < N) : Gd N 0 0 := ⟨h, 0, by omega, by simp [rt]⟩
theorem Gd.add {N B C : Nat} {p q : Rat} (h : Gd N B p) (k : Gd N C q) : Gd N (B + C) (p + q) := by
  obtain ⟨n, a, ha, rfl⟩ := h
  obtain ⟨_, b, hb, rfl⟩ := k
  exact ⟨n, a + b, by rw [Nat.add_mul]; omega, by rw [rt_addN _ _ (by omega)]; rfl⟩
theorem Gd.mul {N M B C : Nat} {p q : Rat} (h : Gd N B p) (k : Gd M C q) : Gd (N * M) (B * C) (p * q) := by
  obtain ⟨n, a, ha, rfl⟩ := h
  obtain ⟨m, b, hb, rfl⟩ := k
  refine ⟨Nat.mul_pos n m, a * b, ?_, ?_⟩
  · have := Nat.mul_le_mul ha hb
    calc a * b ≤ B * N * (C * M) := this
      _ = B * C * (N * M) := by grind
  · unfold rt; rw [Rat.divInt_mul_divInt]; simp
theorem Gd.mono {N B C : Nat} {q : Rat} (h : Gd N B q) (l : B ≤ C) : Gd N C q := by
  obtain ⟨n, a, ha, rfl⟩ := h
  exact ⟨n, a, Nat.le_trans ha (Nat.mul_le_mul_right _ l), rfl⟩
theorem Gd.scale {N B : Nat} {q : Rat} (h : Gd N B q) {M : Nat} (m : 0 < M) : Gd (N * M) B q := by
  obtain ⟨n, a, ha, rfl⟩ := h
  refine ⟨Nat.mul_pos n m, a * M, ?_, ?_⟩
  · rw [← Nat.mul_assoc]; exact Nat.mul_le_mul_right _ ha
  · unfold rt
    have := Rat.divInt_mul_right (n := (a : Int)) (d := (N : Int)) (a := (M : Int)) (by omega)
    rw [← this]; simp
theorem Gd.nonneg {N B : Nat} {q : Rat} (h : Gd N B q) : 0 ≤ q.num := by
  obtain ⟨n, a, ha, rfl⟩ := h
  rw [rt_num (by omega)]
  exact Int.ediv_nonneg (by omega) (by have := gz_pos (n := (a : Int)) (d := (N : Int)) (by omega); omega)
theorem Gd.size {N B : Nat} {q : Rat} (h : Gd N B q) : q.num.natAbs ≤ B * N ∧ q.den ≤ N := by
  obtain ⟨n, a, ha, rfl⟩ := h
  have g := gz_pos (n := (a : Int)) (d := (N : Int)) (by omega)
  have e1 := rt_num (n := (a : Int)) (d := (N : Int)) (by omega)
  have e2 := rt_den (n := (a : Int)) (d := (N : Int)) (by omega)
  have l1 : (a : Int) / gz a N ≤ a := Int.ediv_le_self _ (by omega)
  have l2 : (N : Int) / gz a N ≤ N := Int.ediv_le_self _ (by omega)
  have l3 : 0 ≤ (a : Int) / gz a N := Int.ediv_nonneg (by omega) (by omega)
  rw [← e1] at l1 l3
  rw [← e2] at l2
  omega
/-- a sum of n -/
def S : Nat → (Nat → Rat) → Rat
  | 0, _ => 0
  | n + 1, f => S n f + f n
theorem S_congr {n : Nat} {f g : Nat → Rat} (h : ∀ i, i < n → f i = g i) : S n f = S n g := by
  induction n with
  | zero => rfl
  | succ n ih => simp only [S]; rw [ih fun i hi => h i (by omega), h n (by omega)]
theorem S_add (n : Nat) (f g : Nat → Rat) : S n (fun i => f i + g i) = S n f + S n g := by
  induction n with
  | zero => simp only [S]; grind
  | succ n ih => simp only [S]; rw [ih]; grind
theorem S_mul (n : Nat) (c : Rat) (f : Nat → Rat) : S n (fun i => c * f i) = c * S n f := by
  induction n with
  | zero => simp only [S]; grind
  | succ n ih => simp only [S]; rw [ih]; grind
theorem S_mulr (n : Nat) (c : Rat) (f : Nat → Rat) : S n (fun i => f i * c) = S n f * c := by
  induction n with
  | zero => simp only [S]; grind
  | succ n ih => simp only [S]; rw [ih]; grind
theorem S_zero (n : Nat) : S n (fun _ => 0) = 0 := by
  induction n with
  | zero => rfl
  | succ n ih => simp only [S]; rw [ih]; grind
theorem S_comm (m n : Nat) (f : Nat → Nat → Rat) : S m (fun i => S n (fun j => f i j)) = S n (fun j => S m (fun i => f i j)) := by
  induction m with
  | zero => simp only [S]; rw [S_zero]
  | succ m ih => simp only [S]; rw [ih, ← S_add]
theorem S_app (m n : Nat) (f : Nat → Rat) : S (m + n) f = S m f + S n (fun i => f (m + i)) := by
  induction n with
  | zero => simp only [S, Nat.add_zero]; grind
  | succ n ih => rw [← Nat.add_assoc]; simp only [S]; rw [ih]; grind
theorem S_blocks (m n : Nat) (f : Nat → Rat) : S (m * n) f = S m (fun a => S n (fun k => f (a * n + k))) := by
  induction m with
  | zero => simp [S]
  | succ m ih => rw [Nat.succ_mul, S_app, ih]; rfl
theorem S_gd {N B n : Nat} {f : Nat → Rat} (hN : 0 < N) (h : ∀ i, i < n → Gd N B (f i)) : Gd N (n * B) (S n f) := by
  induction n with
  | zero => simp only [S, Nat.zero_mul]; exact Gd.zero hN
  | succ n ih => simp only [S]; rw [Nat.succ_mul]; exact (ih fun i hi => h i (by omega)).add (h n (by omega))
abbrev gq (l : List Rat) (i : Nat) : Rat := l.getD i 0
/-- the sum of a list -/
def tot (l : List Rat) : Rat := S l.length (gq l)
theorem gq_lt {l : List Rat} {i : Nat} (h : i < l.length) : l[i]? = some (gq l i) := by
  unfold gq; rw [List.getD_eq_getElem?_getD, List.getElem?_eq_getElem h]; rfl
theorem gq_of {l : List Rat} {i : Nat} {q : Rat} (h : l[i]? = some q) : gq l i = q := by
  unfold gq; rw [List.getD_eq_getElem?_getD, h]; rfl
theorem tot_app (a b : List Rat) : tot (a ++ b) = tot a + tot b := by
  unfold tot
  rw [List.length_append, S_app]
  congr 1
  · refine S_congr fun i hi => ?_
    unfold gq; rw [List.getD_eq_getElem?_getD, List.getD_eq_getElem?_getD, List.getElem?_append_left hi]
  · refine S_congr fun i hi => ?_
    unfold gq; rw [List.getD_eq_getElem?_getD, List.getD_eq_getElem?_getD, List.getElem?_append_right (by omega)]
    congr 2; omega
theorem tot_gd {N B : Nat} {l : List Rat} (hN : 0 < N) (h : ∀ q ∈ l, Gd N B q) : Gd N (l.length * B) (tot l) :=
  S_gd hN fun i hi => h _ (List.mem_of_getElem? (gq_lt hi))
end Mt

set_option linter.all false
/-! Machines of fractions, the chances of their ways. -/
namespace Mt
abbrev Rows := List (List Rat)
abbrev Ma := List Rat × List (List Rows)
abbrev gl {α : Type} (l : List (List α)) (i : Nat) : List α := l.getD i []
theorem gl_lt {α : Type} {l : List (List α)} {i : Nat} (h : i < l.length) : l[i]? = some (gl l i) := by
  unfold gl; rw [List.getD_eq_getElem?_getD, List.getElem?_eq_getElem h]; rfl
theorem gl_of {α : Type} {l : List (List α)} {i : Nat} {q : List α} (h : l[i]? = some q) : gl l i = q := by
  unfold gl; rw [List.getD_eq_getElem?_getD, h]; rfl
def wt (M : Ma) (b a s k : Nat) : Rat := gq (gl (gl (gl M.2 b) a) s) k
def nzl (l : List Rat) : Nat := l.countP (fun q => decide (q ≠ 0))
structure MOk (M : Ma) (n bs as : Nat) : Prop where
  n0 : 0 < n
  n1 : n ≤ 12
  b0 : 0 < bs
  b1 : bs ≤ 4
  a0 : 0 < as
  a1 : as ≤ 4
  l0 : M.1.length = n
  l1 : M.2.length = bs
  l2 : ∀ b, b < bs → (gl M.2 b).length = as
  l3 : ∀ b a, b < bs → a < as → (gl (gl M.2 b) a).length = n
  l4 : ∀ b a s, b < bs → a < as → s < n → (gl (gl (gl M.2 b) a) s).length = n
  g0 : ∀ s, s < n → Gd 2160 1 (gq M.1 s)
  g1 : ∀ b a s k, b < bs → a < as → s < n → k < n → Gd 2160 1 (wt M b a s k)
  s0 : tot M.1 = 1
  s1 : ∀ b s, b < bs → s < n → S as (fun a => S n (wt M b a s)) = 1
/-- behind so many splits -/
structure MPk (kk : Nat) (M : Ma) (n bs as : Nat) : Prop where
  n0 : 0 < n
  n1 : n ≤ 12
  b0 : 0 < bs
  b1 : bs ≤ 4
  a0 : 0 < as
  a1 : as ≤ 4
  l0 : M.1.length = n
  l1 : M.2.length = bs
  l2 : ∀ b, b < bs → (gl M.2 b).length = as
  l3 : ∀ b a, b < bs → a < as → (gl (gl M.2 b) a).length = n
  l4 : ∀ b a s, b < bs → a < as → s < n → (gl (gl (gl M.2 b) a) s).length = n
  g0 : ∀ s, s < n → Gd (60 * 6 ^ kk) 1 (gq M.1 s)
  g1 : ∀ b a s k, b < bs → a < as → s < n → k < n → Gd (60 * 6 ^ kk) 1 (wt M b a s k)
  s0 : tot M.1 = 1
  s1 : ∀ b s, b < bs → s < n → S as (fun a => S n (wt M b a s)) = 1
theorem tot_one (q : Rat) : tot [q] = q := by
  show (0 : Rat) + gq [q] 0 = q
  show (0 : Rat) + q = q
  grind
theorem tot_snoc (l : List Rat) (q : Rat) : tot (l ++ [q]) = tot l + q := by rw [tot_app, tot_one]
theorem nz_take {l : List Rat} {i : Nat} (h : i < l.length) : nzl (l.take (i + 1)) = nzl (l.take i) + (if gq l i = 0 then 0 else 1) := by
  unfold nzl
  rw [List.take_succ_eq_append_getElem h, List.countP_append]
  have e : gq l i = l[i] := gq_of (List.getElem?_eq_getElem h)
  rw [e]
  by_cases hz : l[i] = 0 <;> simp [hz]
/-- what _law_cells makes -/
structure Cells (c : Nat) (l : List Rat) : Prop where
  len : l.length = c
  gd : ∀ q ∈ l, Gd 60 1 q
  tot : tot l = 1
  nz : nzl l ≤ 3
theorem tot_cons (q : Rat) (l : List Rat) : Mt.tot (q :: l) = q + Mt.tot l := by
  rw [show q :: l = [q] ++ l from rfl, tot_app, tot_one]
theorem tot_rt {W : Nat} (hW : 0 < W) : ∀ ws : List Nat, Mt.tot (ws.map fun w : Nat => rt w W) = rt (ws.sum : Nat) W
  | [] => by simp [Mt.tot, S, rt]
  | w :: r => by
    rw [List.map_cons, tot_cons, tot_rt hW r, rt_addN _ _ (by omega), List.sum_cons]
    congr 1
theorem rt_zero_iff {w W : Nat} (hW : 0 < W) : rt w W = 0 ↔ w = 0 := by
  constructor
  · intro h
    have e := rt_num (n := (w : Int)) (d := (W : Int)) (by omega)
    rw [h] at e
    have g := gz_pos (n := (w : Int)) (d := (W : Int)) (by omega)
    have hd : gz (w : Int) (W : Int) ∣ (w : Int) := by unfold gz; exact Int.ofNat_dvd_left.mpr (Nat.gcd_dvd_left _ _)
    obtain ⟨m, hm⟩ := hd
    have e2 := Int.ediv_mul_cancel (a := (w : Int)) (b := gz w W) ⟨m, hm⟩
    rw [← e] at e2
    have e3 : (0 : Rat).num = 0 := rfl
    rw [e3] at e2; omega
  · rintro rfl; simp [rt]
theorem rt_same {n : Int} (h : 0 < n) : rt n n = 1 := by
  have e1 := rt_num (n := n) h
  have e2 := rt_den (n := n) h
  have g : gz n n = n := by unfold gz; rw [Nat.gcd_self]; omega
  rw [g, Int.ediv_self (by omega)] at e1 e2
  exact Rat.ext e1 (by have : (1 : Rat).den = 1 := rfl; omega)
theorem gd_part {w W : Nat} (h0 : 0 < W) (h1 : W ≤ 6) (h2 : w ≤ W) : Gd 60 1 (rt w W) := by
  have hd : W ∣ 60 := by
    have : W = 1 ∨ W = 2 ∨ W = 3 ∨ W = 4 ∨ W = 5 ∨ W = 6 := by omega
    rcases this with rfl | rfl | rfl | rfl | rfl | rfl <;> decide
  obtain ⟨m, hm⟩ := hd
  have g : Gd W 1 (rt w W) := ⟨h0, w, by omega, rfl⟩
  have m0 : 0 < m := by rcases Nat.eq_zero_or_pos m with h | h; · rw [h] at hm; simp at hm
                        · exact h
  have := g.scale m0
  rw [← hm] at this
  exact this
theorem le_sum_of_mem : ∀ {l : List Nat} {w : Nat}, w ∈ l → w ≤ l.sum
  | a :: r, w, h => by
    rw [List.sum_cons]
    rcases List.mem_cons.mp h with rfl | h
    · omega
    · have := le_sum_of_mem h; omega
theorem cells_of {ws : List Nat} {c k : Nat} (hl : ws.length = c) (h0 : 0 < ws.sum) (h1 : ws.sum ≤ 6) (hz : ws.countP (fun w => decide (w ≠ 0)) ≤ k) (hk : k ≤ 3) : Cells c (ws.map fun w : Nat => rt w (ws.sum : Nat)) := by
  refine ⟨by rw [List.length_map]; exact hl, fun q hq => ?_, ?_, ?_⟩
  · obtain ⟨w, hw, rfl⟩ := List.mem_map.mp hq
    exact gd_part h0 h1 (le_sum_of_mem hw)
  · rw [tot_rt h0]
    exact rt_same (by omega)
  · unfold nzl
    rw [List.countP_map]
    refine Nat.le_trans (Nat.le_of_eq ?_) (Nat.le_trans hz hk)
    refine List.countP_congr fun w _ => ?_
    simp only [Function.comp, decide_eq_true_eq]
    exact not_congr (rt_zero_iff h0)
theorem sum_set : ∀ {l : List Nat} {i v : Nat} (h : i < l.length), (l.set i v).sum + l[i] = l.sum + v
  | a :: r, 0, v, h => by simp; omega
  | a :: r, i + 1, v, h => by
    have := sum_set (l := r) (i := i) (v := v) (by simpa using h)
    simp only [List.set_cons_succ, List.sum_cons, List.getElem_cons_succ]
    omega
theorem nz_set {l : List Nat} {i v : Nat} (h : i < l.length) : (l.set i v).countP (fun w => decide (w ≠ 0)) ≤ l.countP (fun w => decide (w ≠ 0)) + 1 := by
  rw [List.countP_set h]
  split <;> split <;> omega
/-- rows cut into answers -/
theorem cut_gq {l : List Rat} {n a k : Nat} (h : k < n) : gq ((l.drop (a * n)).take n) k = gq l (a * n + k) := by
  unfold gq
  rw [List.getD_eq_getElem?_getD, List.getD_eq_getElem?_getD, List.getElem?_take_of_lt h, List.getElem?_drop]
theorem cut_sum {l : List Rat} {n as : Nat} (h : l.length = as * n) : S as (fun a => S n (gq ((l.drop (a * n)).take n))) = tot l := by
  unfold tot
  rw [h, S_blocks]
  exact S_congr fun a _ => S_congr fun k hk => cut_gq hk
theorem cut_nz (l : List Rat) (a n : Nat) : nzl ((l.drop a).take n) ≤ nzl l := ((List.take_sublist _ _).trans (List.drop_sublist _ _)).countP_le
end Mt

set_option Elab.async false
set_option linter.all false
set_option maxRecDepth 100000
set_option maxHeartbeats 4000000
set_option exponentiation.threshold 5000
namespace K
open PySem PySem.Spec PyProof.Rows L2 Tk Hd Mt
/-! ### sums of fractions -/
def Fits (qs : List Rat) : Prop := (∀ q ∈ qs, Fit q) ∧ ∀ i, i ≤ qs.length → Fit (S i (gq qs))
theorem fit_gd {N B : Nat} {q : Rat} (h : Gd N B q) (hb : B ≤ 2 ^ 400) (hn : N ≤ 2 ^ 400) : Fit q := by
  obtain ⟨h1, h2⟩ := h.size
  have h3 : B * N ≤ 2 ^ 400 * 2 ^ 400 := Nat.mul_le_mul hb hn
  have h4 : (2 : Nat) ^ 400 * 2 ^ 400 < 2 ^ 900 := by decide
  have h5 : (2 : Nat) ^ 400 < 2 ^ 900 := by decide
  exact ⟨by omega, by omega⟩
theorem fits_gd {N B : Nat} {qs : List Rat} (hN : 0 < N) (h : ∀ q ∈ qs, Gd N B q) (hb : qs.length * B ≤ 2 ^ 400) (hn : N ≤ 2 ^ 400) : Fits qs := by
  refine ⟨fun q hq => fit_gd (h q hq) ?_ hn, fun i hi => fit_gd (S_gd hN fun j hj => h _ (List.mem_of_getElem? (gq_lt (by omega)))) ?_ hn⟩
  · cases qs with
    | nil => cases hq
    | cons a r => rw [List.length_cons, Nat.succ_mul] at hb; omega
  · exact Nat.le_trans (Nat.mul_le_mul_right _ hi) hb
section
variable {P : Program} {w : World} {K : PySem.W.Frag} {mg : Str → Option Value} {base : Heap}
def spTotal (C : Addr) : Sp := fun vs H Q _ => ∃ (I : Hp) (a : V) (qs : List Rat), vs = [a] ∧ Same I H ∧ iA (iR C) I a qs ∧ Fits qs ∧ Ret [] I H (iR C) (tot qs) Q
theorem sc_total : FnScope ["ratios", "found", "ratio"] ["ratios"] (defScope s_total) := ⟨rfl, rfl, rfl, by decide +kernel, rfl, by decide +kernel, by decide +kernel⟩
theorem ok_total (D : Dt K mg) : Has P w K mg base 4 (He.ga K "total") ["ratios"] [] (spTotal (CR K)) := by
  obtain ⟨fd, F⟩ := fd_total D
  have H_Ratio_init := has_init1 (P := P) (w := w) (base := base) D
  have H_Ratio_add := ok_add (P := P) (w := w) (base := base) D
  refine hasN F (F.bindsN fun _ _ _ _ _ _ us hl => match us, hl with | [_], _ => rfl) sc_total (fun vs H Q E h => ?_) (fun cdv A outer s H vs Q E hr h => ?_)
  · obtain ⟨I, a, qs, rfl, _⟩ := h; rfl
  · obtain ⟨I, va, qs, rfl, s0, ⟨a, vs, rfl, ha, a2⟩, ft, k⟩ := h
    refine ⟨_, (pss_cons (ps_set (i := 1) sc_total.nd rfl (Or.inl rfl) (pe_makeH (mkr_Ratio (K := K) D) H_Ratio_init (hr.mono (by decide)) rfl (glo_Ratio D) passL (pa_cons pe_int pa_nil)))
      (pss_cons (ps_for PassesOwn.never rfl (pi_ltK K (pv 0)) (pg_name (i := 2) sc_total.nd rfl (Or.inl rfl))
      (pss_one (ps_set (i := 1) sc_total.nd rfl (Or.inl rfl) (pe_op (op_ownH H_Ratio_add (hr.mono (by decide)) passL (self_Ratio (K := K) D) (me_Ratio_add (K := K) D)) (pv 1) (pv 2)))))
      (pss_one (ps_ret (pv 1))))), ?_⟩
    (try dsimp only)
    refine seq_cut (fun σ' H1 => ∃ (I1 : Hp) (fv : V), σ' = [some (.ref a), some fv, none] ∧ Gr [] I H I1 H1 ∧ iR (CR K) I1 fv (S 0 (gq qs))) (fun nx q => ?_) ?_
    · refine fun x dx nx nd ne => ⟨x, dx, _, _, rfl, upd_same, sm_of (by decide) (by decide), fun _ => ⟨rfl, ?_⟩, fun h => absurd h (by decide)⟩
      obtain ⟨g1, r1⟩ := rat_new (ms := []) (C := CR K) (q := rt 0 1) s0 nx nd ne
      exact q _ _ ⟨_, _, rfl, g1, by
        have : rt 0 1 = S 0 (gq qs) := by simp [rt, S]
        rw [← this]; exact r1⟩
    rintro σ' H1 ⟨I1, fv0, rfl, g1, r1⟩
    (try dsimp only)
    have hl := a2.len
    refine ⟨_, rfl, lt_of (ha.imp (g1.ii _ _) (g1.ii _ _)) g1.ih fun J W => for_wk W
      (fun σ' H' => ∃ (I' : Hp) (fv : V) (v : Option V), σ' = [some (.ref a), some fv, v] ∧ Gr [] I H I' H' ∧ iR (CR K) I' fv (tot qs))
      (fun i σ' H' => ∃ (I' : Hp) (fv : V) (v : Option V), σ' = [some (.ref a), some fv, v] ∧ Gr [] I H I' H' ∧ Same I1 I' ∧ iR (CR K) I' fv (S i (gq qs)))
      (fun i σ' H' h => by obtain ⟨I', fv, v, _, gr, s, _⟩ := h; exact s.trans gr.ih)
      ⟨I1, fv0, none, rfl, g1, Same.refl _, r1⟩ (fun nx q i σ' H' hi h => ?_) (fun σ' H' h => ?_) ?_⟩
    · obtain ⟨I', fv, v, rfl, gr, s1, rf⟩ := h
      have hq := gq_lt (l := qs) (i := i) (by omega)
      have rq := up (g1.ii.trans s1) (gv2 a2 hq)
      obtain ⟨b, dy, eb, hb⟩ := id rq
      obtain ⟨c, dz, rfl, hc⟩ := id rf
      rw [eb] at rq ⊢
      refine ⟨_, rfl, _, rfl, c, b, dz, dy, _, _, rfl, rfl, gr.ih _ _ hc, gr.ih _ _ hb, I', _, _, _, _, rfl, gr.ih, rf, rq, ft.2 i (by omega), ft.1 _ (List.mem_of_getElem? hq), fun I2 H2 v2 g2 r2 => ?_⟩
      exact ⟨I2, v2, _, rfl, gr.trans g2, s1.trans g2.ii, r2⟩
    · obtain ⟨I', fv, v, rfl, gr, s1, rf⟩ := h
      rw [hl] at rf
      exact ⟨I', fv, v, rfl, gr, rf⟩
    · rintro σ' H' ⟨I', fv, v, rfl, gr, rf⟩
      exact ⟨_, rfl, k _ _ _ gr rf⟩
/-! lots -/
def lots (qs : List Rat) : Bool := decide (∀ q ∈ qs, 0 ≤ q.num) && decide (tot qs = 1)
theorem all_of {α : Type} {bs : List Bool} {xs : List α} {p : α → Prop} [DecidablePred p] (h : bs.length = xs.length) (r : ∀ (i : Nat) (b : Bool), bs[i]? = some b → ∃ x, xs[i]? = some x ∧ b = decide (p x)) : bs.all id = decide (∀ x ∈ xs, p x) := by
  rw [Bool.eq_iff_iff, List.all_eq_true, decide_eq_true_iff]
  constructor
  · intro k x hx
    obtain ⟨i, hi, e⟩ := List.getElem_of_mem hx
    have hb : bs[i]? = some bs[i] := List.getElem?_eq_getElem (by omega)
    obtain ⟨y, h1, h2⟩ := r i _ hb
    have := k _ (List.mem_of_getElem? hb)
    rw [List.getElem?_eq_getElem hi] at h1
    have e2 := Option.some.inj h1
    rw [h2] at this
    rw [← e, e2]; simpa using this
  · intro k b hb
    obtain ⟨i, hi, e⟩ := List.getElem_of_mem hb
    obtain ⟨y, h1, h2⟩ := r i b (by rw [List.getElem?_eq_getElem hi, e])
    rw [h2]; simpa using k y (List.mem_of_getElem? h1)
def spLots (C : Addr) : Sp := fun vs H Q _ => ∃ (I : Hp) (a : V) (qs : List Rat), vs = [a] ∧ Same I H ∧ iA (iR C) I a qs ∧ Fits qs ∧ qs.length ≤ 100000 ∧ ∀ I' H', Gr [] I H I' H' → Q (.bl (lots qs)) H'
theorem sc_are_lots : FnScope ["ratios", "ratio"] ["ratios"] (defScope s_are_lots) := ⟨rfl, rfl, rfl, by decide +kernel, rfl, by decide +kernel, by decide +kernel⟩
theorem ok_lots (D : Dt K mg) : Has P w K mg base 5 (He.ga K "are_lots") ["ratios"] [] (spLots (CR K)) := by
  obtain ⟨fd, F⟩ := fd_are_lots D
  have H_Ratio_init := has_init1 (P := P) (w := w) (base := base) D
  have H_Ratio_eq := ok_eq (P := P) (w := w) (base := base) D
  have H_total := ok_total (P := P) (w := w) (base := base) D
  refine hasN F (F.bindsN fun _ _ _ _ _ _ us hl => match us, hl with | [_], _ => rfl) sc_are_lots (fun vs H Q E h => ?_) (fun cdv A outer s H vs Q E hr h => ?_)
  · obtain ⟨I, a, qs, rfl, _⟩ := h; rfl
  · obtain ⟨I, va, qs, rfl, s0, ra, ft, hz, k⟩ := h
    obtain ⟨a, vs, rfl, ha, a2⟩ := id ra
    refine ⟨_, (pss_one (ps_ret (pe_and (pe_callB (cr_allK K rfl) rfl (free_all D) (by decide +kernel) (pa_cons (pe_lc (own := [("ratio", 1)]) (g := gName 1) rfl sc_are_lots.nd (pi_ltK K (pv 0)) (blkOk_by (own := [("ratio", 1)]) (N := ["ratios", "ratio"]) (by kernel_rfl)) (fun _ _ _ _ _ => (pg_name (i := 1) sc_are_lots.nd rfl (Or.inl rfl))) (fun _ _ _ _ _ => pts_nil) (fun _ _ _ _ _ => (pe_cmpR op_ge (pe_fldK K (pv 1) rfl) pe_int (nomark _)))) pa_nil))
      (pe_one (pe_cmpR (op_eqOwnH H_Ratio_eq (hr.mono (by decide)) passL (me_Ratio_eq (K := K) D)) (pe_callH H_total (hr.mono (by decide)) rfl (glo_total D) passL (pa_cons (pv 0) pa_nil)) (pe_makeH (mkr_Ratio (K := K) D) H_Ratio_init (hr.mono (by decide)) rfl (glo_Ratio D) passL (pa_cons pe_int pa_nil)) (nomark _)))))), ?_⟩
    have hl := a2.len
    refine ⟨_, rfl, lt_of ha s0 fun J W l hD => lc_wk [] iB (fun i b => ∃ q, qs[i]? = some q ∧ b = decide (0 ≤ q.num)) (fun _ _ => True) W s0 hD (by simp) (Nat.lt_of_le_of_lt (by omega : vs.length ≤ 100000) (by decide)) stb_true trivial (fun i I' H' Nx Qk hi s1 s2 _ kk => ?_) (fun I' H' ys zs g1 hD' b2 hn rl _ => ?_)⟩
    · have hq := gq_lt (l := qs) (i := i) (by omega)
      obtain ⟨b, dy, eb, hb⟩ := id (up (s1.trans s2) (gv2 a2 hq))
      rw [eb]
      refine ⟨rfl, ?_⟩
      refine ⟨_, rfl, _, _, _, _, _, rfl, hb, cls_Ratio D, na_Ratio_num D, rf_num (gq qs i), _, _, rfl, rfl, ?_⟩
      exact kk _ _ _ _ (Gr.refl s2) trivial rfl ⟨_, hq, rfl⟩
    · have e := all_of (p := fun q : Rat => 0 ≤ q.num) (xs := qs) (by rw [hn, hl]) rl
      refine ⟨_, zs, rfl, SqL.of (g1.ih _ _ (by rw [← bls_of b2]; exact hD')), _, rfl, ?_⟩
      rw [e]
      refine ifB (fun c => ?_) (fun c => ?_)
      · refine ⟨_, rfl, I', _, qs, rfl, g1.ih, up g1.ii ra, ft, fun I2 H2 tv g2 rt2 => ?_⟩
        refine fun x dx nx nd ne => ⟨x, dx, _, _, rfl, upd_same, sm_of (by decide) (by decide), fun _ => ⟨rfl, ?_⟩, fun h => absurd h (by decide)⟩
        obtain ⟨g3, r3⟩ := rat_new (ms := []) (C := CR K) (q := rt 1 1) g2.ih nx nd ne
        have g4 := (g1.trans g2).trans g3
        obtain ⟨t, dt, rfl, ht⟩ := id (up g3.ii rt2)
        refine ⟨t, _, dt, _, _, _, rfl, rfl, g3.ih _ _ ht, upd_same, _, _, _, _, _, rfl, g3.ih, up g3.ii rt2, r3, ?_⟩
        have z := k _ _ g4
        unfold lots at z
        rw [c, Bool.true_and] at z
        rw [show rt 1 1 = 1 from rt_same (by decide)]
        exact z
      · have z := k _ _ g1
        unfold lots at z
        rw [c, Bool.false_and] at z
        exact z
end
end K

set_option Elab.async false
set_option linter.all false
set_option maxRecDepth 100000
set_option maxHeartbeats 4000000
set_option exponentiation.threshold 5000
namespace K
open PySem PySem.Spec PyProof.Rows L2 Tk Hd Mt
section
variable {P : Program} {w : World} {K : PySem.W.Frag} {mg : Str → Option Value} {base : Heap}
/-! ### machines: rows kept as tuples -/
theorem lt_line {n : Nat} (h : n ≤ 100000) : n < sizeLine := Nat.lt_of_le_of_lt h (by decide)
def spTable (C : Addr) : Sp := fun vs H Q _ => ∃ (I : Hp) (a : V) (rows : Rows), vs = [a] ∧ Same I H ∧ iA (iA (iR C)) I a rows ∧ rows.length ≤ 100000 ∧ Ret [] I H (iT (iT (iR C))) rows Q
theorem sc_table : FnScope ["rows", "row"] ["rows"] (defScope s__table) := ⟨rfl, rfl, rfl, by decide +kernel, rfl, by decide +kernel, by decide +kernel⟩
theorem ok_table (D : Dt K mg) : Has P w K mg base 1 (He.ga K "_table") ["rows"] [] (spTable (CR K)) := by
  obtain ⟨fd, F⟩ := fd__table D
  refine hasN F (F.bindsN fun _ _ _ _ _ _ us hl => match us, hl with | [_], _ => rfl) sc_table (fun vs H Q E h => ?_) (fun cdv A outer s H vs Q E hr h => ?_)
  · obtain ⟨I, a, qs, rfl, _⟩ := h; rfl
  · obtain ⟨I, va, rows, rfl, s0, ra, hz, k⟩ := h
    obtain ⟨a, vs, rfl, ha, a2⟩ := id ra
    refine ⟨_, (pss_one (ps_ret (pe_callTy (call_tuple_ofK K) rfl (free_tuple D) (by decide +kernel) (pa_cons (pe_lc (own := [("row", 1)]) (g := gName 1) rfl sc_table.nd (pi_ltK K (pv 0)) (blkOk_by (own := [("row", 1)]) (N := ["rows", "row"]) (by kernel_rfl)) (fun _ _ _ _ _ => (pg_name (i := 1) sc_table.nd rfl (Or.inl rfl))) (fun _ _ _ _ _ => pts_nil) (fun _ _ _ _ _ => (pe_callTy (call_tuple_ofK K) rfl (free_tuple D) (by decide +kernel) (pa_cons (pv 1) pa_nil)))) pa_nil)))), ?_⟩
    refine ⟨_, rfl, lt_of ha s0 fun J W l hD => lc_id (R := iA (iR (CR K))) (Sy := iT (iR (CR K))) W a2 s0 hD (lt_line hz) (fun i x I' H' Nx Qk hx rx sx kk => ?_) (fun I' H' g1 r1 => ?_)⟩
    · exact ⟨rfl, _, rfl, tup_of rx sx kk⟩
    · exact tup_of (iA.l r1) g1.ih fun I2 H2 v2 g2 r2 => k _ _ _ (g1.trans g2) r2
def spOut : Sp := fun vs H Q _ => ∃ (m n : Int), vs = [.int m, .int n] ∧ Q (.bl (decide (m < 1) || decide (m > n))) H
theorem sc_out_of : FnScope ["many", "most"] ["many", "most"] (defScope s__out_of) := ⟨rfl, rfl, rfl, by decide +kernel, rfl, by decide +kernel, by decide +kernel⟩
theorem ok_out (D : Dt K mg) : Has P w K mg base 1 (He.ga K "_out_of") ["many", "most"] [] spOut := by
  obtain ⟨fd, F⟩ := fd__out_of D
  refine hasN F (F.bindsN fun _ _ _ _ _ _ us hl => match us, hl with | [_, _], _ => rfl) sc_out_of (fun vs H Q E h => ?_) (fun cdv A outer s H vs Q E hr h => ?_)
  · obtain ⟨m, n, rfl, _⟩ := h; rfl
  · obtain ⟨m, n, rfl, k⟩ := h
    refine ⟨_, (pss_one (ps_ret (pe_or (pe_cmpR op_lt (pv 0) pe_int (nomark _)) (pe_one (pe_cmpR op_gt (pv 0) (pv 1) (nomark _)))))), ?_⟩
    refine ⟨_, rfl, _, _, rfl, rfl, _, rfl, ifB (fun c => ?_) (fun c => ?_)⟩
    · rw [c, Bool.true_or] at k; exact k
    · rw [c, Bool.false_or] at k; exact ⟨_, rfl, _, rfl, _, _, rfl, rfl, k⟩
def square (rows : Rows) (n : Nat) : Bool := decide (rows.length = n) && decide (∀ r ∈ rows, r.length = n)
def spSquare (C : Addr) : Sp := fun vs H Q _ => ∃ (I : Hp) (a : V) (rows : Rows) (n : Nat), vs = [a, .int n] ∧ Same I H ∧ iT (iT (iR C)) I a rows ∧ rows.length ≤ 100000 ∧ ∀ I' H', Gr [] I H I' H' → Q (.bl (square rows n)) H'
theorem sc_is_square : FnScope ["rows", "states", "row"] ["rows", "states"] (defScope s__is_square) := ⟨rfl, rfl, rfl, by decide +kernel, rfl, by decide +kernel, by decide +kernel⟩
theorem dec_cast (a b : Nat) : decide ((a : Int) = b) = decide (a = b) := decide_eq_decide.mpr (by omega)
theorem dec_vi (a b : Nat) : decide (V.int (a : Int) = V.int b) = decide (a = b) := decide_eq_decide.mpr ⟨fun h => by injection h with h; omega, fun h => by rw [h]⟩
theorem ok_square (D : Dt K mg) : Has P w K mg base 1 (He.ga K "_is_square") ["rows", "states"] [] (spSquare (CR K)) := by
  obtain ⟨fd, F⟩ := fd__is_square D
  refine hasN F (F.bindsN fun _ _ _ _ _ _ us hl => match us, hl with | [_, _], _ => rfl) sc_is_square (fun vs H Q E h => ?_) (fun cdv A outer s H vs Q E hr h => ?_)
  · obtain ⟨I, a, rows, n, rfl, _⟩ := h; rfl
  · obtain ⟨I, va, rows, n, rfl, s0, ra, hz, k⟩ := h
    obtain ⟨a, vs, rfl, ha, a2⟩ := id ra
    have hl := a2.len
    refine ⟨_, (pss_one (ps_ret (pe_and (pe_cmpR op_eq (pe_callB (call_lenK K) rfl (free_len D) PySem.boot_len (pa_cons (pv 0) pa_nil)) (pv 1) (nomark _)) (pe_one (pe_callB (cr_allK K rfl) rfl (free_all D) (by decide +kernel) (pa_cons (pe_lc (own := [("row", 2)]) (g := gName 2) rfl sc_is_square.nd (pi_tupK K (pv 0)) (blkOk_by (own := [("row", 2)]) (N := ["rows", "states", "row"]) (by kernel_rfl)) (fun _ _ _ _ _ => (pg_name (i := 2) sc_is_square.nd rfl (Or.inl rfl))) (fun _ _ _ _ _ => pts_nil) (fun _ _ _ _ _ => (pe_cmpR op_eq (pe_callB (call_lenK K) rfl (free_len D) PySem.boot_len (pa_cons (pv 2) pa_nil)) (pv 1) (nomark _)))) pa_nil)))))), ?_⟩
    refine ⟨_, rfl, _, rows.length, rfl, len_of (iA.t ra) s0, _, rfl, rfl, _, rfl, ifB (fun c => ?_) (fun c => ?_)⟩
    · refine ⟨_, rfl, a, rfl, ⟨_, SqT.of (s0 _ _ ha)⟩, fun l hD => lc_bool (K := K) (R := iT (iR (CR K))) (p := fun r : List Rat => r.length = n) (wk_tup ha) a2 s0 hD (lt_line hz) (fun i r I' H' Nx Qk hx rx _ sx kk => ?_) (fun I' H' bs g1 hD' b1 _ => ?_)⟩
      · refine ⟨rfl, _, rfl, _, r.length, rfl, len_of (iA.t rx) sx, _, rfl, rfl, ?_⟩
        have z := kk _ _ (Gr.refl sx)
        rw [← dec_vi] at z
        exact z
      · refine ⟨_, bs, rfl, hD', ?_⟩
        have z := k _ _ g1
        unfold square at z
        rw [← dec_vi, c, Bool.true_and, ← b1] at z
        exact z
    · have z := k _ _ (Gr.refl s0)
      unfold square at z
      rw [← dec_vi, c, Bool.false_and] at z
      exact z
/-- all weights of a state on one button -/
def lead (parts : List Rows) (s : Nat) : List Rat := flat (fun a => (gl (gl parts a) s).length) (fun a j => gq (gl (gl parts a) s) j) parts.length
def spLead (C : Addr) : Sp := fun vs H Q _ => ∃ (I : Hp) (a : V) (parts : List Rows) (s : Nat), vs = [a, .int s] ∧ Same I H ∧ iT (iT (iT (iR C))) I a parts ∧ Fits (lead parts s) ∧ (lead parts s).length ≤ 100000 ∧ (∀ rows ∈ parts, s < rows.length) ∧
  ∀ I' H', Gr [] I H I' H' → Q (.bl (lots (lead parts s))) H'
theorem sc_leads_on : FnScope ["parts", "state", "rows", "weight"] ["parts", "state"] (defScope s__leads_on) := ⟨rfl, rfl, rfl, by decide +kernel, rfl, by decide +kernel, by decide +kernel⟩
theorem ok_lead (D : Dt K mg) : Has P w K mg base 6 (He.ga K "_leads_on") ["parts", "state"] [] (spLead (CR K)) := by
  obtain ⟨fd, F⟩ := fd__leads_on D
  have H_are_lots := ok_lots (P := P) (w := w) (base := base) D
  refine hasN F (F.bindsN fun _ _ _ _ _ _ us hl => match us, hl with | [_, _], _ => rfl) sc_leads_on (fun vs H Q E h => ?_) (fun cdv A outer s H vs Q E hr h => ?_)
  · obtain ⟨I, a, rows, n, rfl, _⟩ := h; rfl
  · obtain ⟨I, va, parts, st, rfl, s0, ra, ft, hz, hs, k⟩ := h
    obtain ⟨a, vs, rfl, ha, a2⟩ := id ra
    have hl := a2.len
    refine ⟨_, (pss_one (ps_ret (pe_callH H_are_lots (hr.mono (by decide)) rfl (glo_are_lots D) passL (pa_cons (pe_lc2 (own := [("rows", 2), ("weight", 3)]) (vs1 := [3]) (g := gName 2) (g1 := gName 3) rfl sc_leads_on.nd (pi_tupK K (pv 0)) (blkOk_by (own := [("rows", 2), ("weight", 3)]) (N := ["parts", "state", "rows", "weight"]) (by kernel_rfl)) (by decide) (fun _ _ _ _ _ => (pg_name (i := 2) sc_leads_on.nd rfl (Or.inl rfl))) (fun _ _ _ _ _ => pts_nil) (fun _ _ _ _ _ => (pi_tupK K (pe_ix (ix_tupK K) (pv 2) (pv 1) (fun _ _ => rfl)))) (fun _ _ _ _ _ => (pg_name (i := 3) sc_leads_on.nd rfl (Or.inl rfl))) (fun _ _ _ _ _ => pts_nil) (fun _ _ _ _ _ => (pv 3))) pa_nil)))), ?_⟩
    refine ⟨_, rfl, a, rfl, ⟨_, SqT.of (s0 _ _ ha)⟩, fun l hD => lc2_wk (n := vs.length) (xs := gv vs) (iR (CR K)) (fun a => (gl (gl parts a) st).length) (fun a j => gq (gl (gl parts a) st) j) (wk_tup ha) s0 hD (by rw [hl]; exact Nat.le_of_lt (lt_line hz)) (fun i I' H' Nx R2 hi s1 s2 kk => ?_) (fun I' H' ys g1 hD' b2 => ?_)⟩
    · have hp := gl_lt (l := parts) (i := i) (by omega)
      obtain ⟨b, ws, eb, hb, b2⟩ := up s1 (gv2 a2 hp)
      have hst := hs _ (List.mem_of_getElem? hp)
      obtain ⟨u, hu, c, xs, rfl, hc, c2⟩ := b2.get' (gl_lt hst)
      rw [eb]
      refine ⟨rfl, ?_⟩
      refine ⟨_, rfl, _, rfl, _, _, _, _, rfl, rfl, SqT.of (s2 _ _ hb), at_of rfl hu, c, rfl, ⟨_, SqT.of (s2 _ _ hc)⟩, ?_⟩
      have W1 := wk_tup (K := K) hc
      rw [c2.len] at W1
      refine kk _ _ (gv xs) W1 fun j I2 H2 Nx1 Qk hj s3 s4 ke => ?_
      refine ⟨rfl, ?_⟩
      exact ⟨_, rfl, ke _ _ _ (Gr.refl s4) (up s3 (gv2 c2 (gq_lt hj)))⟩
    · rw [hl] at b2
      refine ⟨I', _, lead parts st, rfl, g1.ih, iA.l ⟨l, ys, rfl, hD', b2⟩, ft, hz, fun I2 H2 g2 => k _ _ (g1.trans g2)⟩
end
end K

set_option Elab.async false
set_option linter.all false
set_option maxRecDepth 100000
set_option maxHeartbeats 4000000
set_option exponentiation.threshold 5000
namespace K
open PySem PySem.Spec PyProof.Rows L2 Tk Hd Mt
theorem mem_gl {α : Type} {l : List (List α)} {x : List α} (h : x ∈ l) : ∃ i, i < l.length ∧ x = gl l i := by
  obtain ⟨i, hi, e⟩ := List.getElem_of_mem h
  exact ⟨i, hi, by rw [gl_of (List.getElem?_eq_getElem hi), e]⟩
theorem mem_gq {l : List Rat} {x : Rat} (h : x ∈ l) : ∃ i, i < l.length ∧ x = gq l i := by
  obtain ⟨i, hi, e⟩ := List.getElem_of_mem h
  exact ⟨i, hi, by rw [gq_of (List.getElem?_eq_getElem hi), e]⟩
theorem flat_mem {β : Type} {ks : Nat → Nat} {f : Nat → Nat → β} {n : Nat} {x : β} (h : x ∈ flat ks f n) : ∃ i j, i < n ∧ j < ks i ∧ x = f i j := by
  unfold flat at h
  obtain ⟨i, hi, h⟩ := List.mem_flatMap.mp h
  obtain ⟨j, hj, e⟩ := List.mem_map.mp h
  exact ⟨i, j, List.mem_range.mp hi, List.mem_range.mp hj, e.symm⟩
theorem tot_range (n : Nat) (f : Nat → Rat) : tot ((List.range n).map f) = S n f := by
  unfold tot
  rw [List.length_map, List.length_range]
  refine S_congr fun i hi => gq_of ?_
  rw [List.getElem?_map, List.getElem?_range hi]; rfl
theorem tot_flat (ks : Nat → Nat) (f : Nat → Nat → Rat) : ∀ n, tot (flat ks f n) = S n (fun i => S (ks i) (f i))
  | 0 => by simp [flat, tot, S]
  | n + 1 => by rw [flat_succ, tot_app, tot_flat ks f n, tot_range]; rfl
theorem flat_len {β : Type} (ks : Nat → Nat) (f : Nat → Nat → β) (m : Nat) : ∀ n, (∀ i, i < n → ks i = m) → (flat ks f n).length = n * m
  | 0, _ => by simp [flat]
  | n + 1, h => by rw [flat_succ, List.length_append, flat_len ks f m n (fun i hi => h i (by omega)), List.length_map, List.length_range, h n (by omega), Nat.succ_mul]
section
variable {M : Ma} {n bs as : Nat}
theorem _root_.Mt.MOk.start_fits (ok : MOk M n bs as) : Fits M.1 := fits_gd (N := 2160) (B := 1) (by decide) (fun q hq => by
    obtain ⟨i, hi, rfl⟩ := mem_gq hq
    exact ok.g0 i (by rw [← ok.l0]; exact hi)) (by rw [ok.l0]; have := ok.n1; exact Nat.le_trans (by omega : n * 1 ≤ 12) (by decide)) (by decide)
theorem _root_.Mt.MOk.lots_start (ok : MOk M n bs as) : lots M.1 = true := by
  unfold lots
  rw [Bool.and_eq_true, decide_eq_true_iff, decide_eq_true_iff]
  exact ⟨fun q hq => by
    obtain ⟨i, hi, rfl⟩ := mem_gq hq
    exact (ok.g0 i (by rw [← ok.l0]; exact hi)).nonneg, ok.s0⟩
theorem _root_.Mt.MOk.lead_len (ok : MOk M n bs as) {b s : Nat} (hb : b < bs) (hs : s < n) : (lead (gl M.2 b) s).length = as * n := by
  unfold lead
  rw [ok.l2 b hb]
  exact flat_len _ _ n as fun a ha => ok.l4 b a s hb ha hs
theorem _root_.Mt.MOk.lead_gd (ok : MOk M n bs as) {b s : Nat} (hb : b < bs) (hs : s < n) {q : Rat} (h : q ∈ lead (gl M.2 b) s) : Gd 2160 1 q := by
  unfold lead at h
  obtain ⟨a, j, ha, hj, rfl⟩ := flat_mem h
  rw [ok.l2 b hb] at ha
  rw [ok.l4 b a s hb ha hs] at hj
  exact ok.g1 b a s j hb ha hs hj
theorem _root_.Mt.MOk.lead_fits (ok : MOk M n bs as) {b s : Nat} (hb : b < bs) (hs : s < n) : Fits (lead (gl M.2 b) s) := by
  refine fits_gd (N := 2160) (B := 1) (by decide) (fun q hq => ok.lead_gd hb hs hq) ?_ (by decide)
  rw [ok.lead_len hb hs]
  have := Nat.mul_le_mul ok.a1 ok.n1
  exact Nat.le_trans (by omega : as * n * 1 ≤ 48) (by decide)
theorem _root_.Mt.MOk.lots_lead (ok : MOk M n bs as) {b s : Nat} (hb : b < bs) (hs : s < n) : lots (lead (gl M.2 b) s) = true := by
  unfold lots
  rw [Bool.and_eq_true, decide_eq_true_iff, decide_eq_true_iff]
  refine ⟨fun q hq => (ok.lead_gd hb hs hq).nonneg, ?_⟩
  unfold lead
  rw [tot_flat, ok.l2 b hb]
  rw [← ok.s1 b s hb hs]
  exact S_congr fun a ha => by rw [ok.l4 b a s hb ha hs]; rfl
theorem _root_.Mt.MOk.square (ok : MOk M n bs as) {b a : Nat} (hb : b < bs) (ha : a < as) : square (gl (gl M.2 b) a) n = true := by
  unfold K.square
  rw [Bool.and_eq_true, decide_eq_true_iff, decide_eq_true_iff]
  refine ⟨ok.l3 b a hb ha, fun r hr => ?_⟩
  obtain ⟨s, hs, rfl⟩ := mem_gl hr
  exact ok.l4 b a s hb ha (by rw [← ok.l3 b a hb ha]; exact hs)
end
section
variable {P : Program} {w : World} {K : PySem.W.Frag} {mg : Str → Option Value} {base : Heap}
abbrev iMv (C : Addr) : Rp (List (List Rows)) := iT (iT (iT (iT (iR C))))
def spFault (C : Addr) : Sp := fun vs H Q _ => ∃ (I : Hp) (a b : V) (M : Ma) (n bs as : Nat), vs = [a, b] ∧ Same I H ∧ iT (iR C) I a M.1 ∧ iMv C I b M.2 ∧ MOk M n bs as ∧ ∀ I' H', Gr [] I H I' H' → Q .non H'
theorem sc_fault : FnScope ["start", "moves", "parts", "rows", "state"] ["start", "moves"] (defScope s__fault) := ⟨rfl, rfl, rfl, by decide +kernel, rfl, by decide +kernel, by decide +kernel⟩
theorem out_no {m n : Int} (h1 : 1 ≤ m) (h2 : m ≤ n) : (decide (m < 1) || decide (m > n)) = false := by
  rw [Bool.or_eq_false_iff, decide_eq_false_iff_not, decide_eq_false_iff_not]; omega
theorem ok_fault (D : Dt K mg) : Has P w K mg base 7 (He.ga K "_fault") ["start", "moves"] [] (spFault (CR K)) := by
  obtain ⟨fd, F⟩ := fd__fault D
  have H_are_lots := ok_lots (P := P) (w := w) (base := base) D
  have H__leads_on := ok_lead (P := P) (w := w) (base := base) D
  have H__is_square := ok_square (P := P) (w := w) (base := base) D
  have H__out_of := ok_out (P := P) (w := w) (base := base) D
  obtain ⟨t1, e1⟩ := int_MOST_STATES D
  obtain ⟨t2, e2⟩ := int_MOST_BUTTONS D
  obtain ⟨t3, e3⟩ := int_MOST_ANSWERS D
  refine hasN F (F.bindsN fun _ _ _ _ _ _ us hl => match us, hl with | [_, _], _ => rfl) sc_fault (fun vs H Q E h => ?_) (fun cdv A outer s H vs Q E hr h => ?_)
  · obtain ⟨I, a, b, M, n, bs, as, rfl, _⟩ := h; rfl
  · obtain ⟨I, va, vb, M, n, bs, as, rfl, s0, ra, rb, ok, k⟩ := h
    obtain ⟨a, vs, rfl, ha, a2⟩ := id ra
    obtain ⟨b, ws, rfl, hb, b2⟩ := id rb
    have hn := ok.l0
    have hbs := ok.l1
    have n0 := ok.n0
    have n1 := ok.n1
    have b0 := ok.b0
    have b1 := ok.b1
    have a0 := ok.a0
    have a1 := ok.a1
    refine ⟨_, (pss_cons (ps_if (pt_val (pe_callH H__out_of (hr.mono (by decide)) rfl (glo__out_of D) passL (pa_cons (pe_callB (call_lenK K) rfl (free_len D) PySem.boot_len (pa_cons (pv 0) pa_nil)) (pa_cons (pe_glob (v := .int 12) rfl e1 ⟨t1, rfl⟩) pa_nil))))
      (pss_one (ps_ret pe_str))
      pss_nil)
      (pss_cons (ps_if (pt_val (pe_callH H__out_of (hr.mono (by decide)) rfl (glo__out_of D) passL (pa_cons (pe_callB (call_lenK K) rfl (free_len D) PySem.boot_len (pa_cons (pv 1) pa_nil)) (pa_cons (pe_glob (v := .int 4) rfl e2 ⟨t2, rfl⟩) pa_nil))))
      (pss_one (ps_ret pe_str))
      pss_nil)
      (pss_cons (ps_if (PW.pt (pw_or (pt_val (pe_callH H__out_of (hr.mono (by decide)) rfl (glo__out_of D) passL (pa_cons (pe_callB (call_lenK K) rfl (free_len D) PySem.boot_len (pa_cons (pe_ix (ix_tupK K) (pv 1) pe_int (fun _ _ => rfl)) pa_nil)) (pa_cons (pe_glob (v := .int 4) rfl e3 ⟨t3, rfl⟩) pa_nil)))) (pw_or1 (pt_val (pe_callB (cr_anyK K rfl) rfl (free_any D) (by decide +kernel) (pa_cons (pe_lc (own := [("parts", 2)]) (g := gName 2) rfl sc_fault.nd (pi_tupK K (pv 1)) (blkOk_by (own := [("parts", 2)]) (N := ["start", "moves", "parts", "rows", "state"]) (by kernel_rfl)) (fun _ _ _ _ _ => (pg_name (i := 2) sc_fault.nd rfl (Or.inl rfl))) (fun _ _ _ _ _ => pts_nil) (fun _ _ _ _ _ => (pe_cmpR op_ne (pe_callB (call_lenK K) rfl (free_len D) PySem.boot_len (pa_cons (pv 2) pa_nil)) (pe_callB (call_lenK K) rfl (free_len D) PySem.boot_len (pa_cons (pe_ix (ix_tupK K) (pv 1) pe_int (fun _ _ => rfl)) pa_nil)) (nomark _)))) pa_nil))))))
      (pss_one (ps_ret pe_str))
      pss_nil)
      (pss_cons (ps_if (pt_not (pt_val (pe_callB (cr_allK K rfl) rfl (free_all D) (by decide +kernel) (pa_cons (pe_lc2 (own := [("parts", 2), ("rows", 3)]) (vs1 := [3]) (g := gName 2) (g1 := gName 3) rfl sc_fault.nd (pi_tupK K (pv 1)) (blkOk_by (own := [("parts", 2), ("rows", 3)]) (N := ["start", "moves", "parts", "rows", "state"]) (by kernel_rfl)) (by decide) (fun _ _ _ _ _ => (pg_name (i := 2) sc_fault.nd rfl (Or.inl rfl))) (fun _ _ _ _ _ => pts_nil) (fun _ _ _ _ _ => (pi_tupK K (pv 2))) (fun _ _ _ _ _ => (pg_name (i := 3) sc_fault.nd rfl (Or.inl rfl))) (fun _ _ _ _ _ => pts_nil) (fun _ _ _ _ _ => (pe_callH H__is_square (hr.mono (by decide)) rfl (glo__is_square D) passL (pa_cons (pv 3) (pa_cons (pe_callB (call_lenK K) rfl (free_len D) PySem.boot_len (pa_cons (pv 0) pa_nil)) pa_nil))))) pa_nil))))
      (pss_one (ps_ret pe_str))
      pss_nil)
      (pss_cons (ps_if (pt_not (pt_val (pe_callH H_are_lots (hr.mono (by decide)) rfl (glo_are_lots D) passL (pa_cons (pv 0) pa_nil))))
      (pss_one (ps_ret pe_str))
      pss_nil)
      (pss_cons (ps_if (pt_not (pt_val (pe_callB (cr_allK K rfl) rfl (free_all D) (by decide +kernel) (pa_cons (pe_lc2 (own := [("parts", 2), ("state", 4)]) (vs1 := [4]) (g := gName 2) (g1 := gName 4) rfl sc_fault.nd (pi_tupK K (pv 1)) (blkOk_by (own := [("parts", 2), ("state", 4)]) (N := ["start", "moves", "parts", "rows", "state"]) (by kernel_rfl)) (by decide) (fun _ _ _ _ _ => (pg_name (i := 2) sc_fault.nd rfl (Or.inl rfl))) (fun _ _ _ _ _ => pts_nil) (fun _ _ _ _ _ => (pi_range1 rfl (free_range D) (pa_cons (pe_callB (call_lenK K) rfl (free_len D) PySem.boot_len (pa_cons (pv 0) pa_nil)) pa_nil))) (fun _ _ _ _ _ => (pg_name (i := 4) sc_fault.nd rfl (Or.inl rfl))) (fun _ _ _ _ _ => pts_nil) (fun _ _ _ _ _ => (pe_callH H__leads_on (hr.mono (by decide)) rfl (glo__leads_on D) passL (pa_cons (pv 2) (pa_cons (pv 4) pa_nil))))) pa_nil))))
      (pss_one (ps_ret pe_str))
      pss_nil)
      (pss_one (ps_ret pe_non)))))))), ?_⟩
    refine ⟨_, rfl, _, M.1.length, rfl, len_of (iA.t ra) s0, _, _, rfl, _, rfl, ifF (out_no (by omega) (by omega)) ?_⟩
    refine ⟨_, rfl, _, M.2.length, rfl, len_of (iA.t rb) s0, _, _, rfl, _, rfl, ifF (out_no (by omega) (by omega)) ?_⟩
    obtain ⟨u, hu, c, xs, rfl, hc, c2⟩ := id (b2.get' (gl_lt (l := M.2) (i := 0) (by omega)))
    have hc' := s0 _ _ hc
    have hb' := s0 _ _ hb
    have l0 := ok.l2 0 b0
    refine ⟨_, rfl, _, _, _, _, rfl, rfl, SqT.of hb', at_of (j := 0) rfl hu, _, (gl M.2 0).length, rfl, len_of (R := iT (iT (iR (CR K)))) (iA.t ⟨c, xs, rfl, hc, c2⟩) s0, _, _, rfl, _, rfl, ifF (out_no (by omega) (by omega)) ?_⟩
    refine ⟨_, rfl, b, rfl, ⟨_, SqT.of hb'⟩, fun l hD => lc_bool (K := K) (R := iT (iT (iT (iR (CR K))))) (p := fun parts : List Rows => parts.length ≠ (gl M.2 0).length) (wk_tup hb) b2 s0 hD (lt_line (by omega)) (fun i x I' H' Nx Qk hx rx s1 sx kk => ?_) (fun I1 H1 bls g1 hl1 _ any1 => ?_)⟩
    · refine ⟨rfl, _, rfl, _, x.length, rfl, len_of (iA.t rx) sx, _, rfl, _, _, _, _, rfl, rfl, SqT.of (sx _ _ (s1 _ _ hb)), at_of (j := 0) rfl hu, _, (gl M.2 0).length, rfl, len_of (R := iT (iT (iR (CR K)))) (iA.t ⟨c, xs, rfl, s1 _ _ hc, c2.up s1⟩) sx, ?_⟩
      have z := kk _ _ (Gr.refl sx)
      refine ⟨rfl, ?_⟩
      rw [dec_vi]
      rw [show decide (x.length ≠ (gl M.2 0).length) = !decide (x.length = (gl M.2 0).length) from by simp] at z
      exact z
    refine ⟨_, bls, rfl, hl1, _, rfl, ifF ?_ ?_⟩
    · rw [any1, decide_eq_false_iff_not]
      rintro ⟨x, hx, hne⟩
      obtain ⟨i, hi, rfl⟩ := mem_gl hx
      exact hne (by rw [ok.l2 i (by omega), l0])
    replace s0 := g1.ih
    replace ra := up g1.ii ra
    replace rb := up g1.ii rb
    replace hb := g1.ii _ _ hb
    replace b2 := b2.up g1.ii
    have hlb := b2.len
    refine ⟨_, rfl, b, rfl, ⟨_, SqT.of (s0 _ _ hb)⟩, fun l hD => lc2_wk iB (fun i => (gl M.2 i).length) (fun i j => square (gl (gl M.2 i) j) n) (wk_tup hb) s0 hD ?_ (fun i I' H' Nx R2 hi s1 s2 kk => ?_) (fun I2 H2 ys g2 hD' d2 => ?_)⟩
    · rw [flat_len _ _ as _ fun i hi => ok.l2 i (by omega), hlb, hbs]
      have := Nat.mul_le_mul b1 a1
      exact Nat.le_of_lt (lt_line (by omega))
    · have hp := gl_lt (l := M.2) (i := i) (by omega)
      obtain ⟨c, zs, ec, hc, c2⟩ := up s1 (gv2 b2 hp)
      rw [ec]
      refine ⟨rfl, ?_⟩
      refine ⟨_, rfl, c, rfl, ⟨_, SqT.of (s2 _ _ hc)⟩, ?_⟩
      have W1 := wk_tup (K := K) hc
      rw [c2.len] at W1
      refine kk _ _ (gv zs) W1 fun j I3 H3 Nx1 Qk hj s3 s4 ke => ?_
      have hq := gl_lt (l := gl M.2 i) hj
      refine ⟨rfl, _, rfl, _, rfl, _, M.1.length, rfl, len_of (iA.t (up ((s1.trans s3)) ra)) s4, I3, _, gl (gl M.2 i) j, n, by rw [hn]; rfl, s4, up s3 (gv2 c2 hq), ?_, fun I4 H4 g4 => ke _ _ _ g4 rfl⟩
      rw [ok.l3 i j (by omega) (by rw [← ok.l2 i (by omega)]; exact hj)]; omega
    have sq : (flat (fun i => (gl M.2 i).length) (fun i j => square (gl (gl M.2 i) j) n) ws.length).all id = true := by
      rw [List.all_eq_true]
      intro x hx
      obtain ⟨i, j, hi, hj, rfl⟩ := flat_mem hx
      exact ok.square (by omega) (by rw [← ok.l2 i (by omega)]; exact hj)
    refine ⟨_, _, rfl, SqL.of (g2.ih _ _ (by rw [← bls_of d2]; exact hD')), _, rfl, ?_⟩
    rw [sq]
    refine ifF rfl ?_
    clear sq d2 hD'
    replace s0 := g2.ih
    replace ra := up g2.ii ra
    replace rb := up g2.ii rb
    replace hb := g2.ii _ _ hb
    replace b2 := b2.up g2.ii
    refine ⟨_, rfl, I2, _, M.1, rfl, s0, iA.t ra, ok.start_fits, by omega, fun I3 H3 g3 => ?_⟩
    refine ⟨_, rfl, ?_⟩
    rw [ok.lots_start]
    refine ifF rfl ?_
    replace s0 := g3.ih
    replace ra := up g3.ii ra
    replace rb := up g3.ii rb
    replace hb := g3.ii _ _ hb
    replace b2 := b2.up g3.ii
    refine ⟨_, rfl, b, rfl, ⟨_, SqT.of (s0 _ _ hb)⟩, fun l hD => lc2_wk iB (fun i => n) (fun i j => lots (lead (gl M.2 i) j)) (wk_tup hb) s0 hD ?_ (fun i I' H' Nx R2 hi s1 s2 kk => ?_) (fun I4 H4 ys g4 hD' d2 => ?_)⟩
    · rw [flat_len _ _ n _ fun i hi => rfl, hlb, hbs]
      have := Nat.mul_le_mul b1 n1
      exact Nat.le_of_lt (lt_line (by omega))
    · have hp := gl_lt (l := M.2) (i := i) (by omega)
      have hi' : i < bs := by omega
      refine ⟨rfl, ?_⟩
      refine ⟨_, rfl, _, M.1.length, rfl, len_of (iA.t (up s1 ra)) s2, _, rfl, by omega, by omega, ?_⟩
      have W1 : Wk (Itr 0 ((M.1.length : Int)).toNat) n (fun i => .int (0 + (i : Int))) I' := by
        have e : ((M.1.length : Int)).toNat = n := by omega
        rw [e]; exact wk_range
      refine kk _ _ _ W1 fun j I3 H3 Nx1 Qk hj s3 s4 ke => ?_
      refine ⟨rfl, _, rfl, _, rfl, I3, _, gl M.2 i, j, by rw [Int.zero_add]; rfl, s4, up s3 (up s1 (gv2 b2 hp)), ok.lead_fits hi' hj, ?_, fun rows hr => ?_, fun I4 H4 g4 => ke _ _ _ g4 rfl⟩
      · rw [ok.lead_len hi' hj]
        have := Nat.mul_le_mul a1 n1
        omega
      · obtain ⟨a, ha, rfl⟩ := mem_gl hr
        rw [ok.l3 i a hi' (by rw [← ok.l2 i hi']; exact ha)]; exact hj
    have sq : (flat (fun i => n) (fun i j => lots (lead (gl M.2 i) j)) ws.length).all id = true := by
      rw [List.all_eq_true]
      intro x hx
      obtain ⟨i, j, hi, hj, rfl⟩ := flat_mem hx
      exact ok.lots_lead (by omega) hj
    refine ⟨_, _, rfl, SqL.of (g4.ih _ _ (by rw [← bls_of d2]; exact hD')), _, rfl, ?_⟩
    rw [sq]
    refine ifF rfl ?_
    exact k _ _ (((g1.trans g2).trans g3).trans g4)
end
end K

set_option Elab.async false
set_option linter.all false
set_option maxRecDepth 100000
set_option maxHeartbeats 4000000
set_option exponentiation.threshold 5000
namespace K
open PySem PySem.Spec PyProof.Rows L2 Tk Hd Mt
abbrev CM (K : PySem.W.Frag) : Addr := He.ga K "Machine"
theorem ms_ : ¬ (("start" : Str) = "moves") := by decide +kernel
def mf (va vb : V) : List (Str × V) := putF "moves" vb (putF "start" va [])
theorem mf_start (va vb : V) : (mf va vb).lookup ("start" : Str) = some va := by
  unfold mf; rw [lookup_putF, if_neg ms_, lookup_putF, if_pos rfl]
theorem mf_moves (va vb : V) : (mf va vb).lookup ("moves" : Str) = some vb := by
  unfold mf; rw [lookup_putF, if_pos rfl]
/-- a machine as it stands -/
def iM (C C2 : Addr) : Rp Ma := fun H v M => ∃ a dx va vb, v = .ref a ∧ H a = some (.ins C2 dx (mf va vb)) ∧ iT (iR C) H va M.1 ∧ iMv C H vb M.2
instance {C C2 : Addr} : Mono (iM C C2) := ⟨fun s ⟨a, dx, va, vb, e, h, r1, r2⟩ => ⟨a, dx, va, vb, e, s _ _ h, up s r1, up s r2⟩⟩
section
variable {P : Program} {w : World} {K : PySem.W.Frag} {mg : Str → Option Value} {base : Heap}
def spMInit (C C2 : Addr) : Sp := fun vs H Q _ => ∃ (I : Hp) (x dx : Addr) (a b : V) (M : Ma) (n bs as : Nat), vs = [.ref x, a, b] ∧ Same I H ∧ I x = none ∧ H x = some (.ins C2 dx []) ∧ iA (iR C) I a M.1 ∧ iA (iA (iA (iA (iR C)))) I b M.2 ∧ MOk M n bs as ∧
  ∀ I' H' va vb, Gr [x] I H I' H' → H' x = some (.ins C2 dx (mf va vb)) → iT (iR C) I' va M.1 → iMv C I' vb M.2 → Q .non H'
theorem sc_minit : FnScope ["self", "start", "moves", "rows", "parts", "why"] ["self", "start", "moves"] (defScope s_Machine_init) := ⟨rfl, rfl, rfl, by decide +kernel, rfl, by decide +kernel, by decide +kernel⟩
theorem ok_minit (D : Dt K mg) : Has P w K mg base 8 (He.ma K (CM K) "__init__") ["self", "start", "moves"] [] (spMInit (CR K) (CM K)) := by
  obtain ⟨fd, F⟩ := fd_Machine_init D
  have H__table := ok_table (P := P) (w := w) (base := base) D
  have H__fault := ok_fault (P := P) (w := w) (base := base) D
  refine hasN F (F.bindsN fun _ _ _ _ _ _ us hl => match us, hl with | [_, _, _], _ => rfl) sc_minit (fun vs H Q E h => ?_) (fun cdv A outer s H vs Q E hr h => ?_)
  · obtain ⟨I, x, dx, a, b, M, n, bs, as, rfl, _⟩ := h; rfl
  · obtain ⟨I, x, dx, va, vb, M, n, bs, as, rfl, s0, hI, hx, ra, rb, ok, k⟩ := h
    obtain ⟨b, ws, rfl, hb, b2⟩ := id rb
    have hlb := b2.len
    have hbs := ok.l1
    have b1 := ok.b1
    have a1 := ok.a1
    have n1 := ok.n1
    refine ⟨_, (pss_cons (ps_fld (pv 0) (pe_callTy (call_tuple_ofK K) rfl (free_tuple D) (by decide +kernel) (pa_cons (pv 1) pa_nil)) rfl)
      (pss_cons (ps_fld (pv 0) (pe_callTy (call_tuple_ofK K) rfl (free_tuple D) (by decide +kernel) (pa_cons (pe_lc (own := [("parts", 4)]) (g := gName 4) rfl sc_minit.nd (pi_ltK K (pv 2)) (blkOk_by (own := [("parts", 4)]) (N := ["self", "start", "moves", "rows", "parts", "why"]) (by kernel_rfl)) (fun _ _ _ _ _ => (pg_name (i := 4) sc_minit.nd rfl (Or.inl rfl))) (fun _ _ _ _ _ => pts_nil) (fun _ _ _ _ _ => (pe_callTy (call_tuple_ofK K) rfl (free_tuple D) (by decide +kernel) (pa_cons (pe_lc (own := [("rows", 3)]) (g := gName 3) rfl sc_minit.nd (pi_ltK K (pv 4)) (blkOk_by (own := [("rows", 3)]) (N := ["self", "start", "moves", "rows", "parts", "why"]) (by kernel_rfl)) (fun _ _ _ _ _ => (pg_name (i := 3) sc_minit.nd rfl (Or.inl rfl))) (fun _ _ _ _ _ => pts_nil) (fun _ _ _ _ _ => (pe_callH H__table (hr.mono (by decide)) rfl (glo__table D) passL (pa_cons (pv 3) pa_nil)))) pa_nil)))) pa_nil)) rfl)
      (pss_cons (ps_set (i := 5) sc_minit.nd rfl (Or.inl rfl) (pe_callH H__fault (hr.mono (by decide)) rfl (glo__fault D) passL (pa_cons (pe_fldK K (pv 0) rfl) (pa_cons (pe_fldK K (pv 0) rfl) pa_nil))))
      (pss_one (ps_if (pt_cmpR op_notN (pv 5) pe_non (nomark _))
      pss_never
      pss_nil))))), ?_⟩
    (try dsimp only)
    refine seq_cut (fun σ' H1 => ∃ (I1 : Hp) (v1 : V), σ' = [some (.ref x), some va, some (.ref b), none, none, none] ∧ Gr [x] I H I1 H1 ∧ H1 x = some (.ins (CM K) dx (putF "start" v1 [])) ∧ iT (iR (CR K)) I1 v1 M.1) (fun nx q => ?_) ?_
    · refine ⟨_, rfl, tup_of ra s0 fun I1 H1 v1 g1 r1 => ?_⟩
      have h1 := g1.at hx (by simp)
      refine ⟨_, rfl, x, _, dx, _, rfl, h1, cls_Machine D, na_Machine_start D, (by show 0 < 1000; decide), ?_⟩
      exact q _ _ ⟨I1, v1, rfl, (g1.mono (ns := [x]) fun _ z => nomatch z).trans (Gr.mut g1.ih (g1.out hI hx) List.mem_cons_self), upd_same, r1⟩
    rintro σ' H1 ⟨I1, v1, rfl, g1, h1, r1⟩
    (try dsimp only)
    refine seq_cut (fun σ' H1 => ∃ (I1 : Hp) (v1 v2 : V), σ' = [some (.ref x), some va, some (.ref b), none, none, none] ∧ Gr [x] I H I1 H1 ∧ H1 x = some (.ins (CM K) dx (mf v1 v2)) ∧ iT (iR (CR K)) I1 v1 M.1 ∧ iMv (CR K) I1 v2 M.2) (fun nx q => ?_) ?_
    · have b2' := b2.up g1.ii
      refine ⟨_, rfl, lt_of (hb.imp (g1.ii _ _) (g1.ii _ _)) g1.ih fun J W l hD => lc_id (R := iA (iA (iA (iR (CR K))))) (Sy := iT (iT (iT (iR (CR K))))) W b2' g1.ih hD (lt_line (by omega)) (fun i y I' H' Nx Qk hy ry sx kk => ?_) (fun I2 H2 g2 r2 => ?_)⟩
      · obtain ⟨c, xs, ec, hc, c2⟩ := id ry
        obtain ⟨i', hi', rfl⟩ := mem_gl (List.mem_of_getElem? hy)
        have ly := ok.l2 i' (by omega)
        rw [ec]
        refine ⟨rfl, _, rfl, lt_of hc sx fun J W l hD => lc_id (R := iA (iA (iR (CR K)))) (Sy := iT (iT (iR (CR K)))) W c2 sx hD (lt_line (by omega)) (fun j z I3 H3 Nx3 Qk3 hz rz sz ke => ?_) (fun I3 H3 g3 r3 => ?_)⟩
        · obtain ⟨j', hj', rfl⟩ := mem_gl (List.mem_of_getElem? hz)
          refine ⟨rfl, _, rfl, I3, _, _, rfl, sz, rz, ?_, ke⟩
          rw [ok.l3 i' j' (by omega) (by omega)]; omega
        · exact tup_of (iA.l r3) g3.ih fun I4 H4 v4 g4 r4 => kk _ _ _ (g3.trans g4) r4
      · refine tup_of (iA.l r2) g2.ih fun I3 H3 v3 g3 r3 => ?_
        have g4 := g2.trans g3
        have hI1 := g1.out hI hx
        have h3 := g4.at h1 (by simp)
        refine ⟨_, rfl, x, _, dx, _, rfl, h3, cls_Machine D, na_Machine_moves D, (by show 1 < 1000; decide), ?_⟩
        exact q _ _ ⟨I3, v1, v3, rfl, (g1.trans (g4.mono (ns := [x]) fun _ z => nomatch z)).trans (Gr.mut g4.ih (g4.out hI1 h1) List.mem_cons_self), upd_same, up g4.ii r1, r3⟩
    clear g1 h1 r1
    rintro σ' H1 ⟨I1, v1, v2, rfl, g1, h1, r1, r2⟩
    (try dsimp only)
    refine ⟨_, rfl, _, _, _, _, _, rfl, h1, cls_Machine D, na_Machine_start D, mf_start v1 v2, _, rfl, _, _, _, _, _, rfl, h1, cls_Machine D, na_Machine_moves D, mf_moves v1 v2, I1, _, _, M, n, bs, as, rfl, g1.ih, r1, r2, ok, fun I2 H2 g2 => ?_⟩
    refine ⟨_, rfl, rfl, _, rfl, ifF rfl ?_⟩
    exact k I2 H2 v1 v2 (g1.trans (g2.mono fun _ z => nomatch z)) (g2.at h1 (by simp)) (up g2.ii r1) (up g2.ii r2)
/-- a machine made anew -/
theorem mach_new {I H I' H' : Hp} {x dx C C2 : Addr} {M : Ma} {va vb : V} (s : Same I H) (nx : H x = none) (nd : H dx = none) (ne : dx ≠ x)
    (g : Gr [x] (upd I dx (.own x)) (upd (upd H dx (.own x)) x (.ins C2 dx [])) I' H') (h : H' x = some (.ins C2 dx (mf va vb))) (r1 : iT (iR C) I' va M.1) (r2 : iMv C I' vb M.2) :
    Gr [] I H (upd I' x (.ins C2 dx (mf va vb))) H' ∧ iM C C2 (upd I' x (.ins C2 dx (mf va vb))) (.ref x) M := by
  have g0 : Gr [] I H (upd I dx (.own x)) (upd H dx (.own x)) := Gr.new s nd
  have hx0 : upd H dx (.own x) x = none := by rw [upd_ne (Ne.symm ne)]; exact nx
  have g1 : Gr [] (upd I dx (.own x)) (upd H dx (.own x)) (upd I dx (.own x)) (upd (upd H dx (.own x)) x (.ins C2 dx [])) := Gr.tmp g0.ih hx0
  have g2 := (g1.mono (ns := [x]) fun _ z => nomatch z).trans g
  have hI' : I' x = none := g.out (g0.ih.free hx0) upd_same
  refine ⟨g0.trans (g2.frz g0.ih hx0 h), x, dx, va, vb, rfl, upd_same, up (sNew hI') r1, up (sNew hI') r2⟩
end
end K

set_option Elab.async false
set_option linter.all false
set_option maxRecDepth 100000
set_option maxHeartbeats 4000000
set_option exponentiation.threshold 5000
namespace K
open PySem PySem.Spec PyProof.Rows L2 Tk Hd Mt
abbrev vn (ws : List Nat) : List V := ws.map fun n : Nat => V.int n
theorem rep_zero (c : Nat) : (List.replicate c [V.int 0]).flatten = vn (List.replicate c 0) := by
  induction c with
  | zero => rfl
  | succ c ih => rw [List.replicate_succ, List.flatten_cons, ih]; rfl
theorem isum (ws : List Nat) : (ws.map fun n : Nat => (n : Int)).sum = (ws.sum : Nat) := by
  induction ws with
  | nil => rfl
  | cons a r ih => rw [List.map_cons, List.sum_cons, ih, List.sum_cons]; omega
theorem all2_vn {H : Hp} : ∀ ws : List Nat, All2 (iN H) (vn ws) ws
  | [] => .nil
  | a :: r => .cons rfl (all2_vn r)
section
variable {P : Program} {w : World} {K : PySem.W.Frag} {mg : Str → Option Value} {base : Heap}
def spCells : Sp := fun vs H Q _ => ∃ (I : Hp) (p : Addr) (c f : Nat), vs = [.ref p, .int c, .int f] ∧ Same I H ∧ PoolOk I H p ∧ 0 < c ∧ c ≤ 100 ∧ 0 < f ∧ f ≤ 3 ∧
  ∀ I' H' v qs, Gr [p] I H I' H' → PoolOk I' H' p → iL iQ I' v qs → Cells c qs → Q v H'
theorem sc_cells : FnScope ["pool", "count", "few", "weights", "k", "place", "weight"] ["pool", "count", "few"] (defScope s__law_cells) := ⟨rfl, rfl, rfl, by decide +kernel, rfl, by decide +kernel, by decide +kernel⟩
theorem PoolOk.mutO {I H : Hp} {p d : Addr} {o : HO} (h : PoolOk I H p) (n : p ≠ d) (hI : I d = none) : PoolOk I (upd H d o) p := by
  obtain ⟨i, c, cells, pos, b, s, l, u, h1, h2, h3, h4⟩ := h
  exact ⟨i, c, cells, pos, b, s, l, u, h1, h2, h3, by rw [upd_ne n]; exact h4⟩
theorem PoolOk.frzO {I H : Hp} {p d : Addr} {o : HO} (h : PoolOk I H p) (n : p ≠ d) (hI : I d = none) : PoolOk (upd I d o) H p := by
  obtain ⟨i, c, cells, pos, b, s, l, u, h1, h2, h3, h4⟩ := h
  exact ⟨by rw [upd_ne n]; exact i, c, cells, pos, b, s, l, u, by rw [upd_ne (ne_of_none h1 hI)]; exact h1, h2, h3, h4⟩
theorem PoolOk.ne {I H : Hp} {p d : Addr} (h : PoolOk I H p) (n : H d = none) : p ≠ d := by
  obtain ⟨i, c, cells, pos, b, s, l, u, h1, h2, h3, h4⟩ := h
  exact ne_of_none h4 n
theorem ok_cells (D : Dt K mg) : Has P w K mg base 2 (He.ga K "_law_cells") ["pool", "count", "few"] [] spCells := by
  obtain ⟨fd, F⟩ := fd__law_cells D
  have H__law_draw := ok_draw (P := P) (w := w) (base := base) D
  have H__law_less := ok_ls (P := P) (w := w) (base := base) D
  refine hasN F (F.bindsN fun _ _ _ _ _ _ us hl => match us, hl with | [_, _, _], _ => rfl) sc_cells (fun vs H Q E h => ?_) (fun cdv A outer s H vs Q E hr h => ?_)
  · obtain ⟨I, p, c, f, rfl, _⟩ := h; rfl
  · obtain ⟨I, p, c, f, rfl, s0, po, c0, c1, f0, f1, k⟩ := h
    refine ⟨_, (pss_cons (ps_set (i := 3) sc_cells.nd rfl (Or.inr rfl) (pe_op op_rep (pe_lst (pa_cons pe_int pa_nil)) (pv 1)))
      (pss_cons (ps_for PassesOwn.never rfl (pi_range1 rfl (free_range D) (pa_cons (pe_op op_add pe_int (pe_callH H__law_draw (hr.mono (by decide)) rfl (glo__law_draw D) passL (pa_cons (pv 0) (pa_cons (pv 2) pa_nil)))) pa_nil)) (pg_name (i := 4) sc_cells.nd rfl (Or.inl rfl))
      (pss_cons (ps_set (i := 5) sc_cells.nd rfl (Or.inl rfl) (pe_callH H__law_draw (hr.mono (by decide)) rfl (glo__law_draw D) passL (pa_cons (pv 0) (pa_cons (pv 1) pa_nil))))
      (pss_one (ps_asg (pe_op op_add (pe_op op_add (pe_ix (ix_listK K) (pv 3) (pv 5) (fun _ _ => rfl)) pe_int) (pe_callH H__law_draw (hr.mono (by decide)) rfl (glo__law_draw D) passL (pa_cons (pv 0) (pa_cons pe_int pa_nil)))) (pg_sub (pv 3) (pv 5) set_list)))))
      (pss_one (ps_ret (pe_lc (own := [("weight", 6)]) (g := gName 6) rfl sc_cells.nd (pi_listK K (pv 3)) (blkOk_by (own := [("weight", 6)]) (N := ["pool", "count", "few", "weights", "k", "place", "weight"]) (by kernel_rfl)) (fun _ _ _ _ _ => (pg_name (i := 6) sc_cells.nd rfl (Or.inl rfl))) (fun _ _ _ _ _ => pts_nil) (fun _ _ _ _ _ => (pe_callH H__law_less (hr.mono (by decide)) rfl (glo__law_less D) passL (pa_cons (pv 6) (pa_cons (pe_callB (cr_sumK K rfl) rfl (free_sum D) (by decide +kernel) (pa_cons (pv 3) pa_nil)) pa_nil))))))))), ?_⟩
    (try dsimp only)
    refine seq_cut (fun σ' H1 => ∃ d, σ' = [some (.ref p), some (.int c), some (.int f), some (.ref d), none, none, none] ∧ Gr [] I H I H1 ∧ H d = none ∧ H1 d = some (.lst (vn (List.replicate c 0)))) (fun nx q => ?_) ?_
    · refine ⟨(by show 1 ≤ sizeLine; decide), fun l hl => ⟨_, rfl, l, c, _, rfl, rfl, upd_same, by omega, by omega, ?_, fun d hd => ?_⟩⟩
      · rw [Int.toNat_natCast]; exact Nat.le_of_lt (lt_line (by simp; omega))
      · rw [Int.toNat_natCast, rep_zero]
        have nld : d ≠ l := fun e => by rw [e, upd_same] at hd; cases hd
        exact q _ _ ⟨d, rfl, (Gr.tmp s0 hl).trans (Gr.tmp (sUnder s0 (s0.free hl)) hd), by rw [upd_ne nld] at hd; exact hd, upd_same⟩
    rintro σ' H1 ⟨d, rfl, g1, hd, h1⟩
    (try dsimp only)
    have npd := po.ne hd
    have hId := s0.free hd
    have po1 : PoolOk I H1 p := po.up g1 (by simp)
    refine ⟨_, rfl, _, rfl, I, p, f, rfl, g1.ih, po1, by omega, by omega, fun v H2 hv0 hv1 g2 po2 => ⟨_, _, rfl, rfl, 1 + v, rfl, by omega, by omega, ?_⟩⟩
    have h2 : H2 d = some (.lst (vn (List.replicate c 0))) := g2.at h1 (by simpa using npd.symm)
    obtain ⟨t, ht⟩ : ∃ t : Nat, t = (1 + v).toNat := ⟨_, rfl⟩
    rw [← ht]
    have t1 : 1 ≤ t ∧ t ≤ 3 := by omega
    refine for_wk (wk_range (I := I))
      (fun σ' H' => ∃ (v4 v5 : Option V) (ws : List Nat), σ' = [some (.ref p), some (.int c), some (.int f), some (.ref d), v4, v5, none] ∧ Gr [p] I H I H' ∧ PoolOk I H' p ∧ H' d = some (.lst (vn ws)) ∧ ws.length = c ∧ 1 ≤ ws.sum ∧ ws.sum ≤ 6 ∧ ws.countP (fun w => decide (w ≠ 0)) ≤ 3)
      (fun i σ' H' => ∃ (v4 v5 : Option V) (ws : List Nat), σ' = [some (.ref p), some (.int c), some (.int f), some (.ref d), v4, v5, none] ∧ Gr [p] I H I H' ∧ PoolOk I H' p ∧ H' d = some (.lst (vn ws)) ∧ ws.length = c ∧ i ≤ ws.sum ∧ ws.sum ≤ 2 * i ∧ ws.countP (fun w => decide (w ≠ 0)) ≤ i)
      (fun i σ' H' h => by obtain ⟨v4, v5, ws, _, gr, _⟩ := h; exact gr.ih)
      ⟨none, none, List.replicate c 0, rfl, (g1.mono fun _ z => nomatch z).trans g2, po2, h2, by simp, by simp, by simp, by simp⟩ (fun nx q i σ' H' hi h => ?_) (fun σ' H' h => ?_) ?_
    · obtain ⟨v4, v5, ws, rfl, gr, po3, h3, hl, w0, w1, wz⟩ := h
      refine ⟨_, rfl, _, rfl, I, p, c, rfl, gr.ih, po3, by omega, by omega, fun u H3 hu0 hu1 g3 po4 => ?_⟩
      obtain ⟨j, rfl⟩ := Int.eq_ofNat_of_zero_le hu0
      have hj : j < ws.length := by omega
      have h4 : H3 d = some (.lst (vn ws)) := g3.at h3 (by simpa using npd.symm)
      have hw : (vn ws)[j]? = some (.int (ws[j] : Nat)) := by rw [List.getElem?_map, List.getElem?_eq_getElem hj]; rfl
      refine ⟨_, rfl, _, rfl, _, _, _, _, rfl, rfl, SqL.of h4, at_of (j := j) rfl hw, _, _, rfl, rfl, _, rfl, I, p, 2, rfl, g3.ih, po4, by omega, by omega, fun u2 H4 hv0 hv1 g4 po5 => ⟨_, _, rfl, rfl, ?_⟩⟩
      obtain ⟨x, rfl⟩ := Int.eq_ofNat_of_zero_le hv0
      have h5 : H4 d = some (.lst (vn ws)) := g4.at h4 (by simpa using npd.symm)
      refine ⟨_, rfl, _, rfl, _, _, _, _, rfl, rfl, h5, (show ixN (vn ws).length (j : Int) = some j from ?_), ?_⟩
      · unfold ixN
        rw [if_pos (by omega), if_pos (by rw [List.length_map]; omega)]; rfl
      · have e : (vn ws).set j (.int (((ws[j] : Nat) : Int) + 1 + (x : Int))) = vn (ws.set j (ws[j] + 1 + x)) := by
          rw [vn, vn, List.map_set]; rfl
        have ss := sum_set (v := ws[j] + 1 + x) hj
        have zz := nz_set (v := ws[j] + 1 + x) hj
        have gg := (gr.trans g3).trans g4
        refine ⟨_, _, ws.set j (ws[j] + 1 + x), rfl, ((gg.mono (ns := [d, p]) fun _ z => List.mem_cons_of_mem _ z).trans (Gr.mut gg.ih hId List.mem_cons_self)).drop hd, po5.mutO npd hId, by rw [upd_same, ← e], by rw [List.length_set]; exact hl, by omega, by omega, by omega⟩
    · obtain ⟨v4, v5, ws, rfl, gr, po3, h3, hl, w0, w1, wz⟩ := h
      exact ⟨v4, v5, ws, rfl, gr, po3, h3, hl, by omega, by omega, by omega⟩
    · rintro σ' H' ⟨v4, v5, ws, rfl, gr, po3, h3, hl, w0, w1, wz⟩
      have g5 : Gr [p] I H (upd I d (.lst (vn ws))) H' := (gr.mono (ns := [d, p]) fun _ z => List.mem_cons_of_mem _ z).frz s0 hd h3
      have po6 : PoolOk (upd I d (.lst (vn ws))) H' p := po3.frzO npd hId
      have hW : (W : Nat) → True := fun _ => trivial
      refine ⟨_, rfl, d, rfl, ⟨_, SqL.of h3⟩, fun l hD => lc_wk (n := (vn ws).length) (xs := gv (vn ws)) [] iQ (fun i z => ∃ x, ws[i]? = some x ∧ z = rt (x : Nat) (ws.sum : Nat)) (fun _ _ => True) (wk_list (I := upd I d (.lst (vn ws))) upd_same) g5.ih hD (by simp) (lt_line (by simp; omega)) stb_true trivial (fun i I' H4 Nx Qk hi s1 s2 _ kk => ?_) (fun I' H4 ys zs g6 hD' b2 hz rl _ => ?_)⟩
      · have hi' : i < ws.length := by simpa using hi
        have hx : ws[i]? = some ws[i] := List.getElem?_eq_getElem hi'
        have ev : gv (vn ws) i = .int (ws[i] : Nat) := gv_of (by rw [List.getElem?_map, hx]; rfl)
        have hd4 : H4 d = some (.lst (vn ws)) := s2 _ _ (s1 _ _ upd_same)
        rw [ev]
        refine ⟨rfl, _, rfl, _, rfl, d, ws.map (fun n : Nat => (n : Int)), rfl, SqL.of (by rw [hd4, List.map_map]; rfl), ?_⟩
        rw [isum]
        exact ⟨I', _, _, rfl, s2, by omega, by have : (6 : Int) < 2 ^ 1999 := by decide
                                               omega, fun I5 H5 v5 g7 r7 => kk _ _ _ _ g7 trivial r7 ⟨_, hx, rfl⟩⟩
      · have e : zs = ws.map fun x : Nat => rt x (ws.sum : Nat) := map_of (by rw [hz]; simp) rl
        subst e
        exact k _ _ _ _ (g5.trans (g6.mono fun _ z => nomatch z)) (po6.up g6 (by simp)) ⟨l, ys, rfl, hD', b2⟩ (cells_of hl w0 w1 wz (by decide))
end
end K

set_option Elab.async false
set_option linter.all false
set_option maxRecDepth 100000
set_option maxHeartbeats 4000000
namespace Tk
open PySem PySem.Spec PyProof.Rows L2
section
variable {α β : Type} {K : PySem.W.Frag}
/-- a new list of what is made of each -/
theorem lc_map {J : It} {R : Rp α} {Sy : Rp β} [Mono R] [Mono Sy] (f : α → β) {vs : List V} {xs : List α} {I H1 : Hp} {g : TG} {tt : TT} {te : TE} {vz : List Nat} {σ : L2.St} {D : Addr} {Qd : Hp → Prop}
    (W : Wk J vs.length (gv vs) I) (a2 : All2 (R I) vs xs) (s0 : Same I H1) (hD : H1 D = none) (hn : xs.length < sizeLine)
    (step : ∀ (i : Nat) (x : α) (I' H' : Hp) (Nx : Hp → Prop) (Qk : VK), xs[i]? = some x → R I' (gv vs i) x → Same I I' → Same I' H' → (∀ I'' H'' y, Gr [] I' H' I'' H'' → Sy I'' y (f x) → Qk y H'') →
      g (gv vs i) (wipe σ vz) H' fun σ2 H2 => wipe σ2 vz = wipe σ vz ∧ tt σ2 H2 fun b H3 => if b = true then te σ2 H3 Qk else Nx H3)
    (hd : ∀ I' H', Gr [] I H1 I' H' → iL Sy I' (.ref D) (xs.map f) → Qd H') : LcR J g tt te vz σ H1 D Qd := by
  have hl := a2.len
  refine lc_wk [] Sy (fun i z => ∃ x, xs[i]? = some x ∧ z = f x) (fun _ _ => True) W s0 hD (by simp) (by rw [hl]; exact hn) stb_true trivial (fun i I' H' Nx Qk hi s1 s2 _ kk => ?_) (fun I' H' ys zs g1 hD' b2 hz rl _ => ?_)
  · obtain ⟨x, hx⟩ : ∃ x, xs[i]? = some x := ⟨xs[i]'(by omega), List.getElem?_eq_getElem (by omega)⟩
    exact step i x I' H' Nx Qk hx (up s1 (gv2 a2 hx)) s1 s2 fun I'' H'' y g2 sy => kk _ _ _ _ g2 trivial sy ⟨x, hx, rfl⟩
  · have e : zs = xs.map f := map_of (by rw [hz, hl]) rl
    subst e
    exact hd I' H' g1 ⟨D, ys, rfl, hD', b2⟩
theorem All2.cut {R : V → α → Prop} : ∀ {vs : List V} {xs : List α} (a n : Nat), All2 R vs xs → All2 R ((vs.drop a).take n) ((xs.drop a).take n)
  | _, _, a, n, .nil => by simp; exact .nil
  | v :: vs, x :: xs, 0, 0, .cons h t => by simp; exact .nil
  | v :: vs, x :: xs, 0, n + 1, .cons h t => by
    have := All2.cut 0 n t
    simp only [List.drop_zero] at this ⊢
    exact .cons h this
  | v :: vs, x :: xs, a + 1, n, .cons h t => by
    have := All2.cut a n t
    simpa using this
theorem cutV_nat {xs : List V} {a n : Nat} (h : a + n ≤ xs.length) : cutV xs (some (a : Int)) (some ((a : Int) + n)) = (xs.drop a).take n := by
  unfold cutV
  rw [show ((a : Int) + n) = ((a + n : Nat) : Int) from by omega, HT.sIx_nat, HT.sIx_nat]
  congr 1
  · omega
  · congr 1; omega
theorem slice_of {R : Rp α} [Mono R] {I H : Hp} {v : V} {xs : List α} {a n : Nat} {Q : VK} (h : iL R I v xs) (s : Same I H) (hn : a + n ≤ xs.length) (k : ∀ I' H' v', Gr [] I H I' H' → iL R I' v' ((xs.drop a).take n) → Q v' H') :
    rSlL K v (some (a : Int)) (some ((a : Int) + n)) H Q := by
  obtain ⟨p, vs, rfl, hp, a2⟩ := h
  refine ⟨p, vs, rfl, SqL.of (s _ _ hp), fun l hl => ?_⟩
  rw [cutV_nat (by rw [a2.len]; exact hn)]
  have g := Gr.new (ms := []) (o := .lst ((vs.drop a).take n)) s hl
  exact k _ _ _ g ⟨l, _, rfl, upd_same, (a2.cut a n).up g.ii⟩
end
end Tk
namespace Tk
open PySem PySem.Spec PyProof.Rows L2
theorem Gr.none {ms : List Addr} {I H I' H' : Hp} {a : Addr} (g : Gr ms I H I' H') (h : H' a = Option.none) : H a = Option.none := by
  cases e : H a with
  | none => rfl
  | some o => obtain ⟨o', e'⟩ := g.th a o e; rw [h] at e'; cases e'
end Tk
namespace Tk
open PySem PySem.Spec PyProof.Rows L2
section
variable {α β : Type} {K : PySem.W.Frag}
/-- over numbers, with tests; the list stays open -/
theorem lc_flt {lo : Int} {n : Nat} {I H1 : Hp} {g : TG} {tt : TT} {te : TE} {vz : List Nat} {σ : L2.St} {D : Addr} {Qd : Hp → Prop} (Sy : Rp β) [Mono Sy] (p : Nat → Bool) (f : Nat → β) (s0 : Same I H1) (hD : H1 D = none) (hn : n < sizeLine)
    (step : ∀ (i : Nat) (I' H' : Hp) (Nx : Hp → Prop) (Qk : VK), i < n → Same I I' → Same I' H' → (p i = true → ∀ I'' H'' y, Gr [] I' H' I'' H'' → Sy I'' y (f i) → Qk y H'') → (p i = false → Nx H') →
      g (.int (lo + i)) (wipe σ vz) H' fun σ2 H2 => wipe σ2 vz = wipe σ vz ∧ tt σ2 H2 fun b H3 => if b = true then te σ2 H3 Qk else Nx H3)
    (hd : ∀ I' H' ys, Gr [] I H1 I' H' → I' D = none → H' D = some (.lst ys) → All2 (Sy I') ys (((List.range n).filter p).map f) → Qd H') : LcR (Itr lo n) g tt te vz σ H1 D Qd := by
  let Mid : Nat → Hp → Prop := fun i H => ∃ I' ys, Gr [] I H1 I' H ∧ I' D = none ∧ H D = some (.lst ys) ∧ All2 (Sy I') ys (((List.range i).filter p).map f)
  refine ⟨fun i m H => m = n - i ∧ i ≤ n ∧ Mid i H, ⟨n, rfl, Nat.zero_le _, I, [], (Gr.tmp s0 hD), s0.free hD, upd_same, .nil⟩, ?_⟩
  rintro i m H ⟨rfl, hi, I', ys, gr, hI, hH, a2⟩
  by_cases hlt : i < n
  · refine .inr ⟨hlt, fun H' => i + 1 ≤ n ∧ Mid (i + 1) H', fun H' z => ⟨n - (i + 1), by omega, rfl, z.1, z.2⟩, fun x H' y => ?_⟩
    obtain ⟨rfl, rfl⟩ := y
    refine step i I' _ _ _ hlt gr.ii gr.ih (fun hp I'' H'' y g2 sy => ?_) (fun hp => ⟨hlt, I', ys, gr, hI, hH, ?_⟩)
    · have hD2 := g2.at hH (by simp)
      have hI2 := g2.out hI hH
      have ll : ys.length ≤ i := by
        rw [a2.len, List.length_map]
        exact Nat.le_trans (List.length_filter_le _ _) (by simp)
      refine ⟨ys, hD2, by omega, hlt, I'', ys ++ [y], ?_, hI2, upd_same, ?_⟩
      · have g3 := gr.trans g2
        exact ((g3.mono (ns := [D]) fun _ z => nomatch z).trans (Gr.mut g3.ih hI2 List.mem_cons_self)).drop hD
      · rw [List.range_succ, List.filter_append, List.filter_cons_of_pos hp, List.filter_nil, List.map_append]
        exact (a2.up g2.ii).snoc sy
    · rw [List.range_succ, List.filter_append, List.filter_cons_of_neg (by rw [hp]; exact Bool.false_ne_true), List.filter_nil, List.append_nil]
      exact a2
  · have e : i = n := by omega
    subst e
    exact .inl ⟨Nat.le_refl _, hd I' H ys gr hI hH a2⟩
theorem All2.unsnoc {R : V → α → Prop} : ∀ {xs : List α} {vs : List V} {x : α}, All2 R vs (xs ++ [x]) → ∃ us u, vs = us ++ [u] ∧ All2 R us xs ∧ R u x
  | [], _, x, .cons h .nil => ⟨[], _, rfl, .nil, h⟩
  | y :: r, _, x, .cons h t => by
    obtain ⟨us, u, rfl, t2, hu⟩ := All2.unsnoc t
    exact ⟨_ :: us, u, rfl, .cons h t2, hu⟩
end
end Tk
namespace Tk
open PySem PySem.Spec PyProof.Rows L2
theorem op_catAK {X : Cx} (K : PySem.W.Frag) (hK : X.K = K := by rfl) : OpR X (binaryOp .Add) (rCatA K) := hK ▸ op_catA
end Tk

set_option linter.all false
namespace Mt
structure BOk (n as : Nat) (p : List Rows) : Prop where
  l2 : p.length = as
  l3 : ∀ a, a < as → (gl p a).length = n
  l4 : ∀ a s, a < as → s < n → (gl (gl p a) s).length = n
  g1 : ∀ a s k, a < as → s < n → k < n → Gd 60 1 (gq (gl (gl p a) s) k)
  z : ∀ a s, a < as → s < n → nzl (gl (gl p a) s) ≤ 3
  s1 : ∀ s, s < n → S as (fun a => S n (gq (gl (gl p a) s))) = 1
theorem gl_range {α : Type} {n k : Nat} {f : Nat → List α} (h : k < n) : gl ((List.range n).map f) k = f k := gl_of (by rw [List.getElem?_map, List.getElem?_range h]; rfl)
theorem gl_map {α β : Type} {l : List (List α)} {k : Nat} {f : List α → List β} (h : k < l.length) : gl (l.map f) k = f (gl l k) := gl_of (by rw [List.getElem?_map, gl_lt h]; rfl)
def cuts (n as : Nat) (rows : Rows) : List Rows := (List.range as).map fun a => rows.map fun r => (r.drop (a * n)).take n
theorem blk_le {a as n : Nat} (h : a < as) : a * n + n ≤ as * n := by
  have := Nat.mul_le_mul_right n (show a + 1 ≤ as from h)
  rw [Nat.succ_mul] at this; exact this
theorem cuts_ok {n as : Nat} {rows : Rows} (hl : rows.length = n) (hc : ∀ r ∈ rows, Cells (as * n) r) : BOk n as (cuts n as rows) := by
  have row : ∀ s, s < n → Cells (as * n) (gl rows s) := fun s hs => hc _ (List.mem_of_getElem? (gl_lt (by omega)))
  have e1 : ∀ a, a < as → gl (cuts n as rows) a = rows.map fun r => (r.drop (a * n)).take n := fun a ha => gl_range ha
  have e2 : ∀ a s, a < as → s < n → gl (gl (cuts n as rows) a) s = ((gl rows s).drop (a * n)).take n := fun a s ha hs => by rw [e1 a ha, gl_map (by omega)]
  refine ⟨by unfold cuts; simp, fun a ha => by rw [e1 a ha, List.length_map, hl], fun a s ha hs => ?_, fun a s k ha hs hk => ?_, fun a s ha hs => ?_, fun s hs => ?_⟩
  · rw [e2 a s ha hs, List.length_take, List.length_drop, (row s hs).len]
    have := blk_le (n := n) ha
    omega
  · rw [e2 a s ha hs, cut_gq hk]
    refine (row s hs).gd _ (List.mem_of_getElem? (gq_lt ?_))
    rw [(row s hs).len]
    have := blk_le (n := n) ha
    omega
  · rw [e2 a s ha hs]
    exact Nat.le_trans (cut_nz _ _ _) (row s hs).nz
  · rw [← (row s hs).tot, ← cut_sum (row s hs).len]
    exact S_congr fun a ha => by rw [e2 a s ha hs]
theorem mpk_of {n bs as : Nat} {st : List Rat} {ms : List (List Rows)} (n0 : 0 < n) (n1 : n ≤ 12) (b0 : 0 < bs) (b1 : bs ≤ 4) (a0 : 0 < as) (a1 : as ≤ 4) (hs : Cells n st) (hl : ms.length = bs) (hb : ∀ b, b < bs → BOk n as (gl ms b)) : MPk 0 (st, ms) n bs as :=
  ⟨n0, n1, b0, b1, a0, a1, hs.len, hl, fun b h => (hb b h).l2, fun b a h h2 => (hb b h).l3 a h2, fun b a s h h2 h3 => (hb b h).l4 a s h2 h3, fun s h => hs.gd _ (List.mem_of_getElem? (gq_lt (by rw [hs.len]; exact h))),
    fun b a s k h h2 h3 h4 => (hb b h).g1 a s k h2 h3 h4, hs.tot, fun b s h h2 => (hb b h).s1 s h2⟩
theorem MPk.n1' {k : Nat} {M : Ma} {n bs as : Nat} (h : MPk k M n bs as) : n ≤ 12 := h.n1
theorem MPk.up {k : Nat} {M : Ma} {n bs as : Nat} (h : MPk k M n bs as) {j : Nat} (l : k ≤ j) : MPk j M n bs as := by
  obtain ⟨d, rfl⟩ := Nat.exists_eq_add_of_le l
  have s : ∀ {q : Rat}, Gd (60 * 6 ^ k) 1 q → Gd (60 * 6 ^ (k + d)) 1 q := fun {q} g => by
    have := g.scale (M := 6 ^ d) (Nat.pow_pos (by decide))
    rw [Nat.mul_assoc, ← Nat.pow_add] at this
    exact this
  exact { h with g0 := fun x hx => s (h.g0 x hx), g1 := fun b a x y h1 h2 h3 h4 => s (h.g1 b a x y h1 h2 h3 h4) }
theorem MPk.ok {k : Nat} {M : Ma} {n bs as : Nat} (h : MPk k M n bs as) (l : k ≤ 2) : MOk M n bs as := by
  have h2 := h.up l
  have s : ∀ {q : Rat}, Gd (60 * 6 ^ 2) 1 q → Gd 2160 1 q := fun {q} g => g
  exact { h2 with g0 := fun x hx => s (h2.g0 x hx), g1 := fun b a x y h1 h2' h3 h4 => s (h2.g1 b a x y h1 h2' h3 h4) }
theorem gl_snoc_lt {α : Type} {l : List (List α)} {x : List α} {i : Nat} (h : i < l.length) : gl (l ++ [x]) i = gl l i := gl_of (by rw [List.getElem?_append_left h]; exact gl_lt h)
theorem gl_snoc {α : Type} {l : List (List α)} {x : List α} : gl (l ++ [x]) l.length = x := gl_of (by simp)
end Mt

set_option Elab.async false
set_option linter.all false
set_option maxRecDepth 100000
set_option maxHeartbeats 4000000
set_option exponentiation.threshold 5000
namespace K
open PySem PySem.Spec PyProof.Rows L2 Tk Hd Mt
section
variable {P : Program} {w : World} {K : PySem.W.Frag} {mg : Str → Option Value} {base : Heap}
/-- the law's own machines -/
def iLM : Rp Ma := fun H v M => ∃ a x y, v = .ref a ∧ H a = some (.tup [x, y]) ∧ iL iQ H x M.1 ∧ iL (iL (iL (iL iQ))) H y M.2
instance : Mono iLM := ⟨fun s ⟨a, x, y, e, h, p, q⟩ => ⟨a, x, y, e, s _ _ h, up s p, up s q⟩⟩
def spLM : Sp := fun vs H Q _ => ∃ (I : Hp) (p : Addr) (n bs as : Nat), vs = [.ref p, .int n, .int bs, .int as] ∧ Same I H ∧ PoolOk I H p ∧ (0 < n ∧ n ≤ 12) ∧ (0 < bs ∧ bs ≤ 4) ∧ (0 < as ∧ as ≤ 4) ∧
  ∀ I' H' v M, Gr [p] I H I' H' → PoolOk I' H' p → iLM I' v M → MPk 0 M n bs as → Q v H'
theorem sc_lmach : FnScope ["pool", "states", "buttons", "answers", "start", "moves", "button", "rows", "state", "row", "answer"] ["pool", "states", "buttons", "answers"] (defScope s__law_machine) := ⟨rfl, rfl, rfl, by decide +kernel, rfl, by decide +kernel, by decide +kernel⟩
theorem stb_pool {p l : Addr} (n : p ≠ l) : Stb (fun I H => PoolOk I H p) l := ⟨fun hI h => h.mutO n hI, fun hI h => h.frzO n hI⟩
theorem ok_lmach (D : Dt K mg) : Has P w K mg base 3 (He.ga K "_law_machine") ["pool", "states", "buttons", "answers"] [] spLM := by
  obtain ⟨fd, F⟩ := fd__law_machine D
  have H__law_cells := ok_cells (P := P) (w := w) (base := base) D
  refine hasN F (F.bindsN fun _ _ _ _ _ _ us hl => match us, hl with | [_, _, _, _], _ => rfl) sc_lmach (fun vs H Q E h => ?_) (fun cdv A outer s H vs Q E hr h => ?_)
  · obtain ⟨I, p, n, bs, as, rfl, _⟩ := h; rfl
  · obtain ⟨I, p, n, bs, as, rfl, s0, po, ⟨n0, n1⟩, ⟨b0, b1⟩, ⟨a0, a1⟩, k⟩ := h
    refine ⟨_, (pss_cons (ps_set (i := 4) sc_lmach.nd rfl (Or.inl rfl) (pe_callH H__law_cells (hr.mono (by decide)) rfl (glo__law_cells D) passL (pa_cons (pv 0) (pa_cons (pv 1) (pa_cons pe_int pa_nil)))))
      (pss_cons (ps_set (i := 5) sc_lmach.nd rfl (Or.inl rfl) (pe_lst pa_nil))
      (pss_cons (ps_for PassesOwn.never rfl (pi_range1 rfl (free_range D) (pa_cons (pv 2) pa_nil)) (pg_name (i := 6) sc_lmach.nd rfl (Or.inl rfl))
      (pss_cons (ps_set (i := 7) sc_lmach.nd rfl (Or.inr rfl) (pe_lc (own := [("state", 8)]) (g := gName 8) rfl sc_lmach.nd (pi_range1 rfl (free_range D) (pa_cons (pv 1) pa_nil)) (blkOk_by (own := [("state", 8)]) (N := ["pool", "states", "buttons", "answers", "start", "moves", "button", "rows", "state", "row", "answer"]) (by kernel_rfl)) (fun _ _ _ _ _ => (pg_name (i := 8) sc_lmach.nd rfl (Or.inl rfl))) (fun _ _ _ _ _ => pts_nil) (fun _ _ _ _ _ => (pe_callH H__law_cells (hr.mono (by decide)) rfl (glo__law_cells D) passL (pa_cons (pv 0) (pa_cons (pe_op op_mul (pv 3) (pv 1)) (pa_cons pe_int pa_nil)))))))
      (pss_one (ps_expr (pe_bm PySem.F.plainAttrs_list PySem.F.slot_list_append PySem.F.type_list_append mt_append (pv 5) (pa_cons (pe_lc (own := [("answer", 10)]) (g := gName 10) rfl sc_lmach.nd (pi_range1 rfl (free_range D) (pa_cons (pv 3) pa_nil)) (blkOk_by (own := [("answer", 10)]) (N := ["pool", "states", "buttons", "answers", "start", "moves", "button", "rows", "state", "row", "answer"]) (by kernel_rfl)) (fun _ _ _ _ _ => (pg_name (i := 10) sc_lmach.nd rfl (Or.inr rfl))) (fun _ _ _ _ _ => pts_nil) (fun _ _ _ _ _ => (pe_lc (own := [("row", 9)]) (g := gName 9) rfl sc_lmach.nd (pi_listK K (pv 7)) (blkOk_by (own := [("row", 9)]) (N := ["pool", "states", "buttons", "answers", "start", "moves", "button", "rows", "state", "row", "answer"]) (by kernel_rfl)) (fun _ _ _ _ _ => (pg_name (i := 9) sc_lmach.nd rfl (Or.inl rfl))) (fun _ _ _ _ _ => pts_nil) (fun _ _ _ _ _ => (pe_slice (sl_listK K) (pv 9) (po_some (pe_op op_mul (pv 10) (pv 1))) (po_some (pe_op op_add (pe_op op_mul (pv 10) (pv 1)) (pv 1)))))))) pa_nil))))))
      (pss_one (ps_ret (pe_tup (pa_cons (pv 4) (pa_cons (pv 5) pa_nil)))))))), ?_⟩
    have an : as * n ≤ 4 * 12 := Nat.mul_le_mul a1 n1
    have an0 : 0 < as * n := Nat.mul_pos a0 n0
    (try dsimp only)
    refine seq_cut (fun σ' H1 => ∃ (I1 : Hp) (sv : V) (st : List Rat), σ' = [some (.ref p), some (.int n), some (.int bs), some (.int as), some sv, none, none, none, none, none, none] ∧ Gr [p] I H I1 H1 ∧ PoolOk I1 H1 p ∧ iL iQ I1 sv st ∧ Cells n st) (fun nx q => ?_) ?_
    · refine ⟨_, rfl, _, rfl, I, p, n, 2, rfl, s0, po, n0, by omega, by decide, by decide, fun I1 H1 v qs g1 po1 r1 c1 => ?_⟩
      exact q _ _ ⟨I1, v, qs, rfl, g1, po1, r1, c1⟩
    rintro σ' H1 ⟨I1, sv, st, rfl, g1, po1, r1, cst⟩
    (try dsimp only)
    refine seq_cut (fun σ' H2 => ∃ L, σ' = [some (.ref p), some (.int n), some (.int bs), some (.int as), some sv, some (.ref L), none, none, none, none, none] ∧ H1 L = none ∧ H2 = upd H1 L (.lst [])) (fun nx q => ?_) ?_
    · exact ⟨(by show 0 ≤ sizeLine; decide), fun L hL => q _ _ ⟨L, rfl, hL, rfl⟩⟩
    rintro σ' H2 ⟨L, rfl, hL, rfl⟩
    (try dsimp only)
    have npL := po1.ne hL
    have hL0 := g1.none hL
    have hI1L := g1.ih.free hL
    have gL : Gr [p] I H I1 (upd H1 L (.lst [])) := g1.trans (Gr.tmp g1.ih hL)
    refine ⟨_, rfl, bs, rfl, by omega, by omega, ?_⟩
    rw [Int.toNat_natCast]
    refine for_wk (wk_range (I := I1))
      (fun σ' H' => ∃ (I' : Hp) (v6 v7 : Option V) (ys : List V) (ms : List (List Rows)), σ' = [some (.ref p), some (.int n), some (.int bs), some (.int as), some sv, some (.ref L), v6, v7, none, none, none] ∧ Gr [p] I H I' H' ∧ Same I1 I' ∧ PoolOk I' H' p ∧ I' L = none ∧ H' L = some (.lst ys) ∧ All2 (iL (iL (iL iQ)) I') ys ms ∧ ms.length = bs ∧ ∀ b, b < bs → BOk n as (gl ms b))
      (fun i σ' H' => ∃ (I' : Hp) (v6 v7 : Option V) (ys : List V) (ms : List (List Rows)), σ' = [some (.ref p), some (.int n), some (.int bs), some (.int as), some sv, some (.ref L), v6, v7, none, none, none] ∧ Gr [p] I H I' H' ∧ Same I1 I' ∧ PoolOk I' H' p ∧ I' L = none ∧ H' L = some (.lst ys) ∧ All2 (iL (iL (iL iQ)) I') ys ms ∧ ms.length = i ∧ ∀ b, b < i → BOk n as (gl ms b))
      (fun i σ' H' h => by obtain ⟨I', v6, v7, ys, ms, _, gr, s, _⟩ := h; exact s.trans gr.ih)
      ⟨I1, none, none, [], [], rfl, gL, Same.refl _, po1.mutO npL hI1L, hI1L, upd_same, .nil, rfl, fun b hb => absurd hb (by omega)⟩ (fun nx q i σ' H' hi h => ?_) (fun σ' H' h => h) ?_
    · obtain ⟨I', v6, v7, ys, ms, rfl, gr, s1, po2, hLI, hLH, a2, hl, ok⟩ := h
      (try dsimp only)
      refine seq_cut (fun σ' H2 => ∃ (I2 : Hp) (v6 : Option V) (lr : Addr) (rows : Rows), σ' = [some (.ref p), some (.int n), some (.int bs), some (.int as), some sv, some (.ref L), v6, some (.ref lr), none, none, none] ∧ Gr [p] I' H' I2 H2 ∧ PoolOk I2 H2 p ∧ iL (iL iQ) I2 (.ref lr) rows ∧ rows.length = n ∧ ∀ r ∈ rows, Cells (as * n) r) (fun nx q => ?_) ?_
      · refine ⟨_, rfl, n, rfl, by omega, by omega, fun l hD => ?_⟩
        rw [Int.toNat_natCast]
        have npl := po2.ne hD
        refine lc_wk [p] (iL iQ) (fun i z => Cells (as * n) z) (fun I H => PoolOk I H p) (wk_range (I := I')) gr.ih hD (by simpa using npl.symm) (lt_line (by omega)) (stb_pool npl) po2 (fun j I3 H3 Nx Qk hj s2 s3 pj kk => ?_) (fun I3 H3 ys zs g3 hD' b2 hz rl pj => ?_)
        · refine ⟨rfl, _, rfl, _, rfl, _, rfl, _, _, rfl, rfl, mulc (by omega) (by omega), I3, p, as * n, 3, by rw [Int.natCast_mul]; rfl, s3, pj, an0, by omega, by decide, by decide, fun I4 H4 v qs g4 po4 r4 c4 => kk _ _ _ _ g4 po4 r4 c4⟩
        · exact q _ _ ⟨I3, _, l, zs, rfl, g3, pj, ⟨l, ys, rfl, hD', b2⟩, hz, fun r hr => by
            obtain ⟨j, hj, e⟩ := List.getElem_of_mem hr
            rw [← e]; exact rl j _ (List.getElem?_eq_getElem hj)⟩
      rintro σ' H2 ⟨I2, v6, lr, rows, rfl, g2, po3, rr, hrl, hrc⟩
      (try dsimp only)
      have hLH2 : H2 L = some (.lst ys) := g2.at hLH (by simpa using npL.symm)
      have hLI2 := g2.out hLI hLH
      refine ⟨_, rfl, .inl ⟨rfl, _, SqL.of hLH2⟩, _, rfl, as, rfl, by omega, by omega, fun l hD => ?_⟩
      rw [Int.toNat_natCast]
      have nLl : L ≠ l := ne_of_none hLH2 hD
      refine lc_range1 (iL (iL iQ)) (fun a => rows.map fun r => (r.drop (a * n)).take n) g2.ih hD (lt_line (by omega)) (fun a I3 H3 Nx Qk ha s2 s3 kk => ?_) (fun I3 H3 g3 r3 => ?_)
      · obtain ⟨_, vs, er, hr, b2⟩ := up s2 rr
        cases er
        refine ⟨rfl, _, rfl, lr, rfl, ⟨_, SqL.of (s3 _ _ hr)⟩, fun l2 hD2 => lc_map (R := iL iQ) (Sy := iL iQ) (fun r => (r.drop (a * n)).take n) (wk_list hr) b2 s3 hD2 (lt_line (by omega)) (fun j r I4 H4 Nx4 Qk4 hj rj s4 s5 ke => ?_) (fun I4 H4 g4 r4 => kk _ _ _ g4 r4)⟩
        have e : (0 + (a : Int)) * (n : Int) = ((a * n : Nat) : Int) := by rw [Int.zero_add, Int.natCast_mul]
        have hlr := (hrc r (List.mem_of_getElem? hj)).len
        refine ⟨rfl, _, rfl, _, rfl, _, rfl, _, _, rfl, rfl, mulc (by omega) (by omega), _, rfl, _, rfl, _, rfl, _, _, rfl, rfl, mulc (by omega) (by omega), _, rfl, _, _, rfl, rfl, _, rfl, ?_⟩
        rw [e]
        exact slice_of rj s5 (by rw [hlr]; exact blk_le ha) ke
      · have hLH3 : H3 L = some (.lst ys) := g3.at hLH2 (by simp)
        have hLI3 := g3.out hLI2 hLH2
        refine ⟨L, ys, _, rfl, rfl, hLH3, lt_line (by rw [a2.len]; omega), ?_⟩
        have gg := (gr.trans g2).trans (g3.mono (ns := [p]) fun _ z => nomatch z)
        have po5 := po3.up g3 (by simp)
        refine ⟨I3, _, _, ys ++ [.ref l], ms ++ [cuts n as rows], rfl, ((gg.mono (ns := [L, p]) fun _ z => List.mem_cons_of_mem _ z).trans (Gr.mut gg.ih hLI3 List.mem_cons_self)).drop hL0, (s1.trans g2.ii).trans g3.ii, po5.mutO npL hLI3, hLI3, upd_same, ((a2.up g2.ii).up g3.ii).snoc r3, by rw [List.length_append, hl]; rfl, fun b hb => ?_⟩
        by_cases h : b < i
        · rw [gl_snoc_lt (by omega)]; exact ok b h
        · have e : b = ms.length := by omega
          rw [e, gl_snoc]
          exact cuts_ok hrl hrc
    · rintro σ' H' ⟨I', v6, v7, ys, ms, rfl, gr, s1, po2, hLI, hLH, a2, hl, ok⟩
      have g5 : Gr [p] I H (upd I' L (.lst ys)) H' := (gr.mono (ns := [L, p]) fun _ z => List.mem_cons_of_mem _ z).frz s0 hL0 hLH
      refine ⟨_, rfl, _, rfl, (by show 2 ≤ sizeLine; decide), fun t ht => ?_⟩
      have g6 := Gr.new (ms := []) (o := .tup [sv, .ref L]) g5.ih ht
      have po6 := (po2.frzO (o := .lst ys) npL hLI).up g6 (by simp)
      refine k _ _ _ (st, ms) (g5.trans (g6.mono fun _ z => nomatch z)) po6 ⟨t, _, _, rfl, upd_same, up ((s1.trans (sNew hLI)).trans g6.ii) r1, L, ys, rfl, g6.ii _ _ upd_same, ?_⟩ (mpk_of n0 n1 b0 b1 a0 a1 cst hl ok)
      exact (a2.up (sNew hLI)).up g6.ii
end
end K

set_option Elab.async false
set_option linter.all false
set_option maxRecDepth 100000
set_option maxHeartbeats 4000000
set_option exponentiation.threshold 5000
namespace K
open PySem PySem.Spec PyProof.Rows L2 Tk Hd Mt
section
variable {P : Program} {w : World} {K : PySem.W.Frag} {mg : Str → Option Value} {base : Heap}
def spMade (C C2 : Addr) : Sp := fun vs H Q _ => ∃ (I : Hp) (v : V) (M : Ma) (n bs as : Nat), vs = [v] ∧ Same I H ∧ iLM I v M ∧ MOk M n bs as ∧ Ret [] I H (iM C C2) M Q
theorem sc_lmade : FnScope ["machine", "start", "moves", "made", "num", "den", "line", "rows", "answers"] ["machine"] (defScope s__law_made) := ⟨rfl, rfl, rfl, by decide +kernel, rfl, by decide +kernel, by decide +kernel⟩
theorem sm_den {q : Rat} (h : Gd 2160 1 q) : Sm (q.den : Int) := by
  have := h.size.2
  exact sm_of (by omega) (by have : (2160 : Int) < 2 ^ 1999 := by decide
                             omega)
theorem iA_of {α : Type} {R S : Rp α} {H : Hp} (h : ∀ v x, R H v x → S H v x) {v : V} {xs : List α} : iL R H v xs → iA S H v xs := by
  rintro ⟨a, vs, e, ha, a2⟩
  exact ⟨a, vs, e, .inl ha, a2.imp h⟩
theorem ok_lmade (D : Dt K mg) : Has P w K mg base 10 (He.ga K "_law_made") ["machine"] [] (spMade (CR K) (CM K)) := by
  obtain ⟨fd, F⟩ := fd__law_made D
  have H_Ratio_init := has_init (P := P) (w := w) (base := base) D
  have H_Machine_init := ok_minit (P := P) (w := w) (base := base) D
  refine hasN F (F.bindsN fun _ _ _ _ _ _ us hl => match us, hl with | [_], _ => rfl) sc_lmade (fun vs H Q E h => ?_) (fun cdv A outer s H vs Q E hr h => ?_)
  · obtain ⟨I, v, M, n, bs, as, rfl, _⟩ := h; rfl
  · obtain ⟨I, vm, M, n, bs, as, rfl, s0, ⟨a, x, y, rfl, ha, rx, ry⟩, ok, k⟩ := h
    obtain ⟨ax, xs, rfl, hx, x2⟩ := id rx
    obtain ⟨ay, ys, rfl, hy, y2⟩ := id ry
    have b1 := ok.b1
    have a1 := ok.a1
    have n1 := ok.n1
    have l0 := ok.l0
    have l1 := ok.l1
    refine ⟨_, (pss_cons (ps_asg (pv 0) (pg_tupK K rfl (pgs_cons (pg_name (i := 1) sc_lmade.nd rfl (Or.inl rfl)) (pgs_cons (pg_name (i := 2) sc_lmade.nd rfl (Or.inl rfl)) pgs_nil))))
      (pss_cons (ps_setLc (own := [("answers", 8)]) (g := gName 8) (i := 3) rfl sc_lmade.nd rfl rfl (sw_true rfl rfl rfl (by decide +kernel)) (pi_listK K (pv 2)) (blkOk_by (own := [("answers", 8)]) (N := ["machine", "start", "moves", "made", "num", "den", "line", "rows", "answers"]) (by kernel_rfl)) (fun _ _ _ _ _ => (pg_name (i := 8) sc_lmade.nd rfl (Or.inl rfl))) (fun _ _ _ _ _ => pts_nil) (fun _ _ _ _ _ => (pe_lc (own := [("rows", 7)]) (g := gName 7) rfl sc_lmade.nd (pi_listK K (pv 8)) (blkOk_by (own := [("rows", 7)]) (N := ["machine", "start", "moves", "made", "num", "den", "line", "rows", "answers"]) (by kernel_rfl)) (fun _ _ _ _ _ => (pg_name (i := 7) sc_lmade.nd rfl (Or.inl rfl))) (fun _ _ _ _ _ => pts_nil) (fun _ _ _ _ _ => (pe_lc (own := [("line", 6)]) (g := gName 6) rfl sc_lmade.nd (pi_listK K (pv 7)) (blkOk_by (own := [("line", 6)]) (N := ["machine", "start", "moves", "made", "num", "den", "line", "rows", "answers"]) (by kernel_rfl)) (fun _ _ _ _ _ => (pg_name (i := 6) sc_lmade.nd rfl (Or.inl rfl))) (fun _ _ _ _ _ => pts_nil) (fun _ _ _ _ _ => (pe_lc (own := [("num", 4), ("den", 5)]) (g := gTup K 2 (gCons (gName 4) (gCons (gName 5) gNil))) rfl sc_lmade.nd (pi_listK K (pv 6)) (blkOk_by (own := [("num", 4), ("den", 5)]) (N := ["machine", "start", "moves", "made", "num", "den", "line", "rows", "answers"]) (by kernel_rfl)) (fun _ _ _ _ _ => (pg_tupK K rfl (pgs_cons (pg_name (i := 4) sc_lmade.nd rfl (Or.inl rfl)) (pgs_cons (pg_name (i := 5) sc_lmade.nd rfl (Or.inl rfl)) pgs_nil)))) (fun _ _ _ _ _ => pts_nil) (fun _ _ _ _ _ => (pe_makeH (mkr_Ratio (K := K) D) H_Ratio_init (hr.mono (by decide)) rfl (glo_Ratio D) passL (pa_cons (pv 4) (pa_cons (pv 5) pa_nil)))))))))))
      (pss_one (ps_ret (pe_makeH (mkr_Machine (K := K) D) H_Machine_init (hr.mono (by decide)) rfl (glo_Machine D) passL (pa_cons (pe_lc (own := [("num", 4), ("den", 5)]) (g := gTup K 2 (gCons (gName 4) (gCons (gName 5) gNil))) rfl sc_lmade.nd (pi_listK K (pv 1)) (blkOk_by (own := [("num", 4), ("den", 5)]) (N := ["machine", "start", "moves", "made", "num", "den", "line", "rows", "answers"]) (by kernel_rfl)) (fun _ _ _ _ _ => (pg_tupK K rfl (pgs_cons (pg_name (i := 4) sc_lmade.nd rfl (Or.inl rfl)) (pgs_cons (pg_name (i := 5) sc_lmade.nd rfl (Or.inl rfl)) pgs_nil)))) (fun _ _ _ _ _ => pts_nil) (fun _ _ _ _ _ => (pe_makeH (mkr_Ratio (K := K) D) H_Ratio_init (hr.mono (by decide)) rfl (glo_Ratio D) passL (pa_cons (pv 4) (pa_cons (pv 5) pa_nil))))) (pa_cons (pv 3) pa_nil))))))), ?_⟩
    refine ⟨_, rfl, a, _, rfl, SqT.of (s0 _ _ ha), rfl, _, _, rfl, _, _, rfl, rfl, ?_⟩
    (try dsimp only)
    refine seq_cut (fun σ' H1 => ∃ (I1 : Hp) (mv : V), σ' = [some (.ref a), some (.ref ax), some (.ref ay), some mv, none, none, none, none, none] ∧ Gr [] I H I1 H1 ∧ iL (iL (iL (iL (iR (CR K))))) I1 mv M.2) (fun nx q => ?_) ?_
    · refine ⟨_, rfl, ay, rfl, ⟨_, SqL.of (s0 _ _ hy)⟩, fun l hD => lc_id (R := iL (iL (iL iQ))) (Sy := iL (iL (iL (iR (CR K))))) (wk_list hy) y2 s0 hD (lt_line (by omega)) (fun i p I1 H1 Nx1 Qk1 hi rp s1 k1 => ?_) (fun I1 H1 g1 r1 => q _ _ ⟨I1, _, rfl, g1, r1⟩)⟩
      obtain ⟨b, hb, rfl⟩ := mem_gl (List.mem_of_getElem? hi)
      obtain ⟨c, zs, ec, hc, c2⟩ := id rp
      have l2 := ok.l2 b (by omega)
      rw [ec]
      refine ⟨rfl, _, rfl, c, rfl, ⟨_, SqL.of (s1 _ _ hc)⟩, fun l hD => lc_id (R := iL (iL iQ)) (Sy := iL (iL (iR (CR K)))) (wk_list hc) c2 s1 hD (lt_line (by omega)) (fun j p I2 H2 Nx2 Qk2 hj rp s2 k2 => ?_) (fun I2 H2 g2 r2 => k1 _ _ _ g2 r2)⟩
      obtain ⟨e, he, rfl⟩ := mem_gl (List.mem_of_getElem? hj)
      obtain ⟨d, ws, ed, hd, d2⟩ := id rp
      have l3 := ok.l3 b e (by omega) (by omega)
      rw [ed]
      refine ⟨rfl, _, rfl, d, rfl, ⟨_, SqL.of (s2 _ _ hd)⟩, fun l hD => lc_id (R := iL iQ) (Sy := iL (iR (CR K))) (wk_list hd) d2 s2 hD (lt_line (by omega)) (fun u p I3 H3 Nx3 Qk3 hu rp s3 k3 => ?_) (fun I3 H3 g3 r3 => k2 _ _ _ g3 r3)⟩
      obtain ⟨f, hf, rfl⟩ := mem_gl (List.mem_of_getElem? hu)
      obtain ⟨t, vs, et, ht, t2⟩ := id rp
      have l4 := ok.l4 b e f (by omega) (by omega) (by omega)
      rw [et]
      refine ⟨rfl, _, rfl, t, rfl, ⟨_, SqL.of (s3 _ _ ht)⟩, fun l hD => lc_id (R := iQ) (Sy := iR (CR K)) (wk_list ht) t2 s3 hD (lt_line (by omega)) (fun m q I4 H4 Nx4 Qk4 hm rq s4 k4 => ?_) (fun I4 H4 g4 r4 => k3 _ _ _ g4 r4)⟩
      obtain ⟨m', hm', rfl⟩ := mem_gq (List.mem_of_getElem? hm)
      obtain ⟨o, eo, ho⟩ := rq
      have gd : Gd 2160 1 (gq (gl (gl (gl M.2 b) e) f) m') := ok.g1 b e f m' (by omega) (by omega) (by omega) (by omega)
      generalize gq (gl (gl (gl M.2 b) e) f) m' = q at gd k4 ho hm
      rw [eo]
      refine ⟨o, _, rfl, SqT.of (s4 _ _ ho), rfl, _, _, rfl, _, _, rfl, rfl, rfl, _, rfl, _, rfl, fun x dx nx nd ne => ⟨x, dx, _, _, rfl, upd_same, sm_den gd, fun _ => ⟨rfl, ?_⟩, fun h => absurd h (Int.not_le.mpr (den_pos _))⟩⟩
      obtain ⟨gn, rn⟩ := rat_new (ms := []) (C := CR K) (q := rt q.num q.den) s4 nx nd ne
      rw [rt_self] at gn rn
      have z := k4 _ _ _ gn rn
      rw [rt_self]
      exact z
    rintro σ' H1 ⟨I1, mv, rfl, g1, r1⟩
    have hx1 := g1.ii _ _ hx
    refine ⟨_, rfl, ax, rfl, ⟨_, SqL.of (g1.ih _ _ hx1)⟩, fun l hD => lc_id (R := iQ) (Sy := iR (CR K)) (wk_list hx1) (x2.up g1.ii) g1.ih hD (lt_line (by omega)) (fun m q I4 H4 Nx4 Qk4 hm rq s4 k4 => ?_) (fun I4 H4 g4 r4 => ?_)⟩
    · obtain ⟨m', hm', rfl⟩ := mem_gq (List.mem_of_getElem? hm)
      obtain ⟨o, eo, ho⟩ := rq
      have gd := ok.g0 m' (by omega)
      rw [eo]
      refine ⟨o, _, rfl, SqT.of (s4 _ _ ho), rfl, _, _, rfl, _, _, rfl, rfl, rfl, _, rfl, _, rfl, fun x dx nx nd ne => ⟨x, dx, _, _, rfl, upd_same, sm_den gd, fun _ => ⟨rfl, ?_⟩, fun h => absurd h (Int.not_le.mpr (den_pos _))⟩⟩
      obtain ⟨gn, rn⟩ := rat_new (ms := []) (C := CR K) (q := rt (gq M.1 m').num (gq M.1 m').den) s4 nx nd ne
      rw [rt_self] at gn rn
      have z := k4 _ _ _ gn rn
      rw [rt_self]
      exact z
    · refine ⟨_, rfl, fun x dx nx nd ne => ?_⟩
      have h1 : upd H4 dx (.own x) x = none := by rw [upd_ne (Ne.symm ne)]; exact nx
      have gd := Gr.new (ms := []) (o := .own x) g4.ih nd
      refine ⟨upd I4 dx (.own x), x, dx, _, _, M, n, bs, as, rfl, sUnder gd.ih (gd.ih.free h1), gd.ih.free h1, upd_same, iA.l (up gd.ii r4), iA_of (fun _ _ => iA_of fun _ _ => iA_of fun _ _ => iA.l) (up gd.ii (up g4.ii r1)), ok, fun I5 H5 va vb g5 h5 p1 p2 => ⟨rfl, ?_⟩⟩
      · obtain ⟨g6, r6⟩ := mach_new g4.ih nx nd ne g5 h5 p1 p2
        exact k _ _ _ ((g1.trans g4).trans g6) r6
end
end K

set_option Elab.async false
set_option linter.all false
set_option maxRecDepth 100000
set_option maxHeartbeats 4000000
/-! Words, numbers and names as they are read; the mathematics of decimal texts. -/
namespace Rd
open PySem PyProof.Rows TL
/-! decimal texts -/
def dec (n : Nat) : Str := Str.ofString (toString ((n : Nat) : Int))
theorem tl_dec (n : Nat) : tl (dec n) = numL n := tl_num n
theorem dec_inj {m n : Nat} (h : dec m = dec n) : m = n := numL_inj (by rw [← tl_dec, ← tl_dec, h])
theorem ext_dec {w : Str} {n : Nat} (h : tl w = numL n) : w = dec n := ext_tl (by rw [h, tl_dec])
theorem numL_len_step {n : Nat} (h : 10 ≤ n) : (numL n).length = (numL (n / 10)).length + 1 := by rw [numL_step h]; simp
theorem numL_mono : ∀ (n m : Nat), n ≤ m → (numL n).length ≤ (numL m).length := by
  intro n
  induction n using Nat.strongRecOn with
  | _ n ih =>
    intro m h
    by_cases hn : n < 10
    · rw [numL_lt hn]
      have := List.length_pos_iff.mpr (numL_ne m)
      show 1 ≤ _; omega
    · rw [numL_len_step (by omega), numL_len_step (n := m) (by omega)]
      have := ih (n / 10) (by omega) (m / 10) (by omega)
      omega
theorem numL_head : ∀ (n : Nat), 0 < n → ∀ c r, numL n = c :: r → c ≠ 48 := by
  intro n
  induction n using Nat.strongRecOn with
  | _ n ih =>
    intro h c r e
    by_cases hn : n < 10
    · rw [numL_lt hn] at e
      injection e with e1 e2
      omega
    · rw [numL_step (by omega)] at e
      cases q : numL (n / 10) with
      | nil => exact absurd q (numL_ne _)
      | cons d s =>
        rw [q] at e
        injection e with e1 e2
        exact e1 ▸ ih (n / 10) (by omega) (by omega) d s q
theorem numL_zero : numL 0 = [48] := numL_lt (by decide)
theorem snocInd {α : Type} {P : List α → Prop} (h0 : P []) (hs : ∀ l a, P l → P (l ++ [a])) (l : List α) : P l := by
  have : ∀ m : List α, P m.reverse := by
    intro m
    induction m with
    | nil => exact h0
    | cons a m ih => rw [List.reverse_cons]; exact hs _ _ ih
  have := this l.reverse
  rwa [List.reverse_reverse] at this
def dv (l : List Nat) : Nat := NumText.digitsVal l
theorem dv_snoc (l : List Nat) (c : Nat) : dv (l ++ [c]) = dv l * 10 + (c - 48) := by
  unfold dv NumText.digitsVal; rw [List.foldl_append]; rfl
theorem dv_pos : ∀ (l : List Nat) (c : Nat), NumText.AllDigits (c :: l) → c ≠ 48 → 0 < dv (c :: l) := by
  intro l
  induction l using snocInd with
  | h0 =>
    intro c h hc
    have := h.head
    show 0 < 0 * 10 + (c - 48)
    omega
  | hs l d ih =>
    intro c h hc
    rw [← List.cons_append, dv_snoc]
    have := ih c (fun x hx => h x (by rw [← List.cons_append]; exact List.mem_append_left _ hx)) hc
    omega
/-- digits without a leading zero are a number's -/
theorem numL_dv : ∀ (l : List Nat) (c : Nat), NumText.AllDigits (c :: l) → (c ≠ 48 ∨ l = []) → numL (dv (c :: l)) = c :: l := by
  intro l
  induction l using snocInd with
  | h0 =>
    intro c h _
    have := h.head
    have e : dv [c] = c - 48 := by show 0 * 10 + (c - 48) = _; omega
    rw [e, numL_lt (by omega)]
    have : 48 + (c - 48) = c := by omega
    rw [this]
  | hs l d ih =>
    intro c h hc
    have hc : c ≠ 48 := by
      rcases hc with h | h
      · exact h
      · simp at h
    have hd := h d (by simp)
    have h1 : NumText.AllDigits (c :: l) := fun x hx => h x (by rw [← List.cons_append]; exact List.mem_append_left _ hx)
    have hp := dv_pos l c h1 hc
    rw [← List.cons_append, dv_snoc, numL_step (by omega)]
    have e1 : (dv (c :: l) * 10 + (d - 48)) / 10 = dv (c :: l) := by omega
    have e2 : 48 + (dv (c :: l) * 10 + (d - 48)) % 10 = d := by omega
    rw [e1, e2, ih c h1 (.inl hc)]
/-! numbers that words write -/
def isDig (c : Nat) : Bool := decide (48 ≤ c) && decide (c ≤ 57)
theorem isDig_iff {c : Nat} : isDig c = true ↔ 48 ≤ c ∧ c ≤ 57 := by unfold isDig; simp
theorem all_dig {l : List Nat} : l.all isDig = true ↔ NumText.AllDigits l := by
  rw [List.all_eq_true]; exact ⟨fun h c hc => isDig_iff.mp (h c hc), fun h c hc => isDig_iff.mpr (h c hc)⟩
def numOf (w : Str) (most : Nat) : Option Nat := if tl w = numL (dv (tl w)) ∧ dv (tl w) ≤ most then some (dv (tl w)) else none
theorem numOf_some {w : Str} {most n : Nat} : numOf w most = some n ↔ w = dec n ∧ n ≤ most := by
  unfold numOf
  constructor
  · intro h
    split at h
    · rename_i c
      cases h
      exact ⟨ext_dec c.1, c.2⟩
    · cases h
  · rintro ⟨rfl, h⟩
    have e : dv (tl (dec n)) = n := by rw [tl_dec]; exact numL_val n
    rw [e, tl_dec, if_pos ⟨rfl, h⟩]
theorem numOf_dec {most n : Nat} (h : n ≤ most) : numOf (dec n) most = some n := numOf_some.mpr ⟨rfl, h⟩
theorem numOf_none {w : Str} {most : Nat} : numOf w most = none ↔ ∀ n, n ≤ most → w ≠ dec n := by
  constructor
  · intro h n hn e
    rw [e, numOf_dec hn] at h; cases h
  · intro h
    cases e : numOf w most with
    | none => rfl
    | some n => obtain ⟨e1, e2⟩ := numOf_some.mp e; exact absurd e1 (h n e2)
/-- as number_of asks -/
theorem numOf_long {w : Str} {most : Nat} (h : w.length > (dec most).length) : numOf w most = none :=
  numOf_none.mpr fun n hn e => by
    have := numL_mono n most hn
    rw [e, len_tl, len_tl, tl_dec, tl_dec] at h
    omega
theorem numOf_digs {w : Str} {most : Nat} (h : ¬ (tl w ≠ [] ∧ (tl w).all isDig = true)) : numOf w most = none :=
  numOf_none.mpr fun n hn e => h (by rw [e, tl_dec]; exact ⟨numL_ne n, all_dig.mpr (numL_digits n)⟩)
theorem numOf_lead {w : Str} {most : Nat} {r : List Nat} (h : tl w = 48 :: r) (hr : r ≠ []) : numOf w most = none :=
  numOf_none.mpr fun n hn e => by
    rw [e, tl_dec] at h
    by_cases h0 : n = 0
    · subst h0; rw [numL_zero] at h; injection h with _ h2; exact hr h2.symm
    · exact numL_head n (by omega) _ _ h rfl
theorem numOf_else {w : Str} {most c : Nat} {r : List Nat} (h : tl w = c :: r) (hd : (tl w).all isDig = true) (hc : c ≠ 48 ∨ r = []) : numOf w most = if dv (tl w) ≤ most then some (dv (tl w)) else none := by
  unfold numOf
  have e := numL_dv r c (by rw [← h]; exact all_dig.mp hd) hc
  rw [← h] at e
  by_cases k : dv (tl w) ≤ most
  · rw [if_pos ⟨e.symm, k⟩, if_pos k]
  · rw [if_neg (fun z => k z.2), if_neg k]
theorem numOf_empty {most : Nat} : numOf Str.empty most = none := numOf_digs (fun h => h.1 rfl)
/-! characters -/
theorem uni_digit : ∀ c, c < 128 → Unicode.isDigit c = isDig c := by decide +kernel
theorem uni_alpha : ∀ c, c < 128 → Unicode.isAlpha c = (decide (65 ≤ c) && decide (c ≤ 90) || decide (97 ≤ c) && decide (c ≤ 122)) := by decide +kernel
theorem uni_lower : ∀ c, c < 128 → Unicode.isLower c = (decide (97 ≤ c) && decide (c ≤ 122)) := by decide +kernel
theorem uni_upper : ∀ c, c < 128 → (Unicode.isUpper c || Unicode.isTitle c) = (decide (65 ≤ c) && decide (c ≤ 90)) := by decide +kernel
theorem ascii_digit (w : Str) : (Txt.isascii w && Txt.isdigit w) = (decide (tl w ≠ []) && (tl w).all isDig) := by
  unfold Txt.isascii Txt.isdigit
  rw [← Array.all_toList, ← Array.all_toList]
  rw [show w.length = (tl w).length from len_tl w]
  show ((tl w).all _ && (decide ((tl w).length > 0) && (tl w).all _)) = _
  rw [Bool.eq_iff_iff]
  simp only [Bool.and_eq_true, List.all_eq_true, decide_eq_true_eq, isDig_iff]
  constructor
  · rintro ⟨h1, h2, h3⟩
    refine ⟨List.length_pos_iff.mp h2, fun c hc => ?_⟩
    have := h3 c hc
    rw [uni_digit c (h1 c hc)] at this
    exact isDig_iff.mp this
  · rintro ⟨h1, h2⟩
    refine ⟨fun c hc => ?_, List.length_pos_iff.mpr h1, fun c hc => ?_⟩
    · have := h2 c hc; omega
    · have := h2 c hc
      rw [uni_digit c (by omega)]; exact isDig_iff.mpr this
def isLow (c : Nat) : Bool := decide (97 ≤ c) && decide (c ≤ 122)
theorem isLow_iff {c : Nat} : isLow c = true ↔ 97 ≤ c ∧ c ≤ 122 := by unfold isLow; simp
theorem ascii_lower (w : Str) : (Txt.isascii w && (Txt.isalpha w && Txt.islower w)) = (decide (tl w ≠ []) && (tl w).all isLow) := by
  unfold Txt.isascii Txt.isalpha Txt.islower
  rw [← Array.all_toList, ← Array.all_toList, ← Array.any_toList, ← Array.any_toList]
  rw [show w.length = (tl w).length from len_tl w]
  show ((tl w).all _ && ((decide ((tl w).length > 0) && (tl w).all _) && ((tl w).any _ && !(tl w).any _))) = _
  rw [Bool.eq_iff_iff]
  simp only [Bool.and_eq_true, List.all_eq_true, List.any_eq_true, decide_eq_true_eq, Bool.not_eq_true', isLow_iff]
  constructor
  · rintro ⟨h1, ⟨h2, h3⟩, h4, h5⟩
    refine ⟨List.length_pos_iff.mp h2, fun c hc => ?_⟩
    have a := h3 c hc
    rw [uni_alpha c (h1 c hc)] at a
    have b := List.any_eq_false.mp h5 c hc
    rw [uni_upper c (h1 c hc)] at b
    simp only [Bool.or_eq_true, Bool.and_eq_true, decide_eq_true_eq] at a b
    omega
  · rintro ⟨h1, h2⟩
    have h128 : ∀ c ∈ tl w, c < 128 := fun c hc => by have := h2 c hc; omega
    refine ⟨h128, ⟨List.length_pos_iff.mpr h1, fun c hc => ?_⟩, ?_, ?_⟩
    · have := h2 c hc
      rw [uni_alpha c (h128 c hc)]; simp; omega
    · cases e : tl w with
      | nil => exact absurd e h1
      | cons c r =>
        have hc : c ∈ tl w := by rw [e]; exact List.mem_cons_self
        refine ⟨c, List.mem_cons_self, ?_⟩
        rw [uni_lower c (h128 c hc)]; simpa using h2 c hc
    · refine List.any_eq_false.mpr fun c hc => ?_
      rw [uni_upper c (h128 c hc)]
      have := h2 c hc
      simp; omega
/-! a word that begins with a sign -/
theorem starts1 (w : Str) (y : Str) (c : Nat) (hy : tl y = [c]) : Txt.startswith w y = ((tl w).head? == some c) := by
  unfold Txt.startswith
  rw [PySem.StrLaws.subAt_eq]
  have hl : y.length = 1 := by rw [len_tl, hy]; rfl
  rw [hl, len_tl]
  show (decide (0 + 1 ≤ (tl w).length) && ((tl w).drop 0).take 1 == tl y) = _
  rw [hy, List.drop_zero]
  cases tl w with
  | nil => rfl
  | cons d r => simp
end Rd

set_option Elab.async false
set_option linter.all false
set_option maxRecDepth 100000
set_option maxHeartbeats 4000000
/-! Reading the words of a box, as a function. -/
namespace Rd
open PySem PyProof.Rows TL
inductive Ex where
  | num (n : Nat) | var (x : Str) | press | op (o : Str) (a b : Ex)
  deriving DecidableEq
inductive Stm where
  | set (x : Str) (e : Ex) | draw (x : Str) (n : Nat) | use (x : Str) (e : Ex) | say (e : Ex) | ite (e : Ex) (s t : List Stm)
structure Bx where
  buttons : Nat
  answers : Nat
  vars : List (Str × Nat)
  start : List Stm
  block : List Stm
def ops : List Str := ["+", "-", "*", "/", "mod", "<", "="]
def sts : List Str := ["set", "draw", "use", "say", "if"]
def resv : List Str := ["buttons", "answers", "var", "start", "press", "set", "draw", "use", "say", "if", "else", "end", "mod"]
def isName (w : Str) : Bool := decide (w.length ≤ 8) && decide (w ∉ resv) && (decide (tl w ≠ []) && (tl w).all isLow)
/-- where the reader is -/
structure RS where
  pos : Nat
  vars : List (Str × Nat)
  draws : Nat
  uses : Nat
  pressed : Bool
inductive Res (α : Type) where
  | ok (x : α) (r : RS)
  | bad (n : Nat)
def Res.bind {α β : Type} (x : Res α) (f : α → RS → Res β) : Res β := match x with
  | .ok a r => f a r
  | .bad n => .bad n
theorem bind_ok {α β : Type} {x : Res α} {f : α → RS → Res β} {y : β} {r : RS} (h : x.bind f = .ok y r) : ∃ a r1, x = .ok a r1 ∧ f a r1 = .ok y r := by
  cases x with
  | ok a r1 => exact ⟨a, r1, rfl, h⟩
  | bad n => cases h
section
variable (ws : List Str)
def here (r : RS) : Str := ws.getD r.pos Str.empty
def RS.go (r : RS) : RS := { r with pos := r.pos + 1 }
def hasV (r : RS) (w : Str) : Bool := decide (w ∈ r.vars.map (·.1))
def takeR (w : Str) (r : RS) : Res Unit := if here ws r = w then .ok () r.go else .bad r.pos
def numR (lo hi : Nat) (r : RS) : Res Nat := match numOf (here ws r) hi with
  | some n => if lo ≤ n then .ok n r.go else .bad r.pos
  | none => .bad r.pos
def newR (r : RS) : Res Str := if isName (here ws r) = true ∧ hasV r (here ws r) = false then .ok (here ws r) r.go else .bad r.pos
def varR (r : RS) : Res Str := if hasV r (here ws r) = true then .ok (here ws r) r.go else .bad r.pos
def leafOf (r : RS) (w : Str) : Option Ex := match numOf w 65535 with
  | some n => some (.num n)
  | none => if hasV r w = true then some (.var w) else if w = "press" ∧ r.pressed = true then some .press else none
def leafR (r : RS) : Res Ex := match leafOf r (here ws r) with
  | some e => .ok e r.go
  | none => .bad r.pos
def exR : Nat → RS → Res Ex
  | 0, r => leafR ws r
  | k + 1, r => if here ws r ∈ ops then (exR k r.go).bind fun a r1 => (exR k r1).bind fun b r2 => .ok (.op (here ws r) a b) r2 else leafR ws r
variable (ar : Bool)
def mayR (w : Str) (d : Nat) (r : RS) : Bool :=
  if w = "if" then decide (d < 4) else if w = "say" then r.pressed else if w = "draw" ∧ 3 ≤ r.draws then false else
  if w = "use" ∧ (ar = false ∨ 24 ≤ r.uses) then false else decide (w ∈ (["set", "draw", "use"] : List Str)) && decide (0 < r.vars.length)
def stmtR (ch : RS → Res Stm) (r : RS) : Res Stm :=
  if here ws r = "if" then ch r.go else if here ws r = "say" then (exR ws 4 r.go).bind fun e r1 => .ok (.say e) r1 else
  (varR ws r.go).bind fun x r1 =>
    if here ws r = "draw" then (numR ws 1 6 { r1 with draws := r1.draws + 1 }).bind fun n r2 => .ok (.draw x n) r2 else
    if here ws r = "use" then (exR ws 4 { r1 with uses := r1.uses + 1 }).bind fun e r2 => .ok (.use x e) r2 else
    (exR ws 4 r1).bind fun e r2 => .ok (.set x e) r2
def loopR (d : Nat) (ch : RS → Res Stm) : Nat → List Stm → RS → Res (List Stm)
  | 0, acc, r => .ok acc r
  | n + 1, acc, r => if mayR ar (here ws r) d r = true then (stmtR ws ch r).bind fun s r1 => loopR d ch n (acc ++ [s]) r1 else .ok acc r
def stmtsR (d : Nat) (ch : RS → Res Stm) (r : RS) : Res (List Stm) := loopR ws ar d ch (ws.length + 1) [] r
def choice1 (d : Nat) (ch : RS → Res Stm) (r : RS) : Res Stm :=
  (exR ws 4 r).bind fun e r1 => (stmtsR ws ar d ch r1).bind fun s r2 =>
    if here ws r2 = "else" ∧ sts.any (fun w => mayR ar w d r2) = true then
      (stmtsR ws ar d ch r2.go).bind fun t r3 => if t.length = 0 then .bad r3.pos else (takeR ws "end" r3).bind fun _ r4 => .ok (.ite e s t) r4
    else (takeR ws "end" r2).bind fun _ r4 => .ok (.ite e s []) r4
/-- choices of the depth 4 - k -/
def choiceR : Nat → RS → Res Stm
  | 0 => choice1 ws ar 4 (fun r => .bad r.pos)
  | k + 1 => choice1 ws ar (4 - (k + 1)) (choiceR k)
/-- the statements inside 4 - k ifs -/
def blockR : Nat → RS → Res (List Stm)
  | 0 => stmtsR ws ar 4 (fun r => .bad r.pos)
  | k + 1 => stmtsR ws ar (4 - (k + 1)) (choiceR ws ar k)
def varsR : Nat → RS → Res Unit
  | 0, r => .ok () r
  | n + 1, r => if here ws r = "var" then (newR ws r.go).bind fun x r1 => (numR ws 1 12 r1).bind fun m r2 => varsR n { r2 with vars := r2.vars ++ [(x, m)] } else .ok () r
def r0 : RS := ⟨0, [], 0, 0, false⟩
def readR : Res Bx :=
  (takeR ws "buttons" r0).bind fun _ r => (numR ws 1 4 r).bind fun b r => (takeR ws "answers" r).bind fun _ r => (numR ws 1 4 r).bind fun a r =>
  (varsR ws 4 r).bind fun _ r => (takeR ws "start" r).bind fun _ r => (blockR ws ar 4 r).bind fun s r => (takeR ws "press" r).bind fun _ r =>
  (blockR ws ar 4 { r with pressed := true }).bind fun t r => if r.pos < ws.length then .bad r.pos else .ok ⟨b, a, r.vars, s, t⟩ r
end
/-! the words of a box -/
def wd (s : String) : Str := s
def Ex.words : Ex → List Str
  | .num n => [dec n]
  | .var x => [x]
  | .press => [wd "press"]
  | .op o a b => o :: (a.words ++ b.words)
mutual
def Stm.words : Stm → List Str
  | .set x e => wd "set" :: x :: e.words
  | .draw x n => [wd "draw", x, dec n]
  | .use x e => wd "use" :: x :: e.words
  | .say e => wd "say" :: e.words
  | .ite e s t => wd "if" :: (e.words ++ (blockWords s ++ ((if t.isEmpty = true then [] else wd "else" :: blockWords t) ++ [wd "end"])))
def blockWords : List Stm → List Str
  | [] => []
  | s :: r => s.words ++ blockWords r
end
def varWords : List (Str × Nat) → List Str
  | [] => []
  | (x, n) :: r => wd "var" :: x :: dec n :: varWords r
def Bx.words (b : Bx) : List Str := wd "buttons" :: dec b.buttons :: wd "answers" :: dec b.answers :: (varWords b.vars ++ wd "start" :: (blockWords b.start ++ wd "press" :: blockWords b.block))
end Rd

set_option Elab.async false
set_option linter.all false
set_option maxRecDepth 100000
set_option maxHeartbeats 4000000
/-! The words of a box that is right are read as that box. -/
namespace Rd
open PySem PyProof.Rows TL
/-! lists -/
theorem drop_at {α : Type} {l m : List α} {i : Nat} {x : α} (h : l.drop i = x :: m) : l[i]? = some x ∧ l.drop (i + 1) = m ∧ i < l.length := by
  have hl : i < l.length := by
    by_cases q : i < l.length
    · exact q
    · rw [List.drop_eq_nil_of_le (by omega)] at h; cases h
  rw [List.drop_eq_getElem_cons hl] at h
  injection h with h1 h2
  exact ⟨by rw [List.getElem?_eq_getElem hl, h1], h2, hl⟩
theorem drop_app {α : Type} {l m n : List α} {i : Nat} (h : l.drop i = m ++ n) : l.drop (i + m.length) = n := by
  rw [← List.drop_drop, h, List.drop_left]
theorem drop_len {α : Type} {l m : List α} {i : Nat} (h : l.drop i = m) (hm : m ≠ []) : i + m.length = l.length := by
  have := congrArg List.length h
  rw [List.length_drop] at this
  have : 0 < m.length := List.length_pos_iff.mpr hm
  omega
section
variable {ws : List Str} {ar : Bool}
theorem here_of {r : RS} {x : Str} {m : List Str} (h : ws.drop r.pos = x :: m) : here ws r = x := by
  unfold here; rw [List.getD_eq_getElem?_getD, (drop_at h).1]; rfl
theorem here_end {r : RS} (h : ws.drop r.pos = []) : here ws r = Str.empty := by
  unfold here; rw [List.getD_eq_getElem?_getD, List.getElem?_eq_none (by simpa using h)]; rfl
theorem go_drop {r : RS} {x : Str} {m : List Str} (h : ws.drop r.pos = x :: m) : ws.drop r.go.pos = m := (drop_at h).2.1
end
theorem bind_mk {α β : Type} {a : α} {r : RS} {f : α → RS → Res β} : (Res.ok a r).bind f = f a r := rfl
/-! what is right -/
def NmOk (vs : List (Str × Nat)) : Prop := ∀ p ∈ vs, isName p.1 = true
def okEx (nm : List Str) (pr : Bool) : Nat → Ex → Prop
  | _, .num n => n ≤ 65535
  | _, .var x => x ∈ nm
  | _, .press => pr = true
  | 0, .op _ _ _ => False
  | k + 1, .op o a b => o ∈ ops ∧ okEx nm pr k a ∧ okEx nm pr k b
mutual
def okSt (nm : List Str) (pr ar : Bool) (k : Nat) : Stm → Prop
  | .set x e => x ∈ nm ∧ okEx nm pr 4 e
  | .draw x n => x ∈ nm ∧ 1 ≤ n ∧ n ≤ 6
  | .use x e => ar = true ∧ x ∈ nm ∧ okEx nm pr 4 e
  | .say e => pr = true ∧ okEx nm pr 4 e
  | .ite e s t => 0 < k ∧ okEx nm pr 4 e ∧ okBl nm pr ar (k - 1) s ∧ okBl nm pr ar (k - 1) t
def okBl (nm : List Str) (pr ar : Bool) (k : Nat) : List Stm → Prop
  | [] => True
  | s :: r => okSt nm pr ar k s ∧ okBl nm pr ar k r
end
mutual
def nd : Stm → Nat
  | .draw _ _ => 1
  | .ite _ s t => nds s + nds t
  | _ => 0
def nds : List Stm → Nat
  | [] => 0
  | s :: r => nd s + nds r
end
mutual
def nu : Stm → Nat
  | .use _ _ => 1
  | .ite _ s t => nus s + nus t
  | _ => 0
def nus : List Stm → Nat
  | [] => 0
  | s :: r => nu s + nus r
end
theorem name_facts {x : Str} (h : isName x = true) : x.length ≤ 8 ∧ x ∉ resv ∧ tl x ≠ [] ∧ (∀ c ∈ tl x, 97 ≤ c ∧ c ≤ 122) := by
  unfold isName at h
  simp only [Bool.and_eq_true, decide_eq_true_eq, List.all_eq_true, isLow_iff] at h
  exact ⟨h.1.1, h.1.2, h.2.1, h.2.2⟩
theorem name_num {x : Str} {m : Nat} (h : isName x = true) : numOf x m = none := by
  obtain ⟨_, _, h1, h2⟩ := name_facts h
  refine numOf_digs fun z => ?_
  cases e : tl x with
  | nil => exact h1 e
  | cons c r =>
    have a := h2 c (by rw [e]; exact List.mem_cons_self)
    have b := isDig_iff.mp (List.all_eq_true.mp z.2 c (by rw [e]; exact List.mem_cons_self))
    omega
theorem name_low {x y : Str} (h : isName x = true) {c : Nat} {r : List Nat} (e : tl y = c :: r) (hc : ¬ (97 ≤ c ∧ c ≤ 122)) : x ≠ y := fun z => by
  subst z
  exact hc ((name_facts h).2.2.2 c (by rw [e]; exact List.mem_cons_self))
theorem name_ops {x : Str} (h : isName x = true) : x ∉ ops := fun z => by
  have r := (name_facts h).2.1
  have e : ∀ y ∈ ops, y ∈ resv ∨ ∃ c q, tl y = c :: q ∧ ¬ (97 ≤ c ∧ c ≤ 122) := by
    intro y hy
    simp only [ops, List.mem_cons, List.not_mem_nil, or_false] at hy
    rcases hy with rfl | rfl | rfl | rfl | rfl | rfl | rfl
    · exact .inr ⟨43, [], by decide +kernel, by omega⟩
    · exact .inr ⟨45, [], by decide +kernel, by omega⟩
    · exact .inr ⟨42, [], by decide +kernel, by omega⟩
    · exact .inr ⟨47, [], by decide +kernel, by omega⟩
    · exact .inl (by decide +kernel)
    · exact .inr ⟨60, [], by decide +kernel, by omega⟩
    · exact .inr ⟨61, [], by decide +kernel, by omega⟩
  rcases e x z with q | ⟨c, q, e1, e2⟩
  · exact r q
  · exact name_low h e1 e2 rfl
theorem dec_ops (n : Nat) : dec n ∉ ops := fun z => by
  have hd := numL_digits n
  have hn := numL_ne n
  have e : ∀ y ∈ ops, ∃ c q, tl y = c :: q ∧ ¬ (48 ≤ c ∧ c ≤ 57) := by
    intro y hy
    simp only [ops, List.mem_cons, List.not_mem_nil, or_false] at hy
    rcases hy with rfl | rfl | rfl | rfl | rfl | rfl | rfl
    · exact ⟨43, [], by decide +kernel, by omega⟩
    · exact ⟨45, [], by decide +kernel, by omega⟩
    · exact ⟨42, [], by decide +kernel, by omega⟩
    · exact ⟨47, [], by decide +kernel, by omega⟩
    · exact ⟨109, [111, 100], by decide +kernel, by omega⟩
    · exact ⟨60, [], by decide +kernel, by omega⟩
    · exact ⟨61, [], by decide +kernel, by omega⟩
  obtain ⟨c, q, e1, e2⟩ := e _ z
  rw [tl_dec] at e1
  exact e2 (hd c (by rw [e1]; exact List.mem_cons_self))
theorem press_num {m : Nat} : numOf (wd "press") m = none := by
  refine numOf_digs fun z => ?_
  have : ¬ ((tl (wd "press")).all isDig = true) := by decide +kernel
  exact this z.2
theorem press_ops : wd "press" ∉ ops := by decide +kernel
theorem press_resv : wd "press" ∈ resv := by decide +kernel
/-! expressions -/
def advE (r : RS) (e : Ex) : RS := { r with pos := r.pos + e.words.length }
section
variable {ws : List Str} {ar : Bool}
theorem hasV_iff {r : RS} {x : Str} : hasV r x = true ↔ x ∈ r.vars.map (·.1) := by unfold hasV; simp
theorem not_var {r : RS} (hn : NmOk r.vars) {x : Str} (h : isName x = false) : hasV r x = false := by
  cases e : hasV r x with
  | false => rfl
  | true =>
    obtain ⟨p, hp, rfl⟩ := List.mem_map.mp (hasV_iff.mp e)
    rw [hn p hp] at h; cases h
theorem leaf_of {r : RS} (hn : NmOk r.vars) : ∀ {k : Nat} {e : Ex}, okEx (r.vars.map (·.1)) r.pressed k e → (∀ o a b, e ≠ .op o a b) → ∃ x, e.words = [x] ∧ x ∉ ops ∧ leafOf r x = some e := by
  intro k e h hne
  cases e with
  | num n =>
    have h : n ≤ 65535 := by cases k <;> exact h
    refine ⟨dec n, rfl, dec_ops n, ?_⟩
    unfold leafOf; rw [numOf_dec h]
  | var x =>
    have h : x ∈ r.vars.map (·.1) := by cases k <;> exact h
    obtain ⟨p, hp, rfl⟩ := List.mem_map.mp h
    refine ⟨p.1, rfl, name_ops (hn p hp), ?_⟩
    unfold leafOf; rw [name_num (hn p hp)]
    show (if hasV r p.1 = true then _ else _) = _
    rw [if_pos (hasV_iff.mpr h)]
  | press =>
    have h : r.pressed = true := by cases k <;> exact h
    refine ⟨wd "press", rfl, press_ops, ?_⟩
    unfold leafOf; rw [press_num]
    show (if hasV r (wd "press") = true then _ else _) = _
    rw [not_var hn (by decide +kernel), if_neg Bool.false_ne_true, if_pos ⟨rfl, h⟩]
  | op o a b => exact absurd rfl (hne o a b)
theorem exR_words : ∀ (k : Nat) (e : Ex) (r : RS) (rest : List Str), NmOk r.vars → okEx (r.vars.map (·.1)) r.pressed k e → ws.drop r.pos = e.words ++ rest → exR ws k r = .ok e (advE r e) := by
  have leaf : ∀ (e : Ex) (k : Nat) (r : RS) (rest : List Str), NmOk r.vars → okEx (r.vars.map (·.1)) r.pressed k e → (∀ o a b, e ≠ .op o a b) → ws.drop r.pos = e.words ++ rest → here ws r ∉ ops ∧ leafR ws r = .ok e (advE r e) := by
    intro e k r rest hn h hne hd
    obtain ⟨x, e1, e2, e3⟩ := leaf_of hn h hne
    rw [e1] at hd
    have hh := here_of (m := rest) hd
    refine ⟨by rw [hh]; exact e2, ?_⟩
    unfold leafR advE; rw [hh, e3, e1]; rfl
  intro k
  induction k with
  | zero =>
    intro e r rest hn h hd
    cases e with
    | op o a b => exact absurd h id
    | num n => exact (leaf _ 0 r rest hn h (by intros; intro z; cases z) hd).2
    | var n => exact (leaf _ 0 r rest hn h (by intros; intro z; cases z) hd).2
    | press => exact (leaf _ 0 r rest hn h (by intros; intro z; cases z) hd).2
  | succ k ih =>
    intro e r rest hn h hd
    have other : (∀ o a b, e ≠ .op o a b) → exR ws (k + 1) r = .ok e (advE r e) := fun hne => by
      obtain ⟨h1, h2⟩ := leaf e (k + 1) r rest hn h hne hd
      unfold exR; rw [if_neg h1]; exact h2
    cases e with
    | num n => exact other (by intros; intro z; cases z)
    | var n => exact other (by intros; intro z; cases z)
    | press => exact other (by intros; intro z; cases z)
    | op o a b =>
      obtain ⟨h1, h2, h3⟩ := h
      have hd' : ws.drop r.pos = o :: (a.words ++ (b.words ++ rest)) := by rw [hd]; simp [Ex.words]
      have hh := here_of hd'
      have d1 := go_drop hd'
      unfold exR
      rw [hh, if_pos h1, ih a r.go _ hn h2 d1]
      have d2 : ws.drop (advE r.go a).pos = b.words ++ rest := drop_app d1
      show ((exR ws k (advE r.go a)).bind _) = _
      rw [ih b (advE r.go a) _ hn h3 d2]
      show Res.ok _ _ = Res.ok _ _
      congr 1
      unfold advE RS.go
      rw [show (Ex.op o a b).words = o :: (a.words ++ b.words) from rfl]
      simp only [RS.mk.injEq, and_true, true_and, List.length_cons, List.length_append]
      omega
/-! statements -/
def advS (r : RS) (s : Stm) : RS := { r with pos := r.pos + s.words.length, draws := r.draws + nd s, uses := r.uses + nu s }
def advB (r : RS) (l : List Stm) : RS := { r with pos := r.pos + (blockWords l).length, draws := r.draws + nds l, uses := r.uses + nus l }
def chAt (ws : List Str) (ar : Bool) : Nat → RS → Res Stm
  | 0 => fun r => .bad r.pos
  | k + 1 => choiceR ws ar k
theorem choiceR_eq (k : Nat) : choiceR ws ar k = choice1 ws ar (4 - k) (chAt ws ar k) := by cases k <;> rfl
theorem blockR_eq (k : Nat) : blockR ws ar k = stmtsR ws ar (4 - k) (chAt ws ar k) := by cases k <;> rfl
def firstW : Stm → Str
  | .set _ _ => wd "set" | .draw _ _ => wd "draw" | .use _ _ => wd "use" | .say _ => wd "say" | .ite _ _ _ => wd "if"
theorem words_first (s : Stm) : ∃ m, s.words = firstW s :: m := by cases s <;> exact ⟨_, rfl⟩
theorem words_pos (s : Stm) : 0 < s.words.length := by obtain ⟨m, e⟩ := words_first s; rw [e]; simp
theorem len_le_words : ∀ l : List Stm, l.length ≤ (blockWords l).length
  | [] => Nat.le_refl _
  | s :: r => by
    have := words_pos s
    have := len_le_words r
    simp only [blockWords, List.length_cons, List.length_append]; omega
theorem may_set {r : RS} {d : Nat} : mayR ar (wd "set") d r = decide (0 < r.vars.length) := by
  unfold mayR
  rw [if_neg (by decide +kernel), if_neg (by decide +kernel), if_neg (by rintro ⟨a, _⟩; revert a; decide +kernel), if_neg (by rintro ⟨a, _⟩; revert a; decide +kernel),
    show decide (wd "set" ∈ (["set", "draw", "use"] : List Str)) = true by decide +kernel, Bool.true_and]
theorem may_draw {r : RS} {d : Nat} : mayR ar (wd "draw") d r = (decide (r.draws < 3) && decide (0 < r.vars.length)) := by
  unfold mayR
  rw [if_neg (by decide +kernel), if_neg (by decide +kernel)]
  by_cases h : 3 ≤ r.draws
  · rw [if_pos ⟨rfl, h⟩, decide_eq_false (by omega : ¬ r.draws < 3)]; rfl
  · rw [if_neg (fun z => h z.2), if_neg (by rintro ⟨a, _⟩; revert a; decide +kernel), decide_eq_true (by omega : r.draws < 3), show decide (wd "draw" ∈ (["set", "draw", "use"] : List Str)) = true by decide +kernel]
theorem may_use {r : RS} {d : Nat} : mayR ar (wd "use") d r = (ar && (decide (r.uses < 24) && decide (0 < r.vars.length))) := by
  unfold mayR
  rw [if_neg (by decide +kernel), if_neg (by decide +kernel), if_neg (by rintro ⟨a, _⟩; revert a; decide +kernel)]
  cases ar with
  | false => rw [if_pos ⟨rfl, .inl rfl⟩]; rfl
  | true =>
    by_cases h : 24 ≤ r.uses
    · rw [if_pos ⟨rfl, .inr h⟩, decide_eq_false (by omega : ¬ r.uses < 24)]; rfl
    · rw [if_neg (by rintro ⟨_, a | a⟩; · cases a
                     · exact h a), decide_eq_true (by omega : r.uses < 24), show decide (wd "use" ∈ (["set", "draw", "use"] : List Str)) = true by decide +kernel]; rfl
theorem may_say {r : RS} {d : Nat} : mayR ar (wd "say") d r = r.pressed := by
  unfold mayR
  rw [if_neg (by decide +kernel), if_pos (show wd "say" = Str.ofString "say" from rfl)]
theorem may_if {r : RS} {d : Nat} : mayR ar (wd "if") d r = decide (d < 4) := by
  unfold mayR
  rw [if_pos (show wd "if" = Str.ofString "if" from rfl)]
theorem may_not {r : RS} {d : Nat} {w : Str} (h : w ∉ sts) : mayR ar w d r = false := by
  have e : ∀ y : Str, y ∈ sts → w ≠ y := fun y hy z => h (z ▸ hy)
  unfold mayR
  rw [if_neg (e "if" (by decide +kernel)), if_neg (e "say" (by decide +kernel)), if_neg (fun z => e "draw" (by decide +kernel) z.1), if_neg (fun z => e "use" (by decide +kernel) z.1)]
  rw [decide_eq_false]; · rfl
  intro z
  simp only [List.mem_cons, List.not_mem_nil, or_false] at z
  rcases z with z | z | z
  · exact e "set" (by decide +kernel) z
  · exact e "draw" (by decide +kernel) z
  · exact e "use" (by decide +kernel) z
theorem vars_pos {r : RS} {x : Str} (h : x ∈ r.vars.map (·.1)) : 0 < r.vars.length := by
  have := List.length_pos_of_mem h
  simpa using this
theorem may_first {r : RS} {k : Nat} (hk : k ≤ 4) : ∀ {s : Stm}, okSt (r.vars.map (·.1)) r.pressed ar k s → r.draws + nd s ≤ 3 → r.uses + nu s ≤ 24 → mayR ar (firstW s) (4 - k) r = true
  | .set x e, h, _, _ => by rw [firstW, may_set]; simpa using vars_pos h.1
  | .draw x n, h, h1, _ => by
    rw [firstW, may_draw]
    have := vars_pos h.1
    simp [nd] at h1 ⊢; omega
  | .use x e, h, _, h2 => by
    rw [firstW, may_use]
    have := vars_pos h.2.1
    simp [nu] at h2 ⊢; exact ⟨h.1, by omega, by omega⟩
  | .say e, h, _, _ => by rw [firstW, may_say]; exact h.1
  | .ite e s t, h, _, _ => by
    rw [firstW, may_if]
    have := h.1
    simp; omega
theorem first_sts (s : Stm) : firstW s ∈ sts := by
  cases s
  · exact (by decide +kernel : wd "set" ∈ sts)
  · exact (by decide +kernel : wd "draw" ∈ sts)
  · exact (by decide +kernel : wd "use" ∈ sts)
  · exact (by decide +kernel : wd "say" ∈ sts)
  · exact (by decide +kernel : wd "if" ∈ sts)
theorem end_sts : wd "end" ∉ sts := by decide +kernel
theorem else_sts : wd "else" ∉ sts := by decide +kernel
theorem loop_stop {d n : Nat} {ch : RS → Res Stm} {acc : List Stm} {r : RS} (h : mayR ar (here ws r) d r = false) : loopR ws ar d ch n acc r = .ok acc r := by
  cases n with
  | zero => rfl
  | succ n => unfold loopR; rw [h, if_neg Bool.false_ne_true]
theorem hw {r : RS} {x : Str} {m : List Str} (h : ws.drop r.pos = x :: m) {y : Str} (e : x = y) : here ws r = y := (here_of h).trans e
theorem varR_words {r : RS} {x : Str} {m : List Str} (h : ws.drop r.pos = x :: m) (hx : x ∈ r.vars.map (·.1)) : varR ws r = .ok x r.go := by
  unfold varR; rw [here_of h, if_pos (hasV_iff.mpr hx)]
theorem numR_words {r : RS} {lo hi n : Nat} {m : List Str} (h : ws.drop r.pos = dec n :: m) (h1 : lo ≤ n) (h2 : n ≤ hi) : numR ws lo hi r = .ok n r.go := by
  unfold numR; rw [here_of h, numOf_dec h2]
  show (if lo ≤ n then _ else _ : Res Nat) = _
  rw [if_pos h1]
mutual
theorem stmt_words : ∀ (s : Stm) (k : Nat) (r : RS) (rest : List Str), k ≤ 4 → NmOk r.vars → okSt (r.vars.map (·.1)) r.pressed ar k s → r.draws + nd s ≤ 3 → r.uses + nu s ≤ 24 → ws.drop r.pos = s.words ++ rest → stmtR ws (chAt ws ar k) r = .ok s (advS r s)
  | .set x e, k, r, rest, hk, hn, h, h1, h2, hd => by
    have hd' : ws.drop r.pos = wd "set" :: x :: (e.words ++ rest) := by rw [hd]; simp [Stm.words]
    have hh := here_of hd'
    have d1 := go_drop hd'
    have d2 := go_drop d1
    unfold stmtR
    rw [hh, if_neg (by decide +kernel), if_neg (by decide +kernel)]
    rw [varR_words d1 h.1]
    rw [bind_mk]
    rw [if_neg (by decide +kernel), if_neg (by decide +kernel), exR_words 4 e r.go.go rest hn h.2 d2]
    show Res.ok _ _ = Res.ok _ _
    congr 1
    unfold advE advS RS.go Stm.words
    simp only [RS.mk.injEq, and_true, true_and, List.length_cons, nd, nu, Nat.add_zero]; omega
  | .draw x n, k, r, rest, hk, hn, h, h1, h2, hd => by
    have hd' : ws.drop r.pos = wd "draw" :: x :: dec n :: rest := by rw [hd]; simp [Stm.words]
    have hh := here_of hd'
    have d1 := go_drop hd'
    have d2 := go_drop d1
    unfold stmtR
    rw [hh, if_neg (by decide +kernel), if_neg (by decide +kernel)]
    rw [varR_words d1 h.1]
    rw [bind_mk]
    rw [if_pos (by decide +kernel)]
    rw [numR_words (r := { r.go.go with draws := r.go.go.draws + 1 }) d2 h.2.1 h.2.2]
    show Res.ok _ _ = Res.ok _ _
    congr 1
  | .use x e, k, r, rest, hk, hn, h, h1, h2, hd => by
    have hd' : ws.drop r.pos = wd "use" :: x :: (e.words ++ rest) := by rw [hd]; simp [Stm.words]
    have hh := here_of hd'
    have d1 := go_drop hd'
    have d2 := go_drop d1
    unfold stmtR
    rw [hh, if_neg (by decide +kernel), if_neg (by decide +kernel)]
    rw [varR_words d1 h.2.1]
    rw [bind_mk]
    rw [if_neg (by decide +kernel), if_pos (by decide +kernel), exR_words 4 e { r.go.go with uses := r.go.go.uses + 1 } rest hn h.2.2 d2]
    show Res.ok _ _ = Res.ok _ _
    congr 1
    unfold advE advS RS.go Stm.words
    simp only [RS.mk.injEq, and_true, true_and, List.length_cons, nd, nu, Nat.add_zero]; omega
  | .say e, k, r, rest, hk, hn, h, h1, h2, hd => by
    have hd' : ws.drop r.pos = wd "say" :: (e.words ++ rest) := by rw [hd]; simp [Stm.words]
    have hh := here_of hd'
    have d1 := go_drop hd'
    unfold stmtR
    rw [hh, if_neg (by decide +kernel), if_pos (by decide +kernel), exR_words 4 e r.go rest hn h.2 d1]
    show Res.ok _ _ = Res.ok _ _
    congr 1
    unfold advE advS RS.go Stm.words
    simp only [RS.mk.injEq, and_true, true_and, List.length_cons, nd, nu, Nat.add_zero]; omega
  | .ite e s t, 0, r, rest, hk, hn, h, h1, h2, hd => absurd h.1 (by omega)
  | .ite e s t, k + 1, r, rest, hk, hn, h, h1, h2, hd => by
    obtain ⟨_, he, hs, ht⟩ := h
    simp only [nd] at h1
    simp only [nu] at h2
    have hd' : ws.drop r.pos = wd "if" :: (e.words ++ (blockWords s ++ ((if t.isEmpty = true then [] else wd "else" :: blockWords t) ++ (wd "end" :: rest)))) := by rw [hd]; simp [Stm.words]
    have hh := here_of hd'
    have d1 := go_drop hd'
    unfold stmtR
    rw [hh, if_pos (by decide +kernel)]
    show choiceR ws ar k r.go = _
    rw [choiceR_eq]
    unfold choice1
    rw [exR_words 4 e r.go _ hn he d1]
    have d2 : ws.drop (advE r.go e).pos = _ := drop_app d1
    show ((stmtsR ws ar (4 - k) (chAt ws ar k) (advE r.go e)).bind _) = _
    unfold stmtsR
    have hsl : s.length ≤ ws.length := by
      have := len_le_words s
      have := congrArg List.length d2
      simp only [List.length_drop, List.length_append] at this
      omega
    rw [loop_words s k (ws.length + 1) [] (advE r.go e) _ (by omega) hn hs (by show r.draws + _ ≤ 3; omega) (by show r.uses + _ ≤ 24; omega) d2 (by omega)]
    have d3 : ws.drop (advB (advE r.go e) s).pos = _ := drop_app d2
    cases t with
    | nil =>
      simp only [List.isEmpty_nil, if_true, List.nil_append] at d3
      have h3 := here_of d3
      rw [loop_stop (by rw [h3]; exact may_not end_sts)]
      show (if here ws (advB (advE r.go e) s) = _ ∧ _ then _ else _) = _
      rw [h3, if_neg (by rintro ⟨a, _⟩; revert a; decide +kernel)]
      unfold takeR
      rw [h3, if_pos (by decide +kernel)]
      show Res.ok _ _ = Res.ok _ _
      congr 1
      unfold advE advS advB RS.go Stm.words
      simp only [RS.mk.injEq, and_true, true_and, List.length_cons, List.length_append, nd, nu, nds, nus, List.isEmpty_nil, if_true, List.length_nil]; omega
    | cons t0 tr =>
      simp only [List.isEmpty_cons, Bool.false_eq_true, if_false, List.cons_append] at d3
      have h3 := here_of d3
      have d4 := go_drop d3
      rw [loop_stop (by rw [h3]; exact may_not else_sts)]
      show (if here ws (advB (advE r.go e) s) = _ ∧ _ then _ else _) = _
      rw [h3]
      have hm : sts.any (fun w => mayR ar w (4 - k) (advB (advE r.go e) s)) = true := by
        refine List.any_eq_true.mpr ⟨firstW t0, first_sts t0, may_first (by omega) ht.1 ?_ ?_⟩
        · show r.draws + nds s + nd t0 ≤ 3
          simp only [nds] at h1; omega
        · show r.uses + nus s + nu t0 ≤ 24
          simp only [nus] at h2; omega
      rw [if_pos ⟨by decide +kernel, hm⟩]
      have htl : (t0 :: tr).length ≤ ws.length := by
        have := len_le_words (t0 :: tr)
        have := congrArg List.length d4
        simp only [List.length_drop, List.length_append] at this
        omega
      rw [loop_words (t0 :: tr) k (ws.length + 1) [] (advB (advE r.go e) s).go _ (by omega) hn ht (by show r.draws + nds s + _ ≤ 3; omega) (by show r.uses + nus s + _ ≤ 24; omega) d4 (by omega)]
      have d5 : ws.drop (advB (advB (advE r.go e) s).go (t0 :: tr)).pos = _ := drop_app d4
      have h5 := here_of d5
      rw [loop_stop (by rw [h5]; exact may_not end_sts)]
      rw [bind_mk, if_neg (by simp)]
      unfold takeR
      rw [h5, if_pos (by decide +kernel)]
      show Res.ok _ _ = Res.ok _ _
      congr 1
      unfold advE advS advB RS.go Stm.words
      simp only [RS.mk.injEq, and_true, true_and, List.length_cons, List.length_append, nd, nu, List.isEmpty_cons, Bool.false_eq_true, if_false, List.length_nil]
      omega
theorem loop_words : ∀ (l : List Stm) (k n : Nat) (acc : List Stm) (r : RS) (rest : List Str), k ≤ 4 → NmOk r.vars → okBl (r.vars.map (·.1)) r.pressed ar k l → r.draws + nds l ≤ 3 → r.uses + nus l ≤ 24 → ws.drop r.pos = blockWords l ++ rest → l.length ≤ n →
    loopR ws ar (4 - k) (chAt ws ar k) n acc r = loopR ws ar (4 - k) (chAt ws ar k) (n - l.length) (acc ++ l) (advB r l)
  | [], k, n, acc, r, rest, hk, hn, h, h1, h2, hd, hl => by rw [List.append_nil]; rfl
  | s :: l, k, 0, acc, r, rest, hk, hn, h, h1, h2, hd, hl => by simp at hl
  | s :: l, k, n + 1, acc, r, rest, hk, hn, h, h1, h2, hd, hl => by
    simp only [nds] at h1
    simp only [nus] at h2
    have hd1 : ws.drop r.pos = s.words ++ (blockWords l ++ rest) := by rw [hd]; simp [blockWords]
    obtain ⟨m, em⟩ := words_first s
    have hh : here ws r = firstW s := here_of (m := m ++ (blockWords l ++ rest)) (by rw [hd1, em]; rfl)
    rw [loopR, hh, may_first hk h.1 (by omega) (by omega), if_pos rfl, stmt_words s k r _ hk hn h.1 (by omega) (by omega) hd1]
    have d2 : ws.drop (advS r s).pos = blockWords l ++ rest := drop_app hd1
    show loopR ws ar (4 - k) (chAt ws ar k) n (acc ++ [s]) (advS r s) = _
    rw [loop_words l k n (acc ++ [s]) (advS r s) rest hk hn h.2 (by show r.draws + nd s + _ ≤ 3; omega) (by show r.uses + nu s + _ ≤ 24; omega) d2 (by simp at hl; omega)]
    have e1 : n + 1 - (s :: l).length = n - l.length := by simp
    have e2 : acc ++ [s] ++ l = acc ++ s :: l := by simp
    rw [e1, e2]
    congr 1
    unfold advS advB
    simp only [RS.mk.injEq, and_true, true_and, blockWords, List.length_append, nds, nus]
    omega
end
end
end Rd

set_option Elab.async false
set_option linter.all false
set_option maxRecDepth 100000
set_option maxHeartbeats 4000000
/-! A whole box that is right is read from its words. -/
namespace Rd
open PySem PyProof.Rows TL
section
variable {ws : List Str} {ar : Bool}
theorem takeR_words {r : RS} {x : Str} {m : List Str} (h : ws.drop r.pos = x :: m) : takeR ws x r = .ok () r.go := by
  unfold takeR; rw [here_of h, if_pos rfl]
theorem takeR_bad {r : RS} {x y : Str} (h : here ws r = y) (n : y ≠ x) : takeR ws x r = .bad r.pos := by
  unfold takeR; rw [h, if_neg n]
theorem newR_words {r : RS} {x : Str} {m : List Str} (h : ws.drop r.pos = x :: m) (hx : isName x = true) (hv : x ∉ r.vars.map (·.1)) : newR ws r = .ok x r.go := by
  unfold newR; rw [here_of h, if_pos ⟨hx, by unfold hasV; simpa using hv⟩]
def okVars : List Str → List (Str × Nat) → Prop
  | _, [] => True
  | nm, (x, n) :: r => isName x = true ∧ x ∉ nm ∧ 1 ≤ n ∧ n ≤ 12 ∧ okVars (nm ++ [x]) r
def advV (r : RS) (l : List (Str × Nat)) : RS := { r with pos := r.pos + (varWords l).length, vars := r.vars ++ l }
theorem varsR_words : ∀ (l : List (Str × Nat)) (n : Nat) (r : RS) (rest : List Str), okVars (r.vars.map (·.1)) l → l.length ≤ n → ws.drop r.pos = varWords l ++ rest → varsR ws n r = varsR ws (n - l.length) (advV r l)
  | [], n, r, rest, _, _, _ => by unfold advV; simp [varWords]
  | (x, m) :: l, 0, r, rest, _, h, _ => by simp at h
  | (x, m) :: l, n + 1, r, rest, ⟨h1, h2, h3, h4, h5⟩, hl, hd => by
    have hd' : ws.drop r.pos = wd "var" :: x :: dec m :: (varWords l ++ rest) := hd
    have d1 := go_drop hd'
    have d2 := go_drop d1
    have d3 := go_drop d2
    rw [varsR, here_of hd', if_pos (show wd "var" = Str.ofString "var" from rfl), newR_words d1 h1 h2, bind_mk, numR_words d2 h3 h4, bind_mk]
    rw [varsR_words l n { r.go.go.go with vars := r.go.go.go.vars ++ [(x, m)] } rest (by rw [List.map_append]; exact h5) (by simp at hl; omega) d3]
    have e1 : n + 1 - ((x, m) :: l).length = n - l.length := by simp
    rw [e1]
    congr 1
    unfold advV RS.go
    simp only [RS.mk.injEq, and_true, true_and, varWords, List.length_cons, List.append_assoc, List.cons_append, List.nil_append]
    omega
theorem varsR_stop {n : Nat} {r : RS} (h : here ws r ≠ wd "var") : varsR ws n r = .ok () r := by
  cases n with
  | zero => rfl
  | succ n => rw [varsR, if_neg (show ¬ here ws r = Str.ofString "var" from h)]
theorem nmOk_of : ∀ {l : List (Str × Nat)} {nm : List Str}, okVars nm l → NmOk l
  | [], _, _ => fun p hp => nomatch hp
  | (x, n) :: l, nm, h => fun p hp => by
    rcases List.mem_cons.mp hp with rfl | hp
    · exact h.1
    · exact nmOk_of h.2.2.2.2 p hp
structure okBx (ar : Bool) (b : Bx) : Prop where
  b1 : 1 ≤ b.buttons
  b2 : b.buttons ≤ 4
  a1 : 1 ≤ b.answers
  a2 : b.answers ≤ 4
  vl : b.vars.length ≤ 4
  vo : okVars [] b.vars
  so : okBl (b.vars.map (·.1)) false ar 4 b.start
  bo : okBl (b.vars.map (·.1)) true ar 4 b.block
  dl : nds b.start + nds b.block ≤ 3
  ul : nus b.start + nus b.block ≤ 24
theorem block_words {l : List Stm} {r : RS} {rest : List Str} (hn : NmOk r.vars) (h : okBl (r.vars.map (·.1)) r.pressed ar 4 l) (h1 : r.draws + nds l ≤ 3) (h2 : r.uses + nus l ≤ 24) (hd : ws.drop r.pos = blockWords l ++ rest)
    (hs : mayR ar (here ws (advB r l)) 0 (advB r l) = false) : blockR ws ar 4 r = .ok l (advB r l) := by
  rw [blockR_eq]
  unfold stmtsR
  have hl : l.length ≤ ws.length := by
    have := len_le_words l
    have := congrArg List.length hd
    simp only [List.length_drop, List.length_append] at this
    omega
  rw [loop_words l 4 (ws.length + 1) [] r rest (by omega) hn h h1 h2 hd (by omega), loop_stop hs]; rfl
/-- up to where the statements of the start are read -/
def rA (b : Bx) : RS := (advV r0.go.go.go.go b.vars).go
theorem readR_head {b : Bx} {rest : List Str} (b1 : 1 ≤ b.buttons) (b2 : b.buttons ≤ 4) (a1 : 1 ≤ b.answers) (a2 : b.answers ≤ 4) (vl : b.vars.length ≤ 4) (vo : okVars [] b.vars)
    (e : ws = wd "buttons" :: dec b.buttons :: wd "answers" :: dec b.answers :: (varWords b.vars ++ wd "start" :: rest)) :
    readR ws ar = (blockR ws ar 4 (rA b)).bind (fun s r => (takeR ws "press" r).bind fun _ r => (blockR ws ar 4 { r with pressed := true }).bind fun t r => if r.pos < ws.length then .bad r.pos else .ok ⟨b.buttons, b.answers, r.vars, s, t⟩ r) ∧ ws.drop (rA b).pos = rest := by
  have d0 : ws.drop r0.pos = wd "buttons" :: dec b.buttons :: wd "answers" :: dec b.answers :: (varWords b.vars ++ wd "start" :: rest) := by rw [← e]; rfl
  have d1 := go_drop d0
  have d2 := go_drop d1
  have d3 := go_drop d2
  have d4 := go_drop d3
  have d5 : ws.drop (advV r0.go.go.go.go b.vars).pos = wd "start" :: rest := drop_app d4
  have d6 := go_drop d5
  refine ⟨?_, d6⟩
  unfold readR
  rw [show takeR ws (Str.ofString "buttons") r0 = .ok () r0.go from takeR_words d0, bind_mk, numR_words d1 b1 b2, bind_mk]
  rw [show takeR ws (Str.ofString "answers") r0.go.go = .ok () r0.go.go.go from takeR_words d2, bind_mk, numR_words d3 a1 a2, bind_mk]
  rw [varsR_words b.vars 4 r0.go.go.go.go _ vo vl d4, varsR_stop (by rw [here_of d5]; decide +kernel), bind_mk]
  rw [show takeR ws (Str.ofString "start") (advV r0.go.go.go.go b.vars) = .ok () (rA b) from takeR_words d5, bind_mk]
theorem rA_vars (b : Bx) : (rA b).vars = b.vars ∧ (rA b).draws = 0 ∧ (rA b).uses = 0 ∧ (rA b).pressed = false := ⟨List.nil_append _, rfl, rfl, rfl⟩
theorem press_sts : wd "press" ∉ sts := by decide +kernel
theorem empty_sts : Str.empty ∉ sts := by decide +kernel
theorem readR_words {b : Bx} (h : okBx ar b) : ∃ r, readR b.words ar = .ok b r := by
  obtain ⟨b1, b2, a1, a2, vl, vo, so, bo, dl, ul⟩ := h
  obtain ⟨e1, d1⟩ := readR_head (ws := b.words) (ar := ar) b1 b2 a1 a2 vl vo rfl
  obtain ⟨v1, v2, v3, v4⟩ := rA_vars b
  have hn : NmOk (rA b).vars := by rw [v1]; exact nmOk_of vo
  have d2 : b.words.drop (advB (rA b) b.start).pos = wd "press" :: blockWords b.block := drop_app d1
  have d3 := go_drop d2
  rw [e1, block_words hn (by rw [v1, v4]; exact so) (by rw [v2]; omega) (by rw [v3]; omega) d1 (by rw [here_of d2]; exact may_not press_sts), bind_mk]
  rw [show takeR b.words (Str.ofString "press") (advB (rA b) b.start) = .ok () (advB (rA b) b.start).go from takeR_words d2, bind_mk]
  have d4 : b.words.drop (advB { (advB (rA b) b.start).go with pressed := true } b.block).pos = [] := drop_app (n := []) (by rw [List.append_nil]; exact d3)
  rw [block_words (r := { (advB (rA b) b.start).go with pressed := true }) (rest := []) hn (by show okBl ((rA b).vars.map _) true ar 4 _; rw [v1]; exact bo) (by show (rA b).draws + nds b.start + _ ≤ 3; rw [v2]; omega) (by show (rA b).uses + nus b.start + _ ≤ 24; rw [v3]; omega)
    (by rw [List.append_nil]; exact d3) (by rw [here_end d4]; exact may_not empty_sts), bind_mk]
  have hp := congrArg List.length d4
  rw [List.length_drop, List.length_nil] at hp
  rw [if_neg (fun z => by have z' := Nat.sub_pos_of_lt z; rw [hp] at z'; exact Nat.lt_irrefl 0 z')]
  refine ⟨_, congrArg (fun x => Res.ok x _) (?_ : Bx.mk b.buttons b.answers (rA b).vars b.start b.block = b)⟩
  rw [v1]
end
end Rd

set_option Elab.async false
set_option linter.all false
set_option maxRecDepth 100000
/-! math.lcm of small numbers; enumerate. -/
namespace Tk
open PySem PySem.Spec PyProof.Rows L2
section
variable {X : Cx}
def rLcm : List V → Hp → VK → Prop := fun vs H Q => ∃ a b : Int, vs = [.int a, .int b] ∧ a.natAbs < 2 ^ 64 ∧ b.natAbs < 2 ^ 64 ∧ Q (.int ((Nat.lcm a.natAbs b.natAbs : Nat) : Int)) H
theorem cr_lcm : CallR X (.builtin "math.lcm") rLcm := by
  intro pins s σ H vs us Q I r h
  obtain ⟨a, b, rfl, ha, hb, q⟩ := h
  obtain ⟨t, u, rfl⟩ := Vals.int2 r
  exact PySem.W.mc_lcm ha hb fun _ => ⟨.int _, H, I.tok _, ⟨_, rfl⟩, q⟩
theorem pi_enumK {K : PySem.W.Frag} {e : Expr} {ta : TA} {p pos tpos : Pos} {elts : List Expr} {kk : Nat} (hg : Gl X "enumerate") (hm : X.mg "enumerate" = none) (ha : PA X [e] ta) (hK : X.K = K := by rfl) (hs : starEach [e] X.env = [(false, eval e X.env)] := by rfl) :
    PI X (.Tuple elts kk tpos) (.Call (.Name "enumerate" p) [e] [] pos) (iEnum K ta) := hK ▸ pi_enum hg hm ha hs
end
end Tk

set_option Elab.async false
set_option linter.all false
set_option maxRecDepth 100000
set_option maxHeartbeats 4000000
/-! List comprehensions of any number of clauses, level by level. -/
namespace Tk
open PySem PySem.Spec PyProof.Rows L2
abbrev TR := Addr → L2.St → Hp → (Hp → Prop) → Prop
/-- the element joins the list -/
def tEl (te : TE) : TR := fun D σ H Nx => te σ H fun y H7 => ∃ acc, H7 D = some (.lst acc) ∧ acc.length < sizeLine ∧ Nx (upd H7 D (.lst (acc ++ [y])))
/-- a clause behind the first: its source, its turns -/
def tLv (wi : TI) (g : TG) (tt : TT) (tr : TR) (vs : List Nat) : TR := fun D σ H Nx => wi σ H fun J H4 => ∃ W : Nat → Nat → Hp → Prop, (∃ m, W 0 m H4) ∧ ∀ j k H, W j k H →
  (J.stop j H ∧ Nx H) ∨ (J.go j H ∧ ∃ N : Hp → Prop, (∀ H', N H' → ∃ k', k' < k ∧ W (j + 1) k' H') ∧ ∀ x H', J.yld j H x H' → g x (wipe σ vs) H' fun σ3 H5 => wipe σ3 vs = wipe σ vs ∧ tt σ3 H5 fun b H6 => if b = true then tr D σ3 H6 N else N H6)
/-- the first clause -/
def tLcN (wi : TI) (g : TG) (tt : TT) (tr : TR) (vs : List Nat) : TE := fun σ H Q => wi σ H fun J H1 => ∀ D, H1 D = none → ∃ W : Nat → Nat → Hp → Prop, (∃ m, W 0 m (upd H1 D (.lst []))) ∧ ∀ i m H, W i m H →
  (J.stop i H ∧ Q (.ref D) H) ∨ (J.go i H ∧ ∃ N : Hp → Prop, (∀ H', N H' → ∃ m', m' < m ∧ W (i + 1) m' H') ∧ ∀ x H', J.yld i H x H' → g x (wipe σ vs) H' fun σ2 H2 => wipe σ2 vs = wipe σ vs ∧ tt σ2 H2 fun b H3 => if b = true then tr D σ2 H3 N else N H3)
/-- a turn that goes on to the next clause -/
def turnMore (c t i i1 : Expr) (ifs : List Expr) (k : Nat) (it acc : Value) (env : Env) : Sem Fin := do
  standAt i.pos
  match ← pyNext it with
  | none => pure (.done .next)
  | some v =>
    letOwnedTupleGo t it v
    assign t env v
    let mut ok := true
    for c in ifs do
      if ok then ok ← isTrue c env (eval c env)
    if ok then
      let x ← eval i1 env
      standAt i1.pos
      let x ← foldedSetIterable i1 env x
      let _ ← runOwn (.compStart c (k + 1) (← holding [x] (pyIter x)) acc env) env
    again (.compLoop c k it acc env)
/-- a turn that ends with the element -/
def turnLast (c t i elt : Expr) (ifs : List Expr) (k : Nat) (it acc : Value) (env : Env) : Sem Fin := do
  standAt i.pos
  match ← pyNext it with
  | none => pure (.done .next)
  | some v =>
    letOwnedTupleGo t it v
    assign t env v
    let mut ok := true
    for c in ifs do
      if ok then ok ← isTrue c env (eval c env)
    if ok then
      (do let _ ← call (.builtin "list.append") [acc, ← eval elt env])
    again (.compLoop c k it acc env)
section
variable {prog : Program} {w : World} {A : Around} {R : Result → Shared → Prop} {s : Shared} {elt t i i1 : Expr} {gens : List Comprehension} {scope : Scope} {pos : Pos} {ifs : List Expr} {k : Nat} {it acc : Value} {env : Env}
abbrev noE : Value → Shared → Prop := fun _ _ => False
theorem loopMore (hT : compTurn (.ListComp elt gens scope pos) k it acc env = turnMore (.ListComp elt gens scope pos) t i i1 ifs k it acc env) (hs : ∀ x, foldedSetIterable i1 env x = pure x) (I : Nat → Shared → Prop)
    (turn : ∀ n s, I n s → wpAny (model prog w) A (pyNext it) (fun r s₁ => match r with
      | none => R (.ok .next) s₁
      | some v => wpAny (model prog w) A (letOwnedTupleGo t it v) (fun _ s₁' => wpAny (model prog w) A (assign t env v) (fun _ s₂ =>
          wpAny (model prog w) A (forIn ifs true fun c r => if r = true then do let ok ← isTrue c env (eval c env); pure (ForInStep.yield ok) else pure (ForInStep.yield r)) (fun ok s₃ =>
            if ok = true then wpAny (model prog w) A (eval i1 env) (fun x s₄ => wpAny (model prog w) A (pyIter x) (fun it1 s₅ =>
              codeAny (model prog w) A (.compStart (.ListComp elt gens scope pos) (k + 1) it1 acc env) (fun r s' => match r with
                | .ok _ => ∃ m, m < n ∧ I m s'
                | .error _ => False) s₅) noE s₄) noE s₃
            else ∃ m, m < n ∧ I m s₃) noE s₂) noE s₁') noE s₁) noE s)
    (n : Nat) (h : I n s) : codeAny (model prog w) A (.compLoop (.ListComp elt gens scope pos) k it acc env) R s := by
  refine codeAny_loop rfl I (fun n s hI => ?_) n h
  show wpAny _ A ((compTurn (.ListComp elt gens scope pos) k it acc env).onRaise (fun x => do noteFrame x env; theTreesLotGoes x)) _ _ s
  refine wpAny_noted ?_
  rw [hT]
  unfold turnMore
  refine wpAny_bind (wpAny_standAt (wpAny_bind (wpAny_mono (turn n s hI) (fun r s₁ h₁ => ?_) fun _ _ h' => h'.elim)))
  cases r with
  | none => exact wpAny_pure h₁
  | some v =>
    refine wpAny_bind (wpAny_mono h₁ (fun _ s₁' h₁' => ?_) fun _ _ h' => h'.elim)
    refine wpAny_bind (wpAny_mono h₁' (fun _ s₂ h₂ => wpAny_bind (wpAny_mono h₂ (fun ok s₃ h₃ => ?_) fun _ _ h' => h'.elim)) fun _ _ h' => h'.elim)
    cases ok with
    | false => exact wpAny_pure ⟨rfl, h₃⟩
    | true =>
      refine wpAny_bind (wpAny_mono h₃ (fun x s₄ h₄ => ?_) fun _ _ h' => h'.elim)
      refine wpAny_bind (wpAny_standAt (wpAny_bind (wpAny_of_eq (hs x) (wpAny_bind (wpAny_holding (wpAny_mono h₄ (fun it1 s₅ h₅ => ?_) fun _ _ h' => h'.elim))))))
      refine wpAny_bind (wpAny_runOwn ?_)
      rw [Around.mark_none]
      refine codeAny_mono h₅ fun r s' hr => ?_
      cases r with
      | ok f => first
          | exact wpAny_pure ⟨rfl, hr⟩
          | exact wpAny_bind (wpAny_pure (wpAny_pure ⟨rfl, hr⟩))
      | error e => exact hr.elim
theorem loopLast (hT : compTurn (.ListComp elt gens scope pos) k it acc env = turnLast (.ListComp elt gens scope pos) t i elt ifs k it acc env) (I : Nat → Shared → Prop)
    (turn : ∀ n s, I n s → wpAny (model prog w) A (pyNext it) (fun r s₁ => match r with
      | none => R (.ok .next) s₁
      | some v => wpAny (model prog w) A (letOwnedTupleGo t it v) (fun _ s₁' => wpAny (model prog w) A (assign t env v) (fun _ s₂ =>
          wpAny (model prog w) A (forIn ifs true fun c r => if r = true then do let ok ← isTrue c env (eval c env); pure (ForInStep.yield ok) else pure (ForInStep.yield r)) (fun ok s₃ =>
            if ok = true then wpAny (model prog w) A (eval elt env) (fun x s₄ =>
              wpAny (model prog w) A (call (.builtin "list.append") [acc, x]) (fun _ s₅ => ∃ m, m < n ∧ I m s₅) noE s₄) noE s₃
            else ∃ m, m < n ∧ I m s₃) noE s₂) noE s₁') noE s₁) noE s)
    (n : Nat) (h : I n s) : codeAny (model prog w) A (.compLoop (.ListComp elt gens scope pos) k it acc env) R s := by
  refine codeAny_loop rfl I (fun n s hI => ?_) n h
  show wpAny _ A ((compTurn (.ListComp elt gens scope pos) k it acc env).onRaise (fun x => do noteFrame x env; theTreesLotGoes x)) _ _ s
  refine wpAny_noted ?_
  rw [hT]
  unfold turnLast
  refine wpAny_bind (wpAny_standAt (wpAny_bind (wpAny_mono (turn n s hI) (fun r s₁ h₁ => ?_) fun _ _ h' => h'.elim)))
  cases r with
  | none => exact wpAny_pure h₁
  | some v =>
    refine wpAny_bind (wpAny_mono h₁ (fun _ s₁' h₁' => ?_) fun _ _ h' => h'.elim)
    refine wpAny_bind (wpAny_mono h₁' (fun _ s₂ h₂ => wpAny_bind (wpAny_mono h₂ (fun ok s₃ h₃ => ?_) fun _ _ h' => h'.elim)) fun _ _ h' => h'.elim)
    cases ok with
    | false => exact wpAny_pure ⟨rfl, h₃⟩
    | true =>
      exact wpAny_bind (wpAny_bind (wpAny_mono h₃ (fun x s₄ h₄ => wpAny_bind (wpAny_mono h₄ (fun _ s₅ h₅ => wpAny_pure (wpAny_pure ⟨rfl, h₅⟩)) fun _ _ h' => h'.elim)) fun _ _ h' => h'.elim))
/-- the start of a clause behind the first -/
theorem start_ok {t1 : Expr} {ifs1 : List Expr} (hg : gens[k]? = some ⟨t1, i1, ifs1, 0⟩) (h0 : codeAny (model prog w) A (.compLoop (.ListComp elt gens scope pos) k it acc env) R s)
    (h : wpAny (model prog w) A (pyIter it) (fun it' s' => codeAny (model prog w) A (.compLoop (.ListComp elt gens scope pos) k it' acc env) R s') noE s) : codeAny (model prog w) A (.compStart (.ListComp elt gens scope pos) k it acc env) R s := by
  refine codeAny_of_tree ?_
  show wpAny _ _ ((compStart (.ListComp elt gens scope pos) k it acc env).onRaise (fun x => do noteFrame x env; standAt theWindowsPlace)) _ _ s
  refine wpAny_notedAt ?_
  unfold compStart
  rw [show clausesOf (.ListComp elt gens scope pos) = gens from rfl, hg]
  show wpAny _ _ (ask >>= _) _ _ s
  refine wpAny_bind (wpAny_askSetting (wpAny_ite ?_))
  split
  · first
      | exact wpAny_bind (wpAny_pure (wpAny_pure (And.intro rfl h0)))
      | exact wpAny_pure (And.intro rfl h0)
  · first
      | exact wpAny_bind (wpAny_rule (wpAny_bind (wpAny_standAt (wpAny_bind (wpAny_mono h (fun it' s' h' => wpAny_pure (And.intro rfl h')) fun _ _ x => x.elim)))))
      | (refine wpAny_bind (wpAny_rule ?_); show wpAny _ _ (standAt i1.pos >>= _) _ _ s; exact wpAny_bind (wpAny_standAt (wpAny_bind (wpAny_mono h (fun it' s' h' => wpAny_pure (And.intro rfl h')) fun _ _ x => x.elim))))
end
section
variable {X : Cx}
/-- a clause behind the first, from its source on -/
def PLv (X : Cx) (c : Expr) (k : Nat) (i : Expr) (vs : List Nat) (tr : TR) : Prop := ∀ (pins : List (Addr × Obj)) (s : Shared) (σ : L2.St) (H : Hp) (D : Addr) (Nx : Hp → Prop), Inv X pins σ H s → tr D σ H Nx →
  wpAny (model X.prog X.w) X.A (eval i X.env) (fun x s4 => wpAny (model X.prog X.w) X.A (pyIter x) (fun it1 s5 => codeAny (model X.prog X.w) X.A (.compStart c k it1 (.ref D) X.env) (fun r s' => match r with
    | .ok _ => ∃ H', Inv X pins (wipe σ vs) H' s' ∧ Nx H'
    | .error _ => False) s5) noE s4) noE s
/-- a turn's end, with slots that know what the others knew -/
theorem turn_end {pins : List (Addr × Obj)} {σ σ6 σ' : L2.St} {vs : List Nat} {fp : List Addr} {tn : Nat → Heap → Prop} {s5 s' : Shared} {H' : Hp} {tg : Expr} {J : It} {it : Addr} {j n : Nat} {W : Nat → Nat → Hp → Prop} {N : Hp → Prop}
    (T : Turn X.prog X.w X.K tg J fp it tn) (st5 : tn (j + 1) s5.heap) (hw6 : wipe σ6 vs = wipe σ vs) (hN : ∀ H', N H' → ∃ k', k' < n ∧ W (j + 1) k' H') (I' : Inv X (pins ++ pinsAt fp s5.heap) σ' H' s') (hl : σ'.length = σ6.length) (hk : ∀ i v, σ6[i]? = some (some v) → i ∉ vs → σ'[i]? = some (some v)) (nx : N H') :
    ∃ m, m < n ∧ ∃ j H', Inv X pins (wipe σ vs) H' s' ∧ tn j s'.heap ∧ (∀ b ∈ fp, H' b = none) ∧ W j m H' := by
  obtain ⟨m', hm, w'⟩ := hN H' nx
  have pin' : ∀ b ∈ fp, ∀ o, s5.heap.get? b = some o → s'.heap.get? b = some o ∧ H' b = none := fun b hb o e =>
    let z := I'.pin (b, o) (List.mem_append_right _ (List.mem_append_right _ (mem_pinsAt hb e)))
    ⟨z.1, z.2.1⟩
  refine ⟨m', hm, j + 1, H', I'.unpinned.weak (by rw [← hw6, wipe_length, hl]) (fun i v e => ?_), T.keep _ _ _ st5 fun b hb o e => (pin' b hb o e).1, fun b hb => ?_, w'⟩
  · rw [← hw6] at e
    obtain ⟨e1, e2⟩ := wipe_some e
    exact hk i v e1 e2
  · obtain ⟨o, e, _⟩ := T.obj _ _ st5 b hb
    exact (pin' b hb o e).2
variable {elt tg iter iter1 : Expr} {ifs : List Expr} {gens : List Comprehension} {scope : Scope} {pos : Pos} {k : Nat} {wi : TI} {g : TG} {tt : TT} {te : TE} {tr : TR} {vs vs1 : List Nat}
theorem plv_last (hc : X.calm = true) (hx : X.xe = noE) (hi : PI X tg iter wi) (hg : PG X tg g) (ht : PTs X ifs tt) (he : PE X elt te) (hk : gens[k]? = some ⟨tg, iter, ifs, 0⟩)
    (hT : ∀ it acc, compTurn (.ListComp elt gens scope pos) k it acc X.env = turnLast (.ListComp elt gens scope pos) tg iter elt ifs k it acc X.env) : PLv X (.ListComp elt gens scope pos) k iter vs (tLv wi g tt (tEl te) vs) := by
  intro pins s σ H D Nx I h
  have r0 := hi.run pins s σ H _ I h
  rw [hx] at r0
  refine thnF r0 fun xv s1 h1 => thnF h1 fun itv s2 h2 => ?_
  obtain ⟨it, fp, tn, J, H2, e, I2, T, st2, f2, W, ⟨m0, w0⟩, turn⟩ := h2
  subst e
  have stat : ∀ {H' : Hp}, (∀ b ∈ fp, H' b = none) → ∀ b ∈ fp, FpOk X pins H' b := fun hn b hb => ⟨hn b hb, (f2 b hb).2⟩
  have loop : codeAny (model X.prog X.w) X.A (.compLoop (.ListComp elt gens scope pos) k (.ref it) (.ref D) X.env) (fun r s' => match r with | .ok _ => ∃ H', Inv X pins (wipe σ vs) H' s' ∧ Nx H' | .error _ => False) s2 := by
    refine loopLast (hT _ _) (fun n s' => ∃ j H', Inv X pins (wipe σ vs) H' s' ∧ tn j s'.heap ∧ (∀ b ∈ fp, H' b = none) ∧ W j n H') ?_ m0 ⟨0, H2, I2.weak (wipe_length _ _) (fun j v e => (wipe_some e).1), st2, fun b hb => (f2 b hb).1, w0⟩
    rintro n s3 ⟨j, H3, I3, st3, n3, w3⟩
    rcases turn j n H3 w3 with ⟨stop, nx⟩ | ⟨go, N, hN, step⟩
    · refine thnF (T.done X rfl rfl rfl hc j pins s3 (wipe σ vs) H3 noE I3 (stat n3) st3 stop) fun r s4 ⟨hr, I4⟩ => ?_
      subst hr
      exact ⟨H3, I4, nx⟩
    · refine thnF (T.item X rfl rfl rfl hc j pins s3 (wipe σ vs) H3 noE I3 (stat n3) st3 go) fun r s4 ⟨u, hr, h4⟩ => ?_
      subst hr
      refine thnF h4 fun _ s5 ⟨x, H5, I5, r5, y5, st5, n5⟩ => ?_
      have I5' := I5.pinned (stat n5) (T.obj _ _ st5)
      have rg := hg.run _ s5 (wipe σ vs) H5 x u _ I5' r5 (step x H5 y5)
      rw [hx] at rg
      refine thnF rg fun _ s6 ⟨σ6, H6, I6, hw6, q6⟩ => ?_
      have rt := ht.run _ s6 σ6 H6 _ I6 q6
      rw [hx] at rt
      refine thnF rt fun b s7 ⟨H7, I7, q7⟩ => ?_
      cases b with
      | false =>
        simp only [Bool.false_eq_true, if_false] at q7 ⊢
        exact turn_end T st5 hw6 hN I7 rfl (fun _ _ e _ => e) q7
      | true =>
        simp only [if_true] at q7 ⊢
        have re := he.run _ s7 σ6 H7 _ I7 q7
        rw [hx] at re
        refine thnF re fun z s8 ⟨yv, H8, I8, r8, acc, hD8, hz8, nx⟩ => ?_
        exact app_ok I8 hD8 hz8 r8 fun s9 I9 => turn_end T st5 hw6 hN I9 rfl (fun _ _ e _ => e) nx
  exact start_ok hk loop (T.self X.A 0 _ _ _ st2 loop)
theorem plv_more (hc : X.calm = true) (hx : X.xe = noE) (hi : PI X tg iter wi) (hg : PG X tg g) (ht : PTs X ifs tt) (hn : PLv X (.ListComp elt gens scope pos) (k + 1) iter1 vs1 tr) (hv : ∀ i ∈ vs1, i ∈ vs) (hk : gens[k]? = some ⟨tg, iter, ifs, 0⟩)
    (hT : ∀ it acc, compTurn (.ListComp elt gens scope pos) k it acc X.env = turnMore (.ListComp elt gens scope pos) tg iter iter1 ifs k it acc X.env) (hs : ∀ x, foldedSetIterable iter1 X.env x = pure x) : PLv X (.ListComp elt gens scope pos) k iter vs (tLv wi g tt tr vs) := by
  intro pins s σ H D Nx I h
  have r0 := hi.run pins s σ H _ I h
  rw [hx] at r0
  refine thnF r0 fun xv s1 h1 => thnF h1 fun itv s2 h2 => ?_
  obtain ⟨it, fp, tn, J, H2, e, I2, T, st2, f2, W, ⟨m0, w0⟩, turn⟩ := h2
  subst e
  have stat : ∀ {H' : Hp}, (∀ b ∈ fp, H' b = none) → ∀ b ∈ fp, FpOk X pins H' b := fun hn b hb => ⟨hn b hb, (f2 b hb).2⟩
  have loop : codeAny (model X.prog X.w) X.A (.compLoop (.ListComp elt gens scope pos) k (.ref it) (.ref D) X.env) (fun r s' => match r with | .ok _ => ∃ H', Inv X pins (wipe σ vs) H' s' ∧ Nx H' | .error _ => False) s2 := by
    refine loopMore (hT _ _) hs (fun n s' => ∃ j H', Inv X pins (wipe σ vs) H' s' ∧ tn j s'.heap ∧ (∀ b ∈ fp, H' b = none) ∧ W j n H') ?_ m0 ⟨0, H2, I2.weak (wipe_length _ _) (fun j v e => (wipe_some e).1), st2, fun b hb => (f2 b hb).1, w0⟩
    rintro n s3 ⟨j, H3, I3, st3, n3, w3⟩
    rcases turn j n H3 w3 with ⟨stop, nx⟩ | ⟨go, N, hN, step⟩
    · refine thnF (T.done X rfl rfl rfl hc j pins s3 (wipe σ vs) H3 noE I3 (stat n3) st3 stop) fun r s4 ⟨hr, I4⟩ => ?_
      subst hr
      exact ⟨H3, I4, nx⟩
    · refine thnF (T.item X rfl rfl rfl hc j pins s3 (wipe σ vs) H3 noE I3 (stat n3) st3 go) fun r s4 ⟨u, hr, h4⟩ => ?_
      subst hr
      refine thnF h4 fun _ s5 ⟨x, H5, I5, r5, y5, st5, n5⟩ => ?_
      have I5' := I5.pinned (stat n5) (T.obj _ _ st5)
      have rg := hg.run _ s5 (wipe σ vs) H5 x u _ I5' r5 (step x H5 y5)
      rw [hx] at rg
      refine thnF rg fun _ s6 ⟨σ6, H6, I6, hw6, q6⟩ => ?_
      have rt := ht.run _ s6 σ6 H6 _ I6 q6
      rw [hx] at rt
      refine thnF rt fun b s7 ⟨H7, I7, q7⟩ => ?_
      cases b with
      | false =>
        simp only [Bool.false_eq_true, if_false] at q7 ⊢
        exact turn_end T st5 hw6 hN I7 rfl (fun _ _ e _ => e) q7
      | true =>
        simp only [if_true] at q7 ⊢
        refine thnF (hn _ s7 σ6 H7 D N I7 q7) fun x1 s8 h8 => thnF h8 fun it1 s9 h9 => codeAny_mono h9 fun r s' hr => ?_
        cases r with
        | error e => exact hr
        | ok f =>
          obtain ⟨H', I', nx⟩ := hr
          exact turn_end T st5 hw6 hN I' (wipe_length _ _) (fun i v e hi' => by rw [wipe_out fun z => hi' (hv i z)]; exact e) nx
  exact start_ok hk loop (T.self X.A 0 _ _ _ st2 loop)
variable {pos' : Pos} {rest : List Comprehension} {own : List (Str × Nat)}
/-- a list comprehension of several clauses -/
theorem pe_lcN (hc : X.calm = true) (hN : X.N.Nodup) (hi : PI X tg iter wi) (ok : BlkOk X.N X.env.scope scope own) (hv : ∀ i ∈ vs1, i ∈ own.map (·.2))
    (hg : ∀ (s : Shared) (H : Hp) (C : Addr) (cl : List (Str × Addr)) (fp : List Addr), PG (X.blk s H scope (compEnvC scope cl C X.env) fp) tg g) (ht : ∀ (s : Shared) (H : Hp) (C : Addr) (cl : List (Str × Addr)) (fp : List Addr), PTs (X.blk s H scope (compEnvC scope cl C X.env) fp) ifs tt)
    (hn : ∀ (s : Shared) (H : Hp) (C : Addr) (cl : List (Str × Addr)) (fp : List Addr), PLv (X.blk s H scope (compEnvC scope cl C X.env) fp) (.ListComp elt (⟨tg, iter, ifs, 0⟩ :: rest) scope pos) 1 iter1 vs1 tr)
    (hT : ∀ env it acc, compTurn (.ListComp elt (⟨tg, iter, ifs, 0⟩ :: rest) scope pos) 0 it acc env = turnMore (.ListComp elt (⟨tg, iter, ifs, 0⟩ :: rest) scope pos) tg iter iter1 ifs 0 it acc env)
    (hs : ∀ x, foldedSetIterable iter X.env x = pure x := by intro _; rfl) (hs1 : ∀ env x, foldedSetIterable iter1 env x = pure x := by intro _ _; rfl) :
    PE X (.ListComp elt (⟨tg, iter, ifs, 0⟩ :: rest) scope pos) (tLcN wi g tt tr (own.map (·.2))) := by
  refine ⟨fun pins s σ H Q I h => ?_⟩
  rw [eval_ListComp]
  have hfree : ∀ y ∈ scope.names, y.2 = .free → ∃ c, X.env.cells.lookup y.1 = some c := fun y hy e => by
    rcases ok.free y hy e with k | k
    · exact I.ok.has _ (.inl k)
    · exact I.ok.has _ (.inr k)
  refine wpAny_comprehension_free (use := none) rfl hs (closure_ok hfree) ok.kind (fun y hy e => by rw [ok.uniq y hy, e])
    (thn (hi.run pins s σ H _ I h) fun xv s1 hx => thn hx fun itv s2 h2 => ?_)
  obtain ⟨it, fp, tn, J, H2, e, I2, T, st2, f2, q⟩ := h2
  subst e
  refine wpAny_newObj_type (newEnv_comp ?_) (by show 0 ≤ sizeLine; decide)
  generalize hD : s2.heap.objs.size = D
  have hDn : H2 D = none := I2.hok.fresh (Nat.le_of_eq hD)
  obtain ⟨W, ⟨m0, w0⟩, turn⟩ := q D hDn
  generalize hs3 : ({ s2 with heap := s2.heap.push { cls := .type "list", data := .seq ([] : List Value).toArray } } : Shared) = s3
  have h3 : s3.heap = s2.heap.push { cls := .type "list", data := .seq ([] : List Value).toArray } := by rw [← hs3]
  have I3 : Inv X pins σ (upd H2 D (.lst [])) s3 := by
    rw [← hs3]
    refine I2.laid (t' := s2.toks) (fun b o e => Heap.get?_push_of_some _ e) (Nat.le_of_eq hD) ⟨Nat.zero_le _, [], 0, .nil, ?_⟩
    rw [← hD]
    exact Heap.get?_push_size _ rfl
  have f3 : ∀ b ∈ fp, FpOk X pins (upd H2 D (.lst [])) b ∧ b < s3.heap.objs.size := fun b hb => by
    obtain ⟨o, e, _⟩ := T.obj _ _ st2 b hb
    have hlt := Heap.lt_size e
    refine ⟨⟨?_, (f2 b hb).2⟩, by rw [h3, Heap.size_push]; exact Nat.lt_succ_of_lt hlt⟩
    rw [upd_ne (by rw [← hD]; exact Nat.ne_of_lt hlt)]
    exact (f2 b hb).1
  have st3 : tn 0 s3.heap := T.keep _ _ _ st2 fun b _ o e => by rw [h3]; exact Heap.get?_push_of_some _ e
  have I4 := block_start I3 ok hN f3
  have pg := hg s3 (upd H2 D (.lst [])) s3.heap.objs.size (cellsFrom (s3.heap.objs.size + 1) scope.names (cloFrom X.env.cells scope.names [])) fp
  have pt := ht s3 (upd H2 D (.lst [])) s3.heap.objs.size (cellsFrom (s3.heap.objs.size + 1) scope.names (cloFrom X.env.cells scope.names [])) fp
  have pn := hn s3 (upd H2 D (.lst [])) s3.heap.objs.size (cellsFrom (s3.heap.objs.size + 1) scope.names (cloFrom X.env.cells scope.names [])) fp
  show codeAny _ _ (.compStart (.ListComp elt (⟨tg, iter, ifs, 0⟩ :: rest) scope pos) 0 (.ref it) (.ref D) (compEnvC scope (cellsFrom (s3.heap.objs.size + 1) scope.names (cloFrom X.env.cells scope.names [])) s3.heap.objs.size X.env)) (compPost (model X.prog X.w) X.A X.xe none (EP X pins σ Q) (.ref D) s3.heap.objs.size) { s3 with heap := pushCells (s3.heap.push { cls := .type "dict", data := .dict #[] }) scope.names }
  have nfp : ∀ b ∈ fp, (upd H2 D (.lst [])) b = none := fun b hb => (f3 b hb).1.1
  generalize hce : compEnvC scope (cellsFrom (s3.heap.objs.size + 1) scope.names (cloFrom X.env.cells scope.names [])) s3.heap.objs.size X.env = ce at I4 pg pt pn ⊢
  have cL : ce.locals = s3.heap.objs.size := by subst hce; rfl
  generalize hH3 : upd H2 D (.lst []) = H3 at I3 I4 pg pt pn w0 nfp f3
  generalize hs4 : ({ s3 with heap := pushCells (s3.heap.push { cls := .type "dict", data := .dict #[] }) scope.names } : Shared) = s4 at I4 ⊢
  have st4 : tn 0 s4.heap := T.keep _ _ _ st3 fun b _ o e => by rw [← hs4]; exact pushCells_keeps _ _ _ _ (Heap.get?_push_of_some _ e)
  have stat : ∀ {σ' : L2.St} {H' : Hp} {s' : Shared}, Inv (X.blk s3 H3 scope ce fp) [] σ' H' s' → (∀ b ∈ fp, H' b = none) → ∀ b ∈ fp, FpOk (X.blk s3 H3 scope ce fp) [] H' b := fun {σ' H' s'} I' hn b hb =>
    ⟨hn b hb, (I'.ok.exf b hb).1, I'.ok.exfs b hb, .inl hb, fun x c e => (I'.ok.exf b hb).2 x c e, fun p hp => absurd (show p ∈ ([] : List (Addr × Obj)) ++ [] from hp) (by simp)⟩
  have loop : codeAny (model X.prog X.w) X.A (.compLoop (.ListComp elt (⟨tg, iter, ifs, 0⟩ :: rest) scope pos) 0 (.ref it) (.ref D) ce) (compPost (model X.prog X.w) X.A X.xe none (EP X pins σ Q) (.ref D) s3.heap.objs.size) s4 := by
    refine loopMore (hT _ _ _) (hs1 ce) (fun n s' => ∃ i H', Inv (X.blk s3 H3 scope ce fp) [] (wipe σ (own.map (·.2))) H' s' ∧ tn i s'.heap ∧ (∀ b ∈ fp, H' b = none) ∧ W i n H') ?_ m0 ⟨0, H3, I4, st4, nfp, w0⟩
    rintro n s5 ⟨i, H5, I5, st5, n5, w5⟩
    rcases turn i n H5 w5 with ⟨stop, qq⟩ | ⟨go, N, hN', step⟩
    · refine thnF (T.done (X.blk s3 H3 scope ce fp) rfl rfl rfl hc i [] s5 _ H5 noE I5 (stat I5 n5) st5 stop) fun r s6 ⟨hr, I6⟩ => ?_
      subst hr
      have I7 : Inv X pins σ H5 s6 := I3.call' (ch := fp) I6.os I6.base I6.hok I6.bare fun b hb => ⟨(f3 b hb).1.2.2.2.1, (f3 b hb).1.2.1, (f3 b hb).1.2.2.2.2.1, (f3 b hb).1.2.2.2.2.2⟩
      have nC : H5 s3.heap.objs.size = none := by
        have z : H5 ce.locals = none := I6.free
        rw [cL] at z
        exact z
      obtain ⟨m, hn6, _⟩ := I6.loc
      have hn6 : s6.heap.Ns ce.locals m := hn6
      rw [cL] at hn6
      obtain ⟨f0, f1, f2', f3', f4, f5⟩ := I3.fpOk (Nat.le_refl _) nC
      exact ⟨m, hn6, fun h'' sb => ⟨.ref D, H5, I7.turned (t' := s6.toks) (fun b o hb e => (sb.2 b hb).trans e) f0 f1 f3' f4 f5, rfl, qq⟩⟩
    · refine thnF (T.item (X.blk s3 H3 scope ce fp) rfl rfl rfl hc i [] s5 _ H5 noE I5 (stat I5 n5) st5 go) fun r s6 ⟨u, hr, h6⟩ => ?_
      subst hr
      refine thnF h6 fun _ s7 ⟨x, H7, I7, r7, y7, st7, n7⟩ => ?_
      have I7' := I7.pinned (stat I7 n7) (T.obj _ _ st7)
      refine thnF (pg.run _ s7 _ H7 x u _ I7' r7 (step x H7 y7)) fun _ s8 ⟨σ8, H8, I8, hw8, q8⟩ => ?_
      refine thnF (pt.run _ s8 σ8 H8 _ I8 q8) fun b s9 ⟨H9, I9, q9⟩ => ?_
      cases b with
      | false =>
        simp only [Bool.false_eq_true, if_false] at q9 ⊢
        exact turn_end (X := X.blk s3 H3 scope ce fp) T st7 hw8 hN' I9 rfl (fun _ _ e _ => e) q9
      | true =>
        simp only [if_true] at q9 ⊢
        refine thnF (pn _ s9 σ8 H9 D N I9 q9) fun x1 s10 h10 => thnF h10 fun it1 s11 h11 => codeAny_mono h11 fun r s' hr => ?_
        cases r with
        | error e => exact hr
        | ok f =>
          obtain ⟨H', I', nx⟩ := hr
          exact turn_end (X := X.blk s3 H3 scope ce fp) T st7 hw8 hN' I' (wipe_length _ _) (fun i v e hi' => by rw [wipe_out fun z => hi' (hv i z)]; exact e) nx
  exact codeAny_compStart_list loop (T.self X.A 0 _ _ _ st4 loop)
end
end Tk

set_option Elab.async false
set_option linter.all false
set_option maxRecDepth 100000
set_option maxHeartbeats 4000000
set_option exponentiation.threshold 5000
namespace K
open PySem PySem.Spec PyProof.Rows L2 Tk Hd Mt
section
variable {P : Program} {w : World} {K : PySem.W.Frag} {mg : Str → Option Value} {base : Heap}
theorem gName_of {i : Nat} {x : V} {σ : L2.St} {H : Hp} {k : L2.St → Hp → Prop} (h : k (σ.set i (some x)) H) : gName i x σ H k := h
/-- whole numbers, of any sign -/
def iJ : Rp Int := fun _ v n => v = .int n
instance : Mono iJ := ⟨fun _ h => h⟩
def spCFac : Sp := fun vs H Q _ => ∃ (I : Hp) (v : V) (ns : List Int), vs = [v] ∧ Same I H ∧ iL iJ I v ns ∧ ns.length ≤ 10000 ∧ ∀ g : Nat, (∀ n ∈ ns, (g : Int) ∣ n) → Q (.int (g : Int)) H
theorem sc_common_factor : FnScope ["numbers", "common", "number"] ["numbers"] (defScope s_common_factor) := ⟨rfl, rfl, rfl, by decide +kernel, rfl, by decide +kernel, by decide +kernel⟩
theorem ok_cfac (D : Dt K mg) : Has P w K mg base 1 (He.ga K "common_factor") ["numbers"] [] (spCFac) := by
  obtain ⟨fd, F⟩ := fd_common_factor D
  refine hasN F (F.bindsN fun _ _ _ _ _ _ us hl => match us, hl with | [_], _ => rfl) sc_common_factor (fun vs H Q E h => ?_) (fun cdv A outer s H vs Q E hr h => ?_)
  · obtain ⟨I, v, ns, rfl, _⟩ := h; rfl
  · obtain ⟨I, v, ns, rfl, s0, rv, hl, k⟩ := h
    refine ⟨_, (pss_cons (ps_set (i := 1) sc_common_factor.nd rfl (Or.inl rfl) pe_int)
      (pss_cons (ps_for PassesOwn.never rfl (pi_listK K (pv 0)) (pg_name (i := 2) sc_common_factor.nd rfl (Or.inl rfl))
      (pss_cons (ps_set (i := 1) sc_common_factor.nd rfl (Or.inl rfl) (pe_callBfun cr_gcd rfl (blt_gcd D) (pa_cons (pv 1) (pa_cons (pv 2) pa_nil))))
      (pss_one (ps_if (pt_cmpR op_eq (pv 1) pe_int (nomark _))
      (pss_one (ps_ret pe_int))
      pss_nil))))
      (pss_one (ps_ret (pv 1))))), ?_⟩
    obtain ⟨a, ys, rfl, ha, y2⟩ := id rv
    have ly := y2.len
    refine seq_cut (fun σ' H1 => H1 = H ∧ σ' = [some (.ref a), some (.int ((0 : Nat) : Int)), none]) (fun nx q => ?_) ?_
    · exact q _ _ ⟨rfl, rfl⟩
    rintro σ' H1 ⟨rfl, rfl⟩
    (try dsimp only)
    refine seq_cut (fun σ' H1 => Same I H1 ∧ ∃ (g : Nat) (v2 : Option V), σ' = [some (.ref a), some (.int (g : Int)), v2] ∧ (∀ n ∈ ns, (g : Int) ∣ n) ∧ ∀ g : Nat, (∀ n ∈ ns, (g : Int) ∣ n) → Q (.int (g : Int)) H1) (fun nx q => ?_) ?_
    · refine ⟨_, rfl, a, rfl, ⟨_, SqL.of (s0 _ _ ha)⟩, ?_⟩
      refine for_wk (D := { nx := nx, rt := Q }) (wk_list (I := I) ha)
        (fun σ' H1 => Same I H1 ∧ ∃ (g : Nat) (v2 : Option V), σ' = [some (.ref a), some (.int (g : Int)), v2] ∧ (∀ n ∈ ns, (g : Int) ∣ n) ∧ ∀ g : Nat, (∀ n ∈ ns, (g : Int) ∣ n) → Q (.int (g : Int)) H1)
        (fun i σ' H1 => Same I H1 ∧ ∃ (g : Nat) (v2 : Option V), σ' = [some (.ref a), some (.int (g : Int)), v2] ∧ (∀ n ∈ ns.take i, (g : Int) ∣ n) ∧ ∀ g : Nat, (∀ n ∈ ns, (g : Int) ∣ n) → Q (.int (g : Int)) H1)
        (fun i σ' H1 h => h.1) ⟨s0, 0, none, rfl, fun n hn => by simp at hn, k⟩ (fun nx2 qn i σ' H1 hi h => ?_) (fun σ' H1 h => ?_) (fun σ' H1 h => q _ _ h)
      · obtain ⟨s1, g, v2, rfl, hg, k⟩ := h
        refine gName_of ?_
        (try dsimp only)
        have hin : i < ns.length := by omega
        obtain ⟨z, hz⟩ : ∃ z, ns[i]? = some z := ⟨_, List.getElem?_eq_getElem hin⟩
        have e : gv ys i = V.int z := by
          obtain ⟨u, hu, ru⟩ := y2.get' hz
          unfold gv; rw [List.getD_eq_getElem?_getD, hu]; exact ru
        rw [e]
        have ht : ns.take (i + 1) = ns.take i ++ [z] := by rw [List.take_add_one, hz]; rfl
        have dv : ∀ n ∈ ns.take (i + 1), ((Nat.gcd g z.natAbs : Nat) : Int) ∣ n := fun n hn => by
          rw [ht] at hn
          rcases List.mem_append.mp hn with hn | hn
          · exact Int.dvd_trans (Int.natCast_dvd_natCast.mpr (Nat.gcd_dvd_left _ _)) (hg n hn)
          · rw [List.mem_singleton.mp hn]
            exact Int.natAbs_dvd_natAbs.mp (by rw [Int.natAbs_natCast]; exact Nat.gcd_dvd_right _ _)
        refine seq_cut (fun σ' H2 => H2 = H1 ∧ σ' = [some (.ref a), some (.int ((Nat.gcd g z.natAbs : Nat) : Int)), some (.int z)]) (fun nx3 q3 => ?_) ?_
        · exact ⟨_, rfl, _, rfl, (g : Int), z, rfl, q3 _ _ ⟨rfl, by rw [Int.natAbs_natCast]; rfl⟩⟩
        rintro σ' H2 ⟨rfl, rfl⟩
        (try dsimp only)
        refine ⟨_, rfl, rfl, _, rfl, ifB (fun c => ?_) (fun c => ⟨s1, _, _, rfl, dv, k⟩)⟩
        exact k 1 fun n _ => by rw [Int.natCast_one]; exact Int.one_dvd _
      · obtain ⟨s1, g, v2, rfl, hg, k⟩ := h
        exact ⟨s1, g, v2, rfl, fun n hn => hg n (by rw [ly, List.take_length]; exact hn), k⟩
    rintro σ' H1 ⟨s1, g, v2, rfl, hg, k⟩
    exact ⟨_, rfl, k g hg⟩
/-! ### Whole -/
abbrev CWh (K : PySem.W.Frag) : Addr := He.ga K "Whole"
def wfd (va vb : V) : List (Str × V) := putF "bottom" vb (putF "numbers" va [])
theorem wnm : ¬ (("numbers" : Str) = "bottom") := by decide +kernel
theorem wf_numbers {va vb : V} : (wfd va vb).lookup ("numbers" : Str) = some va := by
  unfold wfd; rw [lookup_putF, if_neg wnm, lookup_putF, if_pos rfl]
theorem wf_bottom {va vb : V} : (wfd va vb).lookup ("bottom" : Str) = some vb := by
  unfold wfd; rw [lookup_putF, if_pos rfl]
/-- a Whole as it stands -/
def iWh (C : Addr) : Rp (List Int × Nat) := fun H v x => ∃ a dx va, v = .ref a ∧ H a = some (.ins C dx (wfd va (.int (x.2 : Int)))) ∧ iL iJ H va x.1
instance {C : Addr} : Mono (iWh C) := ⟨fun s ⟨a, dx, va, e, h, r⟩ => ⟨a, dx, va, e, s _ _ h, up s r⟩⟩
def spWInit (C2 : Addr) : Sp := fun vs H Q _ => ∃ (I : Hp) (x dx : Addr) (v : V) (ns : List Int) (b : Nat), vs = [.ref x, v, .int (b : Int)] ∧ Same I H ∧ I x = none ∧ H x = some (.ins C2 dx []) ∧ iL iJ I v ns ∧ ns.length ≤ 10000 ∧ 0 < b ∧ b < 2 ^ 2000 ∧
  ∀ (d : Nat), 0 < d → d ∣ b → (∀ n ∈ ns, (d : Int) ∣ n) → ∀ I' H' va, Gr [x] I H I' H' → H' x = some (.ins C2 dx (wfd va (.int ((b / d : Nat) : Int)))) → iL iJ I' va (ns.map fun n => n / (d : Int)) → Q .non H'
theorem sc_Whole_init : FnScope ["self", "numbers", "bottom", "common", "number"] ["self", "numbers", "bottom"] (defScope s_Whole_init) := ⟨rfl, rfl, rfl, by decide +kernel, rfl, by decide +kernel, by decide +kernel⟩
theorem ok_winit (D : Dt K mg) : Has P w K mg base 2 (He.ma K (He.ga K "Whole") "__init__") ["self", "numbers", "bottom"] [] (spWInit (CWh K)) := by
  obtain ⟨fd, F⟩ := fd_Whole_init D
  have H_common_factor := ok_cfac (P := P) (w := w) (base := base) D
  refine hasN F (F.bindsN fun _ _ _ _ _ _ us hl => match us, hl with | [_, _, _], _ => rfl) sc_Whole_init (fun vs H Q E h => ?_) (fun cdv A outer s H vs Q E hr h => ?_)
  · obtain ⟨I, x, dx, v, ns, b, rfl, _⟩ := h; rfl
  · obtain ⟨I, x, dx, v, ns, b, rfl, s0, hI, hx, rv, hl, b0, b1, k⟩ := h
    refine ⟨_, (pss_cons (ps_set (i := 3) sc_Whole_init.nd rfl (Or.inr rfl) (pe_callBfun cr_gcd rfl (blt_gcd D) (pa_cons (pv 2) (pa_cons (pe_callH H_common_factor (hr.mono (by omega)) rfl (glo_common_factor D) passL (pa_cons (pv 1) pa_nil)) pa_nil))))
      (pss_cons (ps_fld (pv 0) (pe_lc (own := [("number", 4)]) (g := gName 4) rfl sc_Whole_init.nd (pi_listK K (pv 1)) (blkOk_by (own := [("number", 4)]) (N := ["self", "numbers", "bottom", "common", "number"]) (by kernel_rfl)) (fun _ _ _ _ _ => (pg_name (i := 4) sc_Whole_init.nd rfl (Or.inl rfl))) (fun _ _ _ _ _ => pts_nil) (fun _ _ _ _ _ => (pe_op op_fdivW (pv 4) (pv 3)))) rfl)
      (pss_one (ps_fld (pv 0) (pe_op op_fdivW (pv 2) (pv 3)) rfl)))), ?_⟩
    obtain ⟨a, ys, rfl, ha, y2⟩ := id rv
    have ly := y2.len
    (try dsimp only)
    refine seq_cut (fun σ' H1 => H1 = H ∧ ∃ d : Nat, σ' = [some (.ref x), some (.ref a), some (.int (b : Int)), some (.int (d : Int)), none] ∧ 0 < d ∧ d ∣ b ∧ ∀ n ∈ ns, (d : Int) ∣ n) (fun nx q => ?_) ?_
    · refine ⟨_, rfl, _, rfl, I, .ref a, ns, rfl, s0, rv, hl, fun g hg => ⟨(b : Int), (g : Int), rfl, ?_⟩⟩
      rw [Int.natAbs_natCast, Int.natAbs_natCast]
      exact q _ _ ⟨rfl, Nat.gcd b g, rfl, Nat.gcd_pos_of_pos_left _ b0, Nat.gcd_dvd_left _ _, fun n hn => Int.dvd_trans (Int.natCast_dvd_natCast.mpr (Nat.gcd_dvd_right _ _)) (hg n hn)⟩
    rintro σ' H1 ⟨rfl, d, rfl, d0, db, dn⟩
    have cd : ∀ z : Int, CDivW z (d : Int) := fun z => wide_div (b := 2000) (by omega) (by rw [Int.natAbs_natCast]; exact Nat.lt_of_le_of_lt (Nat.le_of_dvd b0 db) b1) (by decide) (by decide)
    (try dsimp only)
    refine seq_cut (fun σ' H2 => ∃ (I2 : Hp) (va : V), σ' = [some (.ref x), some (.ref a), some (.int (b : Int)), some (.int (d : Int)), none] ∧ Gr [x] I H1 I2 H2 ∧ H2 x = some (.ins (CWh K) dx (putF "numbers" va [])) ∧ iL iJ I2 va (ns.map fun n => n / (d : Int))) (fun nx q => ?_) ?_
    · refine ⟨_, rfl, a, rfl, ⟨_, SqL.of (s0 _ _ ha)⟩, fun l hD => ?_⟩
      refine lc_map (R := iJ) (Sy := iJ) (fun n => n / (d : Int)) (wk_list ha) y2 s0 hD (lt_line (by omega)) (fun i z I1 H3 Nx Qk hi rz s1 s2 kk => ?_) (fun I1 H3 g1 r1 => ?_)
      · have e : gv ys i = V.int z := rz
        rw [e]
        refine ⟨rfl, _, rfl, _, rfl, z, (d : Int), rfl, rfl, cd z, kk _ _ _ (Gr.refl s2) rfl⟩
      · have hI1 := g1.out hI hx
        have h1 := g1.at hx (by simp)
        refine ⟨_, rfl, x, _, dx, _, rfl, h1, cls_Whole D, na_Whole_numbers D, (by show 0 < 1000; decide), ?_⟩
        exact q _ _ ⟨I1, _, rfl, g1.nil.trans (Gr.mut g1.ih hI1 List.mem_cons_self), upd_same, r1⟩
    rintro σ' H2 ⟨I2, va, rfl, g2, hx2, r2⟩
    (try dsimp only)
    refine ⟨_, rfl, _, rfl, (b : Int), (d : Int), rfl, rfl, cd b, _, rfl, x, _, dx, _, rfl, hx2, cls_Whole D, na_Whole_bottom D, (by show 1 < 1000; decide), ?_⟩
    have hI2 := g2.out hI hx
    exact k d d0 db dn I2 _ va (g2.trans (Gr.mut g2.ih hI2 List.mem_cons_self)) (by rw [upd_same]; rfl) r2
theorem wh_new {I H I' H' : Hp} {x dx C2 : Addr} {ns : List Int} {b : Nat} {va : V} (s : Same I H) (nx : H x = none) (nd : H dx = none) (ne : dx ≠ x)
    (g : Gr [x] (upd I dx (.own x)) (upd (upd H dx (.own x)) x (.ins C2 dx [])) I' H') (h : H' x = some (.ins C2 dx (wfd va (.int (b : Int))))) (r1 : iL iJ I' va ns) :
    Gr [] I H (upd I' x (.ins C2 dx (wfd va (.int (b : Int))))) H' ∧ iWh C2 (upd I' x (.ins C2 dx (wfd va (.int (b : Int))))) (.ref x) (ns, b) := by
  have g0 : Gr [] I H (upd I dx (.own x)) (upd H dx (.own x)) := Gr.new s nd
  have hx0 : upd H dx (.own x) x = none := by rw [upd_ne (Ne.symm ne)]; exact nx
  have g1 : Gr [] (upd I dx (.own x)) (upd H dx (.own x)) (upd I dx (.own x)) (upd (upd H dx (.own x)) x (.ins C2 dx [])) := Gr.tmp g0.ih hx0
  have g2 := (g1.mono (ns := [x]) fun _ z => nomatch z).trans g
  have hI' : I' x = none := g.out (g0.ih.free hx0) upd_same
  exact ⟨g0.trans (g2.frz g0.ih hx0 h), x, dx, va, rfl, upd_same, up (sNew hI') r1⟩
theorem div_rel {q : Rat} {L d : Nat} (h0 : 0 < d) (h1 : q.den ∣ L) (h2 : d ∣ L) (h3 : (d : Int) ∣ q.num * ((L : Int) / (q.den : Int))) : q.num * ((L : Int) / (q.den : Int)) / (d : Int) * (q.den : Int) = q.num * ((L / d : Nat) : Int) := by
  obtain ⟨c, hc⟩ := h1
  obtain ⟨e, he⟩ := h2
  obtain ⟨f, hf⟩ := h3
  have hd := q.den_pos
  have e1 : (L : Int) / (q.den : Int) = (c : Int) := by rw [hc, Int.natCast_mul]; exact Int.mul_ediv_cancel_left _ (by omega)
  have e2 : L / d = e := by rw [he]; exact Nat.mul_div_cancel_left _ h0
  rw [hf, Int.mul_ediv_cancel_left _ (by omega), e2]
  rw [e1] at hf
  have e3 : (d : Int) * (e : Int) = (q.den : Int) * (c : Int) := by rw [← Int.natCast_mul, ← Int.natCast_mul, ← hc, ← he]
  refine Int.eq_of_mul_eq_mul_left (show (d : Int) ≠ 0 by omega) ?_
  rw [← Int.mul_assoc, ← hf, Int.mul_left_comm, e3]
  ac_rfl
def dvB (N : Nat) (q : Rat) : Prop := q.den ∣ N ∧ q.num.natAbs < 2 ^ 2000
/-- what whole tells -/
def IsWh (qs : List Rat) (N : Nat) (x : List Int × Nat) : Prop := 0 < x.2 ∧ x.2 ∣ N ∧ x.1.length = qs.length ∧ ∀ (i : Nat) (q : Rat) (n : Int), qs[i]? = some q → x.1[i]? = some n → n * (q.den : Int) = q.num * (x.2 : Int)
def spWhole (C C2 : Addr) : Sp := fun vs H Q _ => ∃ (I : Hp) (v : V) (qs : List Rat) (N : Nat), vs = [v] ∧ Same I H ∧ iA (iR C) I v qs ∧ qs.length ≤ 10000 ∧ 0 < N ∧ N < 2 ^ 64 ∧ (∀ q ∈ qs, dvB N q) ∧
  ∀ I' H' v' x, Gr [] I H I' H' → iWh C2 I' v' x → IsWh qs N x → Q v' H'
theorem mulW_of {i j : Int} {a b : Nat} (ha : i.natAbs < 2 ^ a) (hb : j.natAbs < 2 ^ b) (h0 : 0 < a) (h1 : 0 < b) (h : a + b ≤ 1000000) : CMulW i j := wide_mul (a := a) (b := b) ha hb h0 h1 h
theorem sc_whole : FnScope ["ratios", "bottom", "ratio"] ["ratios"] (defScope s_whole) := ⟨rfl, rfl, rfl, by decide +kernel, rfl, by decide +kernel, by decide +kernel⟩
theorem ok_whole (D : Dt K mg) : Has P w K mg base 4 (He.ga K "whole") ["ratios"] [] (spWhole (CR K) (CWh K)) := by
  obtain ⟨fd, F⟩ := fd_whole D
  have H_Whole_init := ok_winit (P := P) (w := w) (base := base) D
  refine hasN F (F.bindsN fun _ _ _ _ _ _ us hl => match us, hl with | [_], _ => rfl) sc_whole (fun vs H Q E h => ?_) (fun cdv A outer s H vs Q E hr h => ?_)
  · obtain ⟨I, v, qs, N, rfl, _⟩ := h; rfl
  · obtain ⟨I, v, qs, N, rfl, s0, rv, hl, n0, n1, hq, k⟩ := h
    refine ⟨_, (pss_cons (ps_set (i := 1) sc_whole.nd rfl (Or.inr rfl) pe_int)
      (pss_cons (ps_for PassesOwn.never rfl (pi_ltK K (pv 0)) (pg_name (i := 2) sc_whole.nd rfl (Or.inl rfl))
      (pss_one (ps_set (i := 1) sc_whole.nd rfl (Or.inr rfl) (pe_callBfun cr_lcm rfl (blt_lcm D) (pa_cons (pv 1) (pa_cons (pe_fldK K (pv 2) rfl) pa_nil))))))
      (pss_one (ps_ret (pe_makeH (mkr_Whole (K := K) D) H_Whole_init (hr.mono (by omega)) rfl (glo_Whole D) passL (pa_cons (pe_lc (own := [("ratio", 2)]) (g := gName 2) rfl sc_whole.nd (pi_ltK K (pv 0)) (blkOk_by (own := [("ratio", 2)]) (N := ["ratios", "bottom", "ratio"]) (by kernel_rfl)) (fun _ _ _ _ _ => (pg_name (i := 2) sc_whole.nd rfl (Or.inl rfl))) (fun _ _ _ _ _ => pts_nil) (fun _ _ _ _ _ => (pe_op op_mulW (pe_fldK K (pv 2) rfl) (pe_op op_fdivW (pv 1) (pe_fldK K (pv 2) rfl))))) (pa_cons (pv 1) pa_nil))))))), ?_⟩
    obtain ⟨a, ys, rfl, ha, y2⟩ := id rv
    have ly := y2.len
    refine seq_cut (fun σ' H1 => H1 = H ∧ σ' = [some (.ref a), some (.int ((1 : Nat) : Int)), none]) (fun nx q => ?_) ?_
    · exact q _ _ ⟨rfl, rfl⟩
    rintro σ' H1 ⟨rfl, rfl⟩
    (try dsimp only)
    refine seq_cut (fun σ' H2 => H2 = H1 ∧ ∃ (L : Nat) (v2 : Option V), σ' = [some (.ref a), some (.int (L : Int)), v2] ∧ 0 < L ∧ L ∣ N ∧ ∀ q ∈ qs, q.den ∣ L) (fun nx q => ?_) ?_
    · refine ⟨_, rfl, lt_of ha s0 fun J W => ?_⟩
      refine for_wk (D := { nx := nx, rt := Q }) W
        (fun σ' H2 => H2 = H1 ∧ ∃ (L : Nat) (v2 : Option V), σ' = [some (.ref a), some (.int (L : Int)), v2] ∧ 0 < L ∧ L ∣ N ∧ ∀ q ∈ qs, q.den ∣ L)
        (fun i σ' H2 => H2 = H1 ∧ ∃ (L : Nat) (v2 : Option V), σ' = [some (.ref a), some (.int (L : Int)), v2] ∧ 0 < L ∧ L ∣ N ∧ ∀ q ∈ qs.take i, q.den ∣ L)
        (fun i σ' H2 h => by rw [h.1]; exact s0) ⟨rfl, 1, none, rfl, by decide, Nat.one_dvd _, fun n hn => by simp at hn⟩ (fun nx2 qn i σ' H2 hi h => ?_) (fun σ' H2 h => ?_) (fun σ' H2 h => q _ _ h)
      · obtain ⟨rfl, L, v2, rfl, l0, ln, lq⟩ := h
        have hin : i < qs.length := by omega
        obtain ⟨z, hz⟩ : ∃ z, qs[i]? = some z := ⟨_, List.getElem?_eq_getElem hin⟩
        have hzm := List.mem_of_getElem? hz
        obtain ⟨u, hu, ru⟩ := y2.get' hz
        have e : gv ys i = u := by unfold gv; rw [List.getD_eq_getElem?_getD, hu]; rfl
        rw [e]
        obtain ⟨r, rd, rfl, hr'⟩ := id ru
        refine gName_of ?_
        (try dsimp only)
        have lle := Nat.le_of_dvd n0 ln
        have zle := Nat.le_of_dvd n0 (hq z hzm).1
        refine ⟨_, rfl, _, rfl, r, _, rd, _, _, rfl, s0 _ _ hr', cls_Ratio D, na_Ratio_den D, rf_den z, (L : Int), (z.den : Int), rfl, ?_, ?_, ?_⟩
        · rw [Int.natAbs_natCast]; omega
        · rw [Int.natAbs_natCast]; omega
        rw [Int.natAbs_natCast, Int.natAbs_natCast]
        refine ⟨rfl, _, _, rfl, Nat.lcm_pos l0 z.den_pos, Nat.lcm_dvd ln (hq z hzm).1, fun q hq' => ?_⟩
        rw [List.take_add_one, hz] at hq'
        rcases List.mem_append.mp hq' with hq' | hq'
        · exact Nat.dvd_trans (lq q hq') (Nat.dvd_lcm_left _ _)
        · have : q = z := by simpa using hq'
          rw [this]; exact Nat.dvd_lcm_right _ _
      · obtain ⟨e, L, v2, rfl, l0, ln, lq⟩ := h
        exact ⟨e, L, v2, rfl, l0, ln, fun q hq' => lq q (by rw [ly, List.take_length]; exact hq')⟩
    rintro σ' H2 ⟨rfl, L, v2, rfl, l0, ln, lq⟩
    (try dsimp only)
    have lle := Nat.le_of_dvd n0 ln
    refine ⟨_, rfl, lt_of ha s0 fun J W l hD => lc_map (R := iR (CR K)) (Sy := iJ) (fun q => q.num * ((L : Int) / (q.den : Int))) W y2 s0 hD (lt_line (by omega)) (fun i z I1 H3 Nx Qk hi rz s1 s2 kk => ?_) (fun I1 H3 g1 r1 => ?_)⟩
    · obtain ⟨r, rd, e, hr'⟩ := id rz
      rw [e]
      have zm := List.mem_of_getElem? hi
      have hH := s2 _ _ hr'
      have zle := Nat.le_of_dvd n0 (hq z zm).1
      refine ⟨rfl, _, rfl, r, _, rd, _, _, rfl, hH, cls_Ratio D, na_Ratio_num D, rf_num z, _, rfl, _, rfl, r, _, rd, _, _, rfl, hH, cls_Ratio D, na_Ratio_den D, rf_den z, (L : Int), (z.den : Int), rfl, rfl, wide_div (b := 64) (by have := z.den_pos; omega) (by rw [Int.natAbs_natCast]; omega) (by decide) (by decide), z.num, (L : Int) / (z.den : Int), rfl, rfl, mulW_of (a := 2000) (b := 64) (hq z zm).2 ?_ (by decide) (by decide) (by decide), kk _ _ _ (Gr.refl s2) rfl⟩
      have e9 : (L : Int) / (z.den : Int) = ((L / z.den : Nat) : Int) := (Int.natCast_ediv L z.den).symm
      rw [e9, Int.natAbs_natCast]
      have := Nat.div_le_self L z.den
      omega
    · refine ⟨_, rfl, fun x dx nx nd ne => ?_⟩
      have hx1 : upd H3 dx (.own x) x = none := by rw [upd_ne (Ne.symm ne)]; exact nx
      have gd := Gr.new (ms := []) (o := .own x) g1.ih nd
      refine ⟨upd I1 dx (.own x), x, dx, .ref l, _, L, rfl, sUnder gd.ih (gd.ih.free hx1), gd.ih.free hx1, upd_same, up gd.ii r1, by rw [List.length_map]; exact hl, l0, Nat.lt_of_le_of_lt lle (Nat.lt_trans n1 (by decide)), fun d d0 db dn I8 H8 va g8 h8 r8 => ?_⟩
      obtain ⟨g9, r9⟩ := wh_new g1.ih nx nd ne g8 h8 r8
      refine ⟨rfl, k _ _ _ _ (g1.trans g9) r9 ⟨Nat.div_pos (Nat.le_of_dvd l0 db) d0, Nat.dvd_trans (Nat.div_dvd_of_dvd db) ln, by rw [List.length_map, List.length_map], fun i q n h1 h2 => ?_⟩⟩
      have hm := List.mem_of_getElem? h1
      rw [List.getElem?_map, List.getElem?_map, h1] at h2
      injection h2 with h2
      rw [← h2]
      exact div_rel d0 (lq q hm) db (dn _ (List.mem_map.mpr ⟨q, hm, rfl⟩))
end
end K

set_option Elab.async false
set_option linter.all false
set_option maxRecDepth 100000
/-! Clauses over known lists. -/
namespace Tk
open PySem PySem.Spec PyProof.Rows L2
/-- the turns of a clause -/
theorem lv_wk {J : It} {n : Nat} {xs : Nat → V} {I : Hp} {g : TG} {tt : TT} {tr : TR} {vs : List Nat} {D : Addr} {σ : L2.St} {H : Hp} {Nx : Hp → Prop} (W : Wk J n xs I) (Pv : Nat → Hp → Prop) (hS : ∀ i H, Pv i H → Same I H) (h0 : Pv 0 H)
    (step : ∀ (j : Nat) (H' : Hp) (N : Hp → Prop), j < n → Pv j H' → (∀ H2, Pv (j + 1) H2 → N H2) → g (xs j) (wipe σ vs) H' fun σ3 H5 => wipe σ3 vs = wipe σ vs ∧ tt σ3 H5 fun b H6 => if b = true then tr D σ3 H6 N else N H6)
    (fin : ∀ H', Pv n H' → Nx H') :
    ∃ Wz : Nat → Nat → Hp → Prop, (∃ m, Wz 0 m H) ∧ ∀ j k H, Wz j k H →
      (J.stop j H ∧ Nx H) ∨ (J.go j H ∧ ∃ N : Hp → Prop, (∀ H', N H' → ∃ k', k' < k ∧ Wz (j + 1) k' H') ∧ ∀ x H', J.yld j H x H' → g x (wipe σ vs) H' fun σ3 H5 => wipe σ3 vs = wipe σ vs ∧ tt σ3 H5 fun b H6 => if b = true then tr D σ3 H6 N else N H6) := by
  refine ⟨fun j m H => m = n - j ∧ j ≤ n ∧ Pv j H, ⟨n, rfl, Nat.zero_le _, h0⟩, ?_⟩
  rintro j m H ⟨rfl, hj, p⟩
  have s := hS j H p
  by_cases hlt : j < n
  · refine .inr ⟨W.go j H s hlt, Pv (j + 1), fun H' p' => ⟨n - (j + 1), by omega, rfl, hlt, p'⟩, fun x H' y => ?_⟩
    obtain ⟨rfl, rfl⟩ := W.yld j H x H' s hlt y
    exact step j _ _ hlt p fun H2 h => h
  · have e : j = n := by omega
    subst e
    exact .inl ⟨W.stop H s, fin H p⟩
/-- the first clause's turns -/
theorem lcN_wk {J : It} {n : Nat} {xs : Nat → V} {I : Hp} {g : TG} {tt : TT} {tr : TR} {vs : List Nat} {D : Addr} {σ : L2.St} {H : Hp} {Q : VK} (W : Wk J n xs I) (Pv : Nat → Hp → Prop) (hS : ∀ i H, Pv i H → Same I H) (h0 : Pv 0 H)
    (step : ∀ (j : Nat) (H' : Hp) (N : Hp → Prop), j < n → Pv j H' → (∀ H2, Pv (j + 1) H2 → N H2) → g (xs j) (wipe σ vs) H' fun σ3 H5 => wipe σ3 vs = wipe σ vs ∧ tt σ3 H5 fun b H6 => if b = true then tr D σ3 H6 N else N H6)
    (fin : ∀ H', Pv n H' → Q (.ref D) H') :
    ∃ Wz : Nat → Nat → Hp → Prop, (∃ m, Wz 0 m H) ∧ ∀ i m H, Wz i m H →
      (J.stop i H ∧ Q (.ref D) H) ∨ (J.go i H ∧ ∃ N : Hp → Prop, (∀ H', N H' → ∃ m', m' < m ∧ Wz (i + 1) m' H') ∧ ∀ x H', J.yld i H x H' → g x (wipe σ vs) H' fun σ2 H2 => wipe σ2 vs = wipe σ vs ∧ tt σ2 H2 fun b H3 => if b = true then tr D σ2 H3 N else N H3) :=
  lv_wk W Pv hS h0 step fin
end Tk

set_option Elab.async false
set_option linter.all false
set_option maxRecDepth 100000
set_option maxHeartbeats 4000000
set_option exponentiation.threshold 5000
namespace K
open PySem PySem.Spec PyProof.Rows L2 Tk Hd Mt
section
variable {P : Program} {w : World} {K : PySem.W.Frag} {mg : Str → Option Value} {base : Heap}
/-! ### Machine's numbers -/
def spMStates (C C2 : Addr) : Sp := fun vs H Q _ => ∃ (I : Hp) (v : V) (M : Ma), vs = [v] ∧ Same I H ∧ iM C C2 I v M ∧ Q (.int (M.1.length : Nat)) H
theorem sc_Machine_states : FnScope ["self"] ["self"] (defScope s_Machine_states) := ⟨rfl, rfl, rfl, by decide +kernel, rfl, by decide +kernel, by decide +kernel⟩
theorem ok_mstates (D : Dt K mg) : Has P w K mg base 1 (He.ma K (He.ga K "Machine") "states") ["self"] [] (spMStates (CR K) (CM K)) := by
  obtain ⟨fd, F⟩ := fd_Machine_states D
  refine hasN F (F.bindsN fun _ _ _ _ _ _ us hl => match us, hl with | [_], _ => rfl) sc_Machine_states (fun vs H Q E h => ?_) (fun cdv A outer s H vs Q E hr h => ?_)
  · obtain ⟨I, v, M, rfl, _⟩ := h; rfl
  · obtain ⟨I, v, M, rfl, s0, rv, k⟩ := h
    refine ⟨_, (pss_one (ps_ret (pe_callB (call_lenK K) rfl (free_len D) PySem.boot_len (pa_cons (pe_fldK K (pv 0) rfl) pa_nil)))), ?_⟩
    obtain ⟨a, dx, va, vb, rfl, ha, r1, r2⟩ := rv
    exact ⟨_, rfl, a, _, dx, _, _, rfl, s0 _ _ ha, cls_Machine D, na_Machine_start D, mf_start va vb, _, _, rfl, len_of (iA.t r1) s0, k⟩
def spMButtons (C C2 : Addr) : Sp := fun vs H Q _ => ∃ (I : Hp) (v : V) (M : Ma), vs = [v] ∧ Same I H ∧ iM C C2 I v M ∧ Q (.int (M.2.length : Nat)) H
theorem sc_Machine_buttons : FnScope ["self"] ["self"] (defScope s_Machine_buttons) := ⟨rfl, rfl, rfl, by decide +kernel, rfl, by decide +kernel, by decide +kernel⟩
theorem ok_mbuttons (D : Dt K mg) : Has P w K mg base 1 (He.ma K (He.ga K "Machine") "buttons") ["self"] [] (spMButtons (CR K) (CM K)) := by
  obtain ⟨fd, F⟩ := fd_Machine_buttons D
  refine hasN F (F.bindsN fun _ _ _ _ _ _ us hl => match us, hl with | [_], _ => rfl) sc_Machine_buttons (fun vs H Q E h => ?_) (fun cdv A outer s H vs Q E hr h => ?_)
  · obtain ⟨I, v, M, rfl, _⟩ := h; rfl
  · obtain ⟨I, v, M, rfl, s0, rv, k⟩ := h
    refine ⟨_, (pss_one (ps_ret (pe_callB (call_lenK K) rfl (free_len D) PySem.boot_len (pa_cons (pe_fldK K (pv 0) rfl) pa_nil)))), ?_⟩
    obtain ⟨a, dx, va, vb, rfl, ha, r1, r2⟩ := rv
    exact ⟨_, rfl, a, _, dx, _, _, rfl, s0 _ _ ha, cls_Machine D, na_Machine_moves D, mf_moves va vb, _, _, rfl, len_of (iA.t r2) s0, k⟩
def spMAnswers (C C2 : Addr) : Sp := fun vs H Q _ => ∃ (I : Hp) (v : V) (M : Ma), vs = [v] ∧ Same I H ∧ iM C C2 I v M ∧ 0 < M.2.length ∧ Q (.int ((gl M.2 0).length : Nat)) H
theorem sc_Machine_answers : FnScope ["self"] ["self"] (defScope s_Machine_answers) := ⟨rfl, rfl, rfl, by decide +kernel, rfl, by decide +kernel, by decide +kernel⟩
theorem ok_manswers (D : Dt K mg) : Has P w K mg base 1 (He.ma K (He.ga K "Machine") "answers") ["self"] [] (spMAnswers (CR K) (CM K)) := by
  obtain ⟨fd, F⟩ := fd_Machine_answers D
  refine hasN F (F.bindsN fun _ _ _ _ _ _ us hl => match us, hl with | [_], _ => rfl) sc_Machine_answers (fun vs H Q E h => ?_) (fun cdv A outer s H vs Q E hr h => ?_)
  · obtain ⟨I, v, M, rfl, _⟩ := h; rfl
  · obtain ⟨I, v, M, rfl, s0, rv, h0, k⟩ := h
    refine ⟨_, (pss_one (ps_ret (pe_callB (call_lenK K) rfl (free_len D) PySem.boot_len (pa_cons (pe_ix (ix_tupK K) (pe_fldK K (pv 0) rfl) pe_int (fun _ _ => rfl)) pa_nil)))), ?_⟩
    obtain ⟨a, dx, va, vb, rfl, ha, r1, r2⟩ := rv
    obtain ⟨b, us, rfl, hb, b2⟩ := id r2
    obtain ⟨u, hu, ru⟩ := b2.get' (gl_lt (l := M.2) (i := 0) h0)
    exact ⟨_, rfl, a, _, dx, _, _, rfl, s0 _ _ ha, cls_Machine D, na_Machine_moves D, mf_moves va _, _, _, _, _, rfl, rfl, SqT.of (s0 _ _ hb), at_of (j := 0) rfl hu, _, _, rfl, len_of (iA.t ru) s0, k⟩
/-! ### weights_of -/
def flatW (M : Ma) : List Rat := M.2.flatten.flatten.flatten
def spWts (C C2 : Addr) : Sp := fun vs H Q _ => ∃ (I : Hp) (v : V) (M : Ma), vs = [v] ∧ Same I H ∧ iM C C2 I v M ∧ (flatW M).length ≤ 100000 ∧ Ret [] I H (iL (iR C)) (flatW M) Q
theorem sc_weights_of : FnScope ["machine", "parts", "rows", "row", "weight"] ["machine"] (defScope s_weights_of) := ⟨rfl, rfl, rfl, by decide +kernel, rfl, by decide +kernel, by decide +kernel⟩
theorem ok_wts (D : Dt K mg) : Has P w K mg base 1 (He.ga K "weights_of") ["machine"] [] (spWts (CR K) (CM K)) := by
  obtain ⟨fd, F⟩ := fd_weights_of D
  refine hasN F (F.bindsN fun _ _ _ _ _ _ us hl => match us, hl with | [_], _ => rfl) sc_weights_of (fun vs H Q E h => ?_) (fun cdv A outer s H vs Q E hr h => ?_)
  · obtain ⟨I, v, M, rfl, _⟩ := h; rfl
  · obtain ⟨I, v, M, rfl, s0, rv, hl, k⟩ := h
    refine ⟨_, (pss_one (ps_ret (pe_lcN (own := [("parts", 1), ("rows", 2), ("row", 3), ("weight", 4)]) (vs1 := [2, 3, 4]) rfl sc_weights_of.nd (pi_tupK K (pe_fldK K (pv 0) rfl)) (blkOk_by (own := [("parts", 1), ("rows", 2), ("row", 3), ("weight", 4)]) (N := ["machine", "parts", "rows", "row", "weight"]) (by kernel_rfl)) (by decide) (fun _ _ _ _ _ => (pg_name (i := 1) sc_weights_of.nd rfl (Or.inl rfl))) (fun _ _ _ _ _ => pts_nil) (fun _ _ _ _ _ => (plv_more (vs := [2, 3, 4]) rfl rfl (pi_tupK K (pv 1)) (pg_name (i := 2) sc_weights_of.nd rfl (Or.inl rfl)) pts_nil (plv_more (vs := [3, 4]) rfl rfl (pi_tupK K (pv 2)) (pg_name (i := 3) sc_weights_of.nd rfl (Or.inl rfl)) pts_nil (plv_last (vs := [4]) rfl rfl (pi_tupK K (pv 3)) (pg_name (i := 4) sc_weights_of.nd rfl (Or.inl rfl)) pts_nil (pv 4) rfl (fun _ _ => rfl)) (by decide) rfl (fun _ _ => rfl) (fun _ => rfl)) (by decide) rfl (fun _ _ => rfl) (fun _ => rfl))) (fun _ _ _ => rfl)))), ?_⟩
    obtain ⟨a, dx, va, vb, rfl, ha, r1, r2⟩ := rv
    obtain ⟨b, bs, rfl, hb, b2⟩ := id r2
    refine ⟨_, rfl, a, _, dx, _, _, rfl, s0 _ _ ha, cls_Machine D, na_Machine_moves D, mf_moves va _, b, rfl, ⟨_, SqT.of (s0 _ _ hb)⟩, fun l hD => ?_⟩
    have P0 : ∀ acc, Same I (upd H l (.lst acc)) := fun acc => s0.trans (sNew hD)
    let Pz : List Rat → Hp → Prop := fun zs H' => ∃ acc, H' = upd H l (.lst acc) ∧ All2 (iR (CR K) I) acc zs
    have hS : ∀ zs H', Pz zs H' → Same I H' := fun zs H' ⟨acc, e, _⟩ => by rw [e]; exact P0 acc
    have pf : ∀ {α : Type} {x y : List (List α)}, x <+: y → x.flatten <+: y.flatten := fun {α x y} h => by
      obtain ⟨t, rfl⟩ := h
      exact ⟨t.flatten, by rw [List.flatten_append]⟩
    have pa : ∀ {z x y : List Rat}, x <+: y → (z ++ y).length ≤ 100000 → (z ++ x).length ≤ 100000 := fun {z x y} h h2 => by
      have := h.length_le
      rw [List.length_append] at h2 ⊢; omega
    have tk : ∀ {α : Type} (xs : List α) (i : Nat) (h : i < xs.length), xs.take (i + 1) = xs.take i ++ [xs[i]] := fun xs i h => by rw [List.take_add_one, List.getElem?_eq_getElem h]; rfl
    refine lcN_wk (wk_tup hb) (fun i => Pz (M.2.take i).flatten.flatten.flatten) (fun i => hS _) ⟨[], rfl, .nil⟩ (fun i H1 N hi h1 hN => ?_) (fun H1 h1 => ?_)
    rotate_left
    · obtain ⟨acc, rfl, a2⟩ := h1
      rw [b2.len, List.take_length] at a2
      have g := Gr.new (ms := []) (o := .lst acc) s0 hD
      exact k _ _ _ g ⟨l, acc, rfl, upd_same, a2.up g.ii⟩
    have hi' : i < M.2.length := by rw [← b2.len]; exact hi
    obtain ⟨u, hu, ru⟩ := b2.get' (List.getElem?_eq_getElem hi')
    have e : gv bs i = u := by unfold gv; rw [List.getD_eq_getElem?_getD, hu]; rfl
    have l1 : ((M.2.take i ++ [M.2[i]]).flatten.flatten.flatten).length ≤ 100000 := by rw [← tk _ _ hi']; exact Nat.le_trans (pf (pf (pf (List.take_prefix _ _)))).length_le hl
    rw [tk _ _ hi'] at hN
    generalize M.2[i] = p at ru hN l1
    rw [e]
    obtain ⟨c, cs, rfl, hc, c2⟩ := id ru
    change gName 1 _ [some (V.ref a), none, none, none, none] H1 (fun σ2 H2 => wipe σ2 [1, 2, 3, 4] = [some (V.ref a), none, none, none, none] ∧ _)
    obtain ⟨z1, ez1⟩ : ∃ z1, z1 = (M.2.take i).flatten.flatten.flatten := ⟨_, rfl⟩
    have hN : ∀ H2, Pz (z1 ++ p.flatten.flatten) H2 → N H2 := fun H2 h => hN H2 (by rw [List.flatten_append, List.flatten_append, List.flatten_append, ← ez1]; simpa using h)
    have l1 : (z1 ++ p.flatten.flatten).length ≤ 100000 := by rw [List.flatten_append, List.flatten_append, List.flatten_append, ← ez1] at l1; simpa using l1
    rw [← ez1] at h1
    refine ⟨rfl, _, rfl, c, rfl, ⟨_, SqT.of (hS _ _ h1 _ _ hc)⟩, lv_wk (wk_tup hc) (fun j => Pz (z1 ++ (p.take j).flatten.flatten)) (fun i => hS _) (by simpa using h1) (fun j H2 N2 hj h2 hN2 => ?_) (fun H2 h2 => hN H2 (by rw [c2.len, List.take_length] at h2; exact h2))⟩
    have hj' : j < p.length := by rw [← c2.len]; exact hj
    obtain ⟨u, hu, ru⟩ := c2.get' (List.getElem?_eq_getElem hj')
    have e : gv cs j = u := by unfold gv; rw [List.getD_eq_getElem?_getD, hu]; rfl
    have l2 : (z1 ++ (p.take j ++ [p[j]]).flatten.flatten).length ≤ 100000 := by rw [← tk _ _ hj']; exact pa (pf (pf (List.take_prefix _ _))) l1
    rw [tk _ _ hj'] at hN2
    generalize p[j] = rows at ru hN2 l2
    rw [e]
    obtain ⟨d, ds, rfl, hd, d2⟩ := id ru
    change gName 2 _ [some (V.ref a), some (V.ref c), none, none, none] H2 (fun σ2 H2 => wipe σ2 [2, 3, 4] = [some (V.ref a), some (V.ref c), none, none, none] ∧ _)
    obtain ⟨z2, ez2⟩ : ∃ z2, z2 = z1 ++ (p.take j).flatten.flatten := ⟨_, rfl⟩
    have hN2 : ∀ H3, Pz (z2 ++ rows.flatten) H3 → N2 H3 := fun H3 h => hN2 H3 (by rw [List.flatten_append, List.flatten_append, ← List.append_assoc, ← ez2]; simpa using h)
    have l2 : (z2 ++ rows.flatten).length ≤ 100000 := by rw [List.flatten_append, List.flatten_append, ← List.append_assoc, ← ez2] at l2; simpa using l2
    rw [← ez2] at h2
    refine ⟨rfl, _, rfl, d, rfl, ⟨_, SqT.of (hS _ _ h2 _ _ hd)⟩, lv_wk (wk_tup hd) (fun j => Pz (z2 ++ (rows.take j).flatten)) (fun i => hS _) (by simpa using h2) (fun j3 H3 N3 hj3 h3 hN3 => ?_) (fun H3 h3 => hN2 H3 (by rw [d2.len, List.take_length] at h3; exact h3))⟩
    have hj3' : j3 < rows.length := by rw [← d2.len]; exact hj3
    obtain ⟨u, hu, ru⟩ := d2.get' (List.getElem?_eq_getElem hj3')
    have e : gv ds j3 = u := by unfold gv; rw [List.getD_eq_getElem?_getD, hu]; rfl
    have l3 : (z2 ++ (rows.take j3 ++ [rows[j3]]).flatten).length ≤ 100000 := by rw [← tk _ _ hj3']; exact pa (pf (List.take_prefix _ _)) l2
    rw [tk _ _ hj3'] at hN3
    generalize rows[j3] = row at ru hN3 l3
    rw [e]
    obtain ⟨e1, es, rfl, he, e2⟩ := id ru
    change gName 3 _ [some (V.ref a), some (V.ref c), some (V.ref d), none, none] H3 (fun σ2 H2 => wipe σ2 [3, 4] = [some (V.ref a), some (V.ref c), some (V.ref d), none, none] ∧ _)
    obtain ⟨z3, ez3⟩ : ∃ z3, z3 = z2 ++ (rows.take j3).flatten := ⟨_, rfl⟩
    have hN3 : ∀ H3, Pz (z3 ++ row) H3 → N3 H3 := fun H3 h => hN3 H3 (by rw [List.flatten_append, ← List.append_assoc, ← ez3]; simpa using h)
    have l3 : (z3 ++ row).length ≤ 100000 := by rw [List.flatten_append, ← List.append_assoc, ← ez3] at l3; simpa using l3
    rw [← ez3] at h3
    refine ⟨rfl, _, rfl, e1, rfl, ⟨_, SqT.of (hS _ _ h3 _ _ he)⟩, lv_wk (wk_tup he) (fun j => Pz (z3 ++ row.take j)) (fun i => hS _) (by simpa using h3) (fun j4 H4 N4 hj4 h4 hN4 => ?_) (fun H4 h4 => hN3 H4 (by rw [e2.len, List.take_length] at h4; exact h4))⟩
    have hj4' : j4 < row.length := by rw [← e2.len]; exact hj4
    obtain ⟨u, hu, ru⟩ := e2.get' (List.getElem?_eq_getElem hj4')
    have e : gv es j4 = u := by unfold gv; rw [List.getD_eq_getElem?_getD, hu]; rfl
    rw [tk _ _ hj4'] at hN4
    rw [e]
    obtain ⟨acc, rfl, a4⟩ := h4
    change gName 4 _ [some (V.ref a), some (V.ref c), some (V.ref d), some (V.ref e1), none] _ (fun σ2 H2 => wipe σ2 [4] = [some (V.ref a), some (V.ref c), some (V.ref d), some (V.ref e1), none] ∧ _)
    refine ⟨rfl, _, rfl, acc, upd_same, ?_, hN4 _ ⟨acc ++ [u], upd_upd, ?_⟩⟩
    · rw [a4.len]; exact lt_line (pa (List.take_prefix _ _) l3)
    · rw [← List.append_assoc]
      exact a4.snoc ru
end
end K

set_option Elab.async false
set_option linter.all false
set_option maxRecDepth 100000
/-! enumerate over a tuple. -/
namespace PySem
open Sem (wp)
set_option maxHeartbeats 1000000 in
theorem Tk_enum_new {v : Value} {o : Obj} {H : Heap → Prop} (B : Begins v o H) :
    Meets (Builtin.«enumerate.__new__» ⟨[.type "enumerate", v], []⟩) (fun _ R s => H s.heap ∧
      R (.ok (.ret (.ref (s.heap.push o).objs.size))) { s with heap := (s.heap.push o).push { cls := .type "enumerate", data := .fields #[.none, .bool false, .ref s.heap.objs.size, rawInt 0, .none, .none] } }) :=
  .of_wp fun prog w A R s h => by
    obtain ⟨hp, g, d, tk, os⟩ := s
    obtain ⟨h1, h⟩ := h
    have hsub := sub_enumerate
    have q1 : ∀ {A' : Around} {E : Value → Shared → Prop} {Q : Value → Shared → Prop}, Q (.ref hp.objs.size) ⟨hp.push o, g, d, tk, os⟩ → wpAny (model prog w) A' (pyIter v) Q E ⟨hp, g, d, tk, os⟩ := fun q => B.iter prog w _ _ ⟨hp, g, d, tk, os⟩ _ h1 q
    wp_walk using q1
    refine wpAny_stack_any fun st => wpAny_pure ?_
    split
    · rename_i c _ _ _ _ _
      cases (c == Value.type "enumerate") <;> (wp_walk using q1; exact ⟨_, rfl, h⟩)
    · wp_walk using q1
      exact ⟨_, rfl, h⟩
theorem Tk_enum_begins {prog : Program} {w : World} {A : Around} {E : Value → Shared → Prop} {s : Shared} {v : Value} {o : Obj} {H : Heap → Prop} {Q : Value → Shared → Prop} (B : Begins v o H) (h1 : H s.heap)
    (h : ∀ h', IsEnum h' (s.heap.objs.size + 1) s.heap.objs.size 0 .none → h'.get? s.heap.objs.size = some o → (∀ b o, s.heap.get? b = some o → h'.get? b = some o) → Q (.ref (s.heap.objs.size + 1)) { s with heap := h' }) :
    wpAny (model prog w) A (call (.type "enumerate") [v]) Q E s := by
  refine callType_new F.called_enumerate (by decide) (F.typeCall_enumerate_1 _) (F.newCall_enumerate_1 _) (fun obj => F.args_object_init_2 obj _) F.entry_enumerate_new (Tk_enum_new B) ⟨h1, ?_⟩
  have hz : (s.heap.push o).objs.size = s.heap.objs.size + 1 := Heap.size_push ..
  show _ ∧ _
  rw [hz]
  have he : IsEnum ((s.heap.push o).push { cls := .type "enumerate", data := .fields #[.none, .bool false, .ref s.heap.objs.size, rawInt 0, .none, .none] }) (s.heap.objs.size + 1) s.heap.objs.size 0 .none := by
    have := Heap.get?_push_size (s.heap.push o) (o := { cls := .type "enumerate", data := .fields #[.none, .bool false, .ref s.heap.objs.size, rawInt 0, .none, .none] }) rfl
    rw [hz] at this
    exact this
  exact ⟨⟨_, he, rfl⟩, h _ he (Heap.get?_push_of_some _ (Heap.get?_push_size _ B.free)) fun b o x => Heap.get?_push_of_some _ (Heap.get?_push_of_some _ x)⟩
end PySem
namespace Tk
open PySem PySem.Spec PyProof.Rows L2
/-- the tuple at a, each item in a new pair -/
def IteT (K : PySem.W.Frag) (a : Addr) : It :=
  ⟨fun i H => ∃ (xs : List V) (x : V), SqT K H a xs ∧ xs[i]? = some x, fun i H v H' => ∃ T x, v = .ref T ∧ H T = none ∧ H' = upd H T (.tup [.int (i : Nat), x]) ∧ ∀ xs, SqT K H a xs → xs[i]? = some x, fun i H => ∃ xs : List V, SqT K H a xs ∧ xs.length = i⟩
theorem turn_enumT {P : Program} {w : World} {K : PySem.W.Frag} {elts : List Expr} {kk : Nat} {tpos : Pos} (a e it : Addr) :
    Turn P w K (.Tuple elts kk tpos) (IteT K a) [e, it] e (fun i h => (∃ old, IsEnum h e it ((i : Nat) : Int) old) ∧ h.IsTupleIter it a i ∧ e ≠ it) where
  mem := by simp
  obj := fun i h st b hb => by
    obtain ⟨⟨old, he⟩, ⟨o, ho, hc, hd⟩, _⟩ := st
    have e' : b = e ∨ b = it := by simpa using hb
    rcases e' with rfl | rfl
    · exact ⟨_, he, fun v q => nomatch q⟩
    · exact ⟨o, ho, fun v q => by rw [hd] at q; cases q⟩
  keep := fun i h h' st k => let ⟨⟨old, he⟩, hi, hne⟩ := st; ⟨⟨old, k e (by simp) _ he⟩, hi.at fun o q => k it (by simp) o q, hne⟩
  item := by
    intro X hP hw hK hc i pins s σ H E I hf st hg
    subst hP hw hK
    obtain ⟨⟨old, he⟩, hit, hne⟩ := st
    obtain ⟨xs, x, hq, hx⟩ := hg
    obtain ⟨its, rv, p, hz⟩ := I.tuple hq
    obtain ⟨u, hu, ru⟩ := rv.get hx
    have p : s.heap.IsTuple a its.toArray := p
    have hel : e < s.heap.objs.size := Heap.lt_size he
    have hil : it < s.heap.objs.size := by obtain ⟨_, q, _⟩ := hit; exact Heap.lt_size q
    have hae : a ≠ it := fun z => by
      subst z
      obtain ⟨o, ho, c1, _⟩ := hit
      obtain ⟨o', ho', c2, _⟩ := p
      rw [ho] at ho'
      injection ho' with ho'
      subst ho'
      rw [c1] at c2
      exact absurd c2 (by decide)
    have hea : e ≠ a := fun z => by
      subst z
      obtain ⟨o', ho', c2, _⟩ := p
      have he' : s.heap.get? e = some _ := he
      rw [he'] at ho'
      injection ho' with ho'
      subst ho'
      exact absurd (show Value.type "enumerate" = Value.type "tuple" from c2) (by decide)
    have hsz : i < its.toArray.size := by
      have := (List.getElem?_eq_some_iff.mp hu).1
      simpa using this
    refine wpAny_pyNext_enum_itemD (Draws.tuple (A := X.A.in1) (I.ok.hd hc) it a hae its.toArray) he ⟨hit, p⟩ hsz hne (by simp [hne, hea]) fun u' h' tk hu' ho hit' hT hsz' hk => ?_
    have eu : u' = u := by
      have : its[i]? = some u' := by simpa using hu'
      rw [hu] at this
      injection this with this
      exact this.symm
    subst eu
    refine ⟨_, rfl, wpAny_letOwnedTupleGo_enum (s := { s with heap := h', toks := tk + 1 }) ho fun h'' he' sb => ?_⟩
    have hT2 : h''.get? s.heap.objs.size = some { cls := .type "tuple", data := .seq #[.int i tk, u'] } := (sb.2 _ (Nat.ne_of_gt hel)).trans hT
    have new : ObjOk X.prog X.w (upd H s.heap.objs.size (.tup [.int (i : Nat), x])) h'' s.heap.objs.size (.tup [.int (i : Nat), x]) :=
      ⟨by show 2 ≤ sizeLine; decide, [.int i tk, u'], .cons ⟨_, rfl⟩ (.cons ru .nil), ⟨_, hT2, rfl, _, rfl⟩⟩
    have I1 : Inv X pins σ (upd H s.heap.objs.size (.tup [.int (i : Nat), x])) { s with heap := h'', toks := tk + 1 } :=
      I.turnedNew (ch := [e, it]) (fun b ob hb q => (sb.2 b (fun z => hb (by simp [z]))).trans (hk b ob (fun z => hb (by simp [z])) (fun z => hb (by simp [z])) q)) hf (Nat.le_refl _) new
    refine ⟨.ref s.heap.objs.size, _, I1, rfl, ⟨_, x, rfl, I.hok.fresh (Nat.le_refl _), rfl, fun ys hy => by rw [I.tuple_inj hy hq]; exact hx⟩, ⟨⟨u', ?_⟩, hit'.1.at fun o q => (sb.2 it (Ne.symm hne)).trans q, hne⟩, fun b hb => ?_⟩
    · have e1 : ((i + 1 : Nat) : Int) = (i : Int) + 1 := by omega
      rw [e1]; exact he'
    · have hb' : b < s.heap.objs.size := by
        have e' : b = e ∨ b = it := by simpa using hb
        rcases e' with rfl | rfl
        · exact hel
        · exact hil
      rw [upd_ne (Nat.ne_of_lt hb')]
      exact (hf b hb).1
  done := by
    intro X hP hw hK hc i pins s σ H E I hf st hg
    subst hP hw hK
    obtain ⟨⟨old, he⟩, hit, hne⟩ := st
    obtain ⟨xs, hq, hx⟩ := hg
    obtain ⟨its, rv, p, hz⟩ := I.tuple hq
    have p : s.heap.IsTuple a its.toArray := p
    obtain ⟨f0, f1, f2, f3, f4, f5⟩ := hf it (by simp)
    have hl := rv.length
    have hae : a ≠ it := fun z => by
      subst z
      obtain ⟨o, ho, c1, _⟩ := hit
      obtain ⟨o', ho', c2, _⟩ := p
      rw [ho] at ho'
      injection ho' with ho'
      subst ho'
      rw [c1] at c2
      exact absurd c2 (by decide)
    have ei : i = its.toArray.size := by simp; omega
    subst ei
    exact wpAny_pyNext_enum_endD (Draws.tuple (A := X.A.in1) (I.ok.hd hc) it a hae its.toArray) he ⟨hit, p⟩ fun h' eb => ⟨rfl, I.turned (t' := s.toks) (fun b o hb q => eb b o hb q) f0 f1 f3 f4 f5⟩
  self := fun A i s Q E st h => let ⟨⟨_, he⟩, _⟩ := st; wpAny_pyIter_enum he h
def iEnumT (K : PySem.W.Frag) (ta : TA) : TI := fun σ H R => ta σ H fun vs H1 => ∃ a xs, vs = [.ref a] ∧ SqT K H1 a xs ∧ R (IteT K a) H1
theorem pi_enumT0 {X : Cx} {e : Expr} {ta : TA} {p pos tpos : Pos} {elts : List Expr} {kk : Nat} (hg : Gl X "enumerate") (hm : X.mg "enumerate" = none) (ha : PA X [e] ta) (hs : starEach [e] X.env = [(false, eval e X.env)] := by rfl) :
    PI X (.Tuple elts kk tpos) (.Call (.Name "enumerate" p) [e] [] pos) (iEnumT X.K ta) := by
  refine ⟨fun pins s σ H R I h => ?_⟩
  refine Call_ (ld_blt I hg hm boot_enumerate (PyProof.Rows.callWith_type1 (thn (ha.run pos pins s σ H _ I h) fun us s1 ⟨vs, H1, I1, r1, q1⟩ => ?_) hs rfl))
  obtain ⟨a, xs, ex, hq, q⟩ := q1
  subst ex
  cases r1 with
  | cons r rr =>
    cases rr
    cases r
    obtain ⟨its, rv, p', hz⟩ := I1.tuple hq
    refine Tk_enum_begins (begins_tuple a its.toArray) p' fun h' he hit hk => wpAny_pyIter_enum he ?_
    have I2 : Inv X pins σ H1 { s1 with heap := h' } := I1.kept (t' := s1.toks) hk
    refine ⟨s1.heap.objs.size + 1, [s1.heap.objs.size + 1, s1.heap.objs.size], _, _, H1, rfl, I2, turn_enumT a (s1.heap.objs.size + 1) s1.heap.objs.size, ⟨⟨.none, he⟩, ⟨_, hit, rfl, rfl⟩, Nat.succ_ne_self _⟩, fun b hb => ?_, q⟩
    have e' : b = s1.heap.objs.size + 1 ∨ b = s1.heap.objs.size := by simpa using hb
    have hle : s1.heap.objs.size ≤ b := e'.elim (fun z => by rw [z]; exact Nat.le_add_right _ _) fun z => by rw [z]; exact Nat.le_refl _
    exact I1.fpOk hle (I1.hok.fresh hle)
theorem pi_enumT {X : Cx} {K : PySem.W.Frag} {e : Expr} {ta : TA} {p pos tpos : Pos} {elts : List Expr} {kk : Nat} (hg : Gl X "enumerate") (hm : X.mg "enumerate" = none) (ha : PA X [e] ta) (hK : X.K = K := by rfl) (hs : starEach [e] X.env = [(false, eval e X.env)] := by rfl) :
    PI X (.Tuple elts kk tpos) (.Call (.Name "enumerate" p) [e] [] pos) (iEnumT K ta) := hK ▸ pi_enumT0 hg hm ha hs
end Tk

set_option Elab.async false
set_option linter.all false
set_option maxRecDepth 100000
/-! A comprehension over enumerate(tuple), with tests. -/
namespace Tk
open PySem PySem.Spec PyProof.Rows L2
section
variable {β : Type} {K : PySem.W.Frag}
theorem lc_enumF {a : Addr} {vs : List V} {n : Nat} {I H1 : Hp} {g : TG} {tt : TT} {te : TE} {vz : List Nat} {σ : L2.St} {D : Addr} {Qd : Hp → Prop} (Sy : Rp β) [Mono Sy] (p : Nat → Bool) (f : Nat → β) (ha : I a = some (.tup vs)) (ln : vs.length = n) (s0 : Same I H1) (hD : H1 D = none) (hn : n < sizeLine)
    (step : ∀ (i : Nat) (t : Addr) (I' H' : Hp) (Nx : Hp → Prop) (Qk : VK), i < n → Same I I' → Same I' H' → H' t = some (.tup [.int (i : Int), gv vs i]) → (p i = true → ∀ I'' H'' y, Gr [] I' H' I'' H'' → Sy I'' y (f i) → Qk y H'') → (p i = false → Nx H') →
      g (.ref t) (wipe σ vz) H' fun σ2 H2 => wipe σ2 vz = wipe σ vz ∧ tt σ2 H2 fun b H3 => if b = true then te σ2 H3 Qk else Nx H3)
    (hd : ∀ I' H' ys, Gr [] I H1 I' H' → I' D = none → H' D = some (.lst ys) → All2 (Sy I') ys (((List.range n).filter p).map f) → Qd H') : LcR (IteT K a) g tt te vz σ H1 D Qd := by
  let Mid : Nat → Hp → Prop := fun i H => ∃ I' ys, Gr [] I H1 I' H ∧ I' D = none ∧ H D = some (.lst ys) ∧ All2 (Sy I') ys (((List.range i).filter p).map f)
  refine ⟨fun i m H => m = n - i ∧ i ≤ n ∧ Mid i H, ⟨n, rfl, Nat.zero_le _, I, [], (Gr.tmp s0 hD), s0.free hD, upd_same, .nil⟩, ?_⟩
  rintro i m H ⟨rfl, hi, I', ys, gr, hI, hH, a2⟩
  have sq : SqT K H a vs := SqT.of ((gr.ii.trans gr.ih) _ _ ha)
  by_cases hlt : i < n
  · refine .inr ⟨⟨vs, _, sq, gv_at (by omega)⟩, fun H' => i + 1 ≤ n ∧ Mid (i + 1) H', fun H' z => ⟨n - (i + 1), by omega, rfl, z.1, z.2⟩, fun x H' y => ?_⟩
    obtain ⟨t, u, rfl, ht, rfl, y1⟩ := y
    have e1 := gv_of (y1 vs sq)
    subst e1
    have g1 : Gr [] I' H I' (upd H t (.tup [.int (i : Int), gv vs i])) := Gr.tmp gr.ih ht
    have hD1 : (upd H t (.tup [.int (i : Int), gv vs i])) D = some (.lst ys) := g1.at hH (by simp)
    refine step i t I' _ _ _ hlt gr.ii g1.ih upd_same (fun hp I'' H'' y g2 sy => ?_) (fun hp => ⟨hlt, I', ys, gr.trans g1, hI, hD1, ?_⟩)
    · have hD2 := g2.at hD1 (by simp)
      have hI2 := g2.out hI hD1
      have ll : ys.length ≤ i := by
        rw [a2.len, List.length_map]
        exact Nat.le_trans (List.length_filter_le _ _) (by simp)
      have g3 := (gr.trans g1).trans g2
      refine ⟨ys, hD2, by omega, hlt, I'', ys ++ [y], ((g3.mono (ns := [D]) fun _ z => nomatch z).trans (Gr.mut g3.ih hI2 List.mem_cons_self)).drop hD, hI2, upd_same, ?_⟩
      rw [List.range_succ, List.filter_append, List.filter_cons_of_pos hp, List.filter_nil, List.map_append]
      exact (a2.up g2.ii).snoc sy
    · rw [List.range_succ, List.filter_append, List.filter_cons_of_neg (by rw [hp]; exact Bool.false_ne_true), List.filter_nil, List.append_nil]
      exact a2
  · have e : i = n := by omega
    subst e
    exact .inl ⟨⟨vs, sq, ln⟩, hd I' H ys gr hI hH a2⟩
end
end Tk

set_option Elab.async false
set_option linter.all false
set_option maxRecDepth 100000
set_option maxHeartbeats 4000000
set_option exponentiation.threshold 5000
namespace K
open PySem PySem.Spec PyProof.Rows L2 Tk Hd Mt
section
variable {P : Program} {w : World} {K : PySem.W.Frag} {mg : Str → Option Value} {base : Heap}
abbrev Col := List (Nat × Int)
def iPr : Rp (Nat × Int) := fun H v p => ∃ a, v = .ref a ∧ H a = some (.tup [.int (p.1 : Int), .int p.2])
instance : Mono iPr := ⟨fun s ⟨a, e, h⟩ => ⟨a, e, s _ _ h⟩⟩
/-- the weights that lead to a state, as whole numbers -/
def colOf (rows : Rows) (ahead b j : Nat) : Col := ((List.range rows.length).filter fun i => decide ((gq (gl rows i) j).num ≠ 0)).map fun i => (ahead + i, (gq (gl rows i) j).num * ((b : Int) / ((gq (gl rows i) j).den : Int)))
def colsOf (rows : Rows) (ahead b : Nat) : List Col := (List.range rows.length).map (colOf rows ahead b)
def spLding (C : Addr) : Sp := fun vs H Q _ => ∃ (I : Hp) (v : V) (rows : Rows) (ahead b : Nat), vs = [v, .int (ahead : Int), .int (b : Int)] ∧ Same I H ∧ iT (iT (iR C)) I v rows ∧ rows.length ≤ 100 ∧ ahead ≤ 100 ∧ 0 < b ∧ b < 2 ^ 64 ∧ (∀ r ∈ rows, r.length = rows.length ∧ ∀ q ∈ r, dvB b q) ∧
  Ret [] I H (iL (iL iPr)) (colsOf rows ahead b) Q
theorem gl_mem' {α : Type} {l : List (List α)} {i : Nat} (h : i < l.length) : gl l i ∈ l := List.mem_of_getElem? (gl_lt h)
theorem sc_leading : FnScope ["rows", "ahead", "bottom", "here", "row", "there"] ["rows", "ahead", "bottom"] (defScope s_leading) := ⟨rfl, rfl, rfl, by decide +kernel, rfl, by decide +kernel, by decide +kernel⟩
theorem ok_lding (D : Dt K mg) : Has P w K mg base 1 (He.ga K "leading") ["rows", "ahead", "bottom"] [] (spLding (CR K)) := by
  obtain ⟨fd, F⟩ := fd_leading D
  refine hasN F (F.bindsN fun _ _ _ _ _ _ us hl => match us, hl with | [_, _, _], _ => rfl) sc_leading (fun vs H Q E h => ?_) (fun cdv A outer s H vs Q E hr h => ?_)
  · obtain ⟨I, v, rows, ahead, b, rfl, _⟩ := h; rfl
  · obtain ⟨I, v, rows, ahead, b, rfl, s0, rv, hl, ha, b0, b1, hr', k⟩ := h
    refine ⟨_, (pss_one (ps_ret (pe_lc (own := [("there", 5)]) (g := gName 5) rfl sc_leading.nd (pi_range1 rfl (free_range D) (pa_cons (pe_callB (call_lenK K) rfl (free_len D) PySem.boot_len (pa_cons (pv 0) pa_nil)) pa_nil)) (blkOk_by (own := [("there", 5)]) (N := ["rows", "ahead", "bottom", "here", "row", "there"]) (by kernel_rfl)) (fun _ _ _ _ _ => (pg_name (i := 5) sc_leading.nd rfl (Or.inr rfl))) (fun _ _ _ _ _ => pts_nil) (fun _ _ _ _ _ => (pe_lc (own := [("here", 3), ("row", 4)]) (g := gTup K 2 (gCons (gName 3) (gCons (gName 4) gNil))) rfl sc_leading.nd (pi_enumT rfl (free_enumerate D) (pa_cons (pv 0) pa_nil)) (blkOk_by (own := [("here", 3), ("row", 4)]) (N := ["rows", "ahead", "bottom", "here", "row", "there"]) (by kernel_rfl)) (fun _ _ _ _ _ => (pg_tupK K rfl (pgs_cons (pg_name (i := 3) sc_leading.nd rfl (Or.inl rfl)) (pgs_cons (pg_name (i := 4) sc_leading.nd rfl (Or.inl rfl)) pgs_nil)))) (fun _ _ _ _ _ => (pts_one (pt_cmpR op_ne (pe_fldK K (pe_ix (ix_tupK K) (pv 4) (pv 5) (fun _ _ => rfl)) rfl) pe_int (nomark _)))) (fun _ _ _ _ _ => (pe_tup (pa_cons (pe_op op_add (pv 1) (pv 3)) (pa_cons (pe_op op_mulW (pe_fldK K (pe_ix (ix_tupK K) (pv 4) (pv 5) (fun _ _ => rfl)) rfl) (pe_op op_fdivW (pv 2) (pe_fldK K (pe_ix (ix_tupK K) (pv 4) (pv 5) (fun _ _ => rfl)) rfl))) pa_nil))))))))), ?_⟩
    obtain ⟨a, rs, rfl, har, r2⟩ := id rv
    have lr := r2.len
    refine ⟨_, rfl, _, rows.length, rfl, len_of (iA.t rv) s0, _, rfl, by omega, by omega, fun l hD => ?_⟩
    rw [Int.toNat_natCast]
    refine lc_range1 (iL iPr) (colOf rows ahead b) s0 hD (lt_line (by omega)) (fun j I3 H3 Nx Qk hj s2 s3 kk => ?_) (fun I3 H3 g3 r3 => k _ _ _ g3 r3)
    have ha3 := s2 _ _ har
    refine ⟨rfl, _, rfl, a, rs, rfl, SqT.of (s3 _ _ ha3), fun l2 hD2 => ?_⟩
    refine lc_enumF iPr (fun i => decide ((gq (gl rows i) j).num ≠ 0)) (fun i => (ahead + i, (gq (gl rows i) j).num * ((b : Int) / ((gq (gl rows i) j).den : Int)))) ha3 lr s3 hD2 (lt_line (by omega)) (fun i t I4 H4 Nx2 Qk2 hi s4 s5 ht k1 k2 => ?_) (fun I4 H4 ys g4 hI4 hD4 a4 => ?_)
    · change gTup K 2 (gCons (gName 3) (gCons (gName 4) gNil)) (V.ref t) [some (V.ref a), some (V.int (ahead : Int)), some (V.int (b : Int)), none, none, some (V.int (0 + (j : Int)))] H4 (fun σ2 H2 => wipe σ2 [3, 4] = [some (V.ref a), some (V.int (ahead : Int)), some (V.int (b : Int)), none, none, some (V.int (0 + (j : Int)))] ∧ _)
      obtain ⟨u, hu, ru⟩ := r2.get' (gl_lt (l := rows) (i := i) hi)
      have e : gv rs i = u := by unfold gv; rw [List.getD_eq_getElem?_getD, hu]; rfl
      rw [e] at ht
      obtain ⟨row, erow⟩ : ∃ row, row = gl rows i := ⟨_, rfl⟩
      have hrow := hr' (gl rows i) (gl_mem' hi)
      rw [← erow] at ru hrow k1 k2
      obtain ⟨c, cs, rfl, hc, c2⟩ := id ru
      obtain ⟨w, hw, rw'⟩ := c2.get' (gq_lt (l := row) (i := j) (by rw [hrow.1]; exact hj))
      have hqm := hrow.2 (gq row j) (List.mem_of_getElem? (gq_lt (l := row) (i := j) (by rw [hrow.1]; exact hj)))
      obtain ⟨q, eq'⟩ : ∃ q, q = gq row j := ⟨_, rfl⟩
      rw [← eq'] at rw' hqm k1 k2
      obtain ⟨r, rd, rfl, hr5⟩ := id rw'
      have hc5 := s5 _ _ (s4 _ _ (s2 _ _ hc))
      have hr6 := s5 _ _ (s4 _ _ (s2 _ _ hr5))
      rw [Int.zero_add]
      refine ⟨t, _, rfl, SqT.of ht, rfl, _, _, rfl, _, _, rfl, rfl, rfl, ?_⟩
      refine ⟨_, rfl, _, rfl, c, cs, (j : Int), _, rfl, rfl, SqT.of hc5, at_of (j := j) rfl hw, r, _, rd, _, _, rfl, hr6, cls_Ratio D, na_Ratio_num D, rf_num q, ?_⟩
      have den64 : q.den < 2 ^ 64 := Nat.lt_of_le_of_lt (Nat.le_of_dvd b0 hqm.1) b1
      refine ⟨rfl, _, rfl, ?_⟩
      refine ifB (fun c => ?_) (fun c => ?_)
      · have cq : q.num ≠ 0 := fun h => by rw [h] at c; exact absurd c (by simp)
        have e9 : (b : Int) / (q.den : Int) = ((b / q.den : Nat) : Int) := (Int.natCast_ediv b q.den).symm
        refine ⟨_, rfl, _, rfl, _, _, rfl, rfl, ?_⟩
        refine ⟨_, rfl, _, rfl, _, cs, (j : Int), _, rfl, rfl, SqT.of hc5, at_of (j := j) rfl hw, r, _, rd, _, _, rfl, hr6, cls_Ratio D, na_Ratio_num D, rf_num q, _, rfl, _, rfl, _, rfl, _, cs, (j : Int), _, rfl, rfl, SqT.of hc5, at_of (j := j) rfl hw, r, _, rd, _, _, rfl, hr6, cls_Ratio D, na_Ratio_den D, rf_den q, (b : Int), (q.den : Int), rfl, rfl, wide_div (b := 64) (by have := q.den_pos; omega) (by rw [Int.natAbs_natCast]; omega) (by decide) (by decide), q.num, (b : Int) / (q.den : Int), rfl, rfl, mulW_of (a := 2000) (b := 64) hqm.2 (by rw [e9, Int.natAbs_natCast]; have := Nat.div_le_self b q.den; omega) (by decide) (by decide) (by decide), (by show 2 ≤ sizeLine; decide), fun t2 ht2 => ?_⟩
        exact k1 (decide_eq_true cq) _ _ _ (Gr.new (ms := []) (o := .tup [.int ((ahead : Int) + (i : Int)), .int (q.num * ((b : Int) / (q.den : Int)))]) s5 ht2) ⟨t2, rfl, by rw [upd_same]; rfl⟩
      · have cq : q.num = 0 := by simpa using c
        exact k2 (decide_eq_false fun h => h cq)
    · have g9 := (g4.mono (ns := [l2]) fun _ z => nomatch z).frz s3 hD2 hD4
      exact kk _ _ _ g9 ⟨l2, ys, rfl, upd_same, a4.up (sNew hI4)⟩
def dotC (ns : List Int) (col : Col) : Int := (col.map fun p => ns.getD p.1 0 * p.2).sum
def nextN (ns : List Int) (cols : List Col) : List Int := cols.map (dotC ns)
def Big (n : Int) : Prop := n.natAbs < 2 ^ 2000
theorem all2_int {I : Hp} : ∀ {ys : List V} {ns : List Int}, All2 (iJ I) ys ns → ys = ns.map V.int
  | [], [], _ => rfl
  | y :: ys, n :: ns, .cons h t => by
    have h : y = V.int n := h
    rw [h, all2_int t]; rfl
def spNext : Sp := fun vs H Q _ => ∃ (I : Hp) (v u : V) (ns : List Int) (cols : List Col), vs = [v, u] ∧ Same I H ∧ iL iJ I v ns ∧ iL (iL iPr) I u cols ∧ cols.length ≤ 10000 ∧ (∀ n ∈ ns, Big n) ∧ (∀ col ∈ cols, col.length ≤ 10000 ∧ ∀ p ∈ col, p.1 < ns.length ∧ Big p.2) ∧
  Ret [] I H (iL iJ) (nextN ns cols) Q
theorem sc_next_numbers : FnScope ["numbers", "columns", "here", "weight", "column"] ["numbers", "columns"] (defScope s_next_numbers) := ⟨rfl, rfl, rfl, by decide +kernel, rfl, by decide +kernel, by decide +kernel⟩
theorem ok_next (D : Dt K mg) : Has P w K mg base 1 (He.ga K "next_numbers") ["numbers", "columns"] [] (spNext) := by
  obtain ⟨fd, F⟩ := fd_next_numbers D
  refine hasN F (F.bindsN fun _ _ _ _ _ _ us hl => match us, hl with | [_, _], _ => rfl) sc_next_numbers (fun vs H Q E h => ?_) (fun cdv A outer s H vs Q E hr h => ?_)
  · obtain ⟨I, v, u, ns, cols, rfl, _⟩ := h; rfl
  · obtain ⟨I, v, u, ns, cols, rfl, s0, rv, ru, hl, hn, hc, k⟩ := h
    refine ⟨_, (pss_one (ps_ret (pe_lc (own := [("column", 4)]) (g := gName 4) rfl sc_next_numbers.nd (pi_listK K (pv 1)) (blkOk_by (own := [("column", 4)]) (N := ["numbers", "columns", "here", "weight", "column"]) (by kernel_rfl)) (fun _ _ _ _ _ => (pg_name (i := 4) sc_next_numbers.nd rfl (Or.inl rfl))) (fun _ _ _ _ _ => pts_nil) (fun _ _ _ _ _ => (pe_callB (cr_sumK K rfl) rfl (free_sum D) (by decide +kernel) (pa_cons (pe_lc (own := [("here", 2), ("weight", 3)]) (g := gTup K 2 (gCons (gName 2) (gCons (gName 3) gNil))) rfl sc_next_numbers.nd (pi_listK K (pv 4)) (blkOk_by (own := [("here", 2), ("weight", 3)]) (N := ["numbers", "columns", "here", "weight", "column"]) (by kernel_rfl)) (fun _ _ _ _ _ => (pg_tupK K rfl (pgs_cons (pg_name (i := 2) sc_next_numbers.nd rfl (Or.inl rfl)) (pgs_cons (pg_name (i := 3) sc_next_numbers.nd rfl (Or.inl rfl)) pgs_nil)))) (fun _ _ _ _ _ => pts_nil) (fun _ _ _ _ _ => (pe_op op_mulW (pe_ix (ix_listK K) (pv 0) (pv 2) (fun _ _ => rfl)) (pv 3)))) pa_nil)))))), ?_⟩
    obtain ⟨a, ys, rfl, ha, y2⟩ := id rv
    obtain ⟨b, us, rfl, hb, u2⟩ := id ru
    have ly := y2.len
    have lu := u2.len
    have ey := all2_int y2
    subst ey
    refine ⟨_, rfl, b, rfl, ⟨_, SqL.of (s0 _ _ hb)⟩, fun l hD => ?_⟩
    refine lc_map (R := iL iPr) (Sy := iJ) (dotC ns) (wk_list hb) u2 s0 hD (lt_line (by omega)) (fun i col I1 H1 Nx Qk hi rc s1 s2 kk => ?_) (fun I1 H1 g1 r1 => k _ _ _ g1 r1)
    obtain ⟨c, cs, ec, hc1, c2⟩ := id rc
    obtain ⟨hcl, hcp⟩ := hc col (List.mem_of_getElem? hi)
    have lc := c2.len
    rw [ec]
    refine ⟨rfl, _, rfl, c, rfl, ⟨_, SqL.of (s2 _ _ hc1)⟩, fun l2 hD2 => ?_⟩
    refine lc_map (R := iPr) (Sy := iJ) (fun p => ns.getD p.1 0 * p.2) (wk_list hc1) c2 s2 hD2 (lt_line (by omega)) (fun j p I2 H2 Nx2 Qk2 hj rp s3 s4 kk2 => ?_) (fun I2 H2 g2 r2 => ?_)
    · obtain ⟨t, et, ht⟩ := id rp
      obtain ⟨h1, h2⟩ := hcp p (List.mem_of_getElem? hj)
      rw [et]
      have hget : (ns.map V.int)[p.1]? = some (V.int (ns.getD p.1 0)) := by rw [List.getElem?_map, List.getD_eq_getElem?_getD, List.getElem?_eq_getElem h1]; rfl
      have hbn : Big (ns.getD p.1 0) := hn _ (by rw [List.getD_eq_getElem?_getD, List.getElem?_eq_getElem h1]; exact List.getElem_mem h1)
      refine ⟨t, _, rfl, SqT.of (s4 _ _ ht), rfl, _, _, rfl, _, _, rfl, rfl, rfl, ?_⟩
      refine ⟨_, rfl, _, rfl, _, _, _, _, rfl, rfl, SqL.of (s4 _ _ (s3 _ _ (s1 _ _ ha))), at_of (j := p.1) rfl hget, _, rfl, _, _, rfl, rfl, mulW_of (a := 2000) (b := 2000) hbn h2 (by decide) (by decide) (by decide), kk2 _ _ _ (Gr.refl s4) rfl⟩
    · obtain ⟨d, zs, ed, hd, d2⟩ := r2
      cases ed
      rw [all2_int d2] at hd
      exact ⟨l2, _, rfl, SqL.of (g2.ih _ _ hd), kk _ _ _ g2 rfl⟩
end
end K

set_option Elab.async false
set_option linter.all false
set_option maxRecDepth 100000
set_option maxHeartbeats 4000000
set_option exponentiation.threshold 5000
namespace K
open PySem PySem.Spec PyProof.Rows L2 Tk Hd Mt
section
variable {P : Program} {w : World} {K : PySem.W.Frag} {mg : Str → Option Value} {base : Heap}
theorem catV_of {I H : Hp} {a b : Addr} {xs ys : List V} {Q : VK} (s : Same I H) (ha : I a = some (.lst xs)) (hb : I b = some (.lst ys)) (hl : xs.length + ys.length ≤ 10000000) (k : ∀ I' H' c, Gr [] I H I' H' → I' c = some (.lst (xs ++ ys)) → Q (.ref c) H') : rCat (.ref a) (.ref b) H Q :=
  ⟨a, b, _, _, rfl, rfl, s _ _ ha, s _ _ hb, Nat.le_trans hl (by decide), fun p hp => k _ _ p (Gr.new s hp) upd_same⟩
abbrev CBo (K : PySem.W.Frag) : Addr := He.ga K "Both"
/-- a table of one answer's moves -/
structure Tab (rows : Rows) (b : Nat) : Prop where
  len : rows.length ≤ 100
  row : ∀ r ∈ rows, r.length = rows.length ∧ ∀ q ∈ r, dvB b q
theorem cols_len (rows : Rows) (ahead b : Nat) : (colsOf rows ahead b).length = rows.length := by unfold colsOf; rw [List.length_map, List.length_range]
def spCols (C C2 : Addr) : Sp := fun vs H Q _ => ∃ (I : Hp) (x dx : Addr) (fs : List (Str × V)) (v1 v2 : V) (A B : Rows) (f b : Nat), vs = [.ref x, v1, v2] ∧ Same I H ∧ H x = some (.ins C2 dx fs) ∧ fs.lookup ("bottom" : Str) = some (.int (b : Int)) ∧ fs.lookup ("first" : Str) = some (.int (f : Int)) ∧
  iT (iT (iR C)) I v1 A ∧ iT (iT (iR C)) I v2 B ∧ Tab A b ∧ Tab B b ∧ f ≤ 100 ∧ 0 < b ∧ b < 2 ^ 64 ∧ Ret [] I H (iL (iL iPr)) (colsOf A 0 b ++ colsOf B f b) Q
theorem sc_Bothcolumns : FnScope ["self", "rows", "other_rows"] ["self", "rows", "other_rows"] (defScope s_Both__columns) := ⟨rfl, rfl, rfl, by decide +kernel, rfl, by decide +kernel, by decide +kernel⟩
theorem ok_bcols (D : Dt K mg) : Has P w K mg base 2 (He.ma K (He.ga K "Both") "_columns") ["self", "rows", "other_rows"] [] (spCols (CR K) (CBo K)) := by
  obtain ⟨fd, F⟩ := fd_Both__columns D
  have H_leading := ok_lding (P := P) (w := w) (base := base) D
  refine hasN F (F.bindsN fun _ _ _ _ _ _ us hl => match us, hl with | [_, _, _], _ => rfl) sc_Bothcolumns (fun vs H Q E h => ?_) (fun cdv A outer s H vs Q E hr h => ?_)
  · obtain ⟨I, x, dx, fs, v1, v2, A, B, f, b, rfl, _⟩ := h; rfl
  · obtain ⟨I, x, dx, fs, v1, v2, A, B, f, b, rfl, s0, hx, hb, hf, rA, rB, tA, tB, f1, b0, b1, k⟩ := h
    refine ⟨_, (pss_one (ps_ret (pe_op op_cat (pe_callH H_leading (hr.mono (by omega)) rfl (glo_leading D) passL (pa_cons (pv 1) (pa_cons pe_int (pa_cons (pe_fldK K (pv 0) rfl) pa_nil)))) (pe_callH H_leading (hr.mono (by omega)) rfl (glo_leading D) passL (pa_cons (pv 2) (pa_cons (pe_fldK K (pv 0) rfl) (pa_cons (pe_fldK K (pv 0) rfl) pa_nil))))))), ?_⟩
    refine ⟨_, rfl, _, rfl, x, _, dx, _, _, rfl, hx, cls_Both D, na_Both_bottom D, hb, I, v1, A, 0, b, rfl, s0, rA, tA.len, by omega, b0, b1, tA.row, fun I1 H1 u1 g1 r1 => ?_⟩
    have hx1 := g1.at hx (by simp)
    refine ⟨_, rfl, _, rfl, x, _, dx, _, _, rfl, hx1, cls_Both D, na_Both_first D, hf, _, rfl, x, _, dx, _, _, rfl, hx1, cls_Both D, na_Both_bottom D, hb, I1, v2, B, f, b, rfl, g1.ih, up g1.ii rB, tB.len, f1, b0, b1, tB.row, fun I2 H2 u2 g2 r2 => ?_⟩
    obtain ⟨c1, y1, rfl, hc1, a1⟩ := r1
    obtain ⟨c2, y2, rfl, hc2, a2⟩ := r2
    have l1 := a1.len
    have l2 := a2.len
    rw [cols_len] at l1 l2
    have q1 := tA.len
    have q2 := tB.len
    refine catV_of g2.ih (g2.ii _ _ hc1) hc2 (by omega) fun I3 H3 c g3 h3 => ?_
    exact k _ _ _ ((g1.trans g2).trans g3) ⟨c, _, rfl, h3, (a1.up (g2.ii.trans g3.ii)).append (a2.up g3.ii)⟩
end
end K

set_option Elab.async false
set_option linter.all false
set_option maxRecDepth 100000
set_option maxHeartbeats 4000000
namespace Tk
open PySem PySem.Spec PyProof.Rows L2
theorem sl_tupAK {X : Cx} (K : PySem.W.Frag) (hK : X.K = K := by rfl) : SlR X (rSlA K) := hK ▸ sl_tupA
section
variable {K : PySem.W.Frag} {I H : Hp} {a b : Addr} {xs ys : List V} {Q : VK}
theorem catA_of (s : Same I H) (ha : I a = some (.tup xs)) (hb : I b = some (.tup ys)) (hl : xs.length + ys.length ≤ sizeLine) (k : ∀ I' H' c, Gr [] I H I' H' → I' c = some (.tup (xs ++ ys)) → Q (.ref c) H') : rCatA K (.ref a) (.ref b) H Q := by
  refine ⟨a, b, xs, ys, rfl, rfl, SqT.of (s _ _ ha), SqT.of (s _ _ hb), hl, fun e => ?_, fun _ e => ?_, fun _ _ p hp => ?_⟩
  · exact k I H b (Gr.refl s) (by rw [e]; exact hb)
  · exact k I H a (Gr.refl s) (by rw [e, List.append_nil]; exact ha)
  · exact k _ _ p (Gr.new s hp) upd_same
theorem slA_of {lo hi : Option Int} (s : Same I H) (ha : I a = some (.tup xs)) (k : ∀ I' H' c, Gr [] I H I' H' → I' c = some (.tup (cutV xs lo hi)) → Q (.ref c) H') : rSlA K (.ref a) lo hi H Q := by
  refine ⟨a, xs, rfl, SqT.of (s _ _ ha), fun e => ?_, fun _ p hp => ?_⟩
  · refine k I H a (Gr.refl s) ?_
    unfold cutV
    rw [e.1, e.2, List.drop_zero, Nat.sub_zero, List.take_length]
    exact ha
  · exact k _ _ p (Gr.new s hp) upd_same
theorem cut_lo {xs : List V} {n : Nat} (h : n ≤ xs.length) : cutV xs none (some (n : Int)) = xs.take n := by
  unfold cutV
  rw [HT.sIx_none, HT.sIx_nat, List.drop_zero, Nat.sub_zero, Nat.min_eq_left h]
theorem cut_hi {xs : List V} {n : Nat} (h : n ≤ xs.length) : cutV xs (some (n : Int)) none = xs.drop n := by
  unfold cutV
  rw [HT.sIx_none, HT.sIx_nat, Nat.min_eq_left h, List.take_of_length_le (by rw [List.length_drop]; omega)]
theorem cut_last {xs : List V} (h : xs ≠ []) : cutV xs none (some (-1)) = xs.dropLast := by
  have : 0 < xs.length := List.length_pos_iff.mpr h
  have e : HT.sIx xs.length xs.length (some (-1)) = xs.length - 1 := by
    show (if (-1 : Int) < 0 then ((-1 : Int) + (xs.length : Int)).toNat else min (-1 : Int).toNat xs.length) = _
    rw [if_pos (by decide)]; omega
  unfold cutV
  rw [e, HT.sIx_none, List.dropLast_eq_take, Nat.sub_zero]; rfl
theorem set_cut {α : Type} : ∀ {xs : List α} {n : Nat} {v : α}, n < xs.length → xs.take n ++ [v] ++ xs.drop (n + 1) = xs.set n v
  | [], _, _, h => by simp at h
  | x :: r, 0, v, _ => by simp
  | x :: r, n + 1, v, h => by
    have := set_cut (xs := r) (n := n) (v := v) (by simpa using h)
    simpa using this
theorem last_cut {α : Type} : ∀ {xs : List α} {v : α}, xs ≠ [] → xs.dropLast ++ [v] = xs.set (xs.length - 1) v
  | [], _, h => (h rfl).elim
  | [x], v, _ => rfl
  | x :: y :: r, v, _ => by
    have := last_cut (xs := y :: r) (v := v) (by simp)
    simpa using this
end
end Tk

namespace Tk
open PySem PySem.Spec PyProof.Rows L2
theorem op_leS {X : Cx} : OpR X (compareOp .LtE) (fun x y H Q => ∃ i j, x = .str i ∧ y = .str j ∧ Q (.bl (!decide (j.cps.toList < i.cps.toList))) H) := by
  intro pins s σ H x y v u Q I rx ry h
  obtain ⟨i, j, rfl, rfl, q⟩ := h
  obtain ⟨t, rfl⟩ := rx
  obtain ⟨t', rfl⟩ := ry
  exact P.le_str (fin_bl I q rfl)
theorem pt_din {X : Cx} {i o : Expr} {pos : Pos} {ty td : TE} (hu : X.A.units + 1 < cLine) (hi : PE X i ty) (ho : PE X o td) (h1 : behindInMarks CmpOp.In o = false := by rfl) : PT X (.Compare i [.In] [o] pos) (tB (tDIn ty td)) := pt_cmp (pc_din hu hi ho) h1
theorem wk_str {x : Str} {I : Hp} : Wk (Its x) x.cps.size (fun i => .str ⟨#[x.cps.getD i 0]⟩) I :=
  ⟨fun i H _ hi => hi, fun H _ => Nat.le_refl _, fun i H v H' _ hi y => by
    obtain ⟨e, c, hc, rfl⟩ := y
    refine ⟨?_, e⟩
    rw [Array.getD_eq_getD_getElem?, hc]; rfl⟩
end Tk

set_option Elab.async false
set_option linter.all false
set_option maxRecDepth 100000
set_option maxHeartbeats 4000000
namespace Tk
open PySem PySem.Spec PyProof.Rows L2
section
variable {α : Type} {K : PySem.W.Frag}
/-- those of a list that a test keeps -/
theorem lc_keep {J : It} {R Sy : Rp α} [Mono R] [Mono Sy] (p : α → Bool) {vs : List V} {xs : List α} {I H1 : Hp} {g : TG} {tt : TT} {te : TE} {vz : List Nat} {σ : L2.St} {D : Addr} {Qd : Hp → Prop}
    (W : Wk J vs.length (gv vs) I) (a2 : All2 (R I) vs xs) (s0 : Same I H1) (hD : H1 D = none) (hn : xs.length < sizeLine)
    (step : ∀ (i : Nat) (x : α) (I' H' : Hp) (Nx : Hp → Prop) (Qk : VK), xs[i]? = some x → R I' (gv vs i) x → Same I I' → Same I' H' → (p x = true → ∀ I'' H'' y, Gr [] I' H' I'' H'' → Sy I'' y x → Qk y H'') → (p x = false → Nx H') →
      g (gv vs i) (wipe σ vz) H' fun σ2 H2 => wipe σ2 vz = wipe σ vz ∧ tt σ2 H2 fun b H3 => if b = true then te σ2 H3 Qk else Nx H3)
    (hd : ∀ I' H' ys, Gr [] I H1 I' H' → H' D = some (.lst ys) → All2 (Sy I') ys (xs.filter p) → Qd H') : LcR J g tt te vz σ H1 D Qd := by
  have hl := a2.len
  let Mid : Nat → Hp → Prop := fun i H => ∃ I' ys, Gr [] I H1 I' H ∧ I' D = none ∧ H D = some (.lst ys) ∧ All2 (Sy I') ys ((xs.take i).filter p)
  refine ⟨fun i m H => m = vs.length - i ∧ i ≤ vs.length ∧ Mid i H, ⟨vs.length, rfl, Nat.zero_le _, I, [], (Gr.tmp s0 hD), s0.free hD, upd_same, .nil⟩, ?_⟩
  rintro i m H ⟨rfl, hi, I', ys, gr, hI, hH, b2⟩
  have s : Same I H := gr.ii.trans gr.ih
  by_cases hlt : i < vs.length
  · have hx : xs[i]? = some (xs[i]'(by omega)) := List.getElem?_eq_getElem (by omega)
    generalize xs[i]'(by omega) = x at hx
    have et : xs.take (i + 1) = xs.take i ++ [x] := by rw [List.take_succ, hx]; rfl
    refine .inr ⟨W.go i H s hlt, fun H' => i + 1 ≤ vs.length ∧ Mid (i + 1) H', fun H' z => ⟨vs.length - (i + 1), by omega, rfl, z.1, z.2⟩, fun y H' hy => ?_⟩
    obtain ⟨rfl, rfl⟩ := W.yld i H y H' s hlt hy
    refine step i x I' _ _ _ hx (up gr.ii (gv2 a2 hx)) gr.ii gr.ih (fun hp I'' H'' y g2 sy => ?_) (fun hp => ⟨hlt, I', ys, gr, hI, hH, ?_⟩)
    · have hD2 := g2.at hH (by simp)
      have hI2 := g2.out hI hH
      have ll : ys.length ≤ i := by
        rw [b2.len]
        refine Nat.le_trans (List.length_filter_le _ _) ?_
        rw [List.length_take]; omega
      refine ⟨ys, hD2, by omega, hlt, I'', ys ++ [y], ?_, hI2, upd_same, ?_⟩
      · have g3 := gr.trans g2
        exact ((g3.mono (ns := [D]) fun _ z => nomatch z).trans (Gr.mut g3.ih hI2 List.mem_cons_self)).drop hD
      · rw [et, List.filter_append, List.filter_cons_of_pos hp, List.filter_nil]
        exact (b2.up g2.ii).snoc sy
    · rw [et, List.filter_append, List.filter_cons_of_neg (by rw [hp]; exact Bool.false_ne_true), List.filter_nil, List.append_nil]
      exact b2
  · have e : i = vs.length := by omega
    subst e
    refine .inl ⟨W.stop H s, hd I' H ys gr hH ?_⟩
    rw [List.take_of_length_le (by omega)] at b2
    exact b2
end
end Tk

set_option Elab.async false
set_option linter.all false
set_option maxRecDepth 100000
set_option maxHeartbeats 4000000
/-! More rules that name K; membership; two rules for one thing. -/
namespace Tk
open PySem PySem.Spec PyProof.Rows L2
section
variable {X : Cx} (K : PySem.W.Frag) {e : Expr} {es : List Expr} {te : TE} {t : TA} {p : Pos}
theorem call_isiTK (hK : X.K = K := by rfl) : CallR X (.builtin "isinstance") (rIsiT K) := hK ▸ call_isiT
theorem op_in_seqK (hK : X.K = K := by rfl) : OpR X (compareOp .In) (rIn K false) := hK ▸ op_in_seq
theorem op_notIn_seqK (hK : X.K = K := by rfl) : OpR X (compareOp .NotIn) (rIn K true) := hK ▸ op_notIn_seq
theorem pa_starK (he : PE X e te) (hr : PA X es t) (hK : X.K = K := by rfl) (hs : starEach (.Starred e p :: es) X.env = (true, eval e X.env) :: starEach es X.env := by rfl) : PA X (.Starred e p :: es) (StX.tStar K te t) := hK ▸ StX.pa_star he hr hs
end
theorem call_or {X : Cx} {f : Value} {r1 r2 : List V → Hp → VK → Prop} (h1 : CallR X f r1) (h2 : CallR X f r2) : CallR X f (fun xs H Q => r1 xs H Q ∨ r2 xs H Q) := by
  intro pins s σ H xs us Q I r h
  rcases h with h | h
  · exact h1 pins s σ H xs us Q I r h
  · exact h2 pins s σ H xs us Q I r h
theorem call_strAny {X : Cx} : CallR X (.type "str") (fun xs H Q => (∃ i, xs = [.int i] ∧ i.natAbs.log2 < 1920 ∧ Q (.str (toString i)) H) ∨ ∃ a, xs = [.str a] ∧ Q (.str a) H) := call_or call_str_int SkE.call_str_str
theorem pe_or {X : Cx} {e : Expr} {t1 t2 : TE} (h1 : PE X e t1) (h2 : PE X e t2) : PE X e (fun σ H Q => t1 σ H Q ∨ t2 σ H Q) :=
  ⟨fun pins s σ H Q I h => h.elim (h1.run pins s σ H Q I) (h2.run pins s σ H Q I)⟩
/-- in a list of texts -/
theorem inV_strs (x : Str) : ∀ l : List Str, inV (.str x) (l.map V.str) = decide (x ∈ l)
  | [] => rfl
  | y :: r => by
    have ih := inV_strs x r
    unfold inV at ih ⊢
    rw [List.map_cons, List.any_cons, ih]
    by_cases h : x = y
    · subst h
      rw [show eqV (V.str x) (V.str x) = true from by simp [eqV]]
      simp
    · have e : eqV (V.str y) (V.str x) = false := by
        have : ¬ (y = x) := fun z => h z.symm
        simp [eqV, this]
      rw [e, Bool.false_or]
      simp [h]
theorem flat_strs (l : List Str) : (l.map V.str).all flatV = true := by
  rw [List.all_map, List.all_eq_true]; intro x _; rfl
end Tk

set_option Elab.async false
set_option linter.all false
set_option maxRecDepth 100000
set_option maxHeartbeats 4000000
namespace Tk
open PySem PySem.Spec PyProof.Rows L2
theorem pmk_oexH {X : Cx} {k : Nat} {f C : Addr} {fld : Str} {ps : List Str} {sp : Sp} {dvs : List V} {x : Str} {e : Expr} {es : List Expr} {ta : TA} {p pos : Pos} (T : OexF X.K C f fld) (h : HasX X k f ps dvs sp) (hr : Room (k + 1) X.A) (hg : Gl X x) (hm : X.mg x = some (.ref C)) (ha : PA X (e :: es) ta)
    (hdb : (x == ("__debug__" : Str)) = false := by decide) (he : starEach (e :: es) X.env = (false, eval e X.env) :: starEach es X.env := by rfl) (hpl : (backTo pos (starEach es X.env)).any (·.1) = false := by rfl) :
    PMk X (.Call (.Name x p) (e :: es) [] pos) (tMkO C sp dvs ta) := by
  obtain ⟨_, fd, ds, hd, hb, F⟩ := h
  exact pmk_oex T.T T.iC T.tI F hr hb hd passL hg hm ha hdb he hpl
theorem pe_methH0 {X : Cx} {k : Nat} {f C : Addr} {ps : List Str} {sp : Sp} {dvs : List V} {E : XK} {m : Str} {pos apos : Pos} {o : Expr} {ta : TE} {pl : Sem Bool} (he : PE X o ta) (c : Cls X.K C) (hm : Meth X.K C m f) (h : HasX X k f ps dvs sp) (hr : Room k X.A) (hx : Passes (L2.CX X.prog X.w) X E)
    (ht : eval (.Call (.Attribute o m apos) [] [] pos) X.env = (do
      let ov ← eval o X.env
      standAt apos.atName
      let (f, first) ← holding [ov] (getMethod ov m pl)
      callWith pos f first (backTo pos (starEach [] X.env)) (backToKw pos (keywordEach [] X.env))) := by rfl) :
    PE X (.Call (.Attribute o m apos) [] [] pos) (tMeth C m sp dvs E ta tNil) := by
  obtain ⟨_, fd, ds, hd, hb, F⟩ := h
  exact pe_meth0 (pl := pl) he c hm F hr hb hd hx ht

theorem pe_callSH {X : Cx} {k : Nat} {f : Addr} {ps : List Str} {sp : Sp} {E : L2.St → XK} {x : Str} {p pos : Pos} {e : Expr} {es : List Expr} {t : TA} (h : HasX X k f ps [] sp) (hr : Room k X.A) (hg : Gl X x) (hm : X.mg x = some (.ref f)) (hx : ∀ σ, PassesAt (L2.CX X.prog X.w) X σ (E σ)) (ha : PA X (e :: es) t)
    (hdb : (x == ("__debug__" : Str)) = false := by decide) (he : starEach (e :: es) X.env = (false, eval e X.env) :: starEach es X.env := by rfl) (hpl : (backTo pos (starEach es X.env)).any (·.1) = false := by rfl) :
    PE X (.Call (.Name x p) (e :: es) [] pos) (tCallS sp E t) := by
  obtain ⟨hk, fd, ds, hd, hb, F⟩ := h
  cases hd
  exact pe_callS F hr hg hm hk hb hx ha hdb he hpl
/-- the part that stays may be seen smaller -/
theorem Gr.low {ms : List Addr} {I I2 H I' H' : Hp} (g : Gr ms I2 H I' H') (s : Same I I2) : Gr ms I H I H' :=
  ⟨Same.refl _, s.trans (g.ii.trans g.ih), g.hh, g.th, fun a o e _ => e⟩
theorem All2.strs {H : Hp} : ∀ {vs : List V} {xs : List Str}, All2 (iS H) vs xs → vs = xs.map V.str
  | _, _, .nil => rfl
  | _, _, .cons a t => by rw [a, t.strs]; rfl
theorem All2.ofStrs {H : Hp} : ∀ (xs : List Str), All2 (iS H) (xs.map V.str) xs
  | [] => .nil
  | x :: r => .cons rfl (All2.ofStrs r)
/-- a list that may change, seen as it stands now -/
theorem same_now {I H : Hp} {a : Addr} {o : HO} (s : Same I H) (h : H a = some o) : Same (upd I a o) H := fun b u e => by
  by_cases q : b = a
  · subst q; rw [upd_same] at e; rw [h]; exact e
  · rw [upd_ne q] at e; exact s b u e
theorem same_to {I : Hp} {a : Addr} {o : HO} (hi : I a = none) : Same I (upd I a o) := sNew hi
end Tk

set_option Elab.async false
set_option linter.all false
set_option maxRecDepth 100000
set_option maxHeartbeats 4000000
set_option exponentiation.threshold 5000
namespace K
open PySem PySem.Spec PyProof.Rows L2 Tk Hd Mt
section
variable {P : Program} {w : World} {K : PySem.W.Frag} {mg : Str → Option Value} {base : Heap}
abbrev Stp := (Nat × Nat) × List Col
def iStp : Rp Stp := fun H v p => ∃ a t c, v = .ref a ∧ H a = some (.tup [.ref t, c]) ∧ H t = some (.tup [.int (p.1.1 : Int), .int (p.1.2 : Int)]) ∧ iL (iL iPr) H c p.2
instance : Mono iStp := ⟨fun s ⟨a, t, c, e, h1, h2, r⟩ => ⟨a, t, c, e, s _ _ h1, s _ _ h2, up s r⟩⟩
def bf1 (f : Nat) : List (Str × V) := putF "first" (.int (f : Int)) []
def bf2 (f z : Nat) : List (Str × V) := putF "size" (.int (z : Int)) (bf1 f)
def bf3 (f z : Nat) (vs : V) : List (Str × V) := putF "start" vs (bf2 f z)
def bf4 (f z : Nat) (vs : V) (b : Nat) : List (Str × V) := putF "bottom" (.int (b : Int)) (bf3 f z vs)
def bf5 (f z : Nat) (vs : V) (b : Nat) (vt : V) : List (Str × V) := putF "steps" vt (bf4 f z vs b)
theorem mf_nos (va vb : V) : (mf va vb).lookup ("states" : Str) = none ∧ (mf va vb).lookup ("buttons" : Str) = none ∧ (mf va vb).lookup ("answers" : Str) = none := by
  refine ⟨?_, ?_, ?_⟩ <;> (unfold mf; rw [lookup_putF, if_neg (by decide +kernel), lookup_putF, if_neg (by decide +kernel)]; rfl)
/-- a machine's fractions have small bottoms -/
structure MDv (M : Ma) (n bs as N : Nat) : Prop where
  ok : MOk M n bs as
  d0 : ∀ q ∈ M.1, dvB N q
  d1 : ∀ q ∈ flatW M, dvB N q
  d2 : (flatW M).length ≤ 4000
theorem IsWh.den {qs : List Rat} {N : Nat} {x : List Int × Nat} (h : IsWh qs N x) : ∀ q ∈ qs, q.den ∣ x.2 := fun q hq => by
  obtain ⟨i, hi, e⟩ := List.getElem_of_mem hq
  have h1 : qs[i]? = some q := by rw [List.getElem?_eq_getElem hi, e]
  have hj : i < x.1.length := by rw [h.2.2.1]; exact hi
  have h2 := h.2.2.2 i q _ h1 (List.getElem?_eq_getElem hj)
  have h3 := congrArg Int.natAbs h2
  rw [Int.natAbs_mul, Int.natAbs_mul, Int.natAbs_natCast, Int.natAbs_natCast] at h3
  exact (Nat.Coprime.symm q.reduced).dvd_of_dvd_mul_left ⟨(x.1[i]).natAbs, by rw [← h3, Nat.mul_comm]⟩
theorem MDv.tab {M : Ma} {n bs as N b : Nat} (h : MDv M n bs as N) (hq : ∀ q ∈ flatW M, q.den ∣ b) {i j : Nat} (hi : i < bs) (hj : j < as) : Tab (gl (gl M.2 i) j) b := by
  have e3 := h.ok.l3 i j hi hj
  have n1 := h.ok.n1
  have m1 : gl M.2 i ∈ M.2 := gl_mem' (by rw [h.ok.l1]; exact hi)
  have m2 : gl (gl M.2 i) j ∈ gl M.2 i := gl_mem' (by rw [h.ok.l2 i hi]; exact hj)
  refine ⟨by omega, fun r hr => ⟨?_, fun q hqr => ?_⟩⟩
  · obtain ⟨s, hs, e⟩ := List.getElem_of_mem hr
    have hg : gl (gl (gl M.2 i) j) s = r := by
      unfold gl; rw [List.getD_eq_getElem?_getD, show (((M.2.getD i []).getD j [])[s]?) = some r from by rw [← e]; exact List.getElem?_eq_getElem hs]; rfl
    rw [e3, ← hg]
    exact h.ok.l4 i j s hi hj (by rw [← e3]; exact hs)
  · have : q ∈ flatW M := by
      unfold flatW
      exact List.mem_flatten.mpr ⟨r, List.mem_flatten.mpr ⟨_, List.mem_flatten.mpr ⟨_, m1, m2⟩, hr⟩, hqr⟩
    exact ⟨hq q this, (h.d1 q this).2⟩
theorem bf_look {f z b : Nat} {vs : V} : (bf4 f z vs b).lookup ("_columns" : Str) = none ∧ (bf4 f z vs b).lookup ("bottom" : Str) = some (.int (b : Int)) ∧ (bf4 f z vs b).lookup ("first" : Str) = some (.int (f : Int)) := by
  refine ⟨?_, ?_, ?_⟩
  · unfold bf4 bf3 bf2 bf1; rw [lookup_putF, if_neg (by decide +kernel), lookup_putF, if_neg (by decide +kernel), lookup_putF, if_neg (by decide +kernel), lookup_putF, if_neg (by decide +kernel)]; rfl
  · unfold bf4; rw [lookup_putF, if_pos rfl]
  · unfold bf4 bf3 bf2 bf1; rw [lookup_putF, if_neg (by decide +kernel), lookup_putF, if_neg (by decide +kernel), lookup_putF, if_neg (by decide +kernel), lookup_putF, if_pos rfl]
theorem two_at {I : Hp} {C : Addr} {v : V} {T : List (List Rows)} {i j : Nat} (r : iT (iT (iT (iT (iR C)))) I v T) (hi : i < T.length) (hj : j < (gl T i).length) : ∃ a xs c ys u, v = .ref a ∧ I a = some (.tup xs) ∧ xs[i]? = some (.ref c) ∧ I c = some (.tup ys) ∧ ys[j]? = some u ∧ iT (iT (iR C)) I u (gl (gl T i) j) := by
  obtain ⟨a, xs, e, h, x2⟩ := r
  obtain ⟨w, hw, rw'⟩ := x2.get' (gl_lt hi)
  obtain ⟨c, ys, rfl, h2, y2⟩ := rw'
  obtain ⟨u, hu, ru⟩ := y2.get' (gl_lt hj)
  exact ⟨a, xs, c, ys, u, e, h, hw, h2, hu, ru⟩
theorem fm_len (as : Nat) (f : Nat → Nat → Stp) : ∀ n, ((List.range n).flatMap fun i => (List.range as).map (f i)).length = n * as
  | 0 => by simp
  | n + 1 => by rw [List.range_succ, List.flatMap_append, List.length_append, fm_len as f n]; simp [Nat.succ_mul]
def stpOf (A B : Ma) (n1 b i j : Nat) : Stp := ((i, j), colsOf (gl (gl A.2 i) j) 0 b ++ colsOf (gl (gl B.2 i) j) n1 b)
def stepsOf (A B : Ma) (n1 b bs as : Nat) : List Stp := (List.range bs).flatMap fun i => (List.range as).map fun j => stpOf A B n1 b i j
def spBInit (C C2 C3 C4 : Addr) : Sp := fun vs H Q _ => ∃ (I : Hp) (x dx : Addr) (v1 v2 : V) (A B : Ma) (n1 n2 bs as N : Nat), vs = [.ref x, v1, v2] ∧ Same I H ∧ I x = none ∧ H x = some (.ins C3 dx []) ∧ iM C C2 I v1 A ∧ iM C C2 I v2 B ∧ MDv A n1 bs as N ∧ MDv B n2 bs as N ∧ 0 < N ∧ N < 2 ^ 64 ∧
  ∀ I' H' vs st b vt, Gr [x] I H I' H' → H' x = some (.ins C3 dx (bf5 n1 (n1 + n2) vs b vt)) → iWh C4 I' vs st → IsWh (A.1 ++ B.1) N st → 0 < b → b ∣ N → (∀ q ∈ flatW A ++ flatW B, q.den ∣ b) → iL iStp I' vt (stepsOf A B n1 b bs as) → Q .non H'
theorem sc_Both_init : FnScope ["self", "one", "other", "button", "answer"] ["self", "one", "other"] (defScope s_Both_init) := ⟨rfl, rfl, rfl, by decide +kernel, rfl, by decide +kernel, by decide +kernel⟩
theorem ok_binit (D : Dt K mg) : Has P w K mg base 6 (He.ma K (He.ga K "Both") "__init__") ["self", "one", "other"] [] (spBInit (CR K) (CM K) (CBo K) (CWh K)) := by
  obtain ⟨fd, F⟩ := fd_Both_init D
  have H_Machine_states := ok_mstates (P := P) (w := w) (base := base) D
  have H_whole := ok_whole (P := P) (w := w) (base := base) D
  have H_weights_of := ok_wts (P := P) (w := w) (base := base) D
  have H_Machine_buttons := ok_mbuttons (P := P) (w := w) (base := base) D
  have H_Machine_answers := ok_manswers (P := P) (w := w) (base := base) D
  have H_Both__columns := ok_bcols (P := P) (w := w) (base := base) D
  refine hasN F (F.bindsN fun _ _ _ _ _ _ us hl => match us, hl with | [_, _, _], _ => rfl) sc_Both_init (fun vs H Q E h => ?_) (fun cdv A outer s H vs Q E hr h => ?_)
  · obtain ⟨I, x, dx, v1, v2, A, B, n1, n2, bs, as, N, rfl, _⟩ := h; rfl
  · obtain ⟨I, x, dx, v1, v2, A, B, n1, n2, bs, as, N, rfl, s0, hI, hx, rA, rB, dA, dB, n0, n64, k⟩ := h
    refine ⟨_, (pss_cons (ps_fld (pv 0) (pe_methH0 (pv 1) (cls_Machine (K := K) D) (me_Machine_states (K := K) D) H_Machine_states (hr.mono (by omega)) passL) rfl)
      (pss_cons (ps_fld (pv 0) (pe_op op_add (pe_methH0 (pv 1) (cls_Machine (K := K) D) (me_Machine_states (K := K) D) H_Machine_states (hr.mono (by omega)) passL) (pe_methH0 (pv 2) (cls_Machine (K := K) D) (me_Machine_states (K := K) D) H_Machine_states (hr.mono (by omega)) passL)) rfl)
      (pss_cons (ps_fld (pv 0) (pe_callH H_whole (hr.mono (by omega)) rfl (glo_whole D) passL (pa_cons (pe_op (op_catAK K) (pe_fldK K (pv 1) rfl) (pe_fldK K (pv 2) rfl)) pa_nil)) rfl)
      (pss_cons (ps_fld (pv 0) (pe_fldK K (pe_callH H_whole (hr.mono (by omega)) rfl (glo_whole D) passL (pa_cons (pe_op op_cat (pe_callH H_weights_of (hr.mono (by omega)) rfl (glo_weights_of D) passL (pa_cons (pv 1) pa_nil)) (pe_callH H_weights_of (hr.mono (by omega)) rfl (glo_weights_of D) passL (pa_cons (pv 2) pa_nil))) pa_nil)) rfl) rfl)
      (pss_one (ps_fld (pv 0) (pe_lcN (own := [("button", 3), ("answer", 4)]) (vs1 := [4]) rfl sc_Both_init.nd (pi_range1 rfl (free_range D) (pa_cons (pe_methH0 (pv 1) (cls_Machine (K := K) D) (me_Machine_buttons (K := K) D) H_Machine_buttons (hr.mono (by omega)) passL) pa_nil)) (blkOk_by (own := [("button", 3), ("answer", 4)]) (N := ["self", "one", "other", "button", "answer"]) (by kernel_rfl)) (by decide) (fun _ _ _ _ _ => (pg_name (i := 3) sc_Both_init.nd rfl (Or.inl rfl))) (fun _ _ _ _ _ => pts_nil) (fun _ _ _ _ _ => (plv_last (vs := [4]) rfl rfl (pi_range1 rfl (free_range D) (pa_cons (pe_methH0 (pv 1) (cls_Machine (K := K) D) (me_Machine_answers (K := K) D) H_Machine_answers (hr.mono (by omega)) passL) pa_nil)) (pg_name (i := 4) sc_Both_init.nd rfl (Or.inl rfl)) pts_nil (pe_tup (pa_cons (pe_tup (pa_cons (pv 3) (pa_cons (pv 4) pa_nil))) (pa_cons (pe_methH (pv 0) (cls_Both (K := K) D) (me_Both__columns (K := K) D) H_Both__columns (hr.mono (by omega)) passL (pa_cons (pe_ix (ix_tupK K) (pe_ix (ix_tupK K) (pe_fldK K (pv 1) rfl) (pv 3) (fun _ _ => rfl)) (pv 4) (fun _ _ => rfl)) (pa_cons (pe_ix (ix_tupK K) (pe_ix (ix_tupK K) (pe_fldK K (pv 2) rfl) (pv 3) (fun _ _ => rfl)) (pv 4) (fun _ _ => rfl)) pa_nil))) pa_nil))) rfl (fun _ _ => rfl))) (fun _ _ _ => rfl)) rfl)))))), ?_⟩
    obtain ⟨am, ad, va, vb, rfl, hma, rs, rm⟩ := id rA
    obtain ⟨am2, ad2, va2, vb2, rfl, hma2, rs2, rm2⟩ := id rB
    obtain ⟨sa, ss, rfl, hsa, a2⟩ := id rs
    obtain ⟨sb, ts, rfl, hsb, b2⟩ := id rs2
    have l1 := dA.ok.l0
    have l2 := dB.ok.l0
    have m1 := dA.ok.n1
    have m2 := dB.ok.n1
    have la := a2.len
    have lb := b2.len
    refine seq_cut (fun σ' H1 => σ' = [some (.ref x), some (.ref am), some (.ref am2), none, none] ∧ Gr [x] I H I H1 ∧ H1 x = some (.ins (CBo K) dx (bf1 n1))) (fun nx q => ?_) ?_
    · refine ⟨_, rfl, am, ad, _, rfl, s0 _ _ hma, (mf_nos _ vb).1, I, .ref am, A, rfl, s0, rA, _, rfl, x, _, dx, _, rfl, hx, cls_Both D, na_Both_first D, (by show 0 < 1000; decide), ?_⟩
      exact q _ _ ⟨rfl, Gr.mut s0 hI List.mem_cons_self, by rw [upd_same, dA.ok.l0]; rfl⟩
    rintro σ' H1 ⟨rfl, g1, hx1⟩
    (try dsimp only)
    refine seq_cut (fun σ' H2 => σ' = [some (.ref x), some (.ref am), some (.ref am2), none, none] ∧ Gr [x] I H I H2 ∧ H2 x = some (.ins (CBo K) dx (bf2 n1 (n1 + n2)))) (fun nx q => ?_) ?_
    · refine ⟨_, rfl, am, ad, _, rfl, g1.ih _ _ hma, (mf_nos _ vb).1, I, .ref am, A, rfl, g1.ih, rA, _, rfl, am2, ad2, _, rfl, g1.ih _ _ hma2, (mf_nos _ vb2).1, I, .ref am2, B, rfl, g1.ih, rB, _, _, rfl, rfl, _, rfl, x, _, dx, _, rfl, hx1, cls_Both D, na_Both_size D, (by show 1 < 1000; decide), ?_⟩
      exact q _ _ ⟨rfl, g1.trans (Gr.mut g1.ih hI List.mem_cons_self), by rw [upd_same, dA.ok.l0, dB.ok.l0]; unfold bf2; rw [Int.natCast_add]⟩
    clear g1 hx1 H1
    rintro σ' H1 ⟨rfl, g1, hx1⟩
    (try dsimp only)
    refine seq_cut (fun σ' H2 => ∃ (I2 : Hp) (vs : V) (st : List Int × Nat), σ' = [some (.ref x), some (.ref am), some (.ref am2), none, none] ∧ Gr [x] I H I2 H2 ∧ H2 x = some (.ins (CBo K) dx (bf3 n1 (n1 + n2) vs)) ∧ iWh (CWh K) I2 vs st ∧ IsWh (A.1 ++ B.1) N st) (fun nx q => ?_) ?_
    · refine ⟨_, rfl, am, _, ad, _, _, rfl, g1.ih _ _ hma, cls_Machine D, na_Machine_start D, mf_start _ vb, _, rfl, am2, _, ad2, _, _, rfl, g1.ih _ _ hma2, cls_Machine D, na_Machine_start D, mf_start _ vb2, ?_⟩
      refine catA_of g1.ih hsa hsb (line_of (by omega)) fun I3 H3 c g3 h3 => ?_
      refine ⟨I3, .ref c, A.1 ++ B.1, N, rfl, g3.ih, iA.t ⟨c, _, rfl, h3, (a2.append b2).up g3.ii⟩, by rw [List.length_append]; omega, n0, n64, fun q hq => (List.mem_append.mp hq).elim (dA.d0 q) (dB.d0 q), fun I4 H4 v x' g4 r4 w4 => ?_⟩
      have g34 := g3.trans g4
      have hx4 := g34.at hx1 (by simp)
      have hI4 := g34.out hI hx1
      refine ⟨_, rfl, x, _, dx, _, rfl, hx4, cls_Both D, na_Both_start D, (by show 2 < 1000; decide), ?_⟩
      exact q _ _ ⟨I4, v, x', rfl, (g1.trans g34.nil).trans (Gr.mut g34.ih hI4 List.mem_cons_self), by rw [upd_same]; rfl, r4, w4⟩
    rintro σ' H2 ⟨I2, vs, st, rfl, g2, hx2, rst, wst⟩
    (try dsimp only)
    refine seq_cut (fun σ' H3 => ∃ (I3 : Hp) (b : Nat), σ' = [some (.ref x), some (.ref am), some (.ref am2), none, none] ∧ Gr [x] I H I3 H3 ∧ Same I2 I3 ∧ H3 x = some (.ins (CBo K) dx (bf4 n1 (n1 + n2) vs b)) ∧ 0 < b ∧ b ∣ N ∧ ∀ q ∈ flatW A ++ flatW B, q.den ∣ b) (fun nx q => ?_) ?_
    · refine ⟨_, rfl, I2, .ref am, A, rfl, g2.ih, up g2.ii rA, by have := dA.d2; omega, fun I3 H3 u3 g3 r3 => ⟨_, rfl, I3, .ref am2, B, rfl, g3.ih, up (g2.ii.trans g3.ii) rB, by have := dB.d2; omega, fun I4 H4 u4 g4 r4 => ?_⟩⟩
      obtain ⟨c3, y3, rfl, h3, a3⟩ := r3
      obtain ⟨c4, y4, rfl, h4, a4⟩ := r4
      have w1 := dA.d2
      have w2 := dB.d2
      refine catV_of g4.ih (g4.ii _ _ h3) h4 (by rw [a3.len, a4.len]; omega) fun I5 H5 c5 g5 h5 => ?_
      refine ⟨I5, .ref c5, flatW A ++ flatW B, N, rfl, g5.ih, iA.l ⟨c5, _, rfl, h5, (a3.up (g4.ii.trans g5.ii)).append (a4.up g5.ii)⟩, by rw [List.length_append]; omega, n0, n64, fun q hq => (List.mem_append.mp hq).elim (dA.d1 q) (dB.d1 q), fun I6 H6 v6 x6 g6 r6 w6 => ?_⟩
      obtain ⟨a6, d6, va6, rfl, h6, _⟩ := r6
      have gg := ((g3.trans g4).trans g5).trans g6
      have hx6 := gg.at hx2 (by simp)
      have hI6 := gg.out (g2.out hI hx) hx2
      refine ⟨a6, _, d6, _, _, rfl, g6.ih _ _ h6, cls_Whole D, na_Whole_bottom D, wf_bottom, _, rfl, x, _, dx, _, rfl, hx6, cls_Both D, na_Both_bottom D, (by show 3 < 1000; decide), ?_⟩
      exact q _ _ ⟨I6, x6.2, rfl, (g2.trans gg.nil).trans (Gr.mut gg.ih hI6 List.mem_cons_self), gg.ii, by rw [upd_same]; rfl, w6.1, w6.2.1, w6.den⟩
    rintro σ' H3 ⟨I3, b, rfl, g3, s23, hx3, b0, bN, bq⟩
    (try dsimp only)
    have rA3 := up g3.ii rA
    have rB3 := up g3.ii rB
    have hm3 := g3.ih _ _ (g3.ii _ _ hma)
    have hm3b := g3.ih _ _ (g3.ii _ _ hma2)
    have bs4 := dA.ok.b1
    have as4 := dA.ok.a1
    have e1 := dA.ok.l1
    have e2 := dA.ok.l2 0 dA.ok.b0
    refine ⟨_, rfl, am, ad, _, rfl, hm3, (mf_nos _ vb).2.1, I3, .ref am, A, rfl, g3.ih, rA3, _, rfl, by omega, by omega, fun l hD => ?_⟩
    rw [Int.toNat_natCast, e1]
    have P0 : ∀ (zs : List Stp) (H' : Hp), (∃ I' ys, Gr [] I3 H3 I' H' ∧ I' l = none ∧ H' l = some (.lst ys) ∧ All2 (iStp I') ys zs) → Same I3 H' := fun zs H' ⟨I', ys, g, _⟩ => g.ii.trans g.ih
    refine lv_wk (D := l) (n := bs) (wk_range (I := I3)) (fun i H' => ∃ I' ys, Gr [] I3 H3 I' H' ∧ I' l = none ∧ H' l = some (.lst ys) ∧ All2 (iStp I') ys ((List.range i).flatMap fun i => (List.range as).map fun j => stpOf A B n1 b i j)) (fun i => P0 _) ⟨I3, [], Gr.tmp g3.ih hD, g3.ih.free hD, upd_same, .nil⟩ (fun i H4 N hi h4 hN => ?_) (fun H4 h4 => ?_)
    rotate_left
    · obtain ⟨I4, ys, g4, hIl, hHl, a4⟩ := h4
      have gF := (g4.mono (ns := [l]) fun _ z => nomatch z).frz g3.ih hD hHl
      have hx4 := gF.at hx3 (by simp)
      have hI4 := gF.out (g3.out hI hx) hx3
      refine ⟨_, rfl, x, _, dx, _, rfl, hx4, cls_Both D, na_Both_steps D, (by show 4 < 1000; decide), ?_⟩
      exact k _ _ vs st b (.ref l) ((g3.trans gF.nil).trans (Gr.mut gF.ih hI4 List.mem_cons_self)) (by rw [upd_same]; rfl) (up (s23.trans gF.ii) rst) wst b0 bN bq ⟨l, ys, rfl, upd_same, a4.up (sNew hIl)⟩
    change gName 3 _ [some (V.ref x), some (V.ref am), some (V.ref am2), none, none] H4 (fun σ2 H2 => wipe σ2 [3, 4] = [some (V.ref x), some (V.ref am), some (V.ref am2), none, none] ∧ _)
    rw [Int.zero_add]
    obtain ⟨I4, ys, g4, hIl, hHl, a4⟩ := h4
    refine ⟨rfl, _, rfl, am, ad, _, rfl, g4.ih _ _ (g4.ii _ _ (g3.ii _ _ hma)), (mf_nos _ vb).2.2, I4, .ref am, A, rfl, g4.ih, up g4.ii rA3, by have := dA.ok.b0; omega, _, rfl, by omega, by omega, ?_⟩
    rw [Int.toNat_natCast, e2]
    refine lv_wk (D := l) (n := as) (wk_range (I := I4)) (fun j H' => ∃ I' ys, Gr [] I3 H3 I' H' ∧ Same I4 I' ∧ I' l = none ∧ H' l = some (.lst ys) ∧ All2 (iStp I') ys (((List.range i).flatMap fun i => (List.range as).map fun j => stpOf A B n1 b i j) ++ (List.range j).map fun j => stpOf A B n1 b i j)) (fun j H' h => by obtain ⟨I', _, g, s', _⟩ := h; exact s'.trans g.ih) ⟨I4, ys, g4, Same.refl _, hIl, hHl, by simpa using a4⟩ (fun j H5 N2 hj h5 hN2 => ?_) (fun H5 h5 => ?_)
    rotate_left
    · obtain ⟨I', ys', g, s', q1, q2, q3⟩ := h5
      exact hN H5 ⟨I', ys', g, q1, q2, by rw [List.range_succ, List.flatMap_append]; simpa using q3⟩
    change gName 4 _ [some (V.ref x), some (V.ref am), some (V.ref am2), some (V.int (i : Int)), none] H5 (fun σ2 H2 => wipe σ2 [4] = [some (V.ref x), some (V.ref am), some (V.ref am2), some (V.int (i : Int)), none] ∧ _)
    rw [Int.zero_add]
    obtain ⟨I5, ys5, g5, s45, hI5l, hH5l, a5⟩ := h5
    refine ⟨rfl, _, rfl, _, rfl, (by show 2 ≤ sizeLine; decide), fun t1 ht1 => ?_⟩
    have g6 := Gr.new (ms := []) (o := .tup [.int (i : Int), .int (j : Int)]) g5.ih ht1
    have g56 := g5.trans g6
    have hx6 := g56.at hx3 (by simp)
    refine ⟨_, rfl, x, dx, _, rfl, hx6, ?_, ?_⟩
    · exact bf_look.1
    have iA' : i < A.2.length := by rw [e1]; exact hi
    have iB' : i < B.2.length := by rw [dB.ok.l1]; exact hi
    have jA' : j < (gl A.2 i).length := by rw [dA.ok.l2 i hi]; exact hj
    have jB' : j < (gl B.2 i).length := by rw [dB.ok.l2 i hi]; exact hj
    obtain ⟨a1, x1, c1, y1, u1, ev1, h1, hx1', h2, hy1, r1⟩ := two_at rm iA' jA'
    obtain ⟨a2', x2, c2, y2, u2, ev2, h3, hx2', h4, hy2, r2⟩ := two_at rm2 iB' jB'
    have SS : Same I (upd I5 t1 (.tup [.int (i : Int), .int (j : Int)])) := g3.ii.trans g56.ii
    have S6 : Same I (upd H5 t1 (.tup [.int (i : Int), .int (j : Int)])) := SS.trans g56.ih
    refine ⟨_, rfl, am, _, ad, _, _, rfl, S6 _ _ hma, cls_Machine D, na_Machine_moves D, mf_moves _ vb, _, rfl, a1, x1, (i : Int), _, ev1, rfl, SqT.of (S6 _ _ h1), at_of (j := i) rfl hx1', _, rfl, c1, y1, (j : Int), _, rfl, rfl, SqT.of (S6 _ _ h2), at_of (j := j) rfl hy1, ?_⟩
    refine ⟨_, rfl, am2, _, ad2, _, _, rfl, S6 _ _ hma2, cls_Machine D, na_Machine_moves D, mf_moves _ vb2, _, rfl, a2', x2, (i : Int), _, ev2, rfl, SqT.of (S6 _ _ h3), at_of (j := i) rfl hx2', _, rfl, c2, y2, (j : Int), _, rfl, rfl, SqT.of (S6 _ _ h4), at_of (j := j) rfl hy2, ?_⟩
    refine ⟨_, x, dx, _, u1, u2, gl (gl A.2 i) j, gl (gl B.2 i) j, n1, b, rfl, g6.ih, hx6, bf_look.2.1, bf_look.2.2, up SS r1, up SS r2, dA.tab (fun q hq => bq q (List.mem_append_left _ hq)) hi hj, dB.tab (fun q hq => bq q (List.mem_append_right _ hq)) hi hj, by omega, b0, Nat.lt_of_le_of_lt (Nat.le_of_dvd n0 bN) n64, fun I7 H7 u7 g7 r7 => ?_⟩
    refine ⟨(by show 2 ≤ sizeLine; decide), fun t2 ht2 => ?_⟩
    have g8 := Gr.new (ms := []) (o := .tup [.ref t1, u7]) g7.ih ht2
    have g78 := (g6.trans g7).trans g8
    have gg := g5.trans g78
    have hl8 := g78.at hH5l (by simp)
    have hI8 := g78.out hI5l hH5l
    refine ⟨ys5, hl8, ?_, hN2 _ ⟨_, ys5 ++ [.ref t2], ((gg.mono (ns := [l]) fun _ z => nomatch z).trans (Gr.mut gg.ih hI8 List.mem_cons_self)).drop hD, s45.trans g78.ii, hI8, upd_same, ?_⟩⟩
    · rw [a5.len, List.length_append, fm_len as (fun i j => stpOf A B n1 b i j), List.length_map, List.length_range]
      have : i * as ≤ 4 * 4 := Nat.mul_le_mul (by omega) as4
      exact lt_line (by omega)
    · rw [List.range_succ, List.map_append, ← List.append_assoc]
      exact (a5.up g78.ii).snoc ⟨t2, t1, u7, rfl, upd_same, g8.ii _ _ (g7.ii _ _ upd_same), up g8.ii r7⟩
end
end K

set_option Elab.async false
set_option linter.all false
set_option maxRecDepth 100000
set_option maxHeartbeats 4000000
set_option exponentiation.threshold 5000
namespace K
open PySem PySem.Spec PyProof.Rows L2 Tk Hd Mt
section
variable {P : Program} {w : World} {K : PySem.W.Frag} {mg : Str → Option Value} {base : Heap}
/-- one answer's columns and what leaves each state -/
def iSt2 : Rp (List Col × List Int) := fun H v p => ∃ a c l, v = .ref a ∧ H a = some (.tup [c, l]) ∧ iL (iL iPr) H c p.1 ∧ iL iJ H l p.2
instance : Mono iSt2 := ⟨fun s ⟨a, c, l, e, h, r1, r2⟩ => ⟨a, c, l, e, s _ _ h, up s r1, up s r2⟩⟩
def mulN (ns ls : List Int) : List Int := (List.range ns.length).map fun i => ns.getD i 0 * ls.getD i 0
def spBehind : Sp := fun vs H Q _ => ∃ (I : Hp) (x v u : V) (ns : List Int) (st : List Col × List Int) (last : Bool), vs = [x, v, u, .bl last] ∧ Same I H ∧ iL iJ I v ns ∧ iSt2 I u st ∧ ns.length ≤ 100 ∧ st.2.length = ns.length ∧ st.1.length ≤ 10000 ∧ (∀ n ∈ ns, Big n) ∧ (∀ n ∈ st.2, Big n) ∧ (∀ col ∈ st.1, col.length ≤ 10000 ∧ ∀ p ∈ col, p.1 < ns.length ∧ Big p.2) ∧
  Ret [] I H (iL iJ) (if last = true then mulN ns st.2 else nextN ns st.1) Q
theorem sc_Trial_behind : FnScope ["self", "numbers", "step", "is_last", "columns", "leaving", "number", "weight"] ["self", "numbers", "step", "is_last"] (defScope s_Trial_behind) := ⟨rfl, rfl, rfl, by decide +kernel, rfl, by decide +kernel, by decide +kernel⟩
theorem ok_behind (D : Dt K mg) : Has P w K mg base 2 (He.ma K (He.ga K "Trial") "behind") ["self", "numbers", "step", "is_last"] [] (spBehind) := by
  obtain ⟨fd, F⟩ := fd_Trial_behind D
  have H_next_numbers := ok_next (P := P) (w := w) (base := base) D
  refine hasN F (F.bindsN fun _ _ _ _ _ _ us hl => match us, hl with | [_, _, _, _], _ => rfl) sc_Trial_behind (fun vs H Q E h => ?_) (fun cdv A outer s H vs Q E hr h => ?_)
  · obtain ⟨I, x, v, u, ns, st, last, rfl, _⟩ := h; rfl
  · obtain ⟨I, x, v, u, ns, st, last, rfl, s0, rv, ru, nl, sl, cl, hn, hs, hc, k⟩ := h
    refine ⟨_, (pss_cons (ps_asg (pv 2) (pg_tupK K rfl (pgs_cons (pg_name (i := 4) sc_Trial_behind.nd rfl (Or.inl rfl)) (pgs_cons (pg_name (i := 5) sc_Trial_behind.nd rfl (Or.inl rfl)) pgs_nil))))
      (pss_cons (ps_if (pt_val (pv 3))
      (pss_one (ps_ret (pe_lc (own := [("number", 6), ("weight", 7)]) (g := gTup K 2 (gCons (gName 6) (gCons (gName 7) gNil))) rfl sc_Trial_behind.nd (pi_zipMK K rfl (free_zip D) (pa_cons (pv 1) (pa_cons (pv 5) pa_nil))) (blkOk_by (own := [("number", 6), ("weight", 7)]) (N := ["self", "numbers", "step", "is_last", "columns", "leaving", "number", "weight"]) (by kernel_rfl)) (fun _ _ _ _ _ => (pg_tupK K rfl (pgs_cons (pg_name (i := 6) sc_Trial_behind.nd rfl (Or.inl rfl)) (pgs_cons (pg_name (i := 7) sc_Trial_behind.nd rfl (Or.inl rfl)) pgs_nil)))) (fun _ _ _ _ _ => pts_nil) (fun _ _ _ _ _ => (pe_op op_mulW (pv 6) (pv 7))))))
      pss_nil)
      (pss_one (ps_ret (pe_callH H_next_numbers (hr.mono (by omega)) rfl (glo_next_numbers D) passL (pa_cons (pv 1) (pa_cons (pv 4) pa_nil))))))), ?_⟩
    obtain ⟨a, c, l, rfl, ha, r1, r2⟩ := id ru
    refine ⟨_, rfl, a, _, rfl, SqT.of (s0 _ _ ha), rfl, _, _, rfl, _, _, rfl, rfl, ?_⟩
    (try dsimp only)
    cases last with
    | false =>
      rw [if_neg Bool.false_ne_true] at k
      refine ⟨_, rfl, false, rfl, iteF ?_⟩
      (try unfold tNext)
      (try dsimp only)
      exact ⟨_, rfl, _, rfl, I, v, c, ns, st.1, rfl, s0, rv, r1, cl, hn, hc, k⟩
    | true =>
      rw [if_pos rfl] at k
      obtain ⟨va, ys, rfl, hva, y2⟩ := id rv
      obtain ⟨vl, zs, rfl, hvl, z2⟩ := id r2
      have ly := y2.len
      have lz := z2.len
      have ey := all2_int y2
      have ez := all2_int z2
      refine ⟨_, rfl, true, rfl, iteT ?_⟩
      have gvi : ∀ {ws : List V} {ms : List Int} {j : Nat}, ws = ms.map V.int → j < ms.length → gv ws j = V.int (ms.getD j 0) ∧ ms.getD j 0 ∈ ms := fun {ws ms j} e hj => by
        subst e
        refine ⟨?_, by rw [List.getD_eq_getElem?_getD, List.getElem?_eq_getElem hj]; exact List.getElem_mem hj⟩
        unfold gv
        rw [List.getD_eq_getElem?_getD, List.getElem?_map, List.getD_eq_getElem?_getD, List.getElem?_eq_getElem hj]; rfl
      refine ⟨_, rfl, _, rfl, true, true, va, vl, ys, zs, rfl, SqL.of (s0 _ _ hva), SqL.of (s0 _ _ hvl), fun l5 hD => lc_zip (n := ns.length) iJ (fun i => ns.getD i 0 * st.2.getD i 0) (fun H s => SqL.of (s _ _ hva)) (fun H s => SqL.of (s _ _ hvl)) (by omega) (by omega) s0 hD (lt_line (by omega)) (fun j t I2 H2 Nx2 Qk2 hj s2 s3 ht ke => ?_) (fun I2 H2 g2 r2 => k _ _ _ g2 r2)⟩
      obtain ⟨p1, p2⟩ := gvi ey hj
      obtain ⟨p3, p4⟩ := gvi ez (show j < st.2.length by omega)
      rw [p1, p3] at ht
      refine ⟨t, _, rfl, SqT.of ht, rfl, _, _, rfl, _, _, rfl, rfl, rfl, ?_⟩
      exact ⟨_, rfl, _, rfl, _, _, rfl, rfl, mulW_of (a := 2000) (b := 2000) (hn _ p2) (hs _ p4) (by decide) (by decide) (by decide), ke _ _ _ (Gr.refl s3) rfl⟩
end
end K

set_option Elab.async false
set_option linter.all false
set_option maxRecDepth 100000
set_option maxHeartbeats 4000000
set_option exponentiation.threshold 5000
namespace K
open PySem PySem.Spec PyProof.Rows L2 Tk Hd Mt
def cutG {α : Type} (l : List α) (lo hi : Option Int) : List α := (l.drop (HT.sIx l.length 0 lo)).take (HT.sIx l.length l.length hi - HT.sIx l.length 0 lo)
theorem cutV_map {α : Type} {f : α → V} {l : List α} {lo hi : Option Int} : cutV (l.map f) lo hi = (cutG l lo hi).map f := by
  unfold cutV cutG
  rw [List.length_map, ← List.map_drop, ← List.map_take]
theorem cutG_take {α : Type} {l : List α} {a : Nat} : cutG l none (some (a : Int)) = l.take a := by
  unfold cutG; rw [HT.sIx_none, HT.sIx_nat, List.drop_zero, Nat.sub_zero]
  rcases Nat.le_total a l.length with h | h
  · rw [Nat.min_eq_left h]
  · rw [Nat.min_eq_right h, List.take_length, List.take_of_length_le h]
theorem cutG_drop {α : Type} {l : List α} {a : Nat} {x : Int} (hx : x = (a : Int)) : cutG l (some x) none = l.drop a := by
  subst hx
  unfold cutG; rw [HT.sIx_none, HT.sIx_nat]
  rcases Nat.le_total a l.length with h | h
  · rw [Nat.min_eq_left h, List.take_of_length_le (by rw [List.length_drop]; omega)]
  · rw [Nat.min_eq_right h, List.drop_eq_nil_of_le h]; simp
section
variable {P : Program} {w : World} {K : PySem.W.Frag} {mg : Str → Option Value} {base : Heap}
abbrev CTr (K : PySem.W.Frag) : Addr := He.ga K "Trial"
theorem slV_of {I H : Hp} {a : Addr} {xs : List V} {Q : VK} {lo hi : Option Int} (s : Same I H) (ha : I a = some (.lst xs)) (k : ∀ I' H' c, Gr [] I H I' H' → I' c = some (.lst (cutV xs lo hi)) → Q (.ref c) H') : rSlL K (.ref a) lo hi H Q :=
  ⟨a, _, rfl, SqL.of (s _ _ ha), fun p hp => k _ _ p (Gr.new s hp) upd_same⟩
def likeN (ns : List Int) (f : Nat) (said : Int) : Int := if said = 1 then (ns.take f).sum else (ns.drop f).sum
def spLike (C3 C5 : Addr) : Sp := fun vs H Q _ => ∃ (I : Hp) (x dx o od : Addr) (fs gs : List (Str × V)) (v : V) (ns : List Int) (f : Nat) (said : Int), vs = [.ref x, v, .int said] ∧ Same I H ∧ I x = some (.ins C5 dx fs) ∧ fs.lookup ("both" : Str) = some (.ref o) ∧ I o = some (.ins C3 od gs) ∧ gs.lookup ("first" : Str) = some (.int (f : Int)) ∧
  iL iJ I v ns ∧ ns.length ≤ 1000 ∧ ∀ I' H', Gr [] I H I' H' → Q (.int (likeN ns f said)) H'
theorem sc_Trial_likelihood : FnScope ["self", "numbers", "said", "first"] ["self", "numbers", "said"] (defScope s_Trial_likelihood) := ⟨rfl, rfl, rfl, by decide +kernel, rfl, by decide +kernel, by decide +kernel⟩
theorem ok_like (D : Dt K mg) : Has P w K mg base 1 (He.ma K (He.ga K "Trial") "likelihood") ["self", "numbers", "said"] [] (spLike (CBo K) (CTr K)) := by
  obtain ⟨fd, F⟩ := fd_Trial_likelihood D
  refine hasN F (F.bindsN fun _ _ _ _ _ _ us hl => match us, hl with | [_, _, _], _ => rfl) sc_Trial_likelihood (fun vs H Q E h => ?_) (fun cdv A outer s H vs Q E hr h => ?_)
  · obtain ⟨I, x, dx, o, od, fs, gs, v, ns, f, said, rfl, _⟩ := h; rfl
  · obtain ⟨I, x, dx, o, od, fs, gs, v, ns, f, said, rfl, s0, hx, hb, ho, hf, rv, nl, k⟩ := h
    refine ⟨_, (pss_cons (ps_set (i := 3) sc_Trial_likelihood.nd rfl (Or.inl rfl) (pe_fldK K (pe_fldK K (pv 0) rfl) rfl))
      (pss_one (ps_ret (pe_ifExp (pt_cmpR op_eq (pv 2) pe_int (nomark _)) (pe_callB (cr_sumK K rfl) rfl (free_sum D) (by decide +kernel) (pa_cons (pe_slice (sl_listK K) (pv 1) po_none (po_some (pv 3))) pa_nil)) (pe_callB (cr_sumK K rfl) rfl (free_sum D) (by decide +kernel) (pa_cons (pe_slice (sl_listK K) (pv 1) (po_some (pv 3)) po_none) pa_nil)))))), ?_⟩
    obtain ⟨a, ys, rfl, ha, y2⟩ := id rv
    have ey := all2_int y2
    refine seq_cut (fun σ' H1 => H1 = H ∧ σ' = [some (.ref x), some (.ref a), some (.int said), some (.int (f : Int))]) (fun nx q => ?_) ?_
    · exact ⟨_, rfl, x, _, dx, _, _, rfl, s0 _ _ hx, cls_Trial D, na_Trial_both D, hb, o, _, od, _, _, rfl, s0 _ _ ho, cls_Both D, na_Both_first D, hf, q _ _ ⟨rfl, rfl⟩⟩
    rintro σ' H1 ⟨rfl, rfl⟩
    (try dsimp only)
    have kk : ∀ {ms : List Int} {I' H' : Hp} {c : Addr}, Gr [] I H1 I' H' → I' c = some (.lst (ms.map V.int)) → likeN ns f said = ms.sum → rSum K [.ref c] H' Q := fun {ms I' H' c} g h e => ⟨c, ms, rfl, SqL.of (g.ih _ _ h), by rw [← e]; exact k _ _ g⟩
    have hc : decide (V.int said = V.int 1) = decide (said = 1) := by
      by_cases c : said = 1
      · subst c; rfl
      · rw [decide_eq_false c, decide_eq_false fun h => c (by injection h)]
    refine ⟨_, rfl, rfl, _, rfl, ?_⟩
    (try dsimp only)
    rw [hc]
    by_cases c : said = 1
    · rw [decide_eq_true c]
      refine iteT ?_
      refine ⟨_, rfl, ?_⟩
      (try dsimp only [tNoPart, tPart])
      refine ⟨_, rfl, _, rfl, slV_of s0 ha fun I2 H2 c2 g2 h2 => ?_⟩
      rw [ey, cutV_map, cutG_take] at h2
      exact kk g2 h2 (by unfold likeN; rw [if_pos c])
    · rw [decide_eq_false c]
      refine iteF ?_
      refine ⟨_, rfl, ?_⟩
      (try dsimp only [tNoPart, tPart])
      refine ⟨_, rfl, _, rfl, slV_of s0 ha fun I2 H2 c2 g2 h2 => ?_⟩
      rw [ey, cutV_map, cutG_drop rfl] at h2
      exact kk g2 h2 (by unfold likeN; rw [if_neg c])
end
end K

set_option Elab.async false
set_option linter.all false
set_option maxRecDepth 100000
/-! l[j], by values, of a list (for l[j] += e). -/
namespace Tk
open PySem PySem.Spec PyProof.Rows L2
def rGetL (K : PySem.W.Frag) : V → V → Hp → VK → Prop := fun x y H Q => ∃ (p : Addr) (xs : List V) (j : Nat) (z : V), x = .ref p ∧ y = .int (j : Int) ∧ SqL K H p xs ∧ xs[j]? = some z ∧ j < 100000 ∧ Q z H
theorem get_list0 {X : Cx} : PGet X (rGetL X.K) := by
  intro pins s σ H o i ov iv Q I r1 r2 h
  obtain ⟨p, xs, j, z, rfl, rfl, hq, hz, hj, q⟩ := h
  cases r1
  obtain ⟨t, rfl⟩ := r2
  obtain ⟨its, r, pl, hsz⟩ := I.list hq
  obtain ⟨w, ew, rw'⟩ := r.get hz
  refine wpAny_getItem_list pl.isList (by omega) (by omega) (x := w) (by simpa using ew) ?_
  exact ⟨z, H, I, rw', q⟩
theorem get_list {X : Cx} (K : PySem.W.Frag) (hK : X.K = K := by rfl) : PGet X (rGetL K) := hK ▸ get_list0
end Tk

set_option Elab.async false
set_option linter.all false
set_option maxRecDepth 100000
set_option maxHeartbeats 4000000
set_option exponentiation.threshold 5000
namespace K
open PySem PySem.Spec PyProof.Rows L2 Tk Hd Mt
section
variable {P : Program} {w : World} {K : PySem.W.Frag} {mg : Str → Option Value} {base : Heap}
theorem all2_ofInt {I : Hp} : ∀ ms : List Int, All2 (iJ I) (ms.map V.int) ms
  | [] => .nil
  | m :: r => .cons rfl (all2_ofInt r)
def stepC (ms : List Int) (p : Nat × Int) : List Int := ms.set p.1 (ms.getD p.1 0 + p.2)
def addC (ms : List Int) (col : Col) : List Int := col.foldl stepC ms
/-- what leaves each state -/
def leaveN (n : Nat) (cols : List Col) : List Int := cols.foldl addC (List.replicate n 0)
def spLeav : Sp := fun vs H Q _ => ∃ (I : Hp) (v : V) (cols : List Col), vs = [v] ∧ Same I H ∧ iL (iL iPr) I v cols ∧ cols.length ≤ 100 ∧ (∀ col ∈ cols, col.length ≤ 100 ∧ ∀ p ∈ col, p.1 < cols.length) ∧ ∀ I' H' v', Gr [] I H I' H' → iL iJ I' v' (leaveN cols.length cols) → (leaveN cols.length cols).length = cols.length → Q v' H'
theorem sc__leaving : FnScope ["columns", "sums", "column", "here", "weight"] ["columns"] (defScope s__leaving) := ⟨rfl, rfl, rfl, by decide +kernel, rfl, by decide +kernel, by decide +kernel⟩
theorem ok_leav (D : Dt K mg) : Has P w K mg base 1 (He.ga K "_leaving") ["columns"] [] (spLeav) := by
  obtain ⟨fd, F⟩ := fd__leaving D
  refine hasN F (F.bindsN fun _ _ _ _ _ _ us hl => match us, hl with | [_], _ => rfl) sc__leaving (fun vs H Q E h => ?_) (fun cdv A outer s H vs Q E hr h => ?_)
  · obtain ⟨I, v, cols, rfl, _⟩ := h; rfl
  · obtain ⟨I, v, cols, rfl, s0, rv, hl, hc, k⟩ := h
    refine ⟨_, (pss_cons (ps_set (i := 1) sc__leaving.nd rfl (Or.inl rfl) (pe_op op_rep (pe_lst (pa_cons pe_int pa_nil)) (pe_callB (call_lenK K) rfl (free_len D) PySem.boot_len (pa_cons (pv 0) pa_nil))))
      (pss_cons (ps_for PassesOwn.never rfl (pi_listK K (pv 0)) (pg_name (i := 2) sc__leaving.nd rfl (Or.inl rfl))
      (pss_one (ps_for PassesOwn.never rfl (pi_listK K (pv 2)) (pg_tupK K rfl (pgs_cons (pg_name (i := 3) sc__leaving.nd rfl (Or.inl rfl)) (pgs_cons (pg_name (i := 4) sc__leaving.nd rfl (Or.inl rfl)) pgs_nil)))
      (pss_one (ps_augS (pv 1) (pv 3) (get_list K) (pv 4) ip_add set_list)))))
      (pss_one (ps_ret (pv 1))))), ?_⟩
    obtain ⟨b, us, rfl, hb, u2⟩ := id rv
    have lu := u2.len
    refine seq_cut (fun σ' H1 => ∃ (l : Addr) (Hl : Hp) (Il : Hp), σ' = [some (.ref b), some (.ref l), none, none, none] ∧ Gr [] I H Il Hl ∧ Hl l = none ∧ H1 = upd Hl l (.lst ((List.replicate cols.length (0 : Int)).map V.int))) (fun nx q => ?_) ?_
    · refine ⟨(by show 1 ≤ sizeLine; decide), fun l1 hl1 => ?_⟩
      have g1 := Gr.new (ms := []) (o := .lst [V.int 0]) s0 hl1
      refine ⟨_, rfl, _, cols.length, rfl, .inl ⟨_, SqL.of (g1.ih _ _ (g1.ii _ _ hb)), lu.symm⟩, l1, (cols.length : Int), _, rfl, rfl, upd_same, by omega, by omega, ?_, fun l hl => ?_⟩
      · rw [Int.toNat_natCast]; exact Nat.le_of_lt (lt_line (by simp; omega))
      · refine q _ _ ⟨l, _, _, rfl, g1, hl, ?_⟩
        rw [Int.toNat_natCast, List.map_replicate]
        congr 2
        induction cols.length with
        | zero => rfl
        | succ n ih => rw [List.replicate_succ, List.replicate_succ, List.flatten_cons, ih]; rfl
    rintro σ' H1 ⟨l, Hl, Il, rfl, gl, hl0, rfl⟩
    (try dsimp only)
    have S0 : ∀ ms : List Int, Same Il (upd Hl l (.lst (ms.map V.int))) := fun ms => gl.ih.trans (sNew hl0)
    have hb1 := gl.ii _ _ hb
    refine seq_cut (fun σ' H2 => ∃ (ms : List Int) (v2 v3 v4 : Option V), σ' = [some (.ref b), some (.ref l), v2, v3, v4] ∧ H2 = upd Hl l (.lst (ms.map V.int)) ∧ ms.length = cols.length ∧ ms = leaveN cols.length cols) (fun nx q => ?_) ?_
    · refine ⟨_, rfl, b, rfl, ⟨_, SqL.of (S0 _ _ _ hb1)⟩, ?_⟩
      refine for_wk (D := { nx := nx, rt := Q }) (wk_list (I := Il) hb1)
        (fun σ' H2 => ∃ (ms : List Int) (v2 v3 v4 : Option V), σ' = [some (.ref b), some (.ref l), v2, v3, v4] ∧ H2 = upd Hl l (.lst (ms.map V.int)) ∧ ms.length = cols.length ∧ ms = leaveN cols.length cols)
        (fun i σ' H2 => ∃ (ms : List Int) (v2 v3 v4 : Option V), σ' = [some (.ref b), some (.ref l), v2, v3, v4] ∧ H2 = upd Hl l (.lst (ms.map V.int)) ∧ ms.length = cols.length ∧ ms = (cols.take i).foldl addC (List.replicate cols.length 0))
        (fun i σ' H2 h => by obtain ⟨ms, _, _, _, _, e, _⟩ := h; rw [e]; exact S0 ms) ⟨_, none, none, none, rfl, rfl, by simp, rfl⟩ (fun nx2 qn i σ' H2 hi h => ?_) (fun σ' H2 h => by rw [lu, List.take_length] at h; exact h) (fun σ' H2 h => q _ _ h)
      obtain ⟨ms, v2, v3, v4, rfl, rfl, hm, hms⟩ := h
      have htk : cols.take (i + 1) = cols.take i ++ [cols[i]'(by omega)] := by rw [List.take_add_one, List.getElem?_eq_getElem (show i < cols.length by omega)]; rfl
      obtain ⟨u, hu, ru⟩ := u2.get' (List.getElem?_eq_getElem (show i < cols.length by omega))
      have hcm := hc _ (List.getElem_mem (show i < cols.length by omega))
      generalize cols[i]'(by omega) = col at ru hcm htk
      have e : gv us i = u := by unfold gv; rw [List.getD_eq_getElem?_getD, hu]; rfl
      rw [e]
      obtain ⟨c, cs, rfl, hcc, c2⟩ := id ru
      have hc1 := gl.ii _ _ hcc
      refine gName_of ?_
      (try dsimp only)
      refine ⟨_, rfl, c, rfl, ⟨_, SqL.of (S0 _ _ _ hc1)⟩, ?_⟩
      refine for_wk (wk_list (I := Il) hc1)
        (fun σ' H2 => ∃ (ms : List Int) (v2 v3 v4 : Option V), σ' = [some (.ref b), some (.ref l), v2, v3, v4] ∧ H2 = upd Hl l (.lst (ms.map V.int)) ∧ ms.length = cols.length ∧ ms = addC ((cols.take i).foldl addC (List.replicate cols.length 0)) col)
        (fun j σ' H2 => ∃ (ms : List Int) (v2 v3 v4 : Option V), σ' = [some (.ref b), some (.ref l), v2, v3, v4] ∧ H2 = upd Hl l (.lst (ms.map V.int)) ∧ ms.length = cols.length ∧ ms = (col.take j).foldl stepC ((cols.take i).foldl addC (List.replicate cols.length 0)))
        (fun i σ' H2 h => by obtain ⟨ms, _, _, _, _, e, _⟩ := h; rw [e]; exact S0 ms) ⟨ms, _, v3, v4, rfl, rfl, hm, hms⟩ (fun nx3 qn3 j σ' H2 hj h => ?_) (fun σ' H2 h => by rw [c2.len, List.take_length] at h; exact h) (fun σ' H2 h => ?_)
      · obtain ⟨ms, v2, v3, v4, rfl, rfl, hm, hms⟩ := h
        have hjl : j < col.length := by rw [← c2.len]; exact hj
        have htj : col.take (j + 1) = col.take j ++ [col[j]] := by rw [List.take_add_one, List.getElem?_eq_getElem hjl]; rfl
        obtain ⟨u, hu2, ru2⟩ := c2.get' (List.getElem?_eq_getElem (show j < col.length by rw [← c2.len]; exact hj))
        have hpm := hcm.2 _ (List.getElem_mem (show j < col.length by rw [← c2.len]; exact hj))
        generalize col[j] = p at ru2 hpm htj
        have e : gv cs j = u := by unfold gv; rw [List.getD_eq_getElem?_getD, hu2]; rfl
        rw [e]
        obtain ⟨t, rfl, ht⟩ := id ru2
        refine ⟨t, _, rfl, SqT.of (S0 _ _ _ (gl.ii _ _ ht)), rfl, _, _, rfl, _, _, rfl, rfl, ?_⟩
        have hget : (ms.map V.int)[p.1]? = some (V.int (ms[p.1]'(by omega))) := by rw [List.getElem?_map, List.getElem?_eq_getElem (by omega)]; rfl
        refine ⟨_, rfl, _, rfl, l, _, p.1, _, rfl, rfl, SqL.of upd_same, hget, by omega, _, rfl, _, _, rfl, rfl, ?_⟩
        refine ⟨l, _, (p.1 : Int), p.1, rfl, rfl, upd_same, ?_, ms.set p.1 ((ms[p.1]'(by omega)) + p.2), _, _, _, rfl, ?_, by rw [List.length_set]; exact hm, ?_⟩
        · rw [List.length_map]
          unfold ixN
          rw [if_pos (by omega), if_pos (by omega), Int.toNat_natCast]
        · rw [upd_upd, List.map_set]
        · rw [htj, List.foldl_append, ← hms]
          show _ = stepC ms p
          unfold stepC
          rw [List.getD_eq_getElem?_getD, List.getElem?_eq_getElem (by omega)]; rfl
      · obtain ⟨ms, v2, v3, v4, e1, e2, e3, e4⟩ := h
        exact ⟨ms, v2, v3, v4, e1, e2, e3, by rw [htk, List.foldl_append, e4]; rfl⟩
    rintro σ' H2 ⟨ms, v2, v3, v4, rfl, rfl, hm, hms⟩
    refine ⟨_, rfl, ?_⟩
    have gF := gl.trans (Gr.new (ms := []) (o := .lst (ms.map V.int)) gl.ih hl0)
    subst hms
    exact k _ _ _ gF ⟨l, _, rfl, upd_same, all2_ofInt _⟩ hm
end
end K

set_option Elab.async false
set_option linter.all false
set_option maxRecDepth 100000
set_option maxHeartbeats 4000000
/-! A range with a step; comprehensions that tell each element by its place. -/
namespace Tk
open PySem PySem.Spec PyProof.Rows L2
theorem wk_rangeC {lo c : Int} {n : Nat} {I : Hp} : Wk (Itc lo c n) n (fun i => .int (lo + (i : Nat) * c)) I :=
  ⟨fun i H s hi => hi, fun H s => Nat.le_refl _, fun i H x H' s hi y => ⟨y.2, y.1⟩⟩
theorem lc_wkf {β : Type} {J : It} {n : Nat} {xs : Nat → V} {I H1 : Hp} {g : TG} {tt : TT} {te : TE} {vz : List Nat} {σ : L2.St} {D : Addr} {Qd : Hp → Prop} (Sy : Rp β) [Mono Sy] (f : Nat → β) (W : Wk J n xs I) (s0 : Same I H1) (hD : H1 D = none) (hn : n < sizeLine)
    (step : ∀ (i : Nat) (I' H' : Hp) (Nx : Hp → Prop) (Qk : VK), i < n → Same I I' → Same I' H' → (∀ I'' H'' y, Gr [] I' H' I'' H'' → Sy I'' y (f i) → Qk y H'') →
      g (xs i) (wipe σ vz) H' fun σ2 H2 => wipe σ2 vz = wipe σ vz ∧ tt σ2 H2 fun b H3 => if b = true then te σ2 H3 Qk else Nx H3)
    (hd : ∀ I' H', Gr [] I H1 I' H' → iL Sy I' (.ref D) ((List.range n).map f) → Qd H') : LcR J g tt te vz σ H1 D Qd := by
  refine lc_wk [] Sy (fun i z => z = f i) (fun _ _ => True) W s0 hD (by simp) hn stb_true trivial (fun i I' H' Nx Qk hi s1 s2 _ kk => ?_) (fun I' H' ys zs g1 hD' b2 hz rl _ => ?_)
  · exact step i I' H' Nx Qk hi s1 s2 fun I'' H'' y g2 sy => kk _ _ _ _ g2 trivial sy rfl
  · exact hd I' H' g1 ⟨D, ys, rfl, hD', by rw [← range_of hz rl]; exact b2⟩
theorem rgc_chunk {b a : Nat} (h0 : 0 < a) (ha : a ≤ 4) (hb : b ≤ 4) : RgC 0 ((b * a : Nat) : Int) (a : Int) b := by
  have : ∀ b ∈ List.range 5, ∀ a ∈ List.range 5, 0 < a → (a : Int) ≠ 0 ∧ (a : Int).natAbs < 1073741824 ∧ Builtin.Range.small 0 ((b * a : Nat) : Int) (a : Int) = true ∧ Builtin.Range.rangeSize 0 ((b * a : Nat) : Int) (a : Int) = b := by decide +kernel
  exact this b (List.mem_range.mpr (by omega)) a (List.mem_range.mpr (by omega)) h0
/-- a new object, behind its own __init__ -/
theorem ob_new {I H I' H' : Hp} {x dx C2 : Addr} {fs : List (Str × V)} (s : Same I H) (nx : H x = none) (nd : H dx = none) (ne : dx ≠ x)
    (g : Gr [x] (upd I dx (.own x)) (upd (upd H dx (.own x)) x (.ins C2 dx [])) I' H') (h : H' x = some (.ins C2 dx fs)) :
    Gr [] I H (upd I' x (.ins C2 dx fs)) H' ∧ I' x = none := by
  have g0 : Gr [] I H (upd I dx (.own x)) (upd H dx (.own x)) := Gr.new s nd
  have hx0 : upd H dx (.own x) x = none := by rw [upd_ne (Ne.symm ne)]; exact nx
  have g1 : Gr [] (upd I dx (.own x)) (upd H dx (.own x)) (upd I dx (.own x)) (upd (upd H dx (.own x)) x (.ins C2 dx [])) := Gr.tmp g0.ih hx0
  have g2 := (g1.mono (ns := [x]) fun _ z => nomatch z).trans g
  have hI' : I' x = none := g.out (g0.ih.free hx0) upd_same
  exact ⟨g0.trans (g2.frz g0.ih hx0 h), hI'⟩
/-- before that -/
theorem ob_pre {I H : Hp} {x dx C2 : Addr} (s : Same I H) (nx : H x = none) (nd : H dx = none) (ne : dx ≠ x) :
    Same (upd I dx (.own x)) (upd (upd H dx (.own x)) x (.ins C2 dx [])) ∧ upd I dx (.own x) x = none ∧ Same I (upd I dx (.own x)) := by
  have g0 : Gr [] I H (upd I dx (.own x)) (upd H dx (.own x)) := Gr.new s nd
  have hx0 : upd H dx (.own x) x = none := by rw [upd_ne (Ne.symm ne)]; exact nx
  exact ⟨sUnder g0.ih (g0.ih.free hx0), g0.ih.free hx0, g0.ii⟩
/-- a for loop over enumerate(list): each item in a new pair -/
theorem for_enum {K : PySem.W.Frag} {a : Addr} {vs : List V} {I : Hp} {g : TG} {tb : TS} {D : Ends} {σ : L2.St} {H : Hp} (ha : I a = some (.lst vs)) (Post : L2.St → Hp → Prop) (Pv : Nat → L2.St → Hp → Prop) (hS : ∀ i σ H, Pv i σ H → Same I H) (h0 : Pv 0 σ H)
    (hs : ∀ nx : L2.St → Hp → Prop, (∀ σ' H', Post σ' H' → nx σ' H') → ∀ i σ H t, i < vs.length → Pv i σ H → H t = none → g (.ref t) σ (upd H t (.tup [.int (i : Nat), gv vs i])) fun σ2 H2 => tb { D with nx := Pv (i + 1), ct := Pv (i + 1), bk := nx } σ2 H2)
    (hd : ∀ σ H, Pv vs.length σ H → Post σ H) (fin : ∀ σ' H', Post σ' H' → D.nx σ' H') :
    ∃ Wz : Nat → Nat → L2.St → Hp → Prop, (∃ m, Wz 0 m σ H) ∧ ∀ i m σ H, Wz i m σ H →
      ((Ite K a).stop i H ∧ D.nx σ H) ∨ ((Ite K a).go i H ∧ ∃ N : L2.St → Hp → Prop, (∀ σ' H', N σ' H' → ∃ m', m' < m ∧ Wz (i + 1) m' σ' H') ∧ ∀ x H', (Ite K a).yld i H x H' → g x σ H' fun σ2 H2 => tb { D with nx := N, ct := N, bk := D.nx } σ2 H2) := by
  refine ⟨fun i m σ H => m = vs.length - i ∧ i ≤ vs.length ∧ Pv i σ H, ⟨vs.length, rfl, Nat.zero_le _, h0⟩, ?_⟩
  rintro i m σ H ⟨rfl, hi, p⟩
  have s := hS i σ H p
  have sq : SqL K H a vs := SqL.of (s _ _ ha)
  by_cases hlt : i < vs.length
  · refine .inr ⟨⟨vs, _, sq, gv_at hlt⟩, Pv (i + 1), fun σ' H' p' => ⟨vs.length - (i + 1), by omega, rfl, hlt, p'⟩, fun x H' y => ?_⟩
    obtain ⟨t, u, rfl, ht, rfl, y1⟩ := y
    have e1 := gv_of (y1 vs sq)
    subst e1
    exact hs D.nx fin i σ _ t hlt p ht
  · have e : i = vs.length := by omega
    subst e
    exact .inl ⟨⟨vs, sq, Nat.le_refl _⟩, fin σ H (hd σ H p)⟩
section
variable {P : Program} {w : World} {K : PySem.W.Frag} {mg : Str → Option Value} {base : Heap} {x qual : Str} {st : Stmt} {f : Addr} {fd : FuncData} {ps : List Str} {k : Nat}
/-- a def of which nothing is wanted -/
theorem has_nev {sp : Sp} (F : FnQ K x qual st [] f fd) (b : Binds K fd ps []) (n : ∀ vs H Q E, ¬ sp vs H Q E) : Has P w K mg base k f ps [] sp :=
  ⟨F.kp, fd, [], .nil, b, ⟨fun _ _ _ _ h => (n _ _ _ _ h).elim, fun _ _ _ _ _ _ _ _ _ _ _ _ _ h => (n _ _ _ _ h).elim⟩⟩
end
end Tk

set_option Elab.async false
set_option linter.all false
set_option maxRecDepth 100000
set_option maxHeartbeats 4000000
set_option exponentiation.threshold 5000
namespace K
open PySem PySem.Spec PyProof.Rows L2 Tk Hd Mt
section
variable {P : Program} {w : World} {K : PySem.W.Frag} {mg : Str → Option Value} {base : Heap}
/-! ### Both and Trial as they stand -/
structure BoD where
  f : Nat
  z : Nat
  st : List Int × Nat
  b : Nat
  steps : List Stp
def iBo (C3 C4 : Addr) : Rp BoD := fun H v D => ∃ a dx vs vt, v = .ref a ∧ H a = some (.ins C3 dx (bf5 D.f D.z vs D.b vt)) ∧ iWh C4 H vs D.st ∧ iL iStp H vt D.steps
instance {C3 C4 : Addr} : Mono (iBo C3 C4) := ⟨fun s ⟨a, dx, vs, vt, e, h, r1, r2⟩ => ⟨a, dx, vs, vt, e, s _ _ h, up s r1, up s r2⟩⟩
theorem bf5_look {f z b : Nat} {vs vt : V} : (bf5 f z vs b vt).lookup ("steps" : Str) = some vt ∧ (bf5 f z vs b vt).lookup ("bottom" : Str) = some (.int (b : Int)) ∧ (bf5 f z vs b vt).lookup ("start" : Str) = some vs ∧ (bf5 f z vs b vt).lookup ("first" : Str) = some (.int (f : Int)) ∧ (bf5 f z vs b vt).lookup ("size" : Str) = some (.int (z : Int)) := by
  refine ⟨?_, ?_, ?_, ?_, ?_⟩
  · unfold bf5; rw [lookup_putF, if_pos rfl]
  · unfold bf5 bf4; rw [lookup_putF, if_neg (by decide +kernel), lookup_putF, if_pos rfl]
  · unfold bf5 bf4 bf3; rw [lookup_putF, if_neg (by decide +kernel), lookup_putF, if_neg (by decide +kernel), lookup_putF, if_pos rfl]
  · unfold bf5 bf4 bf3 bf2 bf1; rw [lookup_putF, if_neg (by decide +kernel), lookup_putF, if_neg (by decide +kernel), lookup_putF, if_neg (by decide +kernel), lookup_putF, if_neg (by decide +kernel), lookup_putF, if_pos rfl]
  · unfold bf5 bf4 bf3 bf2; rw [lookup_putF, if_neg (by decide +kernel), lookup_putF, if_neg (by decide +kernel), lookup_putF, if_neg (by decide +kernel), lookup_putF, if_pos rfl]
def tf (vb vp : V) : List (Str × V) := putF "presses" vp (putF "both" vb [])
theorem tf_look {vb vp : V} : (tf vb vp).lookup ("both" : Str) = some vb ∧ (tf vb vp).lookup ("presses" : Str) = some vp := by
  refine ⟨?_, ?_⟩
  · unfold tf; rw [lookup_putF, if_neg (by decide +kernel), lookup_putF, if_pos rfl]
  · unfold tf; rw [lookup_putF, if_pos rfl]
abbrev Sp2 := List Col × List Int
abbrev TrD := BoD × List (List Sp2)
def iTr (C5 C3 C4 : Addr) : Rp TrD := fun H v T => ∃ a dx vb vp, v = .ref a ∧ H a = some (.ins C5 dx (tf vb vp)) ∧ iBo C3 C4 H vb T.1 ∧ iL (iL iSt2) H vp T.2
instance {C5 C3 C4 : Addr} : Mono (iTr C5 C3 C4) := ⟨fun s ⟨a, dx, vb, vp, e, h, r1, r2⟩ => ⟨a, dx, vb, vp, e, s _ _ h, up s r1, up s r2⟩⟩
/-- what Both tells of two machines -/
structure BoIs (A B : Ma) (n1 n2 bs as N : Nat) (D : BoD) : Prop where
  f : D.f = n1
  z : D.z = n1 + n2
  wh : IsWh (A.1 ++ B.1) N D.st
  b0 : 0 < D.b
  bN : D.b ∣ N
  bq : ∀ q ∈ flatW A ++ flatW B, q.den ∣ D.b
  st : D.steps = stepsOf A B n1 D.b bs as
def withL (s : Stp) : Sp2 := (s.2, leaveN s.2.length s.2)
def chunks (as bs : Nat) (l : List Sp2) : List (List Sp2) := (List.range bs).map fun i => (l.drop (i * as)).take as
/-- small entries, at states that there are -/
theorem colOf_ok {rows : Rows} {n ahead b j : Nat} (hr : rows.length = n) : (colOf rows ahead b j).length ≤ n ∧ ∀ p ∈ colOf rows ahead b j, ahead ≤ p.1 ∧ p.1 < ahead + n ∧ ∃ i, i < n ∧ p = (ahead + i, (gq (gl rows i) j).num * ((b : Int) / ((gq (gl rows i) j).den : Int))) := by
  unfold colOf
  refine ⟨?_, fun p hp => ?_⟩
  · rw [List.length_map, ← hr]
    exact Nat.le_trans (List.length_filter_le _ _) (by simp)
  · obtain ⟨i, hi, rfl⟩ := List.mem_map.mp hp
    have := List.mem_range.mp (List.mem_filter.mp hi).1
    exact ⟨by show ahead ≤ ahead + i; omega, by show ahead + i < ahead + n; omega, i, by omega, rfl⟩
theorem stp_ok {A B : Ma} {n1 n2 bs as N b i j : Nat} (dA : MDv A n1 bs as N) (dB : MDv B n2 bs as N) (hi : i < bs) (hj : j < as) :
    (stpOf A B n1 b i j).2.length = n1 + n2 ∧ ∀ col ∈ (stpOf A B n1 b i j).2, col.length ≤ 12 ∧ ∀ p ∈ col, p.1 < n1 + n2 := by
  have e1 := dA.ok.l3 i j hi hj
  have e2 := dB.ok.l3 i j hi hj
  have q1 := dA.ok.n1
  have q2 := dB.ok.n1
  unfold stpOf
  refine ⟨by simp only [List.length_append, cols_len, e1, e2], fun col hc => ?_⟩
  rcases List.mem_append.mp hc with h | h
  · obtain ⟨k, _, rfl⟩ := List.mem_map.mp h
    have := colOf_ok (ahead := 0) (b := b) (j := k) e1
    exact ⟨by omega, fun p hp => by have := (this.2 p hp).2.1; omega⟩
  · obtain ⟨k, _, rfl⟩ := List.mem_map.mp h
    have := colOf_ok (ahead := n1) (b := b) (j := k) e2
    exact ⟨by omega, fun p hp => by have := (this.2 p hp).2.1; omega⟩
theorem mem_steps {A B : Ma} {n1 b bs as : Nat} {s : Stp} (h : s ∈ stepsOf A B n1 b bs as) : ∃ i j, i < bs ∧ j < as ∧ s = stpOf A B n1 b i j := by
  obtain ⟨i, hi, h⟩ := List.mem_flatMap.mp h
  obtain ⟨j, hj, rfl⟩ := List.mem_map.mp h
  exact ⟨i, j, List.mem_range.mp hi, List.mem_range.mp hj, rfl⟩
theorem steps_len (A B : Ma) (n1 b bs as : Nat) : (stepsOf A B n1 b bs as).length = bs * as := fm_len as (fun i j => stpOf A B n1 b i j) bs
def spTInit (C C2 C3 C4 C5 : Addr) : Sp := fun vs H Q _ => ∃ (I : Hp) (x dx : Addr) (v1 v2 : V) (A B : Ma) (n1 n2 bs as N : Nat), vs = [.ref x, v1, v2] ∧ Same I H ∧ I x = none ∧ H x = some (.ins C5 dx []) ∧ iM C C2 I v1 A ∧ iM C C2 I v2 B ∧ MDv A n1 bs as N ∧ MDv B n2 bs as N ∧ 0 < N ∧ N < 2 ^ 64 ∧
  ∀ I' H' vb vp bo, Gr [x] I H I' H' → H' x = some (.ins C5 dx (tf vb vp)) → iBo C3 C4 I' vb bo → BoIs A B n1 n2 bs as N bo → iL (iL iSt2) I' vp (chunks as bs (bo.steps.map withL)) → Q .non H'
theorem sc_Trial_init : FnScope ["self", "one", "other", "steps", "_", "columns", "many", "at"] ["self", "one", "other"] (defScope s_Trial_init) := ⟨rfl, rfl, rfl, by decide +kernel, rfl, by decide +kernel, by decide +kernel⟩
theorem ok_tinit (D : Dt K mg) : Has P w K mg base 8 (He.ma K (He.ga K "Trial") "__init__") ["self", "one", "other"] [] (spTInit (CR K) (CM K) (CBo K) (CWh K) (CTr K)) := by
  obtain ⟨fd, F⟩ := fd_Trial_init D
  have H_Both_init := ok_binit (P := P) (w := w) (base := base) D
  have H__leaving := ok_leav (P := P) (w := w) (base := base) D
  have H_Machine_answers := ok_manswers (P := P) (w := w) (base := base) D
  refine hasN F (F.bindsN fun _ _ _ _ _ _ us hl => match us, hl with | [_, _, _], _ => rfl) sc_Trial_init (fun vs H Q E h => ?_) (fun cdv A outer s H vs Q E hr h => ?_)
  · obtain ⟨I, x, dx, v1, v2, A, B, n1, n2, bs, as, N, rfl, _⟩ := h; rfl
  · obtain ⟨I, x, dx, v1, v2, A, B, n1, n2, bs, as, N, rfl, s0, hI, hx, rA, rB, dA, dB, n0, n64, k⟩ := h
    refine ⟨_, (pss_cons (ps_fld (pv 0) (pe_makeH (mkr_Both (K := K) D) H_Both_init (hr.mono (by omega)) rfl (glo_Both D) passL (pa_cons (pv 1) (pa_cons (pv 2) pa_nil))) rfl)
      (pss_cons (ps_set (i := 3) sc_Trial_init.nd rfl (Or.inr rfl) (pe_lc (own := [("_", 4), ("columns", 5)]) (g := gTup K 2 (gCons (gName 4) (gCons (gName 5) gNil))) rfl sc_Trial_init.nd (pi_listK K (pe_fldK K (pe_fldK K (pv 0) rfl) rfl)) (blkOk_by (own := [("_", 4), ("columns", 5)]) (N := ["self", "one", "other", "steps", "_", "columns", "many", "at"]) (by kernel_rfl)) (fun _ _ _ _ _ => (pg_tupK K rfl (pgs_cons (pg_name (i := 4) sc_Trial_init.nd rfl (Or.inl rfl)) (pgs_cons (pg_name (i := 5) sc_Trial_init.nd rfl (Or.inl rfl)) pgs_nil)))) (fun _ _ _ _ _ => pts_nil) (fun _ _ _ _ _ => (pe_tup (pa_cons (pv 5) (pa_cons (pe_callH H__leaving (hr.mono (by omega)) rfl (glo__leaving D) passL (pa_cons (pv 5) pa_nil)) pa_nil))))))
      (pss_cons (ps_set (i := 6) sc_Trial_init.nd rfl (Or.inr rfl) (pe_methH0 (pv 1) (cls_Machine (K := K) D) (me_Machine_answers (K := K) D) H_Machine_answers (hr.mono (by omega)) passL))
      (pss_one (ps_fld (pv 0) (pe_lc (own := [("at", 7)]) (g := gName 7) rfl sc_Trial_init.nd (pi_range3 rfl (free_range D) (pa_cons pe_int (pa_cons (pe_callB (call_lenK K) rfl (free_len D) PySem.boot_len (pa_cons (pv 3) pa_nil)) (pa_cons (pv 6) pa_nil)))) (blkOk_by (own := [("at", 7)]) (N := ["self", "one", "other", "steps", "_", "columns", "many", "at"]) (by kernel_rfl)) (fun _ _ _ _ _ => (pg_name (i := 7) sc_Trial_init.nd rfl (Or.inl rfl))) (fun _ _ _ _ _ => pts_nil) (fun _ _ _ _ _ => (pe_slice (sl_listK K) (pv 3) (po_some (pv 7)) (po_some (pe_op op_add (pv 7) (pv 6)))))) rfl))))), ?_⟩
    refine seq_cut (fun σ' H1 => ∃ (I1 : Hp) (o : Addr) (bo : BoD), σ' = [some (.ref x), some v1, some v2, none, none, none, none, none] ∧ Gr [x] I H I1 H1 ∧ H1 x = some (.ins (CTr K) dx (putF "both" (.ref o) [])) ∧ iBo (CBo K) (CWh K) I1 (.ref o) bo ∧ BoIs A B n1 n2 bs as N bo) (fun nx q => ?_) ?_
    · refine ⟨_, rfl, _, rfl, fun y dy ny nd ne => ?_⟩
      obtain ⟨p1, p2, p3⟩ := ob_pre (C2 := CBo K) s0 ny nd ne
      refine ⟨_, y, dy, v1, v2, A, B, n1, n2, bs, as, N, rfl, p1, p2, upd_same, up p3 rA, up p3 rB, dA, dB, n0, n64, fun I' H' vs st b vt g h rw' iw b0 bN bq rt => ⟨rfl, ?_⟩⟩
      obtain ⟨g1, hn⟩ := ob_new s0 ny nd ne g h
      have hx1 := g1.at hx (by simp)
      have hI1 := g1.out hI hx
      refine ⟨_, rfl, x, _, dx, _, rfl, hx1, cls_Trial D, na_Trial_both D, (by show 0 < 1000; decide), ?_⟩
      refine q _ _ ⟨_, y, ⟨n1, n1 + n2, st, b, stepsOf A B n1 b bs as⟩, rfl, g1.nil.trans (Gr.mut g1.ih hI1 List.mem_cons_self), by rw [upd_same], ⟨y, dy, vs, vt, rfl, upd_same, up (sNew hn) rw', up (sNew hn) rt⟩, ⟨rfl, rfl, iw, b0, bN, bq, rfl⟩⟩
    rintro σ' H1 ⟨I1, o, bo, rfl, g1, hx1, rbo, ibo⟩
    (try dsimp only)
    obtain ⟨o', od, vst, vt, eo, ho, rst, rt⟩ := id rbo
    cases eo
    obtain ⟨p, ps, rfl, hp, p2⟩ := id rt
    have lp := p2.len
    have hln := steps_len A B n1 bo.b bs as
    have bs4 := dA.ok.b1
    have as4 := dA.ok.a1
    have hle : bs * as ≤ 4 * 4 := Nat.mul_le_mul bs4 as4
    refine seq_cut (fun σ' H2 => ∃ (I2 : Hp) (l : Addr) (ws : List V), σ' = [some (.ref x), some v1, some v2, some (.ref l), none, none, none, none] ∧ Gr [x] I H I2 H2 ∧ Same I1 I2 ∧ H2 x = some (.ins (CTr K) dx (putF "both" (.ref o) [])) ∧ I2 l = some (.lst ws) ∧ All2 (iSt2 I2) ws (bo.steps.map withL)) (fun nx q => ?_) ?_
    · refine ⟨_, rfl, x, _, dx, _, _, rfl, hx1, cls_Trial D, na_Trial_both D, (by rw [lookup_putF, if_pos rfl]), o, _, od, _, _, rfl, g1.ih _ _ ho, cls_Both D, na_Both_steps D, bf5_look.1, p, rfl, ⟨_, SqL.of (g1.ih _ _ hp)⟩, fun l hD => ?_⟩
      refine lc_map (R := iStp) (Sy := iSt2) withL (wk_list hp) p2 g1.ih hD (lt_line (by rw [ibo.st, hln]; omega)) (fun i s I3 H3 Nx Qk hi rs s2 s3 kk => ?_) (fun I3 H3 g3 r3 => ?_)
      · obtain ⟨t, t1, c, es, h1, h2, r⟩ := id rs
        rw [es]
        have hm := List.mem_of_getElem? hi
        rw [ibo.st] at hm
        obtain ⟨i', j', hi', hj', e'⟩ := mem_steps hm
        have so := stp_ok (b := bo.b) dA dB hi' hj'
        rw [← e'] at so
        have q1 := dA.ok.n1
        have q2 := dB.ok.n1
        refine ⟨t, _, rfl, SqT.of (s3 _ _ h1), rfl, _, _, rfl, _, _, rfl, rfl, rfl, ?_⟩
        refine ⟨_, rfl, _, rfl, I3, c, s.2, rfl, s3, r, by omega, fun col hc => ⟨by have := (so.2 col hc).1; omega, fun p hp => by rw [so.1]; exact (so.2 col hc).2 p hp⟩, fun I4 H4 v4 g4 r4 l4 => ?_⟩
        refine ⟨(by show 2 ≤ sizeLine; decide), fun t2 ht2 => ?_⟩
        have g5 := Gr.new (ms := []) (o := .tup [c, v4]) g4.ih ht2
        exact kk _ _ _ (g4.trans g5) ⟨t2, c, v4, rfl, upd_same, up (g4.ii.trans g5.ii) r, up g5.ii r4⟩
      · obtain ⟨l', ws, el, hl', a3⟩ := r3
        cases el
        exact q _ _ ⟨I3, l, ws, rfl, g1.trans g3.nil, g3.ii, g3.at hx1 (by simp), hl', a3⟩
    rintro σ' H2 ⟨I2, l, ws, rfl, g2, s12, hx2, hl, a2⟩
    (try dsimp only)
    have lw := a2.len
    rw [List.length_map, ibo.st, hln] at lw
    obtain ⟨am, ad, va, vb, em, hma, rs, rm⟩ := id rA
    have rA2 := up g2.ii rA
    refine seq_cut (fun σ' H3 => H3 = H2 ∧ σ' = [some (.ref x), some v1, some v2, some (.ref l), none, none, some (.int (as : Int)), none]) (fun nx q => ?_) ?_
    · refine ⟨_, rfl, am, ad, _, em, g2.ih _ _ (g2.ii _ _ hma), (mf_nos _ vb).2.2, I2, v1, A, (by rw [em]; rfl), g2.ih, rA2, (by have := dA.ok.b0; have := dA.ok.l1; omega), ?_⟩
      exact q _ _ ⟨rfl, by rw [dA.ok.l2 0 dA.ok.b0]; rfl⟩
    rintro σ' H3 ⟨rfl, rfl⟩
    (try dsimp only)
    refine ⟨_, rfl, _, bs * as, rfl, .inl ⟨_, SqL.of (g2.ih _ _ hl), lw.symm⟩, _, rfl, 0, ((bs * as : Nat) : Int), (as : Int), bs, rfl, rgc_chunk dA.ok.a0 as4 bs4, fun c hc => ?_⟩
    refine lc_wkf (iL iSt2) (fun i => ((bo.steps.map withL).drop (i * as)).take as) (wk_rangeC (I := I2)) g2.ih hc (lt_line (by omega)) (fun i I4 H4 Nx Qk hi s4 s5 kk => ?_) (fun I4 H4 g4 r4 => ?_)
    · refine ⟨rfl, _, rfl, _, rfl, _, rfl, _, rfl, _, rfl, _, _, rfl, rfl, _, rfl, ?_⟩
      rw [show (0 : Int) + (i : Int) * (as : Int) = ((i * as : Nat) : Int) from by rw [Int.zero_add, Int.natCast_mul]]
      have hb : i * as + as ≤ bs * as := by
        have := Nat.mul_le_mul_right as (show i + 1 ≤ bs from hi)
        rw [Nat.succ_mul] at this; exact this
      exact slice_of ⟨l, ws, rfl, s4 _ _ hl, a2.up s4⟩ s5 (by rw [List.length_map, ibo.st, hln]; exact hb) kk
    · have hx4 := g4.at hx2 (by simp)
      have hI4 := g4.out (g2.out hI hx) hx2
      refine ⟨_, rfl, x, _, dx, _, rfl, hx4, cls_Trial D, na_Trial_presses D, (by show 1 < 1000; decide), ?_⟩
      exact k _ _ (.ref o) (.ref c) bo ((g2.trans g4.nil).trans (Gr.mut g4.ih hI4 List.mem_cons_self)) (by rw [upd_same]; rfl) (up (s12.trans g4.ii) rbo) ibo r4
end
end K

set_option Elab.async false
set_option linter.all false
set_option maxRecDepth 100000
set_option maxHeartbeats 4000000
set_option exponentiation.threshold 5000
namespace K
open PySem PySem.Spec PyProof.Rows L2 Tk Hd Mt
section
variable {P : Program} {w : World} {K : PySem.W.Frag} {mg : Str → Option Value} {base : Heap}
/-! ### the best plan, as plain data -/
def iDa : Rp Da := fun H v d => dR H v d
instance : Mono iDa := ⟨fun s h => dR_up s _ _ h⟩
def sayD (k : Int) : Da := .tup [.str "say", .int k]
def pressD (b : Nat) (ps : List Da) : Da := .tup [.str "press", .int (b : Int), .tup ps]
def behM (ns : List Int) (st : Sp2) (last : Bool) : List Int := if last = true then mulN ns st.2 else nextN ns st.1
def pickB (acc : Option (Int × Da)) (b : Nat) (found : List (Int × Da)) : Option (Int × Da) :=
  match acc with
  | none => some ((found.map Prod.fst).sum, pressD b (found.map Prod.snd))
  | some (m, p) => if m < (found.map Prod.fst).sum then some ((found.map Prod.fst).sum, pressD b (found.map Prod.snd)) else some (m, p)
def overB (pr : List (List Sp2)) (rec : Sp2 → Int × Da) (i : Nat) : Option (Int × Da) := (List.range i).foldl (fun acc b => pickB acc b ((gl pr b).map rec)) none
def bestM (f : Nat) (pr : List (List Sp2)) : Nat → List Int → Int × Da
  | 0, ns => if likeN ns f 2 ≤ likeN ns f 1 then (likeN ns f 1, sayD 1) else (likeN ns f 2, sayD 2)
  | L + 1, ns => (overB pr (fun st => bestM f pr L (behM ns st (decide (L = 0)))) pr.length).getD (0, .non)
theorem overB_succ {pr : List (List Sp2)} {rec : Sp2 → Int × Da} {i : Nat} : overB pr rec (i + 1) = pickB (overB pr rec i) i ((gl pr i).map rec) := by
  unfold overB; rw [List.range_succ, List.foldl_append]; rfl
theorem overB_some {pr : List (List Sp2)} {rec : Sp2 → Int × Da} {i : Nat} (h : 0 < i) : ∃ p, overB pr rec i = some p := by
  cases i with
  | zero => omega
  | succ i =>
    rw [overB_succ]; unfold pickB
    cases overB pr rec i with
    | none => exact ⟨_, rfl⟩
    | some q => obtain ⟨m, p⟩ := q; dsimp only; split <;> exact ⟨_, rfl⟩
/-- tables of small numbers for n states -/
structure PrOk (f n : Nat) (pr : List (List Sp2)) : Prop where
  n1 : n ≤ 24
  fn : f ≤ n
  p0 : 0 < pr.length
  p1 : pr.length ≤ 4
  p2 : ∀ ss ∈ pr, ss.length ≤ 4
  p3 : ∀ ss ∈ pr, 0 < ss.length
  s1 : ∀ ss ∈ pr, ∀ st ∈ ss, st.1.length = n ∧ st.2.length = n
  s2 : ∀ ss ∈ pr, ∀ st ∈ ss, ∀ col ∈ st.1, col.length ≤ 24 ∧ ∀ p ∈ col, p.1 < n ∧ p.2.natAbs < 2 ^ 16
  s3 : ∀ ss ∈ pr, ∀ st ∈ ss, ∀ x ∈ st.2, x.natAbs < 2 ^ 21
def Bn (n m : Nat) (ns : List Int) : Prop := ns.length = n ∧ ∀ x ∈ ns, x.natAbs < 2 ^ m
theorem sum_abs {l : List Int} {c : Nat} (h : ∀ x ∈ l, x.natAbs ≤ c) : l.sum.natAbs ≤ l.length * c := by
  induction l with
  | nil => simp
  | cons x r ih =>
    have h1 := h x List.mem_cons_self
    have h2 := ih fun y hy => h y (List.mem_cons_of_mem _ hy)
    rw [List.sum_cons, List.length_cons, Nat.succ_mul]
    exact Nat.le_trans (Int.natAbs_add_le _ _) (by omega)
theorem getD_abs {ns : List Int} {m i : Nat} (h : ∀ x ∈ ns, x.natAbs < 2 ^ m) : (ns.getD i 0).natAbs < 2 ^ m := by
  by_cases hi : i < ns.length
  · rw [List.getD_eq_getElem?_getD, List.getElem?_eq_getElem hi]; exact h _ (List.getElem_mem hi)
  · rw [List.getD_eq_getElem?_getD, List.getElem?_eq_none (by omega)]; exact Nat.pow_pos (by decide)
theorem PrOk.beh {f n m : Nat} {pr : List (List Sp2)} (h : PrOk f n pr) {ss : List Sp2} {st : Sp2} (h1 : ss ∈ pr) (h2 : st ∈ ss) {ns : List Int} (hb : Bn n m ns) (l : Bool) : Bn n (m + 21) (behM ns st l) := by
  obtain ⟨e1, e2⟩ := h.s1 ss h1 st h2
  unfold behM
  cases l with
  | true =>
    rw [if_pos rfl]
    refine ⟨by unfold mulN; rw [List.length_map, List.length_range]; exact hb.1, fun x hx => ?_⟩
    obtain ⟨i, hi, rfl⟩ := List.mem_map.mp hx
    rw [Int.natAbs_mul, Nat.pow_add]
    exact Nat.mul_lt_mul'' (getD_abs hb.2) (getD_abs (h.s3 ss h1 st h2))
  | false =>
    rw [if_neg Bool.false_ne_true]
    refine ⟨by unfold nextN; rw [List.length_map]; exact e1, fun x hx => ?_⟩
    obtain ⟨col, hc, rfl⟩ := List.mem_map.mp hx
    obtain ⟨l1, l2⟩ := h.s2 ss h1 st h2 col hc
    unfold dotC
    refine Nat.lt_of_le_of_lt (sum_abs (c := 2 ^ (m + 16)) fun y hy => ?_) ?_
    · obtain ⟨p, hp, rfl⟩ := List.mem_map.mp hy
      rw [Int.natAbs_mul, Nat.pow_add]
      exact Nat.le_of_lt (Nat.mul_lt_mul'' (getD_abs hb.2) (l2 p hp).2)
    · rw [List.length_map]
      have e : 2 ^ (m + 21) = 32 * 2 ^ (m + 16) := by rw [show m + 21 = 5 + (m + 16) from by omega, Nat.pow_add]
      rw [e]
      have : 0 < 2 ^ (m + 16) := Nat.pow_pos (by decide)
      exact Nat.lt_of_le_of_lt (Nat.mul_le_mul_right _ l1) (Nat.mul_lt_mul_of_pos_right (by decide) this)
theorem Bn.big {n m : Nat} {ns : List Int} (h : Bn n m ns) (l : m ≤ 2000) : ∀ x ∈ ns, Big x := fun x hx => Nat.lt_of_lt_of_le (h.2 x hx) (Nat.pow_le_pow_right (by decide) l)
def spBest (C5 C3 C4 : Addr) (L : Nat) : Sp := fun vs H Q _ => ∃ (I : Hp) (x : Addr) (v : V) (T : TrD) (n m : Nat) (ns : List Int), vs = [.ref x, v, .int (L : Int)] ∧ Same I H ∧ iTr C5 C3 C4 I (.ref x) T ∧ iL iJ I v ns ∧ PrOk T.1.f n T.2 ∧ Bn n m ns ∧ m + 21 * L ≤ 1900 ∧
  Ret [] I H (iP iJ iDa) (bestM T.1.f T.2 L ns) Q
def spBs (C5 C3 C4 : Addr) (j : Nat) : Sp := fun vs H Q E => ∃ L, L < j ∧ spBest C5 C3 C4 L vs H Q E
theorem say_da {H : Hp} {t : Addr} {k : Int} (h : H t = some (.tup [.str "say", .int k])) : dR H (.ref t) (sayD k) := by
  simp only [sayD, dR, dRs]
  exact ⟨t, _, rfl, h, _, _, rfl, rfl, _, _, rfl, rfl, rfl⟩
theorem all2_dRs {I : Hp} : ∀ {vs : List V} {ds : List Da}, All2 (iDa I) vs ds → dRs I vs ds
  | _, _, .nil => by simp only [dRs]
  | _, _, .cons h t => by simp only [dRs]; exact ⟨_, _, rfl, h, all2_dRs t⟩
def AccOk (I : Hp) (v5 v6 : V) : Option (Int × Da) → Prop
  | none => v5 = .non ∧ v6 = .non
  | some p => v5 = .int p.1 ∧ dR I v6 p.2
theorem sc_Trial_best : FnScope ["self", "numbers", "length", "one", "other", "most", "plan", "button", "steps", "found", "step", "likely", "worth", "_", "part"] ["self", "numbers", "length"] (defScope s_Trial_best) := ⟨rfl, rfl, rfl, by decide +kernel, rfl, by decide +kernel, by decide +kernel⟩
theorem ok_best_step (D : Dt K mg) (j : Nat) (H_Trial_best : Has P w K mg base (j + 4) (He.ma K (He.ga K "Trial") "best") ["self", "numbers", "length"] [] (spBs (CTr K) (CBo K) (CWh K) j)) : Has P w K mg base (j + 5) (He.ma K (He.ga K "Trial") "best") ["self", "numbers", "length"] [] (spBs (CTr K) (CBo K) (CWh K) (j + 1)) := by
  obtain ⟨fd, F⟩ := fd_Trial_best D
  have H_Trial_likelihood := ok_like (P := P) (w := w) (base := base) D
  have H_Trial_behind := ok_behind (P := P) (w := w) (base := base) D
  refine hasN F (F.bindsN fun _ _ _ _ _ _ us hl => match us, hl with | [_, _, _], _ => rfl) sc_Trial_best (fun vs H Q E h => ?_) (fun cdv A outer s H vs Q E hr h => ?_)
  · obtain ⟨L0, hL0, I, x, v, T, n, m, ns, rfl, _⟩ := h; rfl
  · obtain ⟨L0, hL0, I, x, v, T, n, m, ns, rfl, s0, rT, rv, pr, bn, hm, k⟩ := h
    refine ⟨_, (pss_cons (ps_if (pt_cmpR op_le (pv 2) pe_int (nomark _))
      (pss_cons (ps_par (i := 3) (j := 4) rfl sc_Trial_best.nd rfl rfl (by decide) rfl rfl (pa_cons (pe_methH (pv 0) (cls_Trial (K := K) D) (me_Trial_likelihood (K := K) D) H_Trial_likelihood (hr.mono (by omega)) passL (pa_cons (pv 1) (pa_cons pe_int pa_nil))) (pa_cons (pe_methH (pv 0) (cls_Trial (K := K) D) (me_Trial_likelihood (K := K) D) H_Trial_likelihood (hr.mono (by omega)) passL (pa_cons (pv 1) (pa_cons pe_int pa_nil))) pa_nil)) rfl)
      (pss_one (ps_ret (pe_ifExp (pt_cmpR op_ge (pv 3) (pv 4) (nomark _)) (pe_tup (pa_cons (pv 3) (pa_cons (pe_tup (pa_cons pe_str (pa_cons pe_int pa_nil))) pa_nil))) (pe_tup (pa_cons (pv 4) (pa_cons (pe_tup (pa_cons pe_str (pa_cons pe_int pa_nil))) pa_nil)))))))
      pss_nil)
      (pss_cons (ps_asg (pe_tup (pa_cons pe_non (pa_cons pe_non pa_nil))) (pg_tupK K rfl (pgs_cons (pg_name (i := 5) sc_Trial_best.nd rfl (Or.inl rfl)) (pgs_cons (pg_name (i := 6) sc_Trial_best.nd rfl (Or.inl rfl)) pgs_nil))))
      (pss_cons (ps_for PassesOwn.never rfl (pi_enumK rfl (free_enumerate D) (pa_cons (pe_fldK K (pv 0) rfl) pa_nil)) (pg_tupK K rfl (pgs_cons (pg_name (i := 7) sc_Trial_best.nd rfl (Or.inl rfl)) (pgs_cons (pg_name (i := 8) sc_Trial_best.nd rfl (Or.inl rfl)) pgs_nil)))
      (pss_cons (ps_setLc (own := [("step", 10)]) (g := gName 10) (i := 9) rfl sc_Trial_best.nd rfl rfl (sw_true rfl rfl rfl (by decide +kernel)) (pi_listK K (pv 8)) (blkOk_by (own := [("step", 10)]) (N := ["self", "numbers", "length", "one", "other", "most", "plan", "button", "steps", "found", "step", "likely", "worth", "_", "part"]) (by kernel_rfl)) (fun _ _ _ _ _ => (pg_name (i := 10) sc_Trial_best.nd rfl (Or.inl rfl))) (fun _ _ _ _ _ => pts_nil) (fun _ _ _ _ _ => (pe_methH (pv 0) (cls_Trial (K := K) D) (me_Trial_best (K := K) D) H_Trial_best (hr.mono (by omega)) passL (pa_cons (pe_methH (pv 0) (cls_Trial (K := K) D) (me_Trial_behind (K := K) D) H_Trial_behind (hr.mono (by omega)) passL (pa_cons (pv 1) (pa_cons (pv 10) (pa_cons (pe_cmpR op_eq (pv 2) pe_int (nomark _)) pa_nil)))) (pa_cons (pe_op op_sub (pv 2) pe_int) pa_nil)))))
      (pss_cons (ps_set (i := 11) sc_Trial_best.nd rfl (Or.inl rfl) (pe_callB (cr_sumK K rfl) rfl (free_sum D) (by decide +kernel) (pa_cons (pe_lc (own := [("worth", 12), ("_", 13)]) (g := gTup K 2 (gCons (gName 12) (gCons (gName 13) gNil))) rfl sc_Trial_best.nd (pi_listK K (pv 9)) (blkOk_by (own := [("worth", 12), ("_", 13)]) (N := ["self", "numbers", "length", "one", "other", "most", "plan", "button", "steps", "found", "step", "likely", "worth", "_", "part"]) (by kernel_rfl)) (fun _ _ _ _ _ => (pg_tupK K rfl (pgs_cons (pg_name (i := 12) sc_Trial_best.nd rfl (Or.inl rfl)) (pgs_cons (pg_name (i := 13) sc_Trial_best.nd rfl (Or.inl rfl)) pgs_nil)))) (fun _ _ _ _ _ => pts_nil) (fun _ _ _ _ _ => (pv 12))) pa_nil)))
      (pss_one (ps_if (PW.pt (pw_or (pt_cmpR op_isN (pv 5) pe_non (nomark _)) (pw_or1 (pt_cmpR op_gt (pv 11) (pv 5) (nomark _)))))
      (pss_one (ps_par (i := 5) (j := 6) rfl sc_Trial_best.nd rfl rfl (by decide) rfl rfl (pa_cons (pv 11) (pa_cons (pe_tup (pa_cons pe_str (pa_cons (pv 7) (pa_cons (pe_callTy (call_tuple_ofK K) rfl (free_tuple D) (by decide +kernel) (pa_cons (pe_lc (own := [("_", 13), ("part", 14)]) (g := gTup K 2 (gCons (gName 13) (gCons (gName 14) gNil))) rfl sc_Trial_best.nd (pi_listK K (pv 9)) (blkOk_by (own := [("_", 13), ("part", 14)]) (N := ["self", "numbers", "length", "one", "other", "most", "plan", "button", "steps", "found", "step", "likely", "worth", "_", "part"]) (by kernel_rfl)) (fun _ _ _ _ _ => (pg_tupK K rfl (pgs_cons (pg_name (i := 13) sc_Trial_best.nd rfl (Or.inl rfl)) (pgs_cons (pg_name (i := 14) sc_Trial_best.nd rfl (Or.inl rfl)) pgs_nil)))) (fun _ _ _ _ _ => pts_nil) (fun _ _ _ _ _ => (pv 14))) pa_nil)) pa_nil)))) pa_nil)) rfl))
      pss_nil)))))
      (pss_one (ps_ret (pe_tup (pa_cons (pv 5) (pa_cons (pv 6) pa_nil)))))))), ?_⟩
    obtain ⟨x', dx, vb, vp, ex, hx, rbo, rp⟩ := id rT
    cases ex
    obtain ⟨o, od, vst, vt, rfl, ho, rst, rt⟩ := id rbo
    obtain ⟨p, ps, rfl, hp, p2⟩ := id rp
    have n24 := pr.n1
    refine ⟨_, rfl, _, _, rfl, rfl, _, rfl, ?_⟩
    have lk : ∀ {H1 : Hp} {Q1 : VK} (said : Int) (I1 : Hp), Same I I1 → Same I1 H1 → (∀ I' H', Gr [] I1 H1 I' H' → Q1 (.int (likeN ns T.1.f said)) H') → spLike (CBo K) (CTr K) [.ref x, v, .int said] H1 Q1 E0 := fun {H1 Q1} said I1 s1 s q => ⟨I1, x, dx, o, od, _, _, v, ns, T.1.f, said, rfl, s, s1 _ _ hx, tf_look.1, s1 _ _ ho, bf5_look.2.2.2.1, up s1 rv, by rw [bn.1]; omega, q⟩
    cases L0 with
    | zero =>
      refine ifT rfl ?_
      refine ⟨_, rfl, x, dx, _, rfl, s0 _ _ hx, (by kernel_rfl), _, rfl, ?_⟩
      dsimp only [tCons, tC, tNil]
      refine lk 1 I (Same.refl _) s0 fun I1 H1 g1 => ?_
      refine ⟨_, rfl, x, dx, _, rfl, g1.ih _ _ (g1.ii _ _ hx), (by kernel_rfl), _, rfl, ?_⟩
      dsimp only [tCons, tC, tNil]
      refine lk 2 I1 g1.ii g1.ih fun I2 H2 g2 => ?_
      refine ⟨_, _, rfl, ?_⟩
      refine ⟨_, rfl, _, rfl, _, _, rfl, rfl, _, rfl, ?_⟩
      have fin : ∀ (z kk : Int) (H3 : Hp) (t : Addr), H3 = H2 → H3 t = none → ∀ t2, (upd H3 t (.tup [.str "say", .int kk])) t2 = none → bestM T.1.f T.2 0 ns = (z, sayD kk) → Q (.ref t2) (upd (upd H3 t (.tup [.str "say", .int kk])) t2 (.tup [.int z, .ref t])) := fun z kk H3 t e ht t2 ht2 eb => by
        subst e
        have g12 := g1.trans g2
        have g3 := Gr.new (ms := []) (o := .tup [.str "say", .int kk]) g12.ih ht
        have g4 := Gr.new (ms := []) (o := .tup [.int z, .ref t]) g3.ih ht2
        have := k _ _ (.ref t2) ((g12.trans g3).trans g4)
        rw [eb] at this
        exact this ⟨t2, _, _, rfl, upd_same, rfl, up g4.ii (say_da (H := upd _ t _) upd_same)⟩
      refine ifD (fun c => ?_) (fun c => ?_)
      · refine ⟨_, rfl, (by show 2 ≤ sizeLine; decide), fun t ht => ⟨(by show 2 ≤ sizeLine; decide), fun t2 ht2 => ?_⟩⟩
        exact fin _ 1 _ t rfl ht t2 ht2 (by unfold bestM; rw [if_pos c])
      · refine ⟨_, rfl, (by show 2 ≤ sizeLine; decide), fun t ht => ⟨(by show 2 ≤ sizeLine; decide), fun t2 ht2 => ?_⟩⟩
        exact fin _ 2 _ t rfl ht t2 ht2 (by unfold bestM; rw [if_neg c])
    | succ L =>
      have hf : decide (((L + 1 : Nat) : Int) ≤ 0) = false := decide_eq_false (by omega)
      rw [hf]
      refine iteF ?_
      (try unfold tNext)
      (try dsimp only)
      obtain ⟨rec, erec⟩ : ∃ rec : Sp2 → Int × Da, rec = fun st => bestM T.1.f T.2 L (behM ns st (decide (L = 0))) := ⟨_, rfl⟩
      refine seq_cut (fun σ' H1 => σ' = [some (.ref x), some v, some (.int ((L + 1 : Nat) : Int)), none, none, some .non, some .non, none, none, none, none, none, none, none, none] ∧ Gr [] I H I H1) (fun nx q => ?_) ?_
      · refine ⟨(by show 2 ≤ sizeLine; decide), fun t ht => ?_⟩
        exact ⟨t, _, rfl, SqT.of upd_same, rfl, _, _, rfl, _, _, rfl, rfl, q _ _ ⟨rfl, Gr.tmp s0 ht⟩⟩
      rintro σ' H1 ⟨rfl, g1⟩
      (try dsimp only)
      have hlast : decide (V.int ((L + 1 : Nat) : Int) = V.int 1) = decide (L = 0) := by
        by_cases h : L = 0
        · subst h; rfl
        · rw [decide_eq_false h, decide_eq_false fun e => h (by injection e; omega)]
      have hL1 : ((L + 1 : Nat) : Int) - 1 = (L : Int) := by omega
      have lps := p2.len
      refine seq_cut (fun σ' H2 => ∃ (I2 : Hp) (v5 v6 : V) (o7 o8 o9 o11 : Option V), σ' = [some (.ref x), some v, some (.int ((L + 1 : Nat) : Int)), none, none, some v5, some v6, o7, o8, o9, none, o11, none, none, none] ∧ Gr [] I H I2 H2 ∧ AccOk I2 v5 v6 (overB T.2 rec T.2.length)) (fun nx q => ?_) ?_
      · refine ⟨_, rfl, x, _, dx, _, _, rfl, g1.ih _ _ hx, cls_Trial D, na_Trial_presses D, tf_look.2, p, ps, rfl, SqL.of (g1.ih _ _ hp), ?_⟩
        refine for_enum (D := { nx := nx, rt := Q }) (I := I) hp
          (fun σ' H2 => ∃ (I2 : Hp) (v5 v6 : V) (o7 o8 o9 o11 : Option V), σ' = [some (.ref x), some v, some (.int ((L + 1 : Nat) : Int)), none, none, some v5, some v6, o7, o8, o9, none, o11, none, none, none] ∧ Gr [] I H I2 H2 ∧ AccOk I2 v5 v6 (overB T.2 rec T.2.length))
          (fun i σ' H2 => ∃ (I2 : Hp) (v5 v6 : V) (o7 o8 o9 o11 : Option V), σ' = [some (.ref x), some v, some (.int ((L + 1 : Nat) : Int)), none, none, some v5, some v6, o7, o8, o9, none, o11, none, none, none] ∧ Gr [] I H I2 H2 ∧ AccOk I2 v5 v6 (overB T.2 rec i))
          (fun i σ' H2 h => by obtain ⟨I2, _, _, _, _, _, _, _, g, _⟩ := h; exact g.ii.trans g.ih) ⟨I, .non, .non, none, none, none, none, rfl, g1, ⟨rfl, rfl⟩⟩ (fun nx2 qn i σ' H2 t hi h ht => ?_) (fun σ' H2 h => by rw [lps] at h; exact h) (fun σ' H2 h => q _ _ h)
        obtain ⟨I2, v5, v6, o7, o8, o9, o11, rfl, g2, ac⟩ := h
        have g3 : Gr [] I2 H2 I2 (upd H2 t (.tup [.int (i : Int), gv ps i])) := Gr.tmp g2.ih ht
        have hi' : i < T.2.length := by rw [← lps]; exact hi
        refine ⟨t, _, rfl, SqT.of upd_same, rfl, _, _, rfl, _, _, rfl, rfl, ?_⟩
        obtain ⟨u, hu, ru⟩ := p2.get' (gl_lt (l := T.2) hi')
        have eu : gv ps i = u := by unfold gv; rw [List.getD_eq_getElem?_getD, hu]; rfl
        rw [eu] at g3
        rw [eu]
        obtain ⟨c, cs, rfl, hc, c2⟩ := id ru
        have hss : gl T.2 i ∈ T.2 := gl_mem' hi'
        have hc2 := g2.ii _ _ hc
        have l4 := pr.p2 _ hss
        refine seq_cut (fun σ' H4 => ∃ (I4 : Hp) (l : Addr) (ws : List V), σ' = [some (.ref x), some v, some (.int ((L + 1 : Nat) : Int)), none, none, some v5, some v6, some (.int (i : Int)), some (.ref c), some (.ref l), none, o11, none, none, none] ∧ Gr [] I2 (upd H2 t (.tup [.int (i : Int), .ref c])) I4 H4 ∧ I4 l = some (.lst ws) ∧ All2 (iP iJ iDa I4) ws ((gl T.2 i).map rec)) (fun nx3 q3 => ?_) ?_
        · refine ⟨_, rfl, c, rfl, ⟨_, SqL.of (g3.ih _ _ hc2)⟩, fun l hD => ?_⟩
          refine lc_map (R := iSt2) (Sy := iP iJ iDa) rec (wk_list hc2) (c2.up g2.ii) g3.ih hD (lt_line (by omega)) (fun j st I4 H4 Nx Qk hj rs s4 s5 kk => ?_) (fun I4 H4 g4 r4 => ?_)
          · have hst := List.mem_of_getElem? hj
            obtain ⟨e1, e2⟩ := pr.s1 _ hss st hst
            have rx4 := up (g2.ii.trans s4) rT
            have hx4 := s5 _ _ (s4 _ _ (g2.ii _ _ hx))
            refine ⟨rfl, _, rfl, x, dx, _, rfl, hx4, (by kernel_rfl), ?_⟩
            refine ⟨_, rfl, x, dx, _, rfl, hx4, (by kernel_rfl), _, rfl, _, rfl, _, rfl, rfl, ?_⟩
            rw [hlast]
            refine ⟨I4, .ref x, v, _, ns, st, decide (L = 0), rfl, s5, up (g2.ii.trans s4) rv, rs, by rw [bn.1]; omega, by rw [e2, bn.1], by omega, bn.big (by omega), fun z hz => Nat.lt_of_lt_of_le (pr.s3 _ hss st hst z hz) (Nat.pow_le_pow_right (by decide) (by decide)), fun col hcol => ⟨by have := (pr.s2 _ hss st hst col hcol).1; omega, fun p hp => ⟨by rw [bn.1]; exact ((pr.s2 _ hss st hst col hcol).2 p hp).1, Nat.lt_of_lt_of_le ((pr.s2 _ hss st hst col hcol).2 p hp).2 (Nat.pow_le_pow_right (by decide) (by decide))⟩⟩, fun I5 H5 v5' g5 r5 => ?_⟩
            refine ⟨_, rfl, _, _, rfl, rfl, ?_⟩
            refine ⟨L, by omega, I5, x, v5', T, n, m + 21, behM ns st (decide (L = 0)), by show [V.ref x, v5', V.int (((L + 1 : Nat) : Int) - 1)] = _; rw [hL1], g5.ih, up g5.ii rx4, r5, pr, pr.beh hss hst bn _, by omega, ?_⟩
            rw [erec] at kk
            exact fun I6 H6 v6 g6 r6 => kk _ _ _ (g5.trans g6) r6
          · obtain ⟨l', ws, el, hl', a4⟩ := r4
            cases el
            exact q3 _ _ ⟨I4, l, ws, rfl, g4, hl', a4⟩
        rintro σ' H4 ⟨I4, l, ws, rfl, g4, hl4, a4⟩
        (try dsimp only)
        have lws := a4.len
        rw [List.length_map] at lws
        refine seq_cut (fun σ' H5 => σ' = [some (.ref x), some v, some (.int ((L + 1 : Nat) : Int)), none, none, some v5, some v6, some (.int (i : Int)), some (.ref c), some (.ref l), none, some (.int (((gl T.2 i).map rec).map Prod.fst).sum), none, none, none] ∧ ∃ I5, Gr [] I4 H4 I5 H5) (fun nx3 q3 => ?_) ?_
        · refine ⟨_, rfl, l, rfl, ⟨_, SqL.of (g4.ih _ _ hl4)⟩, fun l2 hD2 => ?_⟩
          refine lc_map (R := iP iJ iDa) (Sy := iJ) Prod.fst (wk_list hl4) a4 g4.ih hD2 (lt_line (by rw [List.length_map]; omega)) (fun j st I5 H5 Nx Qk hj rs s4 s5 kk => ?_) (fun I5 H5 g5 r5 => ?_)
          · obtain ⟨a5, x5, y5, e5, h5, rx5, ry5⟩ := id rs
            rw [e5]
            exact ⟨a5, _, rfl, SqT.of (s5 _ _ h5), rfl, _, _, rfl, _, _, rfl, rfl, rfl, _, rfl, kk _ _ _ (Gr.refl s5) rx5⟩
          · obtain ⟨d, zs, ed, hd, d2⟩ := r5
            cases ed
            rw [all2_int d2] at hd
            exact ⟨l2, _, rfl, SqL.of (g5.ih _ _ hd), q3 _ _ ⟨rfl, I5, g5⟩⟩
        rintro σ' H5 ⟨rfl, I5, g5⟩
        (try dsimp only)
        have ls4 : ws.length ≤ 4 := by omega
        have take : ∀ {H6 : Hp}, H6 = H5 → pickB (overB T.2 rec i) i ((gl T.2 i).map rec) = some ((((gl T.2 i).map rec).map Prod.fst).sum, pressD i (((gl T.2 i).map rec).map Prod.snd)) →
            tPar 5 6 (tCons (tVar 11) (tCons (tTup (tCons (tC (V.str "press")) (tCons (tVar 7) (tCons (tCB (rTup K) (tCons (tLc (iList K (tVar 9)) (gTup K 2 (gCons (gName 13) (gCons (gName 14) gNil))) tYes (tVar 14) [13, 14]) tNil)) tNil)))) tNil))
              { nx := fun σ' H2 => ∃ (I2 : Hp) (v5 v6 : V) (o7 o8 o9 o11 : Option V), σ' = [some (.ref x), some v, some (.int ((L + 1 : Nat) : Int)), none, none, some v5, some v6, o7, o8, o9, none, o11, none, none, none] ∧ Gr [] I H I2 H2 ∧ AccOk I2 v5 v6 (overB T.2 rec (i + 1)), rt := Q }
              [some (.ref x), some v, some (.int ((L + 1 : Nat) : Int)), none, none, some v5, some v6, some (.int (i : Int)), some (.ref c), some (.ref l), none, some (.int (((gl T.2 i).map rec).map Prod.fst).sum), none, none, none] H6 := fun {H6} e6 hp' => by
          subst e6
          refine ⟨_, rfl, _, rfl, _, rfl, l, rfl, ⟨_, SqL.of (g5.ih _ _ (g5.ii _ _ hl4))⟩, fun l2 hD2 => ?_⟩
          refine lc_map (R := iP iJ iDa) (Sy := iDa) Prod.snd (wk_list (g5.ii _ _ hl4)) (a4.up g5.ii) g5.ih hD2 (lt_line (by rw [List.length_map]; omega)) (fun j st I7 H7 Nx Qk hj rs s4 s5 kk => ?_) (fun I7 H7 g7 r7 => ?_)
          · obtain ⟨a5, x5, y5, e5, h5, rx5, ry5⟩ := id rs
            rw [e5]
            exact ⟨a5, _, rfl, SqT.of (s5 _ _ h5), rfl, _, _, rfl, _, _, rfl, rfl, rfl, _, rfl, kk _ _ _ (Gr.refl s5) ry5⟩
          · obtain ⟨d, zs, ed, hd, d2⟩ := r7
            cases ed
            refine ⟨l2, zs, rfl, .inl ⟨SqL.of (g7.ih _ _ hd), fun t2 ht2 => ?_⟩⟩
            have g8 := Gr.new (ms := []) (o := .tup zs) g7.ih ht2
            refine ⟨(by show 3 ≤ sizeLine; decide), fun t3 ht3 => ?_⟩
            have g9 := Gr.new (ms := []) (o := .tup [.str "press", .int (i : Int), .ref t2]) g8.ih ht3
            refine ⟨_, _, rfl, ?_⟩
            have gA := ((((g2.trans g3).trans g4).trans g5).trans g7).trans (g8.trans g9)
            refine ⟨_, _, _, _, _, _, _, rfl, gA, ?_⟩
            rw [overB_succ, hp']
            refine ⟨rfl, ?_⟩
            show dR _ _ (pressD i _)
            simp only [pressD, dR, dRs]
            exact ⟨t3, _, rfl, upd_same, _, _, rfl, rfl, _, _, rfl, rfl, _, _, rfl, ⟨t2, zs, rfl, g9.ii _ _ upd_same, all2_dRs (d2.up (g8.ii.trans g9.ii))⟩, rfl⟩
        refine ⟨_, rfl, rfl, _, rfl, ?_⟩
        cases ea : overB T.2 rec i with
        | none =>
          rw [ea] at ac
          obtain ⟨rfl, rfl⟩ := ac
          exact ifT rfl (ifT rfl (take rfl (by rw [ea]; rfl)))
        | some mp =>
          rw [ea] at ac
          obtain ⟨mm, pp⟩ := mp
          obtain ⟨rfl, hpp⟩ := ac
          refine ifF rfl ⟨_, rfl, _, rfl, _, _, rfl, rfl, _, rfl, ?_⟩
          refine ifD (fun cc => ?_) (fun cc => ?_)
          · exact take rfl (by rw [ea]; exact if_pos cc)
          · have gA := ((g2.trans g3).trans g4).trans g5
            refine ⟨_, _, _, _, _, _, _, rfl, gA, ?_⟩
            rw [overB_succ, ea]
            have e9 : pickB (some (mm, pp)) i ((gl T.2 i).map rec) = some (mm, pp) := if_neg cc
            rw [e9]
            exact ⟨rfl, dR_up (((g3.trans g4).trans g5).ii) _ _ hpp⟩
      rintro σ' H2 ⟨I2, v5, v6, o7, o8, o9, o11, rfl, g2, ac⟩
      (try dsimp only)
      obtain ⟨mp, hmp⟩ := overB_some (pr := T.2) (rec := rec) pr.p0
      rw [hmp] at ac
      obtain ⟨rfl, hpp⟩ := ac
      refine ⟨_, rfl, _, rfl, (by show 2 ≤ sizeLine; decide), fun t ht => ?_⟩
      have g3 := Gr.new (ms := []) (o := .tup [.int mp.1, v6]) g2.ih ht
      have := k _ _ (.ref t) (g2.trans g3)
      unfold bestM at this
      rw [← erec, hmp] at this
      exact this ⟨t, _, _, rfl, upd_same, rfl, dR_up g3.ii _ _ hpp⟩
theorem ok_best (D : Dt K mg) : ∀ j, Has P w K mg base (j + 4) (He.ma K (He.ga K "Trial") "best") ["self", "numbers", "length"] [] (spBs (CTr K) (CBo K) (CWh K) j)
  | 0 => by
    obtain ⟨fd, F⟩ := fd_Trial_best D
    exact has_nev F (F.bindsN fun _ _ _ _ _ _ us hl => match us, hl with | [_, _, _], _ => rfl) fun _ _ _ _ h => by obtain ⟨L, hL, _⟩ := h; omega
  | j + 1 => ok_best_step D j (ok_best D j)
end
end K

set_option Elab.async false
set_option linter.all false
set_option maxRecDepth 100000
set_option maxHeartbeats 4000000
set_option exponentiation.threshold 5000
namespace K
open PySem PySem.Spec PyProof.Rows L2 Tk Hd Mt
section
variable {P : Program} {w : World} {K : PySem.W.Frag} {mg : Str → Option Value} {base : Heap}
/-! ### what a plan is worth -/
def isSay : Da → Bool
  | .tup (.str z :: _) => decide (z = ("say" : Str))
  | _ => false
def stAt (ss : List Sp2) (i : Nat) : Sp2 := ss.getD i ([], [])
def rightM (f b : Nat) (pr : List (List Sp2)) : Nat → List Int → Da → Rat
  | _ + 1, ns, .tup [.str _, .int k] => ((likeN ns f k : Int) : Rat)
  | L + 1, ns, .tup [_, .int bt, .tup ps] => tot ((List.range ps.length).map fun i => rightM f b pr L (behM ns (stAt (gl pr bt.toNat) i) (isSay (ps.getD i .non))) (ps.getD i .non)) * rt 1 b
  | _, _, _ => 0
/-- plans of at most so many presses -/
def PlOk (pr : List (List Sp2)) : Nat → Da → Prop
  | 0, _ => False
  | L + 1, d => (∃ k : Int, d = sayD k ∧ (k = 1 ∨ k = 2)) ∨ ∃ (bt : Nat) (ps : List Da), d = pressD bt ps ∧ bt < pr.length ∧ ps.length = (gl pr bt).length ∧ ∀ p ∈ ps, PlOk pr L p
/-- no number is negative, and so much they are together -/
def Sn (n S : Nat) (ns : List Int) : Prop := ns.length = n ∧ (∀ x ∈ ns, 0 ≤ x) ∧ ns.sum ≤ (S : Int)
theorem sum_nn {l : List Int} (h : ∀ x ∈ l, 0 ≤ x) : 0 ≤ l.sum := by
  induction l with
  | nil => simp
  | cons x r ih =>
    have h1 := h x List.mem_cons_self
    have h2 := ih fun y hy => h y (List.mem_cons_of_mem _ hy)
    rw [List.sum_cons]; omega
theorem like_le {ns : List Int} {f : Nat} {k : Int} (h : ∀ x ∈ ns, 0 ≤ x) : 0 ≤ likeN ns f k ∧ likeN ns f k ≤ ns.sum := by
  have e : ns.sum = (ns.take f).sum + (ns.drop f).sum := by rw [← List.sum_append_int, List.take_append_drop]
  have h1 := sum_nn fun x hx => h x (List.mem_of_mem_take (i := f) hx)
  have h2 := sum_nn fun x hx => h x (List.mem_of_mem_drop (i := f) hx)
  unfold likeN
  split <;> omega
/-- behind each step the numbers are at most the bottom times as much together -/
structure PrS (b n : Nat) (pr : List (List Sp2)) : Prop where
  b0 : 0 < b
  b1 : b < 2 ^ 64
  s4 : ∀ ss ∈ pr, ∀ st ∈ ss, ∀ ns S l, Sn n S ns → Sn n (b * S) (behM ns st l)
theorem gd_nat {a N B : Nat} (hN : 0 < N) (h : a ≤ B * N) : Gd N B (rt (a : Int) N) := ⟨hN, a, h, rfl⟩
theorem gd_like {ns : List Int} {n f S : Nat} {k : Int} (h : Sn n S ns) {N : Nat} (hN : 0 < N) : Gd N S ((likeN ns f k : Int) : Rat) := by
  obtain ⟨h1, h2, h3⟩ := h
  obtain ⟨l1, l2⟩ := like_le (f := f) (k := k) h2
  obtain ⟨z, hz⟩ := Int.eq_ofNat_of_zero_le l1
  have : Gd 1 S ((likeN ns f k : Int) : Rat) := ⟨by decide, z, by omega, by rw [hz]; unfold rt; rw [Rat.divInt_eq_div]; simp; grind⟩
  have := this.scale hN
  rwa [Nat.one_mul] at this
theorem tot_map {n : Nat} {g : Nat → Rat} {N B : Nat} (hN : 0 < N) (h : ∀ i, i < n → Gd N B (g i)) : Gd N (n * B) (tot ((List.range n).map g)) := by
  have := tot_gd (N := N) (B := B) (l := (List.range n).map g) hN fun q hq => by
    obtain ⟨i, hi, rfl⟩ := List.mem_map.mp hq
    exact h i (List.mem_range.mp hi)
  rwa [List.length_map, List.length_range] at this
theorem right_gd {f b n : Nat} {pr : List (List Sp2)} (po : PrOk f n pr) (hs : PrS b n pr) : ∀ (L S : Nat) (ns : List Int) (d : Da), PlOk pr (L + 1) d → Sn n S ns → Gd (b ^ L) (4 ^ L * S) (rightM f b pr (L + 1) ns d)
  | L, S, ns, d, hp, hn => by
    rcases hp with ⟨k, rfl, _⟩ | ⟨bt, ps, rfl, hb, hl, hq⟩
    · exact (gd_like hn (Nat.pow_pos hs.b0)).mono (by have : 0 < 4 ^ L := Nat.pow_pos (by decide); exact Nat.le_mul_of_pos_left _ this)
    · cases L with
      | zero =>
        cases ps with
        | nil =>
          have e0 : tot [] = 0 := rfl
          show Gd _ _ (tot [] * rt 1 b)
          rw [e0, Rat.zero_mul]
          exact (Gd.zero (Nat.pow_pos hs.b0)).mono (by omega)
        | cons p r => exact (hq p List.mem_cons_self).elim
      | succ L =>
        have hss : gl pr bt ∈ pr := gl_mem' hb
        have h4 := po.p2 _ hss
        have hpos : 0 < b ^ L := Nat.pow_pos hs.b0
        have ht : Gd (b ^ L) (ps.length * (4 ^ L * (b * S))) (tot ((List.range ps.length).map fun i => rightM f b pr (L + 1) (behM ns (stAt (gl pr ((bt : Int)).toNat) i) (isSay (ps.getD i .non))) (ps.getD i .non))) := tot_map hpos fun i hi => by
          have hst : stAt (gl pr ((bt : Int)).toNat) i ∈ gl pr bt := by
            rw [Int.toNat_natCast]; unfold stAt
            rw [List.getD_eq_getElem?_getD, List.getElem?_eq_getElem (show i < (gl pr bt).length by omega)]
            exact List.getElem_mem _
          exact right_gd po hs L (b * S) _ _ (hq _ (by rw [List.getD_eq_getElem?_getD, List.getElem?_eq_getElem hi]; exact List.getElem_mem _)) (hs.s4 _ hss _ hst _ _ _ hn)
        show Gd _ _ (tot _ * rt 1 b)
        obtain ⟨g0, a, ha, e⟩ := ht
        rw [e]
        refine ⟨Nat.pow_pos hs.b0, a, ?_, ?_⟩
        · have e1 : 4 ^ (L + 1) * S * b ^ (L + 1) = 4 * (4 ^ L * (b * S)) * b ^ L := by rw [Nat.pow_succ, Nat.pow_succ]; grind
          rw [e1]
          exact Nat.le_trans ha (Nat.mul_le_mul_right _ (Nat.mul_le_mul_right _ (by omega)))
        · unfold rt
          rw [Rat.divInt_mul_divInt, Int.mul_one, Nat.pow_succ, Int.natCast_mul]
def spRight (C C5 C3 C4 : Addr) (L : Nat) : Sp := fun vs H Q _ => ∃ (I : Hp) (x : Addr) (v u : V) (T : TrD) (n m S : Nat) (ns : List Int) (d : Da), vs = [.ref x, v, u] ∧ Same I H ∧ iTr C5 C3 C4 I (.ref x) T ∧ iL iJ I v ns ∧ dR I u d ∧ PlOk T.2 (L + 1) d ∧ PrOk T.1.f n T.2 ∧ PrS T.1.b n T.2 ∧ Bn n m ns ∧ m + 21 * L ≤ 1900 ∧ Sn n S ns ∧ 0 < S ∧ (4 * T.1.b) ^ L * S ≤ 2 ^ 390 ∧
  Ret [] I H (iR C) (rightM T.1.f T.1.b T.2 (L + 1) ns d) Q
def spRs (C C5 C3 C4 : Addr) (j : Nat) : Sp := fun vs H Q E => ∃ L, L < j ∧ spRight C C5 C3 C4 L vs H Q E
theorem pl_head {pr : List (List Sp2)} {L : Nat} {d : Da} (h : PlOk pr L d) : ∃ z r, d = .tup (.str z :: r) := by
  cases L with
  | zero => exact h.elim
  | succ L => rcases h with ⟨k, rfl, _⟩ | ⟨bt, ps, rfl, _⟩ <;> exact ⟨_, _, rfl⟩
theorem pl_at {I : Hp} {u : V} {z : Str} {r : List Da} (h : dR I u (.tup (.str z :: r))) : ∃ a ws, u = .ref a ∧ I a = some (.tup (.str z :: ws)) ∧ dRs I ws r := by
  simp only [dR, dRs] at h
  obtain ⟨a, vs, rfl, h1, v, r', rfl, rfl, h2⟩ := h
  exact ⟨a, r', rfl, h1, h2⟩
theorem fit_b {b : Nat} (h0 : 0 < b) (h1 : b < 2 ^ 64) : Fit (rt 1 b) := by
  have g : Gd b 1 (rt ((1 : Nat) : Int) b) := gd_nat h0 (by omega)
  exact fit_gd g (by decide) (by have : (2 : Nat) ^ 64 ≤ 2 ^ 400 := by decide
                                 omega)
theorem sc_Trial_right : FnScope ["self", "numbers", "plan", "_", "button", "parts", "found", "step", "part"] ["self", "numbers", "plan"] (defScope s_Trial_right) := ⟨rfl, rfl, rfl, by decide +kernel, rfl, by decide +kernel, by decide +kernel⟩
theorem ok_right_step (D : Dt K mg) (j : Nat) (H_Trial_right : Has P w K mg base (j + 5) (He.ma K (He.ga K "Trial") "right") ["self", "numbers", "plan"] [] (spRs (CR K) (CTr K) (CBo K) (CWh K) j)) : Has P w K mg base (j + 6) (He.ma K (He.ga K "Trial") "right") ["self", "numbers", "plan"] [] (spRs (CR K) (CTr K) (CBo K) (CWh K) (j + 1)) := by
  obtain ⟨fd, F⟩ := fd_Trial_right D
  have H_Trial_likelihood := ok_like (P := P) (w := w) (base := base) D
  have H_Ratio_init1 := has_init1 (P := P) (w := w) (base := base) D
  have H_Trial_behind := ok_behind (P := P) (w := w) (base := base) D
  have H_total := ok_total (P := P) (w := w) (base := base) D
  have H_Ratio_init := has_init (P := P) (w := w) (base := base) D
  have H_Ratio_mul := ok_mul (P := P) (w := w) (base := base) D
  refine hasN F (F.bindsN fun _ _ _ _ _ _ us hl => match us, hl with | [_, _, _], _ => rfl) sc_Trial_right (fun vs H Q E h => ?_) (fun cdv A outer s H vs Q E hr h => ?_)
  · obtain ⟨L, hL, I, x, v, u, T, n, m, S, ns, d, rfl, _⟩ := h; rfl
  · obtain ⟨L, hL, I, x, v, u, T, n, m, S, ns, d, rfl, s0, rT, rv, rd, pl, pr, ps, bn, hm, sn, hS, hB, k⟩ := h
    refine ⟨_, (pss_cons (ps_if (pt_cmpR op_eq (pe_ix (ix_tupK K) (pv 2) pe_int (fun _ _ => rfl)) pe_str (nomark _))
      (pss_one (ps_ret (pe_makeH (mkr_Ratio (K := K) D) H_Ratio_init1 (hr.mono (by omega)) rfl (glo_Ratio D) passL (pa_cons (pe_methH (pv 0) (cls_Trial (K := K) D) (me_Trial_likelihood (K := K) D) H_Trial_likelihood (hr.mono (by omega)) passL (pa_cons (pv 1) (pa_cons (pe_ix (ix_tupK K) (pv 2) pe_int (fun _ _ => rfl)) pa_nil))) pa_nil))))
      pss_nil)
      (pss_cons (ps_asg (pv 2) (pg_tupK K rfl (pgs_cons (pg_name (i := 3) sc_Trial_right.nd rfl (Or.inl rfl)) (pgs_cons (pg_name (i := 4) sc_Trial_right.nd rfl (Or.inl rfl)) (pgs_cons (pg_name (i := 5) sc_Trial_right.nd rfl (Or.inl rfl)) pgs_nil)))))
      (pss_cons (ps_setLc (own := [("step", 7), ("part", 8)]) (g := gTup K 2 (gCons (gName 7) (gCons (gName 8) gNil))) (i := 6) rfl sc_Trial_right.nd rfl rfl (sw_true rfl rfl rfl (by decide +kernel)) (pi_zipMK K rfl (free_zip D) (pa_cons (pe_ix (ix_listK K) (pe_fldK K (pv 0) rfl) (pv 4) (fun _ _ => rfl)) (pa_cons (pv 5) pa_nil))) (blkOk_by (own := [("step", 7), ("part", 8)]) (N := ["self", "numbers", "plan", "_", "button", "parts", "found", "step", "part"]) (by kernel_rfl)) (fun _ _ _ _ _ => (pg_tupK K rfl (pgs_cons (pg_name (i := 7) sc_Trial_right.nd rfl (Or.inl rfl)) (pgs_cons (pg_name (i := 8) sc_Trial_right.nd rfl (Or.inl rfl)) pgs_nil)))) (fun _ _ _ _ _ => pts_nil) (fun _ _ _ _ _ => (pe_methH (pv 0) (cls_Trial (K := K) D) (me_Trial_right (K := K) D) H_Trial_right (hr.mono (by omega)) passL (pa_cons (pe_methH (pv 0) (cls_Trial (K := K) D) (me_Trial_behind (K := K) D) H_Trial_behind (hr.mono (by omega)) passL (pa_cons (pv 1) (pa_cons (pv 7) (pa_cons (pe_cmpR op_eq (pe_ix (ix_tupK K) (pv 8) pe_int (fun _ _ => rfl)) pe_str (nomark _)) pa_nil)))) (pa_cons (pv 8) pa_nil)))))
      (pss_one (ps_ret (pe_op (op_ownH H_Ratio_mul (hr.mono (by omega)) passL (self_Ratio (K := K) D) (me_Ratio_mul (K := K) D)) (pe_callH H_total (hr.mono (by omega)) rfl (glo_total D) passL (pa_cons (pv 6) pa_nil)) (pe_makeH (mkr_Ratio (K := K) D) H_Ratio_init (hr.mono (by omega)) rfl (glo_Ratio D) passL (pa_cons pe_int (pa_cons (pe_fldK K (pe_fldK K (pv 0) rfl) rfl) pa_nil))))))))), ?_⟩
    obtain ⟨x', dx, vb, vp, ex, hx, rbo, rp⟩ := id rT
    cases ex
    obtain ⟨o, od, vst, vt, rfl, ho, rst, rt'⟩ := id rbo
    obtain ⟨p, ps', rfl, hp, p2⟩ := id rp
    have n24 := pr.n1
    have hb0 := ps.b0
    have hb1 := ps.b1
    have sat : Sm (T.1.b : Int) := Nat.lt_trans (by rw [Int.natAbs_natCast]; exact hb1) (by decide)
    rcases pl with ⟨kk, rfl, hk⟩ | ⟨bt, parts, rfl, hbt, hlen, hparts⟩
    · simp only [sayD, dR, dRs] at rd
      obtain ⟨t, ws, rfl, ht, v1, r1, rfl, rfl, v2, r2, rfl, rfl, rfl⟩ := rd
      refine ⟨_, rfl, t, _, _, _, rfl, rfl, SqT.of (s0 _ _ ht), at_of (j := 0) rfl rfl, rfl, _, rfl, ifT rfl ?_⟩
      refine ⟨_, rfl, x, dx, _, rfl, s0 _ _ hx, (by kernel_rfl), _, rfl, _, rfl, t, _, _, _, rfl, rfl, SqT.of (s0 _ _ ht), at_of (j := 1) rfl rfl, ?_⟩
      refine ⟨I, x, dx, o, od, _, _, v, ns, T.1.f, kk, rfl, s0, hx, tf_look.1, ho, bf5_look.2.2.2.1, rv, by rw [bn.1]; omega, fun I1 H1 g1 => ?_⟩
      refine fun y dy ny nd ne => ⟨y, dy, _, _, rfl, upd_same, sm_of (by decide) (by decide), fun _ => ⟨rfl, ?_⟩, fun h => absurd h (by decide)⟩
      obtain ⟨g2, r2⟩ := rat_new (ms := []) (C := CR K) (q := rt (likeN ns T.1.f kk) 1) g1.ih ny nd ne
      refine k _ _ _ (g1.trans g2) ?_
      have e : rightM T.1.f T.1.b T.2 (L + 1) ns (sayD kk) = rt (likeN ns T.1.f kk) 1 := by
        show ((likeN ns T.1.f kk : Int) : Rat) = _
        unfold rt; rw [Rat.divInt_eq_div]; simp; grind
      rw [e]; exact r2
    · simp only [pressD, dR, dRs] at rd
      obtain ⟨t, ws, rfl, ht, v1, r1, rfl, rfl, v2, r2, rfl, rfl, v3, r3, rfl, ⟨tp, wp, rfl, htp, rps⟩, rfl⟩ := rd
      refine ⟨_, rfl, t, _, _, _, rfl, rfl, SqT.of (s0 _ _ ht), at_of (j := 0) rfl rfl, rfl, _, rfl, ifF (by show decide (V.str ("press" : Str) = V.str ("say" : Str)) = false; decide +kernel) ?_⟩
      (try unfold tNext)
      (try dsimp only)
      refine ⟨_, rfl, t, _, rfl, SqT.of (s0 _ _ ht), rfl, _, _, rfl, _, _, rfl, _, _, rfl, rfl, ?_⟩
      (try dsimp only)
      have lps := p2.len
      obtain ⟨uu, hu, ru⟩ := p2.get' (gl_lt (l := T.2) hbt)
      obtain ⟨c, cs, rfl, hc, c2⟩ := id ru
      have hss : gl T.2 bt ∈ T.2 := gl_mem' hbt
      have l4 := pr.p2 _ hss
      have lcs := c2.len
      have lwp := dRs_len rps
      have hpos : 0 < T.1.b ^ L := Nat.pow_pos hb0
      cases L with
      | zero =>
        have := pr.p3 _ hss
        cases parts with
        | nil => have e0 : ([] : List Da).length = 0 := rfl; omega
        | cons p r => exact (hparts p List.mem_cons_self).elim
      | succ L =>
      obtain ⟨g, eg⟩ : ∃ g : Nat → Rat, g = fun i => rightM T.1.f T.1.b T.2 (L + 1) (behM ns (stAt (gl T.2 bt) i) (isSay (parts.getD i .non))) (parts.getD i .non) := ⟨_, rfl⟩
      have gg : ∀ i, i < parts.length → Gd (T.1.b ^ L) (4 ^ L * (T.1.b * S)) (g i) := fun i hi => by
        have hst : stAt (gl T.2 bt) i ∈ gl T.2 bt := by
          unfold stAt
          rw [List.getD_eq_getElem?_getD, List.getElem?_eq_getElem (show i < (gl T.2 bt).length by omega)]
          exact List.getElem_mem _
        rw [eg]
        exact right_gd pr ps L (T.1.b * S) _ _ (hparts _ (by rw [List.getD_eq_getElem?_getD, List.getElem?_eq_getElem hi]; exact List.getElem_mem _)) (ps.s4 _ hss _ hst _ _ _ sn)
      have hB2 : (4 * T.1.b) ^ L * (T.1.b * S) ≤ 2 ^ 390 := by
        have e : (4 * T.1.b) ^ (L + 1) * S = 4 * ((4 * T.1.b) ^ L * (T.1.b * S)) := by rw [Nat.pow_succ]; grind
        rw [e] at hB
        omega
      have hB3 : 4 ^ L * (T.1.b * S) ≤ 2 ^ 390 := Nat.le_trans (Nat.mul_le_mul_right _ (Nat.pow_le_pow_left (by omega) L)) hB2
      have hB4 : T.1.b ^ L ≤ 2 ^ 390 := Nat.le_trans (Nat.le_trans (Nat.pow_le_pow_left (by omega) L) (Nat.le_mul_of_pos_right _ (Nat.mul_pos hb0 hS))) hB2
      have p4 : (2 : Nat) ^ 390 * 16 ≤ 2 ^ 400 := by decide +kernel
      refine seq_cut (fun σ' H1 => ∃ (I1 : Hp) (l : Addr), σ' = [some (.ref x), some v, some (.ref t), some (.str "press"), some (.int (bt : Int)), some (.ref tp), some (.ref l), none, none] ∧ Gr [] I H I1 H1 ∧ iL (iR (CR K)) I1 (.ref l) ((List.range parts.length).map g)) (fun nx q => ?_) ?_
      · refine ⟨_, rfl, x, _, dx, _, _, rfl, s0 _ _ hx, cls_Trial D, na_Trial_presses D, tf_look.2, _, rfl, p, ps', (bt : Int), _, rfl, rfl, SqL.of (s0 _ _ hp), at_of (j := bt) rfl hu, _, rfl, true, false, c, tp, cs, wp, rfl, SqL.of (s0 _ _ hc), SqT.of (s0 _ _ htp), fun l hD => ?_⟩
        refine lc_zip (n := parts.length) (iR (CR K)) g (fun H s => SqL.of (s _ _ hc)) (fun H s => SqT.of (s _ _ htp)) (by omega) (by omega) s0 hD (lt_line (by omega)) (fun i t2 I2 H2 Nx Qk hi s1 s2 ht2 ke => ?_) (fun I2 H2 g2 r2 => q _ _ ⟨I2, l, rfl, g2, r2⟩)
        have hi2 : i < (gl T.2 bt).length := by omega
        obtain ⟨su, hsu, rsu⟩ := c2.get' (List.getElem?_eq_getElem hi2)
        have esu : gv cs i = su := by unfold gv; rw [List.getD_eq_getElem?_getD, hsu]; rfl
        have est : stAt (gl T.2 bt) i = (gl T.2 bt)[i] := by unfold stAt; rw [List.getD_eq_getElem?_getD, List.getElem?_eq_getElem hi2]; rfl
        have hst : stAt (gl T.2 bt) i ∈ gl T.2 bt := by rw [est]; exact List.getElem_mem _
        rw [← est] at rsu
        obtain ⟨pu, hpu, rpu⟩ := dRs_at rps (List.getElem?_eq_getElem hi)
        have epu : gv wp i = pu := by unfold gv; rw [List.getD_eq_getElem?_getD, hpu]; rfl
        have epd : parts.getD i .non = parts[i] := by rw [List.getD_eq_getElem?_getD, List.getElem?_eq_getElem hi]; rfl
        have hpm := hparts _ (List.getElem_mem hi)
        rw [← epd] at rpu hpm
        rw [esu, epu] at ht2
        have eg' := congrFun eg i
        generalize stAt (gl T.2 bt) i = st at rsu hst eg'
        generalize parts.getD i .non = part at rpu hpm eg'
        obtain ⟨z, r, ez⟩ := pl_head hpm
        subst ez
        obtain ⟨pa, pws, rfl, hpa, _⟩ := pl_at rpu
        obtain ⟨e1, e2⟩ := pr.s1 _ hss st hst
        have hx2 := s2 _ _ (s1 _ _ hx)
        have hsay : decide (V.str z = V.str ("say" : Str)) = isSay (.tup (.str z :: r)) := by
          show _ = decide (z = ("say" : Str))
          by_cases hz : z = ("say" : Str)
          · subst hz; rfl
          · rw [decide_eq_false hz, decide_eq_false fun h => hz (by injection h)]
        refine ⟨t2, _, rfl, SqT.of ht2, rfl, _, _, rfl, _, _, rfl, rfl, rfl, ?_⟩
        refine ⟨_, rfl, x, dx, _, rfl, hx2, (by kernel_rfl), ?_⟩
        refine ⟨_, rfl, x, dx, _, rfl, hx2, (by kernel_rfl), _, rfl, _, rfl, _, rfl, pa, _, _, _, rfl, rfl, SqT.of (s2 _ _ (s1 _ _ hpa)), at_of (j := 0) rfl rfl, rfl, ?_⟩
        rw [hsay]
        refine ⟨I2, .ref x, v, su, ns, st, _, rfl, s2, up s1 rv, up s1 rsu, by rw [bn.1]; omega, by rw [e2, bn.1], by omega, bn.big (by omega), fun z hz => Nat.lt_of_lt_of_le (pr.s3 _ hss st hst z hz) (Nat.pow_le_pow_right (by decide) (by decide)), fun col hcol => ⟨by have := (pr.s2 _ hss st hst col hcol).1; omega, fun p hp => ⟨by rw [bn.1]; exact ((pr.s2 _ hss st hst col hcol).2 p hp).1, Nat.lt_of_lt_of_le ((pr.s2 _ hss st hst col hcol).2 p hp).2 (Nat.pow_le_pow_right (by decide) (by decide))⟩⟩, fun I5 H5 v5 g5 r5 => ?_⟩
        refine ⟨_, rfl, L, by omega, I5, x, v5, .ref pa, T, n, m + 21, T.1.b * S, behM ns st (isSay (.tup (.str z :: r))), _, rfl, g5.ih, up (s1.trans g5.ii) rT, r5, dR_up (s1.trans g5.ii) _ _ rpu, hpm, pr, ps, pr.beh hss hst bn _, by omega, ps.s4 _ hss _ hst _ _ _ sn, Nat.mul_pos hb0 hS, hB2, fun I6 H6 v6 g6 r6 => ?_⟩
        refine ke _ _ _ (g5.trans g6) ?_
        rw [eg']; exact r6
      rintro σ' H1 ⟨I1, l, rfl, g1, r1⟩
      (try dsimp only)
      have tg := tot_map (n := parts.length) (g := g) (N := T.1.b ^ L) (B := 4 ^ L * (T.1.b * S)) (Nat.pow_pos hb0) gg
      have lp4 : parts.length ≤ 4 := by omega
      have lB : parts.length * (4 ^ L * (T.1.b * S)) ≤ 2 ^ 400 := Nat.le_trans (Nat.mul_le_mul lp4 hB3) (by decide +kernel)
      refine ⟨_, rfl, I1, .ref l, _, rfl, g1.ih, iA.l r1, fits_gd (N := T.1.b ^ L) (B := 4 ^ L * (T.1.b * S)) (Nat.pow_pos hb0) (fun q hq => ?_) (by rw [List.length_map, List.length_range]; exact lB) (by omega), fun I2 H2 v2 g2 r2 => ?_⟩
      · obtain ⟨i, hi, rfl⟩ := List.mem_map.mp hq
        exact gg i (List.mem_range.mp hi)
      have g12 := g1.trans g2
      refine ⟨_, rfl, x, _, dx, _, _, rfl, g12.ih _ _ (g12.ii _ _ hx), cls_Trial D, na_Trial_both D, tf_look.1, o, _, od, _, _, rfl, g12.ih _ _ (g12.ii _ _ ho), cls_Both D, na_Both_bottom D, bf5_look.2.1, fun y dy ny nd ne => ⟨y, dy, _, _, rfl, upd_same, sat, fun _ => ⟨rfl, ?_⟩, fun h => absurd h (by omega)⟩⟩
      obtain ⟨g3, r3⟩ := rat_new (ms := []) (C := CR K) (q := rt 1 T.1.b) g2.ih ny nd ne
      have r2' := up g3.ii r2
      obtain ⟨a1, d1, e1, h1⟩ := id r2'
      obtain ⟨a2, d2, e2, h2⟩ := id r3
      refine ⟨a1, a2, d1, d2, _, _, e1, e2, g3.ih _ _ h1, g3.ih _ _ h2, _, v2, .ref y, _, _, rfl, g3.ih, r2', r3, fit_gd tg lB (by omega), fit_b hb0 hb1, fun I4 H4 v4 g4 r4 => ?_⟩
      refine k _ _ _ ((g12.trans g3).trans g4) ?_
      have e : rightM T.1.f T.1.b T.2 (L + 1 + 1) ns (pressD bt parts) = tot ((List.range parts.length).map g) * rt 1 T.1.b := by
        rw [eg]; rfl
      rw [e]; exact r4
theorem ok_right (D : Dt K mg) : ∀ j, Has P w K mg base (j + 5) (He.ma K (He.ga K "Trial") "right") ["self", "numbers", "plan"] [] (spRs (CR K) (CTr K) (CBo K) (CWh K) j)
  | 0 => by
    obtain ⟨fd, F⟩ := fd_Trial_right D
    exact has_nev F (F.bindsN fun _ _ _ _ _ _ us hl => match us, hl with | [_, _, _], _ => rfl) fun _ _ _ _ h => by obtain ⟨L, hL, _⟩ := h; omega
  | j + 1 => ok_right_step D j (ok_right D j)
end
end K

set_option Elab.async false
set_option linter.all false
set_option maxRecDepth 100000
set_option maxHeartbeats 4000000
/-! Errors with an own __init__ whose context is None; C(..) in a try that lets them out; own defs called in the suite. -/
namespace Tk
open PySem PySem.Spec PyProof.Rows L2
section
variable {X : Cx} {CXx : CXT} {k : Nat} {f C : Addr} {fd : FuncData} {fld : Str} {ps : List Str} {sp : Sp} {dvs : List V} {E : L2.St → XK} {x : Str} {p pos : Pos} {e : Expr} {es : List Expr} {ta : TA}
theorem pmk_oexN (T : OexF X.K C f fld) (h : HasX X k f ps dvs sp) (hr : Room (k + 1) X.A) (hg : Gl X x) (hm : X.mg x = some (.ref C)) (ha : PA X (e :: es) ta)
    (hdb : (x == ("__debug__" : Str)) = false := by decide) (he : starEach (e :: es) X.env = (false, eval e X.env) :: starEach es X.env := by rfl) (hpl : (backTo pos (starEach es X.env)).any (·.1) = false := by rfl) :
    L2N.PMk X (.Call (.Name x p) (e :: es) [] pos) (tMkO C sp dvs ta) := by
  obtain ⟨_, gd, ds, hd, hb, G⟩ := h
  obtain ⟨c1, c2, c3, c4, c5, c6, c7, c8, c9, c10, m0, m1, m2, m3, m5, hC, hve⟩ := T.T.cls
  intro pins s0 σ H Q I0 wish
  refine wpAny_Call_Name_kw (ld_glob I0 hg hm (PySem.W.callWith_K (h₀ := X.base) I0.ok.mod.kin T.T.kC (thn (ha.run pos pins s0 σ H _ I0 wish) ?_) he hpl) hdb)
  rintro us ⟨h0, gn, dw, tt, oo⟩ ⟨ws, Ha, J0, rws, hsize, q0⟩
  refine ⟨J0.kIn, ?_⟩
  let a := h0.objs.size + 1
  have le : h0.objs.size ≤ a := Nat.le_succ _
  have fresh : Ha a = none := J0.hok.fresh le
  have q1 := q0 a fresh
  let h1 := (h0.push (PySem.W.kdv_tup us)).push (PySem.HandSPX.excO C h0.objs.size)
  have stays : ∀ b o, h0.get? b = some o → h1.get? b = some o := fun b o z => Heap.get?_push_of_some _ (Heap.get?_push_of_some _ z)
  have at_a : h1.get? a = some (PySem.HandSPX.excO C h0.objs.size) := by
    show ((h0.push (PySem.W.kdv_tup us)).push (PySem.HandSPX.excO C h0.objs.size)).get? (h0.objs.size + 1) = _
    heap_get
  have J1 : Inv X pins σ (upd Ha a (exo a C none)) ⟨h1, gn, dw, tt, oo⟩ := J0.laid (t' := tt) (a := a) (o := exo a C none) (h' := h1) stays le (exo_ok at_a)
  have rr : Vals (V.ref a :: (ws ++ dvs)) (Value.ref a :: (us ++ ds)) := .cons rfl (rws.append hd)
  have ll : (Value.ref a :: us ++ ds).length = ps.length := (show (Value.ref a :: (us ++ ds)).length = _ from (G.len _ _ _ _ q1 ▸ rr.length.symm : _))
  have small : us.length ≤ sizeLine := by
    have z := Paired.length rws
    rw [sizeLine_eq] at *
    omega
  have body := G.run _ X.stack _ _ ⟨Value.ref a :: us, []⟩ (Value.ref a :: (us ++ ds)) _ _ (fun _ _ _ => False) (hr.make C us []) (J1.env0.make C us []) (hb _ (Value.ref a :: us) J1.kIn ll) rr q1
  refine wpAny_call (PySem.HandSPX.call_own F.excBase_ValueError (fun Y => PySem.HandSPX.refsVE_contains Y c5 hve) (J0.kIn _ _ hC) (PySem.W.looks_findIn J0.kIn T.iC) (fun self => PySem.W.bind_fn J0.kIn self T.tI) small (codeAny_mono body ?_))
  intro res s2 got
  cases res with
  | error er => exact (cx_none got).elim
  | ok fl =>
    cases fl with
    | ret u =>
      obtain ⟨h2, g2, d2, t2, o2⟩ := s2
      obtain ⟨v, Hb, eo, bare, un, ok2, rv, ev, d, fs, e1, e2, e3, q2⟩ := got
      subst ev
      obtain ⟨t0, hI, J2, kI, nI, there, nHa⟩ := mk_end0 (d2 := d2) (t2 := t2) J0 le stays un ok2 eo bare e1 e2 e3
      exact ⟨rv, a, _, _, ⟨hI, g2, d2, t2, o2⟩, _, .ref C, some d, rfl, J2, kI, nI, there, ⟨rfl, rfl, fun vs z => by cases z; rfl⟩, rfl, rfl, nHa, rfl, bare, raises_own T.T.exC T.T.tyC, q2⟩
    | next => exact got.elim
    | brk => exact got.elim
    | cont => exact got.elim
/-- C(e, ..) in a try, whatever errors' kind -/
theorem pe_makeSN {ds : List Value} (M : Mk X.K C f) (G : FnOk X.prog X.w X.K X.mg X.base CXx k f fd ps sp) (hb : Binds X.K fd ps ds) (hd : Vals dvs ds) (hr : Room (k + 1) X.A) (hg : Gl X x) (hm : X.mg x = some (.ref C)) (hx : ∀ σ, PassesAt CXx X σ (E σ)) (ha : PA X (e :: es) ta)
    (hdb : (x == ("__debug__" : Str)) = false := by decide) (he : starEach (e :: es) X.env = (false, eval e X.env) :: starEach es X.env := by rfl) (hpl : (backTo pos (starEach es X.env)).any (·.1) = false := by rfl) :
    PE X (.Call (.Name x p) (e :: es) [] pos) (tMakeS C sp dvs E ta) := by
  constructor
  intro pins s σ H Q I hq0
  refine wpAny_Call_Name_kw (ld_glob I hg hm (PySem.W.callWith_K (h₀ := X.base) I.ok.mod.kin M.kp (thn (ha.run pos pins s σ H _ I hq0) ?_) he hpl) hdb)
  rintro us s1 ⟨vs, H1, I1, r, q⟩
  refine ⟨I1.kIn, ?_⟩
  have q' := q (s1.heap.objs.size + 1) s1.heap.objs.size (I1.hok.fresh (Nat.le_succ _)) (I1.hok.fresh (Nat.le_refl _)) (Nat.ne_of_lt (Nat.lt_succ_self _))
  have I2 := Inv.made (C := C) I1
  have rr : Vals (V.ref (s1.heap.objs.size + 1) :: (vs ++ dvs)) (Value.ref (s1.heap.objs.size + 1) :: us ++ ds) := .cons rfl (r.append hd)
  have hl := rr.length.symm.trans (G.len _ _ _ _ q')
  have go := G.run _ X.stack _ _ ⟨Value.ref (s1.heap.objs.size + 1) :: us, []⟩ _ _ _ _ (hr.make C us []) (I2.env0.make C us []) (hb _ _ I2.kIn hl) rr q'
  refine wpAny_call (make_map (f := f) I1.kIn M.makes M.init (beq_iff_eq.mp M.fn) (codeAny_mono go ?_))
  intro res s' z
  cases res with
  | error err => exact hx σ pins _ _ err s' I2 z
  | ok fl => cases fl with
    | ret u =>
      obtain ⟨v, H', I3, rv, ev, q3⟩ := I2.after z
      subst ev
      exact ⟨rv, V.ref (s1.heap.objs.size + 1), H', I3, rfl, q3⟩
    | _ => exact False.elim z
theorem hot_suite {a : Addr} {oe : Obj} {cls : Value} {d : Option Addr} {pn : List (Addr × Obj)} (hz : L2N.Zn cls d oe) (hf : ∃ vs, oe.data = .fields vs) : L2H.HotC (X.suite a ((a, oe) :: pn)) := by
  obtain ⟨vs, h⟩ := hf
  exact ⟨(a, oe), ⟨rfl, vs, h, hz.2.2 vs h⟩, List.mem_cons_self⟩
end
section
variable {P : Program} {w : World} {K : PySem.W.Frag} {mg : Str → Option Value} {base : Heap} {x qual : Str} {st : Stmt} {f : Addr} {fd : FuncData} {N ps : List Str} {k : Nat} {sp : Sp}
/-- such a def, as it is called within an except suite -/
theorem fnHot (F : FnQ K x qual st [] f fd) (S : FnScope N ps (defScope st)) (len : ∀ vs H Q E, sp vs H Q E → vs.length = ps.length)
    (hbody : ∀ (cdv : Value) (A : Around) (outer : List Env) (s : Shared) (H : Hp) (vs : List V) (Q : VK) (E : XK) (p : Addr × Obj), L2H.RoomH k (A.deeper (envOfC qual (defScope st) s.heap.objs.size f cdv)) → sp vs H Q E →
      ∃ t, PSs (L2H.cxH (L2.CX P w) P w K mg base N qual (defScope st) f cdv A outer s H E p) (defBody st) t ∧ t { nx := fun _ H' => Q .non H', rt := Q } (start N vs) H) :
    L2H.FnH P w K mg base (L2.CX P w) (k + 1) f fd ps sp := by
  obtain ⟨oc, od, dV, kV, doc, pm, an, cdv, ct, osl, rfl, lk, hcd, _, _⟩ := F.ex
  exact L2H.fn_ofH lk hcd S len fun A outer s H vs Q E p _ hr hsp => hbody cdv A outer s H vs Q E p hr hsp
end
end Tk

set_option Elab.async false
set_option linter.all false
set_option maxRecDepth 100000
set_option maxHeartbeats 4000000
/-! Defs that let errors out whose context is None (L2N). -/
namespace Tk
open PySem PySem.Spec PyProof.Rows L2
def HasN (P : Program) (w : World) (K : PySem.W.Frag) (mg : Str → Option Value) (base : Heap) (k : Nat) (f : Addr) (ps : List Str) (dvs : List V) (sp : Sp) : Prop :=
  PySem.W.keepIn K (.ref f) = true ∧ ∃ (fd : FuncData) (ds : List Value), Vals dvs ds ∧ Binds K fd ps ds ∧ FnOk P w K mg base (L2N.CX P w) k f fd ps sp
theorem HasN.mono {P : Program} {w : World} {K : PySem.W.Frag} {mg : Str → Option Value} {base : Heap} {j k : Nat} {f : Addr} {ps : List Str} {dvs : List V} {sp : Sp} (h : HasN P w K mg base j f ps dvs sp) (l : j ≤ k) : HasN P w K mg base k f ps dvs sp := by
  obtain ⟨a, fd, ds, b, c, F⟩ := h
  exact ⟨a, fd, ds, b, c, F.mono l⟩
section
variable {X : Cx} {k : Nat} {f C : Addr} {ps : List Str} {sp : Sp} {dvs : List V} {E : XK} {x m : Str} {p pos apos : Pos} {e o : Expr} {es : List Expr} {ta : TE} {t : TA}
abbrev HasNX (X : Cx) := HasN X.prog X.w X.K X.mg X.base
theorem passLN : Passes (L2N.CX X.prog X.w) X E0 := fun _ _ _ _ _ _ _ h => by
  obtain ⟨_, _, _, _, _, _, _, _, _, _, _, _, z⟩ := h
  exact z.elim
theorem pe_callHN (h : HasNX X k f ps dvs sp) (hr : Room k X.A) (hg : Gl X x) (hm : X.mg x = some (.ref f)) (hx : Passes (L2N.CX X.prog X.w) X E) (ha : PA X (e :: es) t)
    (hdb : (x == ("__debug__" : Str)) = false := by decide) (he : starEach (e :: es) X.env = (false, eval e X.env) :: starEach es X.env := by rfl) (hpl : (backTo pos (starEach es X.env)).any (·.1) = false := by rfl) :
    PE X (.Call (.Name x p) (e :: es) [] pos) (tCall sp dvs E t) := by
  obtain ⟨hk, fd, ds, hd, hb, F⟩ := h
  exact pe_call F hr hg hm hk hb hd hx ha hdb he hpl
theorem pe_methHN {pl : Sem Bool} (he : PE X o ta) (c : Cls X.K C) (hm : Meth X.K C m f) (h : HasNX X k f ps dvs sp) (hr : Room k X.A) (hx : Passes (L2N.CX X.prog X.w) X E) (ha : PA X (e :: es) t)
    (hst : starEach (e :: es) X.env = (false, eval e X.env) :: starEach es X.env := by rfl) (hpl : (backTo pos (starEach es X.env)).any (·.1) = false := by rfl)
    (ht : eval (.Call (.Attribute o m apos) (e :: es) [] pos) X.env = (do
      let ov ← eval o X.env
      standAt apos.atName
      let (f, first) ← holding [ov] (getMethod ov m pl)
      callWith pos f first (backTo pos (starEach (e :: es) X.env)) (backToKw pos (keywordEach [] X.env))) := by rfl) :
    PE X (.Call (.Attribute o m apos) (e :: es) [] pos) (tMeth C m sp dvs E ta t) := by
  obtain ⟨hk, fd, ds, hd, hb, F⟩ := h
  exact pe_meth (pl := pl) he c hm F hr hb hd hx ha hst hpl ht
theorem pe_methH0N {pl : Sem Bool} (he : PE X o ta) (c : Cls X.K C) (hm : Meth X.K C m f) (h : HasNX X k f ps dvs sp) (hr : Room k X.A) (hx : Passes (L2N.CX X.prog X.w) X E)
    (ht : eval (.Call (.Attribute o m apos) [] [] pos) X.env = (do
      let ov ← eval o X.env
      standAt apos.atName
      let (f, first) ← holding [ov] (getMethod ov m pl)
      callWith pos f first (backTo pos (starEach [] X.env)) (backToKw pos (keywordEach [] X.env))) := by rfl) :
    PE X (.Call (.Attribute o m apos) [] [] pos) (tMeth C m sp dvs E ta tNil) := by
  obtain ⟨_, fd, ds, hd, hb, F⟩ := h
  exact pe_meth0 (pl := pl) he c hm F hr hb hd hx ht
theorem pe_callSHN {E : L2.St → XK} (h : HasNX X k f ps [] sp) (hr : Room k X.A) (hg : Gl X x) (hm : X.mg x = some (.ref f)) (hx : ∀ σ, PassesAt (L2N.CX X.prog X.w) X σ (E σ)) (ha : PA X (e :: es) t)
    (hdb : (x == ("__debug__" : Str)) = false := by decide) (he : starEach (e :: es) X.env = (false, eval e X.env) :: starEach es X.env := by rfl) (hpl : (backTo pos (starEach es X.env)).any (·.1) = false := by rfl) :
    PE X (.Call (.Name x p) (e :: es) [] pos) (tCallS sp E t) := by
  obtain ⟨hk, fd, ds, hd, hb, F⟩ := h
  cases hd
  exact pe_callS F hr hg hm hk hb hx ha hdb he hpl
end
section
variable {P : Program} {w : World} {K : PySem.W.Frag} {mg : Str → Option Value} {base : Heap} {x qual : Str} {st : Stmt} {f : Addr} {fd : FuncData} {N ps : List Str} {k : Nat} {sp : Sp}
theorem hasXN (F : FnQ K x qual st [] f fd) (b : Binds K fd ps []) (S : FnScope N ps (defScope st)) (len : ∀ vs H Q E, sp vs H Q E → vs.length = ps.length)
    (hbody : ∀ (cdv : Value) (A : Around) (outer : List Env) (s : Shared) (H : Hp) (vs : List V) (Q : VK) (E : XK), Room k (A.deeper (envOfC qual (defScope st) s.heap.objs.size f cdv)) → sp vs H Q E →
      ∃ t, PSs (cxOf (L2N.CX P w) P w K mg base N qual (defScope st) f cdv A outer s H E) (defBody st) t ∧ t { nx := fun _ H' => Q .non H', rt := Q } (start N vs) H) :
    HasN P w K mg base (k + 1) f ps [] sp :=
  ⟨F.kp, fd, [], .nil, b, F.ok S len hbody⟩
end
end Tk

set_option Elab.async false
set_option linter.all false
set_option maxRecDepth 100000
set_option maxHeartbeats 4000000
set_option exponentiation.threshold 5000
namespace K
open PySem PySem.Spec PyProof.Rows L2 Tk Hd Mt
section
variable {P : Program} {w : World} {K : PySem.W.Frag} {mg : Str → Option Value} {base : Heap}
/-! ### errors that tell what -/
abbrev CTL (K : PySem.W.Frag) : Addr := He.ga K "TooLarge"
def spTL (C : Addr) : Sp := fun vs H Q _ => ∃ (a : Addr) (v : V), vs = [.ref a, v] ∧ H a = some (exo a C none) ∧ ∀ dx, H dx = none → dx ≠ a → Q .non (upd (upd H dx (exd dx [("what", v)])) a (exo a C (some dx)))
theorem sc_tl : FnScope ["self", "what"] ["self", "what"] (defScope s_TooLarge_init) := ⟨rfl, rfl, rfl, by decide +kernel, rfl, by decide +kernel, by decide +kernel⟩
theorem ok_tl (D : Dt K mg) : Has P w K mg base 1 (He.ma K (CTL K) "__init__") ["self", "what"] [] (spTL (CTL K)) := by
  obtain ⟨fd, F⟩ := fd_TooLarge_init D
  refine hasN F (F.bindsN fun _ _ _ _ _ _ us hl => match us, hl with | [_, _], _ => rfl) sc_tl (fun vs H Q E h => ?_) (fun cdv A outer s H vs Q E hr h => ?_)
  · obtain ⟨a, v, rfl, _⟩ := h; rfl
  · obtain ⟨a, v, rfl, ha, k⟩ := h
    refine ⟨_, pss_one (ps_ost (pv 0) (pv 1)), ?_⟩
    exact ⟨_, rfl, _, rfl, a, CTL K, rfl, (oex_TooLarge D).T, (oex_TooLarge D).no, .inl ⟨ha, k⟩⟩
theorem xd_heapT {H : Hp} {a d : Addr} {u v : HO} {fs : List (Str × V)} {o : HO} (ha : H a = none) (n : d ≠ a) : upd (del (upd (upd (upd H a o) d u) a v) a) d (.xd fs) = upd H d (.xd fs) := by
  funext b
  by_cases hb : b = d
  · subst hb; rw [upd_same, upd_same]
  · rw [upd_ne hb, upd_ne hb]
    by_cases hba : b = a
    · subst hba; rw [del_same, ha]
    · rw [del_ne hba, upd_ne hba, upd_ne hb, upd_ne hba]
/-- a text is told -/
def RaisedW (ms : List Addr) (I H : Hp) (C : Addr) (z : Str) (E : XK) : Prop := ∀ I' H' d, Gr ms I H I' H' → H' d = some (.xd [("what", .str z)]) → E (.ref C) (some d) H'
theorem raised_w {ms : List Addr} {I H I' H' : Hp} {C : Addr} {z : Str} {E : XK} (g : Gr ms I H I' H') (h : RaisedW ms I H C z E) : ∀ e, H' e = none → ∀ d, upd H' e (exo e C none) d = none → d ≠ e → E (.ref C) (some d) (upd (del (upd (upd (upd H' e (exo e C none)) d (exd d [("what", .str z)])) e (exo e C (some d))) e) d (.xd [("what", .str z)])) := fun e he d hd ne => by
  have hd2 : H' d = none := by rw [upd_ne ne] at hd; exact hd
  rw [xd_heapT (H := H') (u := exd d [("what", .str z)]) (v := exo e C (some d)) (o := exo e C none) (fs := [("what", .str z)]) he ne]
  exact h I' _ d (g.trans (Gr.tmp g.ih hd2)) upd_same
def spAskT (C : Addr) : Sp := fun vs H Q E => ∃ (many L : Nat), vs = [.int (many : Int), .int (L : Int)] ∧ 0 < many ∧ many ≤ 100 ∧ L ≤ 1000 ∧ (many ^ L ≤ 5000 → Q .non H) ∧ (5000 < many ^ L → RaisedW [] H H C "test" E)
theorem sc__ask_test : FnScope ["many", "length", "ways", "_"] ["many", "length"] (defScope s__ask_test) := ⟨rfl, rfl, rfl, by decide +kernel, rfl, by decide +kernel, by decide +kernel⟩
theorem ok_askt (D : Dt K mg) : HasN P w K mg base 3 (He.ga K "_ask_test") ["many", "length"] [] (spAskT (CTL K)) := by
  obtain ⟨fd, F⟩ := fd__ask_test D
  have H_TooLarge_init := ok_tl (P := P) (w := w) (base := base) D
  refine hasXN F (F.bindsN fun _ _ _ _ _ _ us hl => match us, hl with | [_, _], _ => rfl) sc__ask_test (fun vs H Q E h => ?_) (fun cdv A outer s H vs Q E hr h => ?_)
  · obtain ⟨many, L, rfl, _⟩ := h; rfl
  · obtain ⟨many, L, rfl, m0, m1, hl, k1, k2⟩ := h
    obtain ⟨t_MOST_TESTS, e_MOST_TESTS⟩ := int_MOST_TESTS D
    refine ⟨_, (pss_cons (ps_set (i := 2) sc__ask_test.nd rfl (Or.inl rfl) pe_int)
      (pss_one (ps_for (passes_of rfl) rfl (pi_range1 rfl (free_range D) (pa_cons (pv 1) pa_nil)) (pg_name (i := 3) sc__ask_test.nd rfl (Or.inl rfl))
      (pss_cons (ps_set (i := 2) sc__ask_test.nd rfl (Or.inl rfl) (pe_op op_mulW (pv 2) (pv 0)))
      (pss_one (ps_if (pt_cmpR op_gt (pv 2) (pe_glob (v := .int 5000) rfl e_MOST_TESTS ⟨t_MOST_TESTS, rfl⟩) (nomark _))
      (pss_one (L2N.ps_raise rfl (L2N.takes_of rfl rfl rfl rfl) (pmk_oexN (oex_TooLarge (K := K) D) H_TooLarge_init (hr.mono (by omega)) rfl (glo_TooLarge D) (pa_cons pe_str pa_nil))))
      pss_nil)))))), ?_⟩
    refine seq_cut (fun σ' H1 => H1 = H ∧ σ' = [some (.int (many : Int)), some (.int (L : Int)), some (.int ((1 : Nat) : Int)), none]) (fun nx q => q _ _ ⟨rfl, rfl⟩) ?_
    rintro σ' H1 ⟨rfl, rfl⟩
    (try dsimp only)
    refine ⟨_, rfl, _, rfl, by omega, by omega, ?_⟩
    rw [Int.toNat_natCast]
    refine for_rangeP (D := { nx := fun x H' => Q .non H', rt := Q }) (fun σ' H2 => H2 = H1 ∧ many ^ L ≤ 5000) (fun i σ' H2 => ∃ (x3 : Option V), H2 = H1 ∧ i ≤ L ∧ many ^ i ≤ 5000 ∧ σ' = [some (.int (many : Int)), some (.int (L : Int)), some (.int ((many ^ i : Nat) : Int)), x3]) ⟨none, rfl, by omega, by simp, by simp⟩ (fun nx qn i σ' H2 hi h => ?_) (fun σ' H2 h => ?_) (fun σ' H2 h => ?_)
    · obtain ⟨x3, rfl, hi1, hle, rfl⟩ := h
      refine gName_of ?_
      (try dsimp only)
      have hp : many ^ (i + 1) = many ^ i * many := by rw [Nat.pow_succ]
      refine seq_cut (fun σ' H3 => H3 = H2 ∧ σ' = [some (.int (many : Int)), some (.int (L : Int)), some (.int ((many ^ (i + 1) : Nat) : Int)), some (.int (0 + (i : Int)))]) (fun nx2 q2 => ?_) ?_
      · refine ⟨_, rfl, _, rfl, _, _, rfl, rfl, mulW_of (a := 20) (b := 20) (by rw [Int.natAbs_natCast]; omega) (by rw [Int.natAbs_natCast]; omega) (by decide) (by decide) (by decide), ?_⟩
        exact q2 _ _ ⟨rfl, by rw [hp, Int.natCast_mul]; rfl⟩
      rintro σ' H3 ⟨rfl, rfl⟩
      (try dsimp only)
      refine ⟨_, rfl, _, _, rfl, rfl, _, rfl, ifD (fun c => ?_) (fun c => ?_)⟩
      · have c' : 5000 < many ^ (i + 1) := by
          have : ((5000 : Int)) < ((many ^ (i + 1) : Nat) : Int) := c
          omega
        have c2 : 5000 < many ^ L := Nat.lt_of_lt_of_le c' (Nat.pow_le_pow_right m0 (by omega))
        exact ⟨(by show 1 ≤ 1000; decide), fun e he => ⟨e, _, rfl, upd_same, fun d hd ne => ⟨rfl, d, [("what", .str "test")], upd_same, by rw [upd_ne ne]; exact upd_same, by rw [upd_ne ne] at hd; exact hd, raised_w (Gr.refl (Same.refl _)) (k2 c2) e he d hd ne⟩⟩⟩
      · refine ⟨_, rfl, by omega, ?_, rfl⟩
        have : ¬ ((5000 : Int)) < ((many ^ (i + 1) : Nat) : Int) := c
        omega
    · obtain ⟨x3, rfl, _, hle, _⟩ := h
      exact ⟨rfl, hle⟩
    · obtain ⟨rfl, hle⟩ := h
      exact k1 hle
end
end K

set_option Elab.async false
set_option linter.all false
set_option maxRecDepth 100000
set_option maxHeartbeats 4000000
set_option exponentiation.threshold 5000
namespace K
open PySem PySem.Spec PyProof.Rows L2 Tk Hd Mt
/-! ### whole numbers and fractions -/
abbrev cR (i : Int) : Rat := (i : Rat)
theorem cR_inj {a b : Int} : cR a = cR b ↔ a = b := Rat.intCast_inj
theorem cR_le {a b : Int} : cR a ≤ cR b ↔ a ≤ b := Rat.intCast_le_intCast
theorem cR_lt {a b : Int} : cR a < cR b ↔ a < b := Rat.intCast_lt_intCast
theorem cR_add (a b : Int) : cR (a + b) = cR a + cR b := Rat.intCast_add a b
theorem cR_mul (a b : Int) : cR (a * b) = cR a * cR b := Rat.intCast_mul a b
theorem cR_zero : cR 0 = 0 := rfl
theorem rt_cR (a : Int) : rt a 1 = cR a := by unfold rt; rw [Rat.divInt_eq_div]; show (a : Rat) / ((1 : Int) : Rat) = (a : Rat); simp; grind
theorem rt_div (a b : Int) : rt a b = cR a / cR b := by unfold rt; rw [Rat.divInt_eq_div]
theorem S_snoc_sum : ∀ (l : List Int), cR l.sum = S l.length (fun i => cR (l.getD i 0)) := by
  intro l
  have : ∀ (r : List Int), cR (r.reverse.sum) = S r.length (fun i => cR (r.reverse.getD i 0)) := by
    intro r
    induction r with
    | nil => rfl
    | cons x r ih =>
      rw [List.reverse_cons, List.sum_append_int, List.sum_singleton, cR_add, ih, List.length_cons]
      show _ = S r.length _ + _
      congr 1
      · refine S_congr fun i hi => ?_
        rw [List.getD_eq_getElem?_getD, List.getD_eq_getElem?_getD, List.getElem?_append_left (by rw [List.length_reverse]; exact hi)]
      · show _ = cR ((r.reverse ++ [x]).getD r.length 0)
        rw [List.getD_eq_getElem?_getD, List.getElem?_append_right (by rw [List.length_reverse]; exact Nat.le_refl _), List.length_reverse, Nat.sub_self]; rfl
  have h := this l.reverse
  rw [List.reverse_reverse, List.length_reverse] at h
  exact h
/-- a weight as a whole number -/
def wI (q : Rat) (b : Nat) : Int := q.num * ((b : Int) / (q.den : Int))
theorem wI_cast {q : Rat} {b : Nat} (h : q.den ∣ b) : cR (wI q b) = q * cR (b : Int) := by
  obtain ⟨c, rfl⟩ := h
  have hd := q.den_pos
  unfold wI
  rw [Int.natCast_mul, Int.mul_ediv_cancel_left _ (by omega), cR_mul, cR_mul]
  have e : cR q.num = q * cR (q.den : Int) := by
    have e1 : cR q.num / cR (q.den : Int) = q := by rw [← rt_div]; exact rt_self q
    have e2 : cR (q.den : Int) ≠ 0 := fun h => by
      have : cR (q.den : Int) = cR 0 := h
      rw [cR_inj] at this; omega
    have h3 := Rat.div_mul_cancel (a := cR q.num) e2
    rw [e1] at h3
    exact h3.symm
  rw [e]; grind
theorem S_one {n k : Nat} (hk : k < n) (f : Nat → Rat) : S n (fun i => if i = k then f i else 0) = f k := by
  induction n with
  | zero => omega
  | succ n ih =>
    show S n _ + _ = _
    by_cases h : k = n
    · subst h
      have : S k (fun i => if i = k then f i else 0) = 0 := by
        rw [S_congr (g := fun _ => 0) fun i hi => if_neg (by omega), S_zero]
      rw [this]; show 0 + (if k = k then f k else 0) = f k; rw [if_pos rfl]; grind
    · rw [ih (by omega)]; show f k + (if n = k then f n else 0) = f k; rw [if_neg (by omega)]; grind
theorem fsum {p : Nat → Bool} {g : Nat → Nat × Int} {h : Nat × Int → Int} : ∀ m, cR ((((List.range m).filter p).map g).map h).sum = S m (fun i => if p i = true then cR (h (g i)) else 0)
  | 0 => rfl
  | m + 1 => by
    rw [List.range_succ, List.filter_append, List.map_append, List.map_append, List.sum_append_int, cR_add, fsum m]
    show _ = S m _ + _
    congr 1
    show _ = if p m = true then cR (h (g m)) else 0
    by_cases hp : p m = true
    · rw [List.filter_cons_of_pos hp, if_pos hp, List.filter_nil]; simp
    · rw [List.filter_cons_of_neg hp, if_neg hp, List.filter_nil]; rfl
theorem wI_zero {q : Rat} {b : Nat} (h : ¬ q.num ≠ 0) : wI q b = 0 := by
  unfold wI; rw [Decidable.not_not.mp h, Int.zero_mul]
/-- a column's sum -/
theorem dot_cast {ns : List Int} {rows : Rows} {ahead b j : Nat} : cR (dotC ns (colOf rows ahead b j)) = S rows.length (fun i => cR (ns.getD (ahead + i) 0) * cR (wI (gq (gl rows i) j) b)) := by
  unfold dotC colOf
  rw [fsum]
  refine S_congr fun i _ => ?_
  by_cases h : (gq (gl rows i) j).num ≠ 0
  · rw [if_pos (decide_eq_true h), cR_mul]; rfl
  · rw [if_neg (by rw [decide_eq_false h]; exact Bool.false_ne_true), wI_zero h, cR_zero, Rat.mul_zero]
theorem stepC_len (ms : List Int) (p : Nat × Int) : (stepC ms p).length = ms.length := by unfold stepC; rw [List.length_set]
theorem addC_len : ∀ (col : Col) (ms : List Int), (addC ms col).length = ms.length
  | [], _ => rfl
  | p :: r, ms => by show (addC (stepC ms p) r).length = _; rw [addC_len r, stepC_len]
theorem stepC_at {ms : List Int} {p : Nat × Int} {i : Nat} (hi : i < ms.length) : (stepC ms p).getD i 0 = ms.getD i 0 + (if p.1 = i then p.2 else 0) := by
  unfold stepC
  rw [List.getD_eq_getElem?_getD, List.getElem?_set]
  by_cases h : p.1 = i
  · subst h; rw [if_pos rfl, if_pos hi, if_pos rfl]; rfl
  · rw [if_neg h, if_neg h, Int.add_zero, List.getD_eq_getElem?_getD]
theorem addC_at : ∀ (col : Col) {ms : List Int} {i : Nat}, i < ms.length → (addC ms col).getD i 0 = ms.getD i 0 + (col.map fun p => if p.1 = i then p.2 else 0).sum
  | [], ms, i, _ => by show ms.getD i 0 = _; simp
  | p :: r, ms, i, hi => by
    show (addC (stepC ms p) r).getD i 0 = _
    rw [addC_at r (by rw [stepC_len]; exact hi), stepC_at hi, List.map_cons, List.sum_cons]; omega
theorem leave_at : ∀ (cols : List Col) {ms : List Int} {i : Nat}, i < ms.length → cR ((cols.foldl addC ms).getD i 0) = cR (ms.getD i 0) + tot (cols.map fun col => cR (col.map fun p => if p.1 = i then p.2 else 0).sum)
  | [], ms, i, _ => by show cR (ms.getD i 0) = _ + 0; grind
  | col :: r, ms, i, hi => by
    show cR ((r.foldl addC (addC ms col)).getD i 0) = _
    rw [leave_at r (by rw [addC_len]; exact hi), addC_at col hi, List.map_cons, tot_cons, cR_add]; grind
theorem tot_rangeS (n : Nat) (g : Nat → Rat) : tot ((List.range n).map g) = S n g := by
  unfold tot
  rw [List.length_map, List.length_range]
  refine S_congr fun i hi => gq_of ?_
  rw [List.getElem?_map, List.getElem?_range hi]; rfl
/-- what a table's columns give to a state -/
theorem cols_part {rows : Rows} {ahead b i : Nat} : tot ((colsOf rows ahead b).map fun col => cR (col.map fun p => if p.1 = i then p.2 else 0).sum) =
    if ahead ≤ i ∧ i < ahead + rows.length then S rows.length (fun k => cR (wI (gq (gl rows (i - ahead)) k) b)) else 0 := by
  unfold colsOf
  rw [List.map_map, tot_rangeS]
  have e : ∀ k, cR (((colOf rows ahead b k).map fun p => if p.1 = i then p.2 else 0).sum) = if ahead ≤ i ∧ i < ahead + rows.length then cR (wI (gq (gl rows (i - ahead)) k) b) else 0 := fun k => by
    unfold colOf
    rw [fsum]
    have e2 : ∀ s, (if decide ((gq (gl rows s) k).num ≠ 0) = true then cR (if ahead + s = i then (gq (gl rows s) k).num * ((b : Int) / ((gq (gl rows s) k).den : Int)) else 0) else 0) = if s = i - ahead then (if ahead ≤ i then cR (wI (gq (gl rows s) k) b) else 0) else 0 := fun s => by
      by_cases h : (gq (gl rows s) k).num ≠ 0
      · rw [if_pos (decide_eq_true h)]
        by_cases h2 : ahead + s = i
        · rw [if_pos h2, if_pos (by omega), if_pos (by omega)]; rfl
        · rw [if_neg h2]
          by_cases h3 : s = i - ahead
          · rw [if_pos h3, if_neg (by omega)]; rfl
          · rw [if_neg h3]; rfl
      · rw [if_neg (by rw [decide_eq_false h]; exact Bool.false_ne_true), wI_zero h]
        split
        · split <;> rfl
        · rfl
    rw [S_congr fun s _ => e2 s]
    by_cases h : ahead ≤ i ∧ i < ahead + rows.length
    · rw [if_pos h, S_one (by omega), if_pos h.1]
    · rw [if_neg h]
      rw [S_congr (g := fun _ => 0) fun s hs => by
        by_cases h3 : s = i - ahead
        · rw [if_pos h3, if_neg (by omega)]
        · rw [if_neg h3], S_zero]
  by_cases h : ahead ≤ i ∧ i < ahead + rows.length
  · rw [if_pos h]
    exact S_congr fun k _ => by show cR _ = _; rw [e k, if_pos h]
  · rw [if_neg h]
    rw [S_congr (g := fun _ => 0) fun k _ => by show cR _ = _; rw [e k, if_neg h], S_zero]
end K

set_option Elab.async false
set_option linter.all false
set_option maxRecDepth 100000
set_option maxHeartbeats 4000000
set_option exponentiation.threshold 5000
namespace K
open PySem PySem.Spec PyProof.Rows L2 Tk Hd Mt
theorem S_le {n : Nat} {f g : Nat → Rat} (h : ∀ i, i < n → f i ≤ g i) : S n f ≤ S n g := by
  induction n with
  | zero => exact Rat.le_refl
  | succ n ih =>
    show S n f + f n ≤ S n g + g n
    have h1 := ih fun i hi => h i (by omega)
    have h2 := h n (by omega)
    grind
theorem S_nn {n : Nat} {f : Nat → Rat} (h : ∀ i, i < n → 0 ≤ f i) : 0 ≤ S n f := by
  have := S_le (f := fun _ => 0) (g := f) h
  rwa [S_zero] at this
/-- one of them is at most the sum -/
theorem S_mem {n k : Nat} {f : Nat → Rat} (h : ∀ i, i < n → 0 ≤ f i) (hk : k < n) : f k ≤ S n f := by
  have := S_le (f := fun i => if i = k then f i else 0) (g := f) (n := n) fun i hi => by
    by_cases e : i = k
    · rw [if_pos e]; exact Rat.le_refl
    · rw [if_neg e]; exact h i hi
  rwa [S_one hk] at this
theorem Gd.nn {N B : Nat} {q : Rat} (h : Gd N B q) : 0 ≤ q := by
  have h1 := h.nonneg
  rw [← Rat.num_nonneg]; exact h1
/-- the weights behind a step -/
def stp (M : Ma) (n : Nat) (w : Nat → Rat) (x : Nat × Nat) : Nat → Rat := fun k => S n (fun s => w s * wt M x.1 x.2 s k)
/-- two machines whose fractions have bottoms that divide b -/
structure Pb (A B : Ma) (n1 n2 bs as N b : Nat) : Prop where
  dA : MDv A n1 bs as N
  dB : MDv B n2 bs as N
  b0 : 0 < b
  bN : b ∣ N
  n0 : 0 < N
  n16 : N < 2 ^ 16
  bq : ∀ q ∈ flatW A ++ flatW B, q.den ∣ b
theorem Pb.b16 {A B : Ma} {n1 n2 bs as N b : Nat} (h : Pb A B n1 n2 bs as N b) : b < 2 ^ 16 := Nat.lt_of_le_of_lt (Nat.le_of_dvd h.n0 h.bN) h.n16
theorem MDv.wd {M : Ma} {n bs as N b : Nat} (h : MDv M n bs as N) (hq : ∀ q ∈ flatW M, q.den ∣ b) {i j s k : Nat} (hi : i < bs) (hj : j < as) (hs : s < n) (hk : k < n) : (wt M i j s k).den ∣ b := by
  have t := h.tab hq hi hj
  have e3 := h.ok.l3 i j hi hj
  have e4 := h.ok.l4 i j s hi hj hs
  have hr : gl (gl (gl M.2 i) j) s ∈ gl (gl M.2 i) j := gl_mem' (by rw [e3]; exact hs)
  exact ((t.row _ hr).2 _ (List.mem_of_getElem? (gq_lt (by rw [e4]; exact hk)))).1
theorem MDv.wc {M : Ma} {n bs as N b : Nat} (h : MDv M n bs as N) (hq : ∀ q ∈ flatW M, q.den ∣ b) {i j s k : Nat} (hi : i < bs) (hj : j < as) (hs : s < n) (hk : k < n) : cR (wI (wt M i j s k) b) = wt M i j s k * cR (b : Int) :=
  wI_cast (h.wd hq hi hj hs hk)
theorem Pb.qA {A B : Ma} {n1 n2 bs as N b : Nat} (h : Pb A B n1 n2 bs as N b) : ∀ q ∈ flatW A, q.den ∣ b := fun q hq => h.bq q (List.mem_append_left _ hq)
theorem Pb.qB {A B : Ma} {n1 n2 bs as N b : Nat} (h : Pb A B n1 n2 bs as N b) : ∀ q ∈ flatW B, q.den ∣ b := fun q hq => h.bq q (List.mem_append_right _ hq)
/-- numbers that are c times as large -/
structure Rel (c : Rat) (n1 n2 : Nat) (ns : List Int) (wa wb : Nat → Rat) : Prop where
  len : ns.length = n1 + n2
  a : ∀ i, i < n1 → cR (ns.getD i 0) = c * wa i
  b : ∀ i, i < n2 → cR (ns.getD (n1 + i) 0) = c * wb i
/-- likelihoods that are c times as large -/
def RelL (c : Rat) (n1 : Nat) (ns : List Int) (x y : Rat) : Prop := cR (likeN ns n1 1) = c * x ∧ cR (likeN ns n1 2) = c * y
theorem like_S {ns : List Int} {n1 n2 : Nat} (h : ns.length = n1 + n2) : cR (likeN ns n1 1) = S n1 (fun i => cR (ns.getD i 0)) ∧ cR (likeN ns n1 2) = S n2 (fun i => cR (ns.getD (n1 + i) 0)) := by
  unfold likeN
  rw [if_pos rfl, if_neg (by decide), S_snoc_sum, S_snoc_sum, List.length_take, List.length_drop, h, Nat.min_eq_left (by omega), Nat.add_sub_cancel_left]
  refine ⟨S_congr fun i hi => ?_, S_congr fun i hi => ?_⟩
  · rw [List.getD_eq_getElem?_getD, List.getD_eq_getElem?_getD, List.getElem?_take, if_pos hi]
  · rw [List.getD_eq_getElem?_getD, List.getD_eq_getElem?_getD, List.getElem?_drop]
theorem Rel.likes {c : Rat} {n1 n2 : Nat} {ns : List Int} {wa wb : Nat → Rat} (h : Rel c n1 n2 ns wa wb) : RelL c n1 ns (S n1 wa) (S n2 wb) := by
  obtain ⟨e1, e2⟩ := like_S h.len
  refine ⟨?_, ?_⟩
  · rw [e1, ← S_mul]; exact S_congr h.a
  · rw [e2, ← S_mul]; exact S_congr h.b
theorem Rel.self {n1 n2 : Nat} {ns : List Int} (h : ns.length = n1 + n2) : Rel 1 n1 n2 ns (fun i => cR (ns.getD i 0)) (fun i => cR (ns.getD (n1 + i) 0)) := ⟨h, fun _ _ => by grind, fun _ _ => by grind⟩
theorem next_at {ns : List Int} {cols : List Col} {k : Nat} (h : k < cols.length) : (nextN ns cols).getD k 0 = dotC ns (cols.getD k []) := by
  unfold nextN
  rw [List.getD_eq_getElem?_getD, List.getElem?_map, List.getD_eq_getElem?_getD, List.getElem?_eq_getElem h]; rfl
theorem stpOf_at {A B : Ma} {n1 b i j k : Nat} (l : (gl (gl A.2 i) j).length = n1) :
    (k < n1 → (stpOf A B n1 b i j).2.getD k [] = colOf (gl (gl A.2 i) j) 0 b k) ∧ (k < (gl (gl B.2 i) j).length → (stpOf A B n1 b i j).2.getD (n1 + k) [] = colOf (gl (gl B.2 i) j) n1 b k) := by
  unfold stpOf colsOf
  refine ⟨fun h => ?_, fun h => ?_⟩
  · rw [List.getD_eq_getElem?_getD, List.getElem?_append_left (by rw [List.length_map, List.length_range, l]; exact h), List.getElem?_map, List.getElem?_range (by rw [l]; exact h)]; rfl
  · rw [List.getD_eq_getElem?_getD, List.getElem?_append_right (by rw [List.length_map, List.length_range, l]; omega), List.length_map, List.length_range, l, Nat.add_sub_cancel_left, List.getElem?_map, List.getElem?_range h]; rfl
section
variable {A B : Ma} {n1 n2 bs as N b : Nat}
theorem Rel.next (p : Pb A B n1 n2 bs as N b) {c : Rat} {ns : List Int} {wa wb : Nat → Rat} (h : Rel c n1 n2 ns wa wb) {i j : Nat} (hi : i < bs) (hj : j < as) :
    Rel (c * cR (b : Int)) n1 n2 (nextN ns (stpOf A B n1 b i j).2) (stp A n1 wa (i, j)) (stp B n2 wb (i, j)) := by
  have so := stp_ok (b := b) p.dA p.dB hi hj
  have lA := p.dA.ok.l3 i j hi hj
  have lB := p.dB.ok.l3 i j hi hj
  refine ⟨by unfold nextN; rw [List.length_map, so.1], fun k hk => ?_, fun k hk => ?_⟩
  · rw [next_at (by rw [so.1]; omega), (stpOf_at lA).1 hk, dot_cast, lA]
    unfold stp
    rw [← S_mul]
    refine S_congr fun s hs => ?_
    rw [Nat.zero_add, h.a s hs]
    have := p.dA.wc p.qA hi hj hs hk
    unfold wt at this ⊢
    rw [this]; grind
  · rw [next_at (by rw [so.1]; omega), (stpOf_at lA).2 (by rw [lB]; exact hk), dot_cast, lB]
    unfold stp
    rw [← S_mul]
    refine S_congr fun s hs => ?_
    rw [h.b s hs]
    have := p.dB.wc p.qB hi hj hs hk
    unfold wt at this ⊢
    rw [this]; grind
/-- what leaves a state, as fractions -/
theorem leave_cast (p : Pb A B n1 n2 bs as N b) {i j : Nat} (hi : i < bs) (hj : j < as) :
    (leaveN (stpOf A B n1 b i j).2.length (stpOf A B n1 b i j).2).length = n1 + n2 ∧
    (∀ s, s < n1 → cR ((leaveN (stpOf A B n1 b i j).2.length (stpOf A B n1 b i j).2).getD s 0) = S n1 (wt A i j s) * cR (b : Int)) ∧
    (∀ s, s < n2 → cR ((leaveN (stpOf A B n1 b i j).2.length (stpOf A B n1 b i j).2).getD (n1 + s) 0) = S n2 (wt B i j s) * cR (b : Int)) := by
  have so := stp_ok (b := b) p.dA p.dB hi hj
  have lA := p.dA.ok.l3 i j hi hj
  have lB := p.dB.ok.l3 i j hi hj
  rw [so.1]
  have ll : (leaveN (n1 + n2) (stpOf A B n1 b i j).2).length = n1 + n2 := by
    unfold leaveN
    have : ∀ (cols : List Col) (ms : List Int), (cols.foldl addC ms).length = ms.length := by
      intro cols
      induction cols with
      | nil => intro ms; rfl
      | cons c r ih => intro ms; show (r.foldl addC (addC ms c)).length = _; rw [ih, addC_len]
    rw [this, List.length_replicate]
  have rep : ∀ s, s < n1 + n2 → (List.replicate (n1 + n2) (0 : Int)).getD s 0 = 0 := fun s hs => by rw [List.getD_eq_getElem?_getD, List.getElem?_replicate, if_pos hs]; rfl
  have part : ∀ s, s < n1 + n2 → cR ((leaveN (n1 + n2) (stpOf A B n1 b i j).2).getD s 0) = (if 0 ≤ s ∧ s < 0 + (gl (gl A.2 i) j).length then S (gl (gl A.2 i) j).length (fun k => cR (wI (gq (gl (gl (gl A.2 i) j) (s - 0)) k) b)) else 0) + (if n1 ≤ s ∧ s < n1 + (gl (gl B.2 i) j).length then S (gl (gl B.2 i) j).length (fun k => cR (wI (gq (gl (gl (gl B.2 i) j) (s - n1)) k) b)) else 0) := fun s hs => by
    unfold leaveN
    rw [leave_at _ (by rw [List.length_replicate]; exact hs), rep s hs, cR_zero, Rat.zero_add]
    show tot (List.map _ (colsOf _ 0 b ++ colsOf _ n1 b)) = _
    rw [List.map_append, tot_app, cols_part, cols_part]
  refine ⟨ll, fun s hs => ?_, fun s hs => ?_⟩
  · rw [part s (by omega), if_pos (by omega), if_neg (by omega), lA, ← S_mulr, Rat.add_zero]
    exact S_congr fun k hk => p.dA.wc p.qA hi hj hs hk
  · rw [part (n1 + s) (by omega), if_neg (by omega), if_pos (by omega), lB, ← S_mulr, Rat.zero_add, Nat.add_sub_cancel_left]
    exact S_congr fun k hk => p.dB.wc p.qB hi hj hs hk
theorem mul_at {ns ls : List Int} {k : Nat} (h : k < ns.length) : (mulN ns ls).getD k 0 = ns.getD k 0 * ls.getD k 0 := by
  unfold mulN
  rw [List.getD_eq_getElem?_getD, List.getElem?_map, List.getElem?_range h]; rfl
theorem stp_sum (M : Ma) (n : Nat) (w : Nat → Rat) (x : Nat × Nat) : S n (stp M n w x) = S n (fun s => w s * S n (wt M x.1 x.2 s)) := by
  unfold stp
  rw [S_comm]
  exact S_congr fun s _ => by rw [S_mul]
theorem Rel.last (p : Pb A B n1 n2 bs as N b) {c : Rat} {ns : List Int} {wa wb : Nat → Rat} (h : Rel c n1 n2 ns wa wb) {i j : Nat} (hi : i < bs) (hj : j < as) :
    RelL (c * cR (b : Int)) n1 (mulN ns (leaveN (stpOf A B n1 b i j).2.length (stpOf A B n1 b i j).2)) (S n1 (stp A n1 wa (i, j))) (S n2 (stp B n2 wb (i, j))) := by
  obtain ⟨l0, l1, l2⟩ := leave_cast p hi hj
  have hl : (mulN ns (leaveN (stpOf A B n1 b i j).2.length (stpOf A B n1 b i j).2)).length = n1 + n2 := by unfold mulN; rw [List.length_map, List.length_range]; exact h.len
  obtain ⟨e1, e2⟩ := like_S hl
  unfold RelL
  rw [e1, e2, stp_sum, stp_sum, ← S_mul, ← S_mul]
  refine ⟨S_congr fun s hs => ?_, S_congr fun s hs => ?_⟩
  · rw [mul_at (by rw [h.len]; omega), cR_mul, h.a s hs, l1 s hs]; grind
  · rw [mul_at (by rw [h.len]; omega), cR_mul, h.b s hs, l2 s hs]; grind
end
end K

set_option Elab.async false
set_option linter.all false
set_option maxRecDepth 100000
set_option maxHeartbeats 4000000
set_option exponentiation.threshold 5000
namespace K
open PySem PySem.Spec PyProof.Rows L2 Tk Hd Mt
theorem Gd.le {N B : Nat} {q : Rat} (h : Gd N B q) : q ≤ cR (B : Int) := by
  obtain ⟨n, a, ha, rfl⟩ := h
  have hN : (0 : Rat) < cR (N : Int) := by have : cR 0 < cR (N : Int) := cR_lt.mpr (by omega); exact this
  refine Rat.le_of_mul_le_mul_right ?_ hN
  rw [rt_div, Rat.div_mul_cancel (fun h => by rw [h] at hN; exact Rat.lt_irrefl hN), ← cR_mul]
  refine cR_le.mpr ?_
  rw [← Int.natCast_mul]; omega
theorem fm_at (as : Nat) (f : Nat → Nat → Stp) {i j : Nat} (hj : j < as) : ∀ n, i < n → ((List.range n).flatMap fun i => (List.range as).map (f i))[i * as + j]? = some (f i j)
  | 0, h => by omega
  | n + 1, h => by
    rw [List.range_succ, List.flatMap_append]
    by_cases hi : i < n
    · rw [List.getElem?_append_left]
      · exact fm_at as f hj n hi
      · rw [fm_len as f n]
        have := Nat.mul_le_mul_right as (show i + 1 ≤ n from hi)
        rw [Nat.succ_mul] at this; omega
    · have e : i = n := by omega
      subst e
      rw [List.getElem?_append_right (by rw [fm_len as f i]; omega), fm_len as f i, Nat.add_sub_cancel_left]
      show ((List.range as).map (f i) ++ [])[j]? = _
      rw [List.append_nil, List.getElem?_map, List.getElem?_range hj]; rfl
abbrev prOf (A B : Ma) (n1 b bs as : Nat) : List (List Sp2) := chunks as bs ((stepsOf A B n1 b bs as).map withL)
section
variable {A B : Ma} {n1 n2 bs as N b : Nat}
theorem pr_len : (prOf A B n1 b bs as).length = bs := by unfold prOf chunks; rw [List.length_map, List.length_range]
theorem pr_at {i : Nat} (hi : i < bs) : gl (prOf A B n1 b bs as) i = (List.range as).map fun j => withL (stpOf A B n1 b i j) := by
  have h1 : gl (prOf A B n1 b bs as) i = ((((stepsOf A B n1 b bs as).map withL).drop (i * as)).take as) := gl_of (by unfold prOf chunks; rw [List.getElem?_map, List.getElem?_range hi]; rfl)
  rw [h1]
  refine List.ext_getElem? fun j => ?_
  rw [List.getElem?_take]
  by_cases hj : j < as
  · rw [if_pos hj, List.getElem?_drop, List.getElem?_map, List.getElem?_map, List.getElem?_range hj]
    unfold stepsOf
    rw [fm_at as (fun i j => stpOf A B n1 b i j) hj bs hi]; rfl
  · rw [if_neg hj, List.getElem?_eq_none (by rw [List.length_map, List.length_range]; omega)]
theorem pr_mem {ss : List Sp2} (h : ss ∈ prOf A B n1 b bs as) : ∃ i, i < bs ∧ ss = (List.range as).map fun j => withL (stpOf A B n1 b i j) := by
  obtain ⟨i, hi, e⟩ := List.getElem_of_mem h
  have hi' : i < bs := by rw [pr_len] at hi; exact hi
  refine ⟨i, hi', ?_⟩
  rw [← pr_at hi', ← e]
  exact (gl_of (List.getElem?_eq_getElem hi)).symm
theorem MDv.g1 {M : Ma} {n : Nat} (h : MDv M n bs as N) {i j s k : Nat} (hi : i < bs) (hj : j < as) (hs : s < n) (hk : k < n) : 0 ≤ wt M i j s k ∧ wt M i j s k ≤ 1 := by
  have g := h.ok.g1 i j s k hi hj hs hk
  exact ⟨Gd.nn g, Gd.le g⟩
/-- what leaves a state with one answer is at most 1 -/
theorem MDv.row1 {M : Ma} {n : Nat} (h : MDv M n bs as N) {i j s : Nat} (hi : i < bs) (hj : j < as) (hs : s < n) : 0 ≤ S n (wt M i j s) ∧ S n (wt M i j s) ≤ 1 := by
  have nn : ∀ a, a < as → 0 ≤ S n (wt M i a s) := fun a ha => S_nn fun k hk => (h.g1 hi ha hs hk).1
  refine ⟨nn j hj, ?_⟩
  have := S_mem (f := fun a => S n (wt M i a s)) (n := as) (k := j) nn hj
  rw [h.ok.s1 i s hi hs] at this
  exact this
theorem cR_b (p : Pb A B n1 n2 bs as N b) : (0 : Rat) < cR (b : Int) := by
  have : cR 0 < cR (b : Int) := cR_lt.mpr (by have := p.b0; omega)
  exact this
theorem wI_abs {q : Rat} (hd : q.den ∣ b) (h0 : 0 ≤ q) (h1 : q ≤ 1) (hb : (0 : Rat) < cR (b : Int)) : 0 ≤ wI q b ∧ wI q b ≤ (b : Int) := by
  have e := wI_cast hd
  refine ⟨?_, ?_⟩
  · rw [← cR_le, e]; exact Rat.mul_nonneg h0 (Rat.le_of_lt hb)
  · rw [← cR_le, e]
    have := Rat.mul_le_mul_of_nonneg_right h1 (Rat.le_of_lt hb)
    rwa [Rat.one_mul] at this
theorem pr_ok (p : Pb A B n1 n2 bs as N b) : PrOk n1 (n1 + n2) (prOf A B n1 b bs as) := by
  have q1 := p.dA.ok.n1
  have q2 := p.dB.ok.n1
  have b16 := p.b16
  have hb := cR_b p
  refine ⟨by omega, by omega, by rw [pr_len]; exact p.dA.ok.b0, by rw [pr_len]; exact p.dA.ok.b1, fun ss h => ?_, fun ss h => ?_, fun ss h st hs => ?_, fun ss h st hs col hc => ?_, fun ss h st hs x hx => ?_⟩
  · obtain ⟨i, hi, rfl⟩ := pr_mem h
    rw [List.length_map, List.length_range]; exact p.dA.ok.a1
  · obtain ⟨i, hi, rfl⟩ := pr_mem h
    rw [List.length_map, List.length_range]; exact p.dA.ok.a0
  · obtain ⟨i, hi, rfl⟩ := pr_mem h
    obtain ⟨j, hj, rfl⟩ := List.mem_map.mp hs
    have hj := List.mem_range.mp hj
    exact ⟨(stp_ok p.dA p.dB hi hj).1, (leave_cast p hi hj).1⟩
  · obtain ⟨i, hi, rfl⟩ := pr_mem h
    obtain ⟨j, hj, rfl⟩ := List.mem_map.mp hs
    have hj := List.mem_range.mp hj
    have so := (stp_ok (b := b) p.dA p.dB hi hj).2 col hc
    refine ⟨by omega, fun x hx => ⟨so.2 x hx, ?_⟩⟩
    have lA := p.dA.ok.l3 i j hi hj
    have lB := p.dB.ok.l3 i j hi hj
    have hc' : col ∈ colsOf (gl (gl A.2 i) j) 0 b ++ colsOf (gl (gl B.2 i) j) n1 b := hc
    rcases List.mem_append.mp hc' with hc' | hc'
    · obtain ⟨k, hk, rfl⟩ := List.mem_map.mp hc'
      obtain ⟨s, hs, rfl⟩ := ((colOf_ok (ahead := 0) (b := b) (j := k) lA).2 x hx).2.2
      have hk : k < n1 := by rw [← lA]; exact List.mem_range.mp hk
      have := wI_abs (p.dA.wd p.qA hi hj hs hk) (p.dA.g1 hi hj hs hk).1 (p.dA.g1 hi hj hs hk).2 hb
      show (wI (wt A i j s k) b).natAbs < _
      omega
    · obtain ⟨k, hk, rfl⟩ := List.mem_map.mp hc'
      obtain ⟨s, hs, rfl⟩ := ((colOf_ok (ahead := n1) (b := b) (j := k) lB).2 x hx).2.2
      have hk : k < n2 := by rw [← lB]; exact List.mem_range.mp hk
      have := wI_abs (p.dB.wd p.qB hi hj hs hk) (p.dB.g1 hi hj hs hk).1 (p.dB.g1 hi hj hs hk).2 hb
      show (wI (wt B i j s k) b).natAbs < _
      omega
  · obtain ⟨i, hi, rfl⟩ := pr_mem h
    obtain ⟨j, hj, rfl⟩ := List.mem_map.mp hs
    have hj := List.mem_range.mp hj
    obtain ⟨l0, l1, l2⟩ := leave_cast p hi hj
    obtain ⟨s, hs, e⟩ := List.getElem_of_mem hx
    have hs' : s < n1 + n2 := by rw [← l0]; exact hs
    have ex : (leaveN (stpOf A B n1 b i j).2.length (stpOf A B n1 b i j).2).getD s 0 = x := by
      show (withL (stpOf A B n1 b i j)).2.getD s 0 = x
      rw [List.getD_eq_getElem?_getD, List.getElem?_eq_getElem hs]; exact e
    have fin : ∀ q : Rat, 0 ≤ q → q ≤ 1 → cR x = q * cR (b : Int) → x.natAbs < 2 ^ 21 := fun q h0 h1 e => by
      have a1 : 0 ≤ x := by rw [← cR_le, e]; exact Rat.mul_nonneg h0 (Rat.le_of_lt hb)
      have a2 : x ≤ (b : Int) := by
        rw [← cR_le, e]
        have := Rat.mul_le_mul_of_nonneg_right h1 (Rat.le_of_lt hb)
        rwa [Rat.one_mul] at this
      omega
    by_cases hs1 : s < n1
    · have := l1 s hs1
      rw [ex] at this
      exact fin _ (p.dA.row1 hi hj hs1).1 (p.dA.row1 hi hj hs1).2 this
    · have := l2 (s - n1) (by omega)
      rw [show n1 + (s - n1) = s from by omega, ex] at this
      exact fin _ (p.dB.row1 hi hj (by omega)).1 (p.dB.row1 hi hj (by omega)).2 this
theorem stp_nn {M : Ma} {n : Nat} (h : MDv M n bs as N) {w : Nat → Rat} (hw : ∀ i, i < n → 0 ≤ w i) {i j : Nat} (hi : i < bs) (hj : j < as) : ∀ k, k < n → 0 ≤ stp M n w (i, j) k :=
  fun k hk => S_nn fun s hs => Rat.mul_nonneg (hw s hs) (h.g1 hi hj hs hk).1
theorem stp_le {M : Ma} {n : Nat} (h : MDv M n bs as N) {w : Nat → Rat} (hw : ∀ i, i < n → 0 ≤ w i) {i j : Nat} (hi : i < bs) (hj : j < as) : S n (stp M n w (i, j)) ≤ S n w := by
  rw [stp_sum]
  refine S_le fun s hs => ?_
  have := Rat.mul_le_mul_of_nonneg_left (h.row1 hi hj hs).2 (hw s hs)
  rwa [Rat.mul_one] at this
/-- all answers to one press -/
theorem stp_all {M : Ma} {n : Nat} (h : MDv M n bs as N) (w : Nat → Rat) {i : Nat} (hi : i < bs) : S as (fun j => S n (stp M n w (i, j))) = S n w := by
  rw [S_congr fun j _ => stp_sum M n w (i, j), S_comm]
  refine S_congr fun s hs => ?_
  rw [S_mul, h.ok.s1 i s hi hs, Rat.mul_one]
theorem sum_likes {ns : List Int} {n1 : Nat} : ns.sum = likeN ns n1 1 + likeN ns n1 2 := by
  unfold likeN
  rw [if_pos rfl, if_neg (by decide), ← List.sum_append_int, List.take_append_drop]
theorem pr_s (p : Pb A B n1 n2 bs as N b) : PrS b (n1 + n2) (prOf A B n1 b bs as) := by
  have hb := cR_b p
  refine ⟨p.b0, Nat.lt_trans p.b16 (by decide), fun ss h st hst ns S' l hn => ?_⟩
  obtain ⟨i, hi, rfl⟩ := pr_mem h
  obtain ⟨j, hj, rfl⟩ := List.mem_map.mp hst
  have hj := List.mem_range.mp hj
  obtain ⟨h1, h2, h3⟩ := hn
  have rel := Rel.self h1
  have nna : ∀ i, i < n1 → 0 ≤ cR (ns.getD i 0) := fun i hi => by
    have : cR 0 ≤ cR (ns.getD i 0) := cR_le.mpr (h2 _ (by rw [List.getD_eq_getElem?_getD, List.getElem?_eq_getElem (show i < ns.length by omega)]; exact List.getElem_mem _))
    exact this
  have nnb : ∀ i, i < n2 → 0 ≤ cR (ns.getD (n1 + i) 0) := fun i hi => by
    have : cR 0 ≤ cR (ns.getD (n1 + i) 0) := cR_le.mpr (h2 _ (by rw [List.getD_eq_getElem?_getD, List.getElem?_eq_getElem (show n1 + i < ns.length by omega)]; exact List.getElem_mem _))
    exact this
  have likes := rel.likes
  have key : ∀ ms : List Int, ms.length = n1 + n2 → (∀ k, k < n1 + n2 → 0 ≤ cR (ms.getD k 0)) → RelL (1 * cR (b : Int)) n1 ms (S n1 (stp A n1 (fun i => cR (ns.getD i 0)) (i, j))) (S n2 (stp B n2 (fun i => cR (ns.getD (n1 + i) 0)) (i, j))) → Sn (n1 + n2) (b * S') ms := fun ms hl nn r => by
    refine ⟨hl, fun x hx => ?_, ?_⟩
    · obtain ⟨k, hk, e⟩ := List.getElem_of_mem hx
      have := nn k (by omega)
      rw [List.getD_eq_getElem?_getD, List.getElem?_eq_getElem hk] at this
      rw [← e]
      exact cR_le.mp this
    · rw [sum_likes (n1 := n1)]
      rw [sum_likes (n1 := n1)] at h3
      rw [← cR_le, cR_add, r.1, r.2, Int.natCast_mul, cR_mul]
      have h4 := cR_le.mpr h3
      rw [cR_add, likes.1, likes.2] at h4
      have a1 := stp_le p.dA nna hi hj
      have a2 := stp_le p.dB nnb hi hj
      have h5 : S n1 (stp A n1 (fun i => cR (ns.getD i 0)) (i, j)) + S n2 (stp B n2 (fun i => cR (ns.getD (n1 + i) 0)) (i, j)) ≤ cR (S' : Int) := by grind
      have := Rat.mul_le_mul_of_nonneg_left h5 (Rat.le_of_lt hb)
      grind
  have neg : ∀ {ms : List Int} {wa wb : Nat → Rat}, Rel (1 * cR (b : Int)) n1 n2 ms wa wb → (∀ k, k < n1 → 0 ≤ wa k) → (∀ k, k < n2 → 0 ≤ wb k) → ∀ k, k < n1 + n2 → 0 ≤ cR (ms.getD k 0) := fun {ms wa wb} r ha hb' k hk => by
    have c0 : (0 : Rat) ≤ 1 * cR (b : Int) := by rw [Rat.one_mul]; exact Rat.le_of_lt hb
    by_cases hk1 : k < n1
    · rw [r.a k hk1]; exact Rat.mul_nonneg c0 (ha k hk1)
    · have := r.b (k - n1) (by omega)
      rw [show n1 + (k - n1) = k from by omega] at this
      rw [this]; exact Rat.mul_nonneg c0 (hb' _ (by omega))
  unfold behM
  cases l with
  | false =>
    rw [if_neg Bool.false_ne_true]
    have r := rel.next p hi hj
    exact key _ r.len (neg r (stp_nn p.dA nna hi hj) (stp_nn p.dB nnb hi hj)) r.likes
  | true =>
    rw [if_pos rfl]
    have hl : (mulN ns (leaveN (stpOf A B n1 b i j).2.length (stpOf A B n1 b i j).2)).length = n1 + n2 := by unfold mulN; rw [List.length_map, List.length_range]; exact h1
    obtain ⟨l0, l1, l2⟩ := leave_cast p hi hj
    refine key _ hl (fun k hk => ?_) (rel.last p hi hj)
    show 0 ≤ cR ((mulN ns (leaveN (stpOf A B n1 b i j).2.length (stpOf A B n1 b i j).2)).getD k 0)
    rw [mul_at (by omega), cR_mul]
    by_cases hk1 : k < n1
    · rw [l1 k hk1]; exact Rat.mul_nonneg (nna k hk1) (Rat.mul_nonneg (p.dA.row1 hi hj hk1).1 (Rat.le_of_lt hb))
    · have := l2 (k - n1) (by omega)
      rw [show n1 + (k - n1) = k from by omega] at this
      have e := nnb (k - n1) (by omega)
      rw [show n1 + (k - n1) = k from by omega] at e
      rw [this]; exact Rat.mul_nonneg e (Rat.mul_nonneg (p.dB.row1 hi hj (by omega)).1 (Rat.le_of_lt hb))
end
end K

set_option Elab.async false
set_option linter.all false
set_option maxRecDepth 100000
set_option maxHeartbeats 4000000
set_option exponentiation.threshold 5000
namespace K
open PySem PySem.Spec PyProof.Rows L2 Tk Hd Mt
/-! ### the best plan, by fractions -/
def rpick (acc : Option (Rat × Da)) (b : Nat) (found : List (Rat × Da)) : Option (Rat × Da) :=
  match acc with
  | none => some (tot (found.map Prod.fst), pressD b (found.map Prod.snd))
  | some (m, p) => if m < tot (found.map Prod.fst) then some (tot (found.map Prod.fst), pressD b (found.map Prod.snd)) else some (m, p)
def roverB (rec : Nat → Nat → Rat × Da) (as i : Nat) : Option (Rat × Da) := (List.range i).foldl (fun acc b => rpick acc b ((List.range as).map (rec b))) none
def rbest (A B : Ma) (n1 n2 bs as : Nat) : Nat → (Nat → Rat) → (Nat → Rat) → Rat × Da
  | 0, wa, wb => if S n2 wb ≤ S n1 wa then (S n1 wa, sayD 1) else (S n2 wb, sayD 2)
  | L + 1, wa, wb => (roverB (fun i j => rbest A B n1 n2 bs as L (stp A n1 wa (i, j)) (stp B n2 wb (i, j))) as bs).getD (0, .non)
def rright (A B : Ma) (n1 n2 : Nat) : Nat → (Nat → Rat) → (Nat → Rat) → Da → Rat
  | _ + 1, wa, wb, .tup [.str _, .int k] => if k = 1 then S n1 wa else S n2 wb
  | L + 1, wa, wb, .tup [_, .int bt, .tup ps] => tot ((List.range ps.length).map fun i => rright A B n1 n2 L (stp A n1 wa (bt.toNat, i)) (stp B n2 wb (bt.toNat, i)) (ps.getD i .non))
  | _, _, _, _ => 0
/-- plans of just so many presses -/
def PlX (bs as : Nat) : Nat → Da → Prop
  | 0, d => d = sayD 1 ∨ d = sayD 2
  | L + 1, d => ∃ (bt : Nat) (ps : List Da), d = pressD bt ps ∧ bt < bs ∧ ps.length = as ∧ ∀ p ∈ ps, PlX bs as L p
theorem roverB_succ {rec : Nat → Nat → Rat × Da} {as i : Nat} : roverB rec as (i + 1) = rpick (roverB rec as i) i ((List.range as).map (rec i)) := by
  unfold roverB; rw [List.range_succ, List.foldl_append]; rfl
theorem rover_spec {rec : Nat → Nat → Rat × Da} {as : Nat} : ∀ i, 0 < i → ∃ k, k < i ∧ roverB rec as i = some (S as (fun a => (rec k a).1), pressD k ((List.range as).map fun a => (rec k a).2)) ∧ ∀ j, j < i → S as (fun a => (rec j a).1) ≤ S as (fun a => (rec k a).1)
  | 0, h => by omega
  | i + 1, _ => by
    have e1 : ∀ j, tot (((List.range as).map (rec j)).map Prod.fst) = S as (fun a => (rec j a).1) := fun j => by rw [List.map_map]; exact tot_rangeS as _
    have e2 : ∀ j, ((List.range as).map (rec j)).map Prod.snd = (List.range as).map fun a => (rec j a).2 := fun j => by rw [List.map_map]; rfl
    rw [roverB_succ]
    by_cases h0 : i = 0
    · subst h0
      refine ⟨0, by omega, ?_, fun j hj => by rw [show j = 0 from by omega]; exact Rat.le_refl⟩
      show some _ = _
      rw [e1, e2]
    · obtain ⟨k, hk, e, mx⟩ := rover_spec (rec := rec) (as := as) i (by omega)
      rw [e]
      by_cases hlt : S as (fun a => (rec k a).1) < S as (fun a => (rec i a).1)
      · refine ⟨i, by omega, ?_, fun j hj => ?_⟩
        · unfold rpick; dsimp only; rw [e1, e2, if_pos hlt]
        · by_cases hji : j = i
          · subst hji; exact Rat.le_refl
          · exact Rat.le_trans (mx j (by omega)) (Rat.le_of_lt hlt)
      · refine ⟨k, by omega, ?_, fun j hj => ?_⟩
        · unfold rpick; dsimp only; rw [e1, if_neg hlt]
        · by_cases hji : j = i
          · subst hji; exact Rat.not_lt.mp hlt
          · exact mx j (by omega)
theorem rbest_succ {A B : Ma} {n1 n2 bs as L : Nat} {wa wb : Nat → Rat} (h : 0 < bs) : ∃ k, k < bs ∧
    rbest A B n1 n2 bs as (L + 1) wa wb = (S as (fun a => (rbest A B n1 n2 bs as L (stp A n1 wa (k, a)) (stp B n2 wb (k, a))).1), pressD k ((List.range as).map fun a => (rbest A B n1 n2 bs as L (stp A n1 wa (k, a)) (stp B n2 wb (k, a))).2)) ∧
    ∀ j, j < bs → S as (fun a => (rbest A B n1 n2 bs as L (stp A n1 wa (j, a)) (stp B n2 wb (j, a))).1) ≤ (rbest A B n1 n2 bs as (L + 1) wa wb).1 := by
  obtain ⟨k, hk, e, mx⟩ := rover_spec (rec := fun i j => rbest A B n1 n2 bs as L (stp A n1 wa (i, j)) (stp B n2 wb (i, j))) (as := as) bs h
  have e' : rbest A B n1 n2 bs as (L + 1) wa wb = (S as (fun a => (rbest A B n1 n2 bs as L (stp A n1 wa (k, a)) (stp B n2 wb (k, a))).1), pressD k ((List.range as).map fun a => (rbest A B n1 n2 bs as L (stp A n1 wa (k, a)) (stp B n2 wb (k, a))).2)) := by
    rw [rbest, e]; rfl
  exact ⟨k, hk, e', fun j hj => by rw [e']; exact mx j hj⟩
theorem rbest_plx {A B : Ma} {n1 n2 bs as : Nat} (h : 0 < bs) : ∀ L wa wb, PlX bs as L (rbest A B n1 n2 bs as L wa wb).2
  | 0, wa, wb => by
    unfold rbest
    split
    · exact .inl rfl
    · exact .inr rfl
  | L + 1, wa, wb => by
    obtain ⟨k, hk, e, _⟩ := rbest_succ (A := A) (B := B) (n1 := n1) (n2 := n2) (as := as) (L := L) (wa := wa) (wb := wb) h
    rw [e]
    refine ⟨k, _, rfl, hk, by rw [List.length_map, List.length_range], fun p hp => ?_⟩
    obtain ⟨a, _, rfl⟩ := List.mem_map.mp hp
    exact rbest_plx h L _ _
theorem rbest_bounds {A B : Ma} {n1 n2 bs as N : Nat} (dA : MDv A n1 bs as N) (dB : MDv B n2 bs as N) : ∀ L wa wb, (∀ i, i < n1 → 0 ≤ wa i) → (∀ i, i < n2 → 0 ≤ wb i) →
    S n1 wa ≤ (rbest A B n1 n2 bs as L wa wb).1 ∧ S n2 wb ≤ (rbest A B n1 n2 bs as L wa wb).1 ∧ (rbest A B n1 n2 bs as L wa wb).1 ≤ S n1 wa + S n2 wb
  | 0, wa, wb, ha, hb => by
    have h1 := S_nn ha
    have h2 := S_nn hb
    unfold rbest
    split
    · exact ⟨Rat.le_refl, by assumption, by show S n1 wa ≤ _; grind⟩
    · rename_i h
      have h := Rat.not_le.mp h
      exact ⟨Rat.le_of_lt h, Rat.le_refl, by show S n2 wb ≤ _; grind⟩
  | L + 1, wa, wb, ha, hb => by
    obtain ⟨k, hk, e, mx⟩ := rbest_succ (A := A) (B := B) (n1 := n1) (n2 := n2) (as := as) (L := L) (wa := wa) (wb := wb) dA.ok.b0
    have ih : ∀ i a, i < bs → a < as → _ := fun i a hi haa => rbest_bounds dA dB L (stp A n1 wa (i, a)) (stp B n2 wb (i, a)) (stp_nn dA ha hi haa) (stp_nn dB hb hi haa)
    have m0 := mx 0 dA.ok.b0
    refine ⟨Rat.le_trans ?_ m0, Rat.le_trans ?_ m0, ?_⟩
    · rw [← stp_all dA wa dA.ok.b0]; exact S_le fun a haa => (ih 0 a dA.ok.b0 haa).1
    · rw [← stp_all dB wb dA.ok.b0]; exact S_le fun a haa => (ih 0 a dA.ok.b0 haa).2.1
    · rw [e, ← stp_all dA wa hk, ← stp_all dB wb hk, ← S_add]
      exact S_le fun a haa => (ih k a hk haa).2.2
theorem rright_best {A B : Ma} {n1 n2 bs as : Nat} (h : 0 < bs) : ∀ L wa wb, rright A B n1 n2 (L + 1) wa wb (rbest A B n1 n2 bs as L wa wb).2 = (rbest A B n1 n2 bs as L wa wb).1
  | 0, wa, wb => by
    unfold rbest
    split
    · show (if (1 : Int) = 1 then _ else _) = _; rw [if_pos rfl]
    · show (if (2 : Int) = 1 then _ else _) = _; rw [if_neg (by decide)]
  | L + 1, wa, wb => by
    obtain ⟨k, hk, e, _⟩ := rbest_succ (A := A) (B := B) (n1 := n1) (n2 := n2) (as := as) (L := L) (wa := wa) (wb := wb) h
    rw [e]
    show tot ((List.range _).map _) = _
    rw [List.length_map, List.length_range, tot_rangeS]
    refine S_congr fun a ha => ?_
    rw [List.getD_eq_getElem?_getD, List.getElem?_map, List.getElem?_range ha, Int.toNat_natCast]
    exact rright_best h L _ _
theorem sum_tot (l : List Int) : cR l.sum = tot (l.map cR) := by
  induction l with
  | nil => rfl
  | cons x r ih => rw [List.sum_cons, cR_add, ih, List.map_cons, tot_cons]
section
variable {A B : Ma} {n1 n2 bs as N b : Nat}
theorem plx_ok {L : Nat} : ∀ {d : Da}, PlX bs as L d → PlOk (prOf A B n1 b bs as) (L + 1) d := by
  induction L with
  | zero =>
    intro d h
    rcases h with rfl | rfl
    · exact .inl ⟨1, rfl, .inl rfl⟩
    · exact .inl ⟨2, rfl, .inr rfl⟩
  | succ L ih =>
    rintro d ⟨bt, ps, rfl, hb, hl, hp⟩
    exact .inr ⟨bt, ps, rfl, by rw [pr_len]; exact hb, by rw [pr_at hb, List.length_map, List.length_range]; exact hl, fun p h => ih (hp p h)⟩
/-- two values, one K times as large, and one plan -/
def ORel (K : Rat) : Option (Int × Da) → Option (Rat × Da) → Prop
  | none, none => True
  | some p, some q => cR p.1 = K * q.1 ∧ p.2 = q.2
  | _, _ => False
theorem lt_scale {K x y : Rat} {a b : Int} (hK : 0 < K) (h1 : cR a = K * x) (h2 : cR b = K * y) : a < b ↔ x < y := by
  rw [← cR_lt, h1, h2, Rat.mul_lt_mul_left hK]
theorem le_scale {K x y : Rat} {a b : Int} (hK : 0 < K) (h1 : cR a = K * x) (h2 : cR b = K * y) : a ≤ b ↔ x ≤ y := by
  have := lt_scale hK h2 h1
  constructor
  · intro h; exact Rat.not_lt.mp fun q => by have := this.mpr q; omega
  · intro h
    refine Int.not_lt.mp fun q => ?_
    have := this.mp q
    exact absurd h (Rat.not_le.mpr this)
theorem pick_rel {K : Rat} (hK : 0 < K) {o : Option (Int × Da)} {o' : Option (Rat × Da)} (h : ORel K o o') {i : Nat} {f : List (Int × Da)} {f' : List (Rat × Da)} (e1 : cR (f.map Prod.fst).sum = K * tot (f'.map Prod.fst)) (e2 : f.map Prod.snd = f'.map Prod.snd) : ORel K (pickB o i f) (rpick o' i f') := by
  cases o with
  | none =>
    cases o' with
    | none => exact ⟨e1, by show pressD _ _ = pressD _ _; rw [e2]⟩
    | some q => exact h.elim
  | some p =>
    cases o' with
    | none => exact h.elim
    | some q =>
      obtain ⟨m, P⟩ := p
      obtain ⟨m', P'⟩ := q
      obtain ⟨h1, h2⟩ := h
      dsimp only at h1 h2
      unfold pickB rpick
      dsimp only
      have := lt_scale hK h1 e1
      by_cases c : m < (f.map Prod.fst).sum
      · rw [if_pos c, if_pos (this.mp c)]; exact ⟨e1, by show pressD _ _ = pressD _ _; rw [e2]⟩
      · rw [if_neg c, if_neg (fun q => c (this.mpr q))]; exact ⟨h1, h2⟩
theorem best_rel (p : Pb A B n1 n2 bs as N b) : ∀ (L : Nat) (c : Rat) (ns : List Int) (wa wb : Nat → Rat), 0 < c → (L = 0 → RelL c n1 ns (S n1 wa) (S n2 wb)) → (0 < L → Rel c n1 n2 ns wa wb) →
    cR (bestM n1 (prOf A B n1 b bs as) L ns).1 = c * cR (b : Int) ^ L * (rbest A B n1 n2 bs as L wa wb).1 ∧ (bestM n1 (prOf A B n1 b bs as) L ns).2 = (rbest A B n1 n2 bs as L wa wb).2
  | 0, c, ns, wa, wb, hc, h0, _ => by
    obtain ⟨r1, r2⟩ := h0 rfl
    have := le_scale hc r2 r1
    unfold bestM rbest
    rw [Rat.pow_zero, Rat.mul_one]
    by_cases q : likeN ns n1 2 ≤ likeN ns n1 1
    · rw [if_pos q, if_pos (this.mp q)]; exact ⟨r1, rfl⟩
    · rw [if_neg q, if_neg (fun z => q (this.mpr z))]; exact ⟨r2, rfl⟩
  | L + 1, c, ns, wa, wb, hc, _, h1 => by
    have rel := h1 (by omega)
    have hb := cR_b p
    have hK : 0 < c * cR (b : Int) ^ (L + 1) := Rat.mul_pos hc (Rat.pow_pos hb)
    have hcb : 0 < c * cR (b : Int) := Rat.mul_pos hc hb
    have ih : ∀ i j, i < bs → j < as → _ := fun i j hi hj => best_rel p L (c * cR (b : Int)) (behM ns (withL (stpOf A B n1 b i j)) (decide (L = 0))) (stp A n1 wa (i, j)) (stp B n2 wb (i, j)) hcb
      (fun h => by subst h; exact rel.last p hi hj)
      (fun h => by
        unfold behM
        rw [if_neg (by rw [decide_eq_false (by omega)]; exact Bool.false_ne_true)]
        exact rel.next p hi hj)
    have over : ∀ i, i ≤ bs → ORel (c * cR (b : Int) ^ (L + 1)) (overB (prOf A B n1 b bs as) (fun st => bestM n1 (prOf A B n1 b bs as) L (behM ns st (decide (L = 0)))) i)
        (roverB (fun i j => rbest A B n1 n2 bs as L (stp A n1 wa (i, j)) (stp B n2 wb (i, j))) as i) := fun i => by
      induction i with
      | zero => intro _; exact trivial
      | succ i ihi =>
        intro hi
        rw [overB_succ, roverB_succ]
        refine pick_rel hK (ihi (by omega)) ?_ ?_
        · rw [sum_tot, pr_at (show i < bs by omega), List.map_map, List.map_map, List.map_map, List.map_map, tot_rangeS, tot_rangeS, ← S_mul]
          refine S_congr fun j hj => ?_
          show cR (bestM n1 _ L _).1 = _ * (rbest A B n1 n2 bs as L _ _).1
          rw [(ih i j (by omega) hj).1, Rat.pow_succ]; grind
        · rw [pr_at (show i < bs by omega), List.map_map, List.map_map, List.map_map]
          refine List.map_congr_left fun j hj => ?_
          exact (ih i j (by omega) (List.mem_range.mp hj)).2
    have o := over bs (Nat.le_refl _)
    unfold bestM rbest
    rw [pr_len]
    obtain ⟨k, hk, e, _⟩ := rover_spec (rec := fun i j => rbest A B n1 n2 bs as L (stp A n1 wa (i, j)) (stp B n2 wb (i, j))) (as := as) bs p.dA.ok.b0
    rw [e] at o ⊢
    cases q : overB (prOf A B n1 b bs as) (fun st => bestM n1 (prOf A B n1 b bs as) L (behM ns st (decide (L = 0)))) bs with
    | none => rw [q] at o; exact o.elim
    | some z => rw [q] at o; exact o
theorem right_rel (p : Pb A B n1 n2 bs as N b) : ∀ (L : Nat) (c : Rat) (ns : List Int) (wa wb : Nat → Rat) (d : Da), PlOk (prOf A B n1 b bs as) (L + 1) d → (isSay d = true → RelL c n1 ns (S n1 wa) (S n2 wb)) → (isSay d = false → Rel c n1 n2 ns wa wb) →
    rightM n1 b (prOf A B n1 b bs as) (L + 1) ns d = c * rright A B n1 n2 (L + 1) wa wb d
  | L, c, ns, wa, wb, d, hp, h0, h1 => by
    rcases hp with ⟨k, rfl, hk⟩ | ⟨bt, ps, rfl, hb, hl, hq⟩
    · obtain ⟨r1, r2⟩ := h0 (by show decide (("say" : Str) = "say") = true; decide +kernel)
      show cR (likeN ns n1 k) = c * (if k = 1 then S n1 wa else S n2 wb)
      rcases hk with rfl | rfl
      · rw [if_pos rfl]; exact r1
      · rw [if_neg (by decide)]; exact r2
    · rw [pr_len] at hb
      rw [pr_at hb, List.length_map, List.length_range] at hl
      have rel := h1 (by show decide (("press" : Str) = "say") = false; decide +kernel)
      have hcb := cR_b p
      cases L with
      | zero =>
        cases ps with
        | nil => have := p.dA.ok.a0; have e0 : ([] : List Da).length = 0 := rfl; omega
        | cons q r => exact (hq q List.mem_cons_self).elim
      | succ L =>
        show tot _ * rt 1 b = c * tot _
        rw [tot_rangeS, tot_rangeS, ← S_mulr, ← S_mul]
        refine S_congr fun j hj => ?_
        rw [Int.toNat_natCast, pr_at hb]
        have hj' : j < as := by omega
        have est : stAt ((List.range as).map fun j => withL (stpOf A B n1 b bt j)) j = withL (stpOf A B n1 b bt j) := by
          unfold stAt
          rw [List.getD_eq_getElem?_getD, List.getElem?_map, List.getElem?_range hj']; rfl
        rw [est]
        have hpm := hq _ (show ps.getD j .non ∈ ps by rw [List.getD_eq_getElem?_getD, List.getElem?_eq_getElem hj]; exact List.getElem_mem _)
        have ih := right_rel p L (c * cR (b : Int)) (behM ns (withL (stpOf A B n1 b bt j)) (isSay (ps.getD j .non))) (stp A n1 wa (bt, j)) (stp B n2 wb (bt, j)) (ps.getD j .non) hpm
          (fun h => by rw [h]; exact rel.last p hb hj')
          (fun h => by rw [h]; unfold behM; rw [if_neg Bool.false_ne_true]; exact rel.next p hb hj')
        rw [ih, rt_div]
        have hne : cR (b : Int) ≠ 0 := fun h => by rw [h] at hcb; exact Rat.lt_irrefl hcb
        have e1 : cR 1 / cR (b : Int) * cR (b : Int) = cR 1 := Rat.div_mul_cancel hne
        have : cR 1 = 1 := rfl
        rw [this] at e1 ⊢
        grind
end
end K

set_option Elab.async false
set_option linter.all false
set_option maxRecDepth 100000
set_option maxHeartbeats 4000000
set_option exponentiation.threshold 5000
namespace K
open PySem PySem.Spec PyProof.Rows L2 Tk Hd Mt
section
variable {A B : Ma} {n1 n2 bs as N b : Nat}
theorem cR_pos {n : Nat} (h : 0 < n) : (0 : Rat) < cR (n : Int) := by
  have : cR 0 < cR (n : Int) := cR_lt.mpr (by omega)
  exact this
theorem gd_le1 {M : Ma} {n : Nat} (h : MDv M n bs as N) {i : Nat} (hi : i < n) : 0 ≤ gq M.1 i ∧ gq M.1 i ≤ 1 := ⟨Gd.nn (h.ok.g0 i hi), Gd.le (h.ok.g0 i hi)⟩
theorem start_rel {st : List Int × Nat} (h : IsWh (A.1 ++ B.1) N st) (lA : A.1.length = n1) (lB : B.1.length = n2) : Rel (cR (st.2 : Int)) n1 n2 st.1 (gq A.1) (gq B.1) := by
  obtain ⟨s0, sN, sl, hs⟩ := h
  have len : st.1.length = n1 + n2 := by rw [sl, List.length_append, lA, lB]
  have one : ∀ (i : Nat) (q : Rat), i < n1 + n2 → (A.1 ++ B.1)[i]? = some q → cR (st.1.getD i 0) = cR (st.2 : Int) * q := fun i q hi hq => by
    have hi' : i < st.1.length := by omega
    have := hs i q _ hq (List.getElem?_eq_getElem hi')
    rw [List.getD_eq_getElem?_getD, List.getElem?_eq_getElem hi']
    show cR (st.1[i]) = _
    have e := congrArg cR this
    rw [cR_mul, cR_mul] at e
    have e1 : cR q.num / cR (q.den : Int) = q := by rw [← rt_div]; exact rt_self q
    have e2 : cR (q.den : Int) ≠ 0 := fun h => by
      have : cR (q.den : Int) = cR 0 := h
      rw [cR_inj] at this; have := q.den_pos; omega
    have h3 := Rat.div_mul_cancel (a := cR q.num) e2
    rw [e1] at h3
    have e4 : cR (st.1[i]) * cR (q.den : Int) = (cR (st.2 : Int) * q) * cR (q.den : Int) := by rw [e, ← h3]; grind
    have e5 := Rat.mul_div_cancel (a := cR (st.1[i])) e2
    rw [e4, Rat.mul_div_cancel e2] at e5
    exact e5.symm
  refine ⟨len, fun i hi => one i _ (by omega) (by rw [List.getElem?_append_left (by omega)]; exact gq_lt (by omega)), fun i hi => one (n1 + i) _ (by omega) (by rw [List.getElem?_append_right (by omega), lA, Nat.add_sub_cancel_left]; exact gq_lt (by omega))⟩
theorem start_le {st : List Int × Nat} (h : IsWh (A.1 ++ B.1) N st) (dA : MDv A n1 bs as N) (dB : MDv B n2 bs as N) : ∀ x ∈ st.1, 0 ≤ x ∧ x ≤ (st.2 : Int) := fun x hx => by
  have r := start_rel h dA.ok.l0 dB.ok.l0
  obtain ⟨i, hi, e⟩ := List.getElem_of_mem hx
  have ex : st.1.getD i 0 = x := by rw [List.getD_eq_getElem?_getD, List.getElem?_eq_getElem hi]; exact e
  have c0 : (0 : Rat) ≤ cR (st.2 : Int) := by have : cR 0 ≤ cR (st.2 : Int) := cR_le.mpr (by omega)
                                              exact this
  have fin : ∀ q : Rat, 0 ≤ q → q ≤ 1 → cR x = cR (st.2 : Int) * q → 0 ≤ x ∧ x ≤ (st.2 : Int) := fun q h0 h1 e => by
    refine ⟨?_, ?_⟩
    · rw [← cR_le, e]; exact Rat.mul_nonneg c0 h0
    · rw [← cR_le, e]
      have := Rat.mul_le_mul_of_nonneg_left h1 c0
      rwa [Rat.mul_one] at this
  have hl := r.len
  by_cases h1 : i < n1
  · have := r.a i h1
    rw [ex] at this
    exact fin _ (gd_le1 dA h1).1 (gd_le1 dA h1).2 this
  · have := r.b (i - n1) (by omega)
    rw [show n1 + (i - n1) = i from by omega, ex] at this
    exact fin _ (gd_le1 dB (by omega)).1 (gd_le1 dB (by omega)).2 this
theorem BoIs.pb {D : BoD} (h : BoIs A B n1 n2 bs as N D) (dA : MDv A n1 bs as N) (dB : MDv B n2 bs as N) (n0 : 0 < N) (n16 : N < 2 ^ 16) : Pb A B n1 n2 bs as N D.b := ⟨dA, dB, h.b0, h.bN, n0, n16, h.bq⟩
theorem start_bn {st : List Int × Nat} (h : IsWh (A.1 ++ B.1) N st) (dA : MDv A n1 bs as N) (dB : MDv B n2 bs as N) (n0 : 0 < N) (n16 : N < 2 ^ 16) : Bn (n1 + n2) 16 st.1 ∧ Sn (n1 + n2) (24 * N) st.1 := by
  have r := start_rel h dA.ok.l0 dB.ok.l0
  have sl := start_le h dA dB
  have s16 : st.2 ≤ N := Nat.le_of_dvd n0 h.2.1
  have q1 := dA.ok.n1
  have q2 := dB.ok.n1
  refine ⟨⟨r.len, fun x hx => by have := sl x hx; omega⟩, r.len, fun x hx => (sl x hx).1, ?_⟩
  have := sum_abs (l := st.1) (c := N) fun x hx => by have := sl x hx; omega
  have h2 : st.1.length * N ≤ 24 * N := Nat.mul_le_mul_right _ (by rw [r.len]; omega)
  omega
theorem cR_pow (b : Nat) : ∀ L, cR ((b ^ L : Nat) : Int) = cR (b : Int) ^ L
  | 0 => by rw [Nat.pow_zero, Rat.pow_zero]; rfl
  | L + 1 => by rw [Nat.pow_succ, Int.natCast_mul, cR_mul, cR_pow b L, Rat.pow_succ]
theorem fit_half {z : Int} {d : Nat} {q : Rat} (h0 : 0 < d) (h1 : d < 2 ^ 900) (e : rt z (d : Int) = q) (a : 0 ≤ q) (b : q ≤ 1) : Fit q := by
  subst e
  have g := gz_pos (n := z) (d := (d : Int)) (by omega)
  have e2 := rt_den (n := z) (d := (d : Int)) (by omega)
  have l2 : (d : Int) / gz z d ≤ d := Int.ediv_le_self _ (by omega)
  have hd : (rt z (d : Int)).den < 2 ^ 900 := by omega
  have hn0 : 0 ≤ (rt z (d : Int)).num := Rat.num_nonneg.mpr a
  have hn1 : (rt z (d : Int)).num ≤ ((rt z (d : Int)).den : Int) := by
    have hp := den_pos (rt z (d : Int))
    have e3 : cR (rt z (d : Int)).num = rt z (d : Int) * cR ((rt z (d : Int)).den : Int) := by
      have e1 : cR (rt z (d : Int)).num / cR ((rt z (d : Int)).den : Int) = rt z (d : Int) := by rw [← rt_div]; exact rt_self _
      have e2 : cR ((rt z (d : Int)).den : Int) ≠ 0 := fun h => by
        have : cR ((rt z (d : Int)).den : Int) = cR 0 := h
        rw [cR_inj] at this; omega
      have h3 := Rat.div_mul_cancel (a := cR (rt z (d : Int)).num) e2
      rw [e1] at h3
      exact h3.symm
    rw [← cR_le, e3]
    have := Rat.mul_le_mul_of_nonneg_right b (Rat.le_of_lt (cR_pos (n := (rt z (d : Int)).den) (by omega)))
    rwa [Rat.one_mul] at this
  exact ⟨by omega, hd⟩
theorem half_eq {s b L : Nat} {z : Int} {r : Rat} (hs : 0 < s) (hb : 0 < b) (h : cR z = cR (s : Int) * cR (b : Int) ^ L * r) : rt z ((2 * s * b ^ L : Nat) : Int) = r / 2 := by
  have h0 : 0 < 2 * s * b ^ L := Nat.mul_pos (by omega) (Nat.pow_pos hb)
  have hp := cR_pos h0
  have hne : cR ((2 * s * b ^ L : Nat) : Int) ≠ 0 := fun e => by rw [e] at hp; exact Rat.lt_irrefl hp
  have e1 : cR ((2 * s * b ^ L : Nat) : Int) = 2 * (cR (s : Int) * cR (b : Int) ^ L) := by
    rw [Int.natCast_mul, Int.natCast_mul, cR_mul, cR_mul, cR_pow]
    have : cR ((2 : Nat) : Int) = 2 := rfl
    rw [this]; grind
  have e2 : cR z = (r / 2) * cR ((2 * s * b ^ L : Nat) : Int) := by rw [h, e1]; grind
  rw [rt_div, e2, Rat.mul_div_cancel hne]
end
section
variable {P : Program} {w : World} {K : PySem.W.Frag} {mg : Str → Option Value} {base : Heap}
theorem ok_best41 (D : Dt K mg) : Has P w K mg base 45 (He.ma K (He.ga K "Trial") "best") ["self", "numbers", "length"] [] (spBs (CTr K) (CBo K) (CWh K) 41) := ok_best D 41
theorem ok_right41 (D : Dt K mg) : Has P w K mg base 46 (He.ma K (He.ga K "Trial") "right") ["self", "numbers", "plan"] [] (spRs (CR K) (CTr K) (CBo K) (CWh K) 41) := ok_right D 41
theorem Gr.tr {C5 C3 C4 : Addr} {I H I' H' : Hp} {y dy : Addr} {vb vp : V} {bo : BoD} {prs : List (List Sp2)} (s : Same I H) (ny : H y = none) (nd : H dy = none) (ne : dy ≠ y)
    (g : Gr [y] (upd I dy (.own y)) (upd (upd H dy (.own y)) y (.ins C5 dy [])) I' H') (h : H' y = some (.ins C5 dy (tf vb vp))) (r1 : iBo C3 C4 I' vb bo) (r2 : iL (iL iSt2) I' vp prs) :
    ∃ I2, Gr [] I H I2 H' ∧ iTr C5 C3 C4 I2 (.ref y) (bo, prs) := by
  obtain ⟨g1, hn⟩ := ob_new s ny nd ne g h
  exact ⟨_, g1, y, dy, vb, vp, rfl, upd_same, up (sNew hn) r1, up (sNew hn) r2⟩
def spBT (C C2 CT : Addr) : Sp := fun vs H Q E => ∃ (I : Hp) (v1 v2 : V) (A B : Ma) (n1 n2 bs as N L : Nat), vs = [v1, v2, .int (L : Int)] ∧ Same I H ∧ iM C C2 I v1 A ∧ iM C C2 I v2 B ∧ MDv A n1 bs as N ∧ MDv B n2 bs as N ∧ 0 < N ∧ N < 2 ^ 16 ∧ L ≤ 40 ∧
  ((bs * as) ^ L ≤ 5000 → Fit ((rbest A B n1 n2 bs as L (gq A.1) (gq B.1)).1 / 2) → Ret [] I H (iP (iR C) iDa) ((rbest A B n1 n2 bs as L (gq A.1) (gq B.1)).1 / 2, (rbest A B n1 n2 bs as L (gq A.1) (gq B.1)).2) Q) ∧ (5000 < (bs * as) ^ L → RaisedW [] I H CT "test" E)
theorem sc_best_test : FnScope ["one", "other", "length", "trial", "likely", "plan", "bottom", "_"] ["one", "other", "length"] (defScope s_best_test) := ⟨rfl, rfl, rfl, by decide +kernel, rfl, by decide +kernel, by decide +kernel⟩
theorem ok_btest (D : Dt K mg) : HasN P w K mg base 48 (He.ga K "best_test") ["one", "other", "length"] [] (spBT (CR K) (CM K) (CTL K)) := by
  obtain ⟨fd, F⟩ := fd_best_test D
  have H__ask_test := ok_askt (P := P) (w := w) (base := base) D
  have H_Machine_buttons := ok_mbuttons (P := P) (w := w) (base := base) D
  have H_Machine_answers := ok_manswers (P := P) (w := w) (base := base) D
  have H_Trial_init := ok_tinit (P := P) (w := w) (base := base) D
  have H_Trial_best := ok_best41 (P := P) (w := w) (base := base) D
  have H_Ratio_init := has_init (P := P) (w := w) (base := base) D
  refine hasXN F (F.bindsN fun _ _ _ _ _ _ us hl => match us, hl with | [_, _, _], _ => rfl) sc_best_test (fun vs H Q E h => ?_) (fun cdv A outer s H vs Q E hr h => ?_)
  · obtain ⟨I, v1, v2, A, B, n1, n2, bs, as, N, L, rfl, _⟩ := h; rfl
  · obtain ⟨I, v1, v2, A, B, n1, n2, bs, as, N, L, rfl, s0, rA, rB, dA, dB, n0, n16, hL, k1, k2⟩ := h
    refine ⟨_, (pss_cons (ps_expr (pe_callHN H__ask_test (hr.mono (by omega)) rfl (glo__ask_test D) (L2N.passes_call (L2N.takes_of rfl rfl rfl rfl) fun _ _ _ _ h => h) (pa_cons (pe_op op_mulW (pe_methH0 (pv 0) (cls_Machine (K := K) D) (me_Machine_buttons (K := K) D) H_Machine_buttons (hr.mono (by omega)) passL) (pe_methH0 (pv 0) (cls_Machine (K := K) D) (me_Machine_answers (K := K) D) H_Machine_answers (hr.mono (by omega)) passL)) (pa_cons (pv 2) pa_nil))))
      (pss_cons (ps_set (i := 3) sc_best_test.nd rfl (Or.inl rfl) (pe_makeH (mkr_Trial (K := K) D) H_Trial_init (hr.mono (by omega)) rfl (glo_Trial D) passL (pa_cons (pv 0) (pa_cons (pv 1) pa_nil))))
      (pss_cons (ps_asg (pe_methH (pv 3) (cls_Trial (K := K) D) (me_Trial_best (K := K) D) H_Trial_best (hr.mono (by omega)) passL (pa_cons (pe_fldK K (pe_fldK K (pe_fldK K (pv 3) rfl) rfl) rfl) (pa_cons (pv 2) pa_nil))) (pg_tupK K rfl (pgs_cons (pg_name (i := 4) sc_best_test.nd rfl (Or.inl rfl)) (pgs_cons (pg_name (i := 5) sc_best_test.nd rfl (Or.inl rfl)) pgs_nil))))
      (pss_cons (ps_set (i := 6) sc_best_test.nd rfl (Or.inl rfl) (pe_op op_mulW pe_int (pe_fldK K (pe_fldK K (pe_fldK K (pv 3) rfl) rfl) rfl)))
      (pss_cons (ps_for (passes_of rfl) rfl (pi_range1 rfl (free_range D) (pa_cons (pv 2) pa_nil)) (pg_name (i := 7) sc_best_test.nd rfl (Or.inl rfl))
      (pss_one (ps_set (i := 6) sc_best_test.nd rfl (Or.inl rfl) (pe_op op_mulW (pv 6) (pe_fldK K (pe_fldK K (pv 3) rfl) rfl)))))
      (pss_one (ps_ret (pe_tup (pa_cons (pe_makeH (mkr_Ratio (K := K) D) H_Ratio_init (hr.mono (by omega)) rfl (glo_Ratio D) passL (pa_cons (pv 4) (pa_cons (pv 6) pa_nil))) (pa_cons (pv 5) pa_nil)))))))))), ?_⟩
    obtain ⟨am, ad, va, vb, rfl, hma, rs, rm⟩ := id rA
    have bs4 := dA.ok.b1
    have as4 := dA.ok.a1
    have b0 := dA.ok.b0
    have a0 := dA.ok.a0
    have hbl : bs * as ≤ 4 * 4 := Nat.mul_le_mul bs4 as4
    refine seq_cut (fun σ' H1 => H1 = H ∧ σ' = [some (.ref am), some v2, some (.int (L : Int)), none, none, none, none, none] ∧ (bs * as) ^ L ≤ 5000) (fun nx q => ?_) ?_
    · refine ⟨_, rfl, am, ad, _, rfl, s0 _ _ hma, (mf_nos _ vb).2.1, I, .ref am, A, rfl, s0, rA, _, rfl, am, ad, _, rfl, s0 _ _ hma, (mf_nos _ vb).2.2, I, .ref am, A, rfl, s0, rA, by have := dA.ok.l1; omega, _, _, rfl, rfl, mulW_of (a := 20) (b := 20) (by rw [Int.natAbs_natCast, dA.ok.l1]; omega) (by rw [Int.natAbs_natCast, dA.ok.l2 0 b0]; omega) (by decide) (by decide) (by decide), _, rfl, ?_⟩
      rw [dA.ok.l1, dA.ok.l2 0 b0]
      refine ⟨bs * as, L, by rw [Int.natCast_mul]; rfl, Nat.mul_pos b0 a0, by omega, by omega, fun h => q _ _ ⟨rfl, rfl, h⟩, fun h I' H' d g hd => k2 h _ _ d (g.low s0) hd⟩
    rintro σ' H1 ⟨rfl, rfl, hle⟩
    (try dsimp only)
    have k := k1 hle
    clear k1 k2
    refine seq_cut (fun σ' H2 => ∃ (I2 : Hp) (y : Addr) (bo : BoD), σ' = [some (.ref am), some v2, some (.int (L : Int)), some (.ref y), none, none, none, none] ∧ Gr [] I H1 I2 H2 ∧ iTr (CTr K) (CBo K) (CWh K) I2 (.ref y) (bo, chunks as bs (bo.steps.map withL)) ∧ BoIs A B n1 n2 bs as N bo) (fun nx q => ?_) ?_
    · refine ⟨_, rfl, _, rfl, fun y dy ny nd ne => ?_⟩
      obtain ⟨p1, p2, p3⟩ := ob_pre (C2 := CTr K) s0 ny nd ne
      refine ⟨_, y, dy, .ref am, v2, A, B, n1, n2, bs, as, N, rfl, p1, p2, upd_same, up p3 rA, up p3 rB, dA, dB, n0, Nat.lt_trans n16 (by decide), fun I' H' vb vp bo g h rbo ibo rpr => ⟨rfl, ?_⟩⟩
      obtain ⟨I2, g1, r1⟩ := Gr.tr s0 ny nd ne g h rbo rpr
      exact q _ _ ⟨I2, y, bo, rfl, g1, r1, ibo⟩
    rintro σ' H2 ⟨I2, y, bo, rfl, g2, rT, ibo⟩
    (try dsimp only)
    obtain ⟨y', dy, vb', vp', ey, hy, rbo, rpr⟩ := id rT
    cases ey
    obtain ⟨o, od, vst, vt, rfl, ho, rst, rt'⟩ := id rbo
    obtain ⟨aw, dw, vn, rfl, hw, rn⟩ := id rst
    have pb := ibo.pb dA dB n0 n16
    obtain ⟨bn, sn⟩ := start_bn ibo.wh dA dB n0 n16
    have epr : chunks as bs (bo.steps.map withL) = prOf A B n1 bo.b bs as := by rw [ibo.st]
    have hb16 := pb.b16
    have hs16 : bo.st.2 ≤ N := Nat.le_of_dvd n0 ibo.wh.2.1
    have hs0 := ibo.wh.1
    have rel := start_rel ibo.wh dA.ok.l0 dB.ok.l0
    have hs20 : bo.st.2 < 2 ^ 20 := by omega
    have hb20 : bo.b < 2 ^ 20 := by omega
    obtain ⟨Zz, eV⟩ : ∃ Zz, Zz = bestM n1 (prOf A B n1 bo.b bs as) L bo.st.1 := ⟨_, rfl⟩
    refine seq_cut (fun σ' H3 => ∃ (I3 : Hp) (u : V), σ' = [some (.ref am), some v2, some (.int (L : Int)), some (.ref y), some (.int Zz.1), some u, none, none] ∧ Gr [] I2 H2 I3 H3 ∧ dR I3 u Zz.2) (fun nx q => ?_) ?_
    · refine ⟨_, rfl, y, dy, _, rfl, g2.ih _ _ hy, (by kernel_rfl), _, rfl, y, _, dy, _, _, rfl, g2.ih _ _ hy, cls_Trial D, na_Trial_both D, tf_look.1, o, _, od, _, _, rfl, g2.ih _ _ ho, cls_Both D, na_Both_start D, bf5_look.2.2.1, aw, _, dw, _, _, rfl, g2.ih _ _ hw, cls_Whole D, na_Whole_numbers D, wf_numbers, _, rfl, ?_⟩
      refine ⟨L, by omega, I2, y, vn, (bo, chunks as bs (bo.steps.map withL)), n1 + n2, 16, bo.st.1, rfl, g2.ih, rT, rn, ?_, bn, by omega, fun I3 H3 v3 g3 r3 => ?_⟩
      · rw [ibo.f]; show PrOk n1 (n1 + n2) (chunks as bs (bo.steps.map withL)); rw [epr]; exact pr_ok pb
      · obtain ⟨t, x3, y3, rfl, ht, rx, ry⟩ := r3
        have eM : bestM bo.f (chunks as bs (bo.steps.map withL)) L bo.st.1 = Zz := by rw [eV, ibo.f, epr]
        rw [show bestM (bo, chunks as bs (bo.steps.map withL)).1.f (bo, chunks as bs (bo.steps.map withL)).2 L bo.st.1 = Zz from eM] at rx ry
        cases (show x3 = V.int Zz.1 from rx)
        exact ⟨t, _, rfl, SqT.of (g3.ih _ _ ht), rfl, _, _, rfl, _, _, rfl, rfl, q _ _ ⟨I3, y3, rfl, g3, ry⟩⟩
    rintro σ' H3 ⟨I3, u, rfl, g3, ru⟩
    (try dsimp only)
    have hy3 := g3.ih _ _ (g3.ii _ _ hy)
    have ho3 := g3.ih _ _ (g3.ii _ _ ho)
    have hw3 := g3.ih _ _ (g3.ii _ _ hw)
    refine seq_cut (fun σ' H4 => H4 = H3 ∧ σ' = [some (.ref am), some v2, some (.int (L : Int)), some (.ref y), some (.int Zz.1), some u, some (.int ((2 * bo.st.2 * bo.b ^ 0 : Nat) : Int)), none]) (fun nx q => ?_) ?_
    · refine ⟨_, rfl, y, _, dy, _, _, rfl, hy3, cls_Trial D, na_Trial_both D, tf_look.1, o, _, od, _, _, rfl, ho3, cls_Both D, na_Both_start D, bf5_look.2.2.1, aw, _, dw, _, _, rfl, hw3, cls_Whole D, na_Whole_bottom D, wf_bottom, _, _, rfl, rfl, mulW_of (a := 20) (b := 20) (by decide) (by rw [Int.natAbs_natCast]; exact hs20) (by decide) (by decide) (by decide), ?_⟩
      exact q _ _ ⟨rfl, by rw [Nat.pow_zero, Nat.mul_one, Int.natCast_mul]; rfl⟩
    rintro σ' H4 ⟨rfl, rfl⟩
    (try dsimp only)
    have hpow : ∀ i, i ≤ L → 2 * bo.st.2 * bo.b ^ i < 2 ^ (18 + 16 * i) := fun i _ => by
      rw [Nat.pow_add]
      refine Nat.mul_lt_mul_of_lt_of_le (by omega) ?_ (Nat.pow_pos (by decide))
      rw [Nat.pow_mul]
      exact Nat.pow_le_pow_left (by omega) i
    refine seq_cut (fun σ' H5 => H5 = H4 ∧ ∃ x7 : Option V, σ' = [some (.ref am), some v2, some (.int (L : Int)), some (.ref y), some (.int Zz.1), some u, some (.int ((2 * bo.st.2 * bo.b ^ L : Nat) : Int)), x7]) (fun nx q => ?_) ?_
    · refine ⟨_, rfl, _, rfl, by omega, by omega, ?_⟩
      rw [Int.toNat_natCast]
      refine for_rangeP (D := { nx := nx, rt := Q }) (fun σ' H5 => H5 = H4 ∧ ∃ x7 : Option V, σ' = [some (.ref am), some v2, some (.int (L : Int)), some (.ref y), some (.int Zz.1), some u, some (.int ((2 * bo.st.2 * bo.b ^ L : Nat) : Int)), x7]) (fun i σ' H5 => H5 = H4 ∧ ∃ x7 : Option V, σ' = [some (.ref am), some v2, some (.int (L : Int)), some (.ref y), some (.int Zz.1), some u, some (.int ((2 * bo.st.2 * bo.b ^ i : Nat) : Int)), x7]) ⟨rfl, none, rfl⟩ (fun nx2 qn i σ' H5 hi h => ?_) (fun σ' H5 h => h) (fun σ' H5 h => q _ _ h)
      obtain ⟨rfl, x7, rfl⟩ := h
      refine gName_of ?_
      (try dsimp only)
      have h1 := hpow i (by omega)
      refine ⟨_, rfl, _, rfl, y, _, dy, _, _, rfl, hy3, cls_Trial D, na_Trial_both D, tf_look.1, o, _, od, _, _, rfl, ho3, cls_Both D, na_Both_bottom D, bf5_look.2.1, _, _, rfl, rfl, mulW_of (a := 18 + 16 * i) (b := 20) (by rw [Int.natAbs_natCast]; exact h1) (by rw [Int.natAbs_natCast]; exact hb20) (by omega) (by decide) (by omega), ?_⟩
      refine ⟨rfl, some (.int (0 + (i : Int))), ?_⟩
      rw [Nat.pow_succ, ← Nat.mul_assoc, Int.natCast_mul (2 * bo.st.2 * bo.b ^ i)]; rfl
    rintro σ' H5 ⟨rfl, x7, rfl⟩
    (try dsimp only)
    have hpos : 0 < 2 * bo.st.2 * bo.b ^ L := Nat.mul_pos (by omega) (Nat.pow_pos pb.b0)
    have hlt := hpow L (Nat.le_refl _)
    obtain ⟨br1, br2⟩ := best_rel pb L (cR (bo.st.2 : Int)) bo.st.1 (gq A.1) (gq B.1) (cR_pos hs0) (fun _ => rel.likes) (fun _ => rel)
    rw [← eV] at br1 br2
    have eq : rt Zz.1 ((2 * bo.st.2 * bo.b ^ L : Nat) : Int) = (rbest A B n1 n2 bs as L (gq A.1) (gq B.1)).1 / 2 := half_eq hs0 pb.b0 br1
    have rb := rbest_bounds dA dB L (gq A.1) (gq B.1) (fun i hi => (gd_le1 dA hi).1) (fun i hi => (gd_le1 dB hi).1)
    have sA : S n1 (gq A.1) = 1 := by have := dA.ok.s0; unfold Mt.tot at this; rw [dA.ok.l0] at this; exact this
    have sB : S n2 (gq B.1) = 1 := by have := dB.ok.s0; unfold Mt.tot at this; rw [dB.ok.l0] at this; exact this
    rw [sA, sB] at rb
    have ft : Fit ((rbest A B n1 n2 bs as L (gq A.1) (gq B.1)).1 / 2) := fit_half hpos (Nat.lt_of_lt_of_le hlt (Nat.pow_le_pow_right (by decide) (by omega))) eq (by grind) (by grind)
    refine ⟨_, rfl, _, rfl, fun z dz nz nd ne => ⟨z, dz, _, _, rfl, upd_same, ?_, fun _ => ⟨rfl, ?_⟩, fun h => absurd h (by omega)⟩⟩
    · show (((2 * bo.st.2 * bo.b ^ L : Nat) : Int)).natAbs < _
      rw [Int.natAbs_natCast]
      exact Nat.lt_of_lt_of_le hlt (Nat.pow_le_pow_right (by decide) (by omega))
    obtain ⟨g5, r5⟩ := rat_new (ms := []) (C := CR K) (q := rt Zz.1 ((2 * bo.st.2 * bo.b ^ L : Nat) : Int)) g3.ih nz nd ne
    refine ⟨_, rfl, (by show 2 ≤ sizeLine; decide), fun t ht => ?_⟩
    have g6 := Gr.new (ms := []) (o := .tup [.ref z, u]) g5.ih ht
    refine k ft _ _ (.ref t) ((g2.trans g3).trans (g5.trans g6)) ?_
    exact ⟨t, _, _, rfl, upd_same, up g6.ii (by rw [← eq]; exact r5), by rw [← br2]; exact dR_up (g5.ii.trans g6.ii) _ _ ru⟩
end
end K

set_option Elab.async false
set_option linter.all false
set_option maxRecDepth 100000
set_option maxHeartbeats 4000000
set_option exponentiation.threshold 5000
namespace K
open PySem PySem.Spec PyProof.Rows L2 Tk Hd Mt
/-- plans of at most so many presses -/
def PlS (bs as : Nat) : Nat → Da → Prop
  | 0, _ => False
  | L + 1, d => (∃ k : Int, d = sayD k ∧ (k = 1 ∨ k = 2)) ∨ ∃ (bt : Nat) (ps : List Da), d = pressD bt ps ∧ bt < bs ∧ ps.length = as ∧ ∀ p ∈ ps, PlS bs as L p
theorem PlX.s {bs as : Nat} : ∀ {L : Nat} {d : Da}, PlX bs as L d → PlS bs as (L + 1) d
  | 0, d, h => by
    rcases h with rfl | rfl
    · exact .inl ⟨1, rfl, .inl rfl⟩
    · exact .inl ⟨2, rfl, .inr rfl⟩
  | L + 1, d, ⟨bt, ps, e, hb, hl, hp⟩ => .inr ⟨bt, ps, e, hb, hl, fun p h => (hp p h).s⟩
theorem PlS.ok {A B : Ma} {n1 b bs as : Nat} : ∀ {L : Nat} {d : Da}, PlS bs as L d → PlOk (prOf A B n1 b bs as) L d
  | 0, d, h => h.elim
  | L + 1, d, h => by
    rcases h with h | ⟨bt, ps, rfl, hb, hl, hp⟩
    · exact .inl h
    · exact .inr ⟨bt, ps, rfl, by rw [pr_len]; exact hb, by rw [pr_at hb, List.length_map, List.length_range]; exact hl, fun p h => (hp p h).ok⟩
theorem half_eq2 {s : Nat} {q r : Rat} (hs : 0 < s) (h : q = cR (s : Int) * r) : q * rt 1 ((2 * s : Nat) : Int) = r / 2 := by
  have hp := cR_pos (n := 2 * s) (by omega)
  have hne : cR ((2 * s : Nat) : Int) ≠ 0 := fun e => by rw [e] at hp; exact Rat.lt_irrefl hp
  have e1 : cR ((2 * s : Nat) : Int) = 2 * cR (s : Int) := by
    rw [Int.natCast_mul, cR_mul]; rfl
  have e2 : q = (r / 2) * cR ((2 * s : Nat) : Int) := by rw [h, e1]; grind
  have e3 : cR 1 / cR ((2 * s : Nat) : Int) * cR ((2 * s : Nat) : Int) = cR 1 := Rat.div_mul_cancel hne
  have e4 : cR 1 = 1 := rfl
  rw [rt_div, e2]
  rw [e4] at e3 ⊢
  grind
section
variable {P : Program} {w : World} {K : PySem.W.Frag} {mg : Str → Option Value} {base : Heap}
def spPC (C C2 : Addr) : Sp := fun vs H Q _ => ∃ (I : Hp) (v1 v2 u : V) (A B : Ma) (n1 n2 bs as N L : Nat) (d : Da), vs = [v1, v2, u] ∧ Same I H ∧ iM C C2 I v1 A ∧ iM C C2 I v2 B ∧ MDv A n1 bs as N ∧ MDv B n2 bs as N ∧ 0 < N ∧ N < 2 ^ 16 ∧ L ≤ 40 ∧ dR I u d ∧ PlS bs as (L + 1) d ∧ (4 * N) ^ L * (24 * N) ≤ 2 ^ 390 ∧
  Ret [] I H (iR C) (rright A B n1 n2 (L + 1) (gq A.1) (gq B.1) d / 2) Q
theorem sc_plan_chance : FnScope ["one", "other", "plan", "trial", "start"] ["one", "other", "plan"] (defScope s_plan_chance) := ⟨rfl, rfl, rfl, by decide +kernel, rfl, by decide +kernel, by decide +kernel⟩
theorem ok_pc (D : Dt K mg) : Has P w K mg base 48 (He.ga K "plan_chance") ["one", "other", "plan"] [] (spPC (CR K) (CM K)) := by
  obtain ⟨fd, F⟩ := fd_plan_chance D
  have H_Trial_init := ok_tinit (P := P) (w := w) (base := base) D
  have H_Trial_right := ok_right41 (P := P) (w := w) (base := base) D
  have H_Ratio_init := has_init (P := P) (w := w) (base := base) D
  have H_Ratio_mul := ok_mul (P := P) (w := w) (base := base) D
  refine hasN F (F.bindsN fun _ _ _ _ _ _ us hl => match us, hl with | [_, _, _], _ => rfl) sc_plan_chance (fun vs H Q E h => ?_) (fun cdv A outer s H vs Q E hr h => ?_)
  · obtain ⟨I, v1, v2, u, A, B, n1, n2, bs, as, N, L, d, rfl, _⟩ := h; rfl
  · obtain ⟨I, v1, v2, u, A, B, n1, n2, bs, as, N, L, d, rfl, s0, rA, rB, dA, dB, n0, n16, hL, rd, pd, hB, k⟩ := h
    refine ⟨_, (pss_cons (ps_set (i := 3) sc_plan_chance.nd rfl (Or.inl rfl) (pe_makeH (mkr_Trial (K := K) D) H_Trial_init (hr.mono (by omega)) rfl (glo_Trial D) passL (pa_cons (pv 0) (pa_cons (pv 1) pa_nil))))
      (pss_cons (ps_set (i := 4) sc_plan_chance.nd rfl (Or.inl rfl) (pe_fldK K (pe_fldK K (pv 3) rfl) rfl))
      (pss_one (ps_ret (pe_op (op_ownH H_Ratio_mul (hr.mono (by omega)) passL (self_Ratio (K := K) D) (me_Ratio_mul (K := K) D)) (pe_methH (pv 3) (cls_Trial (K := K) D) (me_Trial_right (K := K) D) H_Trial_right (hr.mono (by omega)) passL (pa_cons (pe_fldK K (pv 4) rfl) (pa_cons (pv 2) pa_nil))) (pe_makeH (mkr_Ratio (K := K) D) H_Ratio_init (hr.mono (by omega)) rfl (glo_Ratio D) passL (pa_cons pe_int (pa_cons (pe_op op_mulW pe_int (pe_fldK K (pv 4) rfl)) pa_nil)))))))), ?_⟩
    refine seq_cut (fun σ' H2 => ∃ (I2 : Hp) (y : Addr) (bo : BoD), σ' = [some v1, some v2, some u, some (.ref y), none] ∧ Gr [] I H I2 H2 ∧ iTr (CTr K) (CBo K) (CWh K) I2 (.ref y) (bo, chunks as bs (bo.steps.map withL)) ∧ BoIs A B n1 n2 bs as N bo) (fun nx q => ?_) ?_
    · refine ⟨_, rfl, _, rfl, fun y dy ny nd ne => ?_⟩
      obtain ⟨p1, p2, p3⟩ := ob_pre (C2 := CTr K) s0 ny nd ne
      refine ⟨_, y, dy, v1, v2, A, B, n1, n2, bs, as, N, rfl, p1, p2, upd_same, up p3 rA, up p3 rB, dA, dB, n0, Nat.lt_trans n16 (by decide), fun I' H' vb vp bo g h rbo ibo rpr => ⟨rfl, ?_⟩⟩
      obtain ⟨I2, g1, r1⟩ := Gr.tr s0 ny nd ne g h rbo rpr
      exact q _ _ ⟨I2, y, bo, rfl, g1, r1, ibo⟩
    rintro σ' H2 ⟨I2, y, bo, rfl, g2, rT, ibo⟩
    (try dsimp only)
    obtain ⟨y', dy, vb', vp', ey, hy, rbo, rpr⟩ := id rT
    cases ey
    obtain ⟨o, od, vst, vt, rfl, ho, rst, rt'⟩ := id rbo
    obtain ⟨aw, dw, vn, rfl, hw, rn⟩ := id rst
    have pb := ibo.pb dA dB n0 n16
    obtain ⟨bn, sn⟩ := start_bn ibo.wh dA dB n0 n16
    have epr : chunks as bs (bo.steps.map withL) = prOf A B n1 bo.b bs as := by rw [ibo.st]
    have hb16 := pb.b16
    have hbN : bo.b ≤ N := Nat.le_of_dvd n0 pb.bN
    have hs16 : bo.st.2 ≤ N := Nat.le_of_dvd n0 ibo.wh.2.1
    have hs0 := ibo.wh.1
    have rel := start_rel ibo.wh dA.ok.l0 dB.ok.l0
    have hs20 : bo.st.2 < 2 ^ 20 := by omega
    have hy2 := g2.ih _ _ hy
    have ho2 := g2.ih _ _ ho
    have hw2 := g2.ih _ _ hw
    refine seq_cut (fun σ' H3 => H3 = H2 ∧ σ' = [some v1, some v2, some u, some (.ref y), some (.ref aw)]) (fun nx q => ?_) ?_
    · exact ⟨_, rfl, y, _, dy, _, _, rfl, hy2, cls_Trial D, na_Trial_both D, tf_look.1, o, _, od, _, _, rfl, ho2, cls_Both D, na_Both_start D, bf5_look.2.2.1, q _ _ ⟨rfl, rfl⟩⟩
    rintro σ' H3 ⟨rfl, rfl⟩
    (try dsimp only)
    have hB' : (4 * bo.b) ^ L * (24 * N) ≤ 2 ^ 390 := Nat.le_trans (Nat.mul_le_mul_right _ (Nat.pow_le_pow_left (by omega) L)) hB
    have pok : PrOk n1 (n1 + n2) (prOf A B n1 bo.b bs as) := pr_ok pb
    have psk : PrS bo.b (n1 + n2) (prOf A B n1 bo.b bs as) := pr_s pb
    have rg := right_gd pok psk L (24 * N) bo.st.1 d pd.ok sn
    have rr := right_rel pb L (cR (bo.st.2 : Int)) bo.st.1 (gq A.1) (gq B.1) d pd.ok (fun _ => rel.likes) (fun _ => rel)
    have e390 : (2 : Nat) ^ 390 ≤ 2 ^ 400 := by decide
    have hB3 : 4 ^ L * (24 * N) ≤ 2 ^ 390 := Nat.le_trans (Nat.mul_le_mul_right _ (Nat.pow_le_pow_left (by have := pb.b0; omega) L)) hB'
    have hB4 : bo.b ^ L ≤ 2 ^ 390 := Nat.le_trans (Nat.le_trans (Nat.pow_le_pow_left (by omega) L) (Nat.le_mul_of_pos_right _ (by omega))) hB'
    have pos2 : 0 < 2 * bo.st.2 := by omega
    refine ⟨_, rfl, y, dy, _, rfl, hy2, (by kernel_rfl), _, rfl, aw, _, dw, _, _, rfl, hw2, cls_Whole D, na_Whole_numbers D, wf_numbers, _, rfl, ?_⟩
    refine ⟨L, by omega, I2, y, vn, u, (bo, chunks as bs (bo.steps.map withL)), n1 + n2, 16, 24 * N, bo.st.1, d, rfl, g2.ih, rT, rn, dR_up g2.ii _ _ rd, ?_, ?_, ?_, bn, by omega, sn, by omega, hB', fun I3 H4 v3 g3 r3 => ?_⟩
    · show PlOk (chunks as bs (bo.steps.map withL)) (L + 1) d
      rw [epr]; exact pd.ok
    · rw [ibo.f]; show PrOk n1 (n1 + n2) (chunks as bs (bo.steps.map withL)); rw [epr]; exact pok
    · show PrS bo.b (n1 + n2) (chunks as bs (bo.steps.map withL)); rw [epr]; exact psk
    have eM : rightM (bo, chunks as bs (bo.steps.map withL)).1.f (bo, chunks as bs (bo.steps.map withL)).1.b (bo, chunks as bs (bo.steps.map withL)).2 (L + 1) bo.st.1 d = rightM n1 bo.b (prOf A B n1 bo.b bs as) (L + 1) bo.st.1 d := by
      show rightM bo.f bo.b (chunks as bs (bo.steps.map withL)) (L + 1) bo.st.1 d = _
      rw [ibo.f, epr]
    rw [eM] at r3
    refine ⟨_, rfl, aw, _, dw, _, _, rfl, g3.ih _ _ (g3.ii _ _ hw), cls_Whole D, na_Whole_bottom D, wf_bottom, _, _, rfl, rfl, mulW_of (a := 20) (b := 20) (by decide) (by rw [Int.natAbs_natCast]; exact hs20) (by decide) (by decide) (by decide), ?_⟩
    (try dsimp only)
    rw [show (2 : Int) * (bo.st.2 : Int) = ((2 * bo.st.2 : Nat) : Int) from by rw [Int.natCast_mul]; rfl]
    refine fun z dz nz nd ne => ⟨z, dz, _, _, rfl, upd_same, ?_, fun _ => ⟨rfl, ?_⟩, fun h => absurd h (by omega)⟩
    · show (((2 * bo.st.2 : Nat) : Int)).natAbs < _
      rw [Int.natAbs_natCast]
      exact Nat.lt_trans (show 2 * bo.st.2 < 2 ^ 21 by omega) (by decide)
    obtain ⟨g5, r5⟩ := rat_new (ms := []) (C := CR K) (q := rt 1 ((2 * bo.st.2 : Nat) : Int)) g3.ih nz nd ne
    have r3' := up g5.ii r3
    obtain ⟨a1, d1, e1, h1⟩ := id r3'
    obtain ⟨a2, d2, e2, h2⟩ := id r5
    refine ⟨a1, a2, d1, d2, _, _, e1, e2, g5.ih _ _ h1, g5.ih _ _ h2, _, v3, .ref z, _, _, rfl, g5.ih, r3', r5, fit_gd rg (by omega) (by omega), fit_b pos2 (by omega), fun I4 H4 v4 g4 r4 => ?_⟩
    refine k _ _ _ (((g2.trans g3).trans g5).trans g4) ?_
    have := half_eq2 hs0 rr
    rw [← this]; exact r4
end
end K

set_option Elab.async false
set_option linter.all false
set_option maxRecDepth 100000
set_option maxHeartbeats 4000000
namespace K
open PySem PySem.Spec PyProof.Rows L2 Tk Hd
section
variable {P : Program} {w : World} {K : PySem.W.Frag} {mg : Str → Option Value} {base : Heap}
def spSame0 : Sp := (fun vs H Q _ => ∃ (a d : V) (x y : Da), vs = [a, d] ∧ dR H a x ∧ dR H d y ∧ isT y "tuple" = false ∧ isT y "list" = false ∧ Q (.bl (eqd x y)) H)
theorem ok_sameHot (D : Dt K mg) : ∃ fd : FuncData, PySem.W.keepIn K (.ref (He.ga K "_law_same")) = true ∧ L2.Binds K fd ["actual", "due"] [] ∧ L2H.FnH P w K mg base (L2.CX P w) 1 (He.ga K "_law_same") fd ["actual", "due"] spSame0 := by
  obtain ⟨fd, F⟩ := fd__law_same D
  refine ⟨fd, F.kp, F.bindsN fun _ _ _ _ _ _ us hl => match us, hl with | [_, _], _ => rfl, fnHot F sc_same (fun vs H Q E h => ?_) (fun cdv A outer s H vs Q E p hr h => ?_)⟩
  · obtain ⟨a, d, x, y, rfl, _⟩ := h; rfl
  · obtain ⟨a, d, x, y, rfl, hx, hy, y1, y2, k⟩ := h
    refine ⟨_, (pss_cons (ps_if (PW.pt (pw_or (pt_val (pe_callB call_isi rfl (free_isinstance D) (by decide +kernel) (pa_cons (pv 1) (pa_cons (pe_bltn (v := .ty "tuple") rfl (free_tuple D) (by decide +kernel) rfl) pa_nil)))) (pw_or1 (pt_val (pe_callB call_isi rfl (free_isinstance D) (by decide +kernel) (pa_cons (pv 1) (pa_cons (pe_bltn (v := .ty "list") rfl (free_list D) (by decide +kernel) rfl) pa_nil))))))) pss_never pss_nil)
      (pss_cons (ps_if (PW.pt (pw_or (pt_cmpR op_isN (pv 1) pe_non (nomark _)) (pw_or1 (pt_val (pe_callB call_isi rfl (free_isinstance D) (by decide +kernel) (pa_cons (pv 1) (pa_cons (pe_bltn (v := .ty "bool") rfl (free_bool D) (by decide +kernel) rfl) pa_nil)))))))
      (pss_one (ps_ret (pe_and (pe_cmpR op_eq (pe_cmpR op_isN (pv 0) pe_non (nomark _)) (pe_cmpR op_isN (pv 1) pe_non (nomark _)) (nomark _)) (pe_and (pe_or (pe_cmpR op_isN (pv 1) pe_non (nomark _)) (pe_one (pe_callB call_isi rfl (free_isinstance D) (by decide +kernel) (pa_cons (pv 0) (pa_cons (pe_bltn (v := .ty "bool") rfl (free_bool D) (by decide +kernel) rfl) pa_nil))))) (pe_one (pe_cmpR op_eq (pv 0) (pv 1) (nomark _)))))))
      pss_nil)
      (pss_cons (ps_if (pt_val (pe_callB call_isi rfl (free_isinstance D) (by decide +kernel) (pa_cons (pv 1) (pa_cons (pe_bltn (v := .ty "int") rfl (free_int D) (by decide +kernel) rfl) pa_nil))))
      (pss_one (ps_ret (pe_and (pe_callB call_isi rfl (free_isinstance D) (by decide +kernel) (pa_cons (pv 0) (pa_cons (pe_bltn (v := .ty "int") rfl (free_int D) (by decide +kernel) rfl) pa_nil))) (pe_and (pe_not (pe_callB call_isi rfl (free_isinstance D) (by decide +kernel) (pa_cons (pv 0) (pa_cons (pe_bltn (v := .ty "bool") rfl (free_bool D) (by decide +kernel) rfl) pa_nil)))) (pe_one (pe_cmpR op_eq (pv 0) (pv 1) (nomark _)))))))
      pss_nil)
      (pss_one (ps_ret (pe_and (pe_callB call_isi rfl (free_isinstance D) (by decide +kernel) (pa_cons (pv 0) (pa_cons (pe_bltn (v := .ty "str") rfl (free_str D) (by decide +kernel) rfl) pa_nil))) (pe_one (pe_cmpR op_eq (pv 0) (pv 1) (nomark _))))))))), ?_⟩
    have cv : ∀ T : String, ClsV (.ty T) (.type T) := fun T => .ty T
    refine ⟨_, rfl, _, _, _, _, _, rfl, cv _, knd_ty hy, knd_tuple y, _, rfl, ifF y1 ?_⟩
    refine ⟨_, rfl, _, _, _, _, _, rfl, cv _, knd_ty hy, knd_list y, _, rfl, ifF y2 ?_⟩
    have nx := non_dec hx
    have ny := non_dec hy
    refine ⟨_, rfl, rfl, _, rfl, ?_⟩
    rw [ny]
    have finN : isNon y = true ∨ isT y "bool" = true → ∀ σ : L2.St, True := fun _ _ => trivial
    cases y with
    | lst l => simp [isT] at y2
    | tup l => simp [isT] at y1
    | non =>
      refine iteT ?_
      simp only [dR] at hy
      subst hy
      refine ⟨_, rfl, rfl, _, rfl, rfl, rfl, _, rfl, ?_⟩
      rw [nx, ny]
      cases x with
      | non =>
        simp only [dR] at hx; subst hx
        refine iteT ⟨_, rfl, rfl, _, rfl, iteT ⟨_, rfl, iteT ⟨_, rfl, _, rfl, rfl, ?_⟩⟩⟩
        exact k
      | _ => exact iteF k
    | bl b =>
      refine iteF ⟨_, rfl, _, _, _, _, _, rfl, cv _, knd_ty hy, knd_bool (.bl b), _, rfl, iteT ?_⟩
      refine ⟨_, rfl, rfl, _, rfl, rfl, rfl, _, rfl, ?_⟩
      rw [nx, ny]
      simp only [dR] at hy
      subst hy
      cases x with
      | non => exact iteF k
      | bl c =>
        refine iteT ⟨_, rfl, rfl, _, rfl, iteF ⟨_, rfl, _, _, _, _, _, rfl, cv _, knd_ty hx, knd_bool (.bl c), _, rfl, iteT ?_⟩⟩
        simp only [dR] at hx
        subst hx
        refine ⟨_, rfl, _, rfl, rfl, ?_⟩
        have e : decide (V.bl c = V.bl b) = eqd (.bl c) (.bl b) := by simp [eqd]
        rw [← e] at k; exact k
      | int i => exact iteT ⟨_, rfl, rfl, _, rfl, iteF ⟨_, rfl, _, _, _, _, _, rfl, cv _, knd_ty hx, knd_bool (.int i), _, rfl, iteF k⟩⟩
      | str i => exact iteT ⟨_, rfl, rfl, _, rfl, iteF ⟨_, rfl, _, _, _, _, _, rfl, cv _, knd_ty hx, knd_bool (.str i), _, rfl, iteF k⟩⟩
      | lst i => exact iteT ⟨_, rfl, rfl, _, rfl, iteF ⟨_, rfl, _, _, _, _, _, rfl, cv _, knd_ty hx, knd_bool (.lst i), _, rfl, iteF k⟩⟩
      | tup i => exact iteT ⟨_, rfl, rfl, _, rfl, iteF ⟨_, rfl, _, _, _, _, _, rfl, cv _, knd_ty hx, knd_bool (.tup i), _, rfl, iteF k⟩⟩
    | int b =>
      refine iteF ⟨_, rfl, _, _, _, _, _, rfl, cv _, knd_ty hy, knd_bool (.int b), _, rfl, iteF ?_⟩
      refine ⟨_, rfl, _, _, _, _, _, rfl, cv _, knd_ty hy, knd_int (.int b), _, rfl, iteT ?_⟩
      simp only [dR] at hy
      subst hy
      cases x with
      | int c =>
        refine ⟨_, rfl, _, _, _, _, _, rfl, cv _, knd_ty hx, knd_int (.int c), _, rfl, iteT ?_⟩
        refine ⟨_, rfl, _, _, _, _, _, rfl, cv _, knd_ty hx, knd_bool (.int c), _, rfl, _, rfl, iteT ?_⟩
        simp only [dR] at hx
        subst hx
        refine ⟨_, rfl, _, rfl, rfl, ?_⟩
        have e : decide (V.int c = V.int b) = eqd (.int c) (.int b) := by simp [eqd]
        rw [← e] at k; exact k
      | bl c =>
        refine ⟨_, rfl, _, _, _, _, _, rfl, cv _, knd_ty hx, knd_int (.bl c), _, rfl, iteT ?_⟩
        exact ⟨_, rfl, _, _, _, _, _, rfl, cv _, knd_ty hx, knd_bool (.bl c), _, rfl, _, rfl, iteF k⟩
      | non => exact ⟨_, rfl, _, _, _, _, _, rfl, cv _, knd_ty hx, knd_int .non, _, rfl, iteF k⟩
      | str c => exact ⟨_, rfl, _, _, _, _, _, rfl, cv _, knd_ty hx, knd_int (.str c), _, rfl, iteF k⟩
      | lst c => exact ⟨_, rfl, _, _, _, _, _, rfl, cv _, knd_ty hx, knd_int (.lst c), _, rfl, iteF k⟩
      | tup c => exact ⟨_, rfl, _, _, _, _, _, rfl, cv _, knd_ty hx, knd_int (.tup c), _, rfl, iteF k⟩
    | str b =>
      refine iteF ⟨_, rfl, _, _, _, _, _, rfl, cv _, knd_ty hy, knd_bool (.str b), _, rfl, iteF ?_⟩
      refine ⟨_, rfl, _, _, _, _, _, rfl, cv _, knd_ty hy, knd_int (.str b), _, rfl, iteF ?_⟩
      simp only [dR] at hy
      subst hy
      cases x with
      | str c =>
        refine ⟨_, rfl, _, _, _, _, _, rfl, cv _, knd_ty hx, knd_str (.str c), _, rfl, iteT ?_⟩
        simp only [dR] at hx
        subst hx
        refine ⟨_, rfl, _, rfl, rfl, ?_⟩
        have e : decide (V.str c = V.str b) = eqd (.str c) (.str b) := by simp [eqd]
        rw [← e] at k; exact k
      | bl c => exact ⟨_, rfl, _, _, _, _, _, rfl, cv _, knd_ty hx, knd_str (.bl c), _, rfl, iteF k⟩
      | non => exact ⟨_, rfl, _, _, _, _, _, rfl, cv _, knd_ty hx, knd_str .non, _, rfl, iteF k⟩
      | int c => exact ⟨_, rfl, _, _, _, _, _, rfl, cv _, knd_ty hx, knd_str (.int c), _, rfl, iteF k⟩
      | lst c => exact ⟨_, rfl, _, _, _, _, _, rfl, cv _, knd_ty hx, knd_str (.lst c), _, rfl, iteF k⟩
      | tup c => exact ⟨_, rfl, _, _, _, _, _, rfl, cv _, knd_ty hx, knd_str (.tup c), _, rfl, iteF k⟩
end
end K

set_option Elab.async false
set_option linter.all false
set_option maxRecDepth 100000
set_option maxHeartbeats 4000000
set_option exponentiation.threshold 5000
namespace K
open PySem PySem.Spec PyProof.Rows L2 Tk Hd Mt
section
variable {P : Program} {w : World} {K : PySem.W.Frag} {mg : Str → Option Value} {base : Heap}
theorem sc_less : FnScope ["self", "other"] ["self", "other"] (defScope s_Ratio_less) := ⟨rfl, rfl, rfl, by decide +kernel, rfl, by decide +kernel, by decide +kernel⟩
theorem ok_less (D : Dt K mg) : Has P w K mg base 1 (He.ma K (CR K) "less") ["self", "other"] [] (spLess (CR K)) := by
  obtain ⟨fd, F⟩ := fd_Ratio_less D
  refine hasN F (F.bindsN fun _ _ _ _ _ _ us hl => match us, hl with | [_, _], _ => rfl) sc_less (fun vs H Q E h => ?_) (fun cdv A outer s H vs Q E hr h => ?_)
  · obtain ⟨I, a, b, p, q, rfl, _⟩ := h; rfl
  · obtain ⟨I, va, vb, p, q, rfl, s0, ⟨a, dx, rfl, ha⟩, ⟨b, dy, rfl, hb⟩, fp, fq, k⟩ := h
    have ha' := s0 _ _ ha
    have hb' := s0 _ _ hb
    refine ⟨_, (pss_one (ps_ret (pe_cmpR op_lt (pe_op op_mulW (pe_fld (pv 0) rfl) (pe_fld (pv 1) rfl)) (pe_op op_mulW (pe_fld (pv 1) rfl) (pe_fld (pv 0) rfl)) (nomark _)))), ?_⟩
    refine ⟨_, rfl, _, _, _, _, _, rfl, ha', cls_Ratio D, na_Ratio_num D, rf_num p, _, rfl, _, _, _, _, _, rfl, hb', cls_Ratio D, na_Ratio_den D, rf_den q, _, _, rfl, rfl, fp.mul_n fq, _, rfl, _, _, _, _, _, rfl, hb', cls_Ratio D, na_Ratio_num D, rf_num q, _, rfl, _, _, _, _, _, rfl, ha', cls_Ratio D, na_Ratio_den D, rf_den p, _, _, rfl, rfl, fq.mul_n fp, _, _, rfl, rfl, ?_⟩
    have e : decide (p < q) = decide (p.num * q.den < q.num * p.den) := decide_eq_decide.mpr (Rat.lt_iff p q)
    rw [e] at k
    exact k
end
theorem takesN0 {X : Cx} : L2N.Takes X (fun _ _ _ _ => False) := fun _ _ x => by
  obtain ⟨a, B, sI, pins, σ, H, cls, d, h1, h2, h3, h4, h5, h6, h7, h8, z⟩ := x
  exact z.elim
theorem kitTL {K : PySem.W.Frag} {mg : Str → Option Value} (D : Dt K mg) : PySem.W.kitAny K (.ref (CTL K)) [.ref (He.ga K "BadMachine"), .ref (He.ga K "BadPaper"), .ref (He.ga K "BadRatio"), .ref (He.ga K "BadText")] = some false := by
  simp only [PySem.W.kitAny, kit_TooLarge_BadMachine D, kit_TooLarge_BadRatio D, kit_TooLarge_BadText D, kit_TooLarge_BadPaper D]
section
variable {P : Program} {w : World} {K : PySem.W.Frag} {mg : Str → Option Value} {base : Heap}
def spLaw (K : PySem.W.Frag) : Sp := fun vs H Q _ => ∃ (a : Addr) (ns : List Int), vs = [.ref a] ∧ SqL K H a (ns.map V.int) ∧ ns.length ≤ 63 ∧ ∀ H', Q (.bl true) H'
def Nlaw : List Str := ["script", "pool", "buttons", "answers", "one", "other", "length", "ends", "turn", "told", "e", "plan"]
theorem sc_law : FnScope Nlaw ["script"] (defScope s_law) := ⟨rfl, rfl, rfl, by decide +kernel, rfl, by decide +kernel, by decide +kernel⟩
def lawP (D : Dt K mg) {cdv : Value} {A : Around} {outer : List Env} {s : Shared} {H : Hp} {E : XK} (hr : Room 51 (A.deeper (envOfC "law" (defScope s_law) s.heap.objs.size (He.ga K "law") cdv)))
    {fdH : FuncData} (kH : PySem.W.keepIn K (.ref (He.ga K "_law_same")) = true) (bH : L2.Binds K fdH ["actual", "due"] []) (H_sameH : L2H.FnH P w K mg base (L2.CX P w) 1 (He.ga K "_law_same") fdH ["actual", "due"] spSame0) :
    { t : TS // PSs (cxOf (L2.CX P w) P w K mg base Nlaw "law" (defScope s_law) (He.ga K "law") cdv A outer s H E).nox (defBody s_law) t } := by
  have H__law_pool := ok_pool (P := P) (w := w) (base := base) D
  have H__law_draw := ok_draw (P := P) (w := w) (base := base) D
  have H__law_machine := ok_lmach (P := P) (w := w) (base := base) D
  have H_best_test := ok_btest (P := P) (w := w) (base := base) D
  have H__law_made := ok_lmade (P := P) (w := w) (base := base) D
  have H_Ratio_init := has_init (P := P) (w := w) (base := base) D
  have H_Ratio_init1 := has_init1 (P := P) (w := w) (base := base) D
  have H_Ratio_less := ok_less (P := P) (w := w) (base := base) D
  have H_Ratio_eq := ok_eq (P := P) (w := w) (base := base) D
  have H_plan_chance := ok_pc (P := P) (w := w) (base := base) D
  exact ⟨_, (pss_cons (ps_set (i := 1) sc_law.nd rfl (Or.inl rfl) (pe_callH H__law_pool (hr.mono (by omega)) rfl (glo__law_pool D) passL (pa_cons (pv 0) (pa_cons pe_int pa_nil))))
      (pss_cons (ps_set (i := 2) sc_law.nd rfl (Or.inl rfl) (pe_op op_add pe_int (pe_callH H__law_draw (hr.mono (by omega)) rfl (glo__law_draw D) passL (pa_cons (pv 1) (pa_cons pe_int pa_nil)))))
      (pss_cons (ps_set (i := 3) sc_law.nd rfl (Or.inl rfl) (pe_op op_add pe_int (pe_callH H__law_draw (hr.mono (by omega)) rfl (glo__law_draw D) passL (pa_cons (pv 1) (pa_cons pe_int pa_nil)))))
      (pss_cons (ps_set (i := 4) sc_law.nd rfl (Or.inl rfl) (pe_callH H__law_machine (hr.mono (by omega)) rfl (glo__law_machine D) passL (pa_cons (pv 1) (pa_cons pe_int (pa_cons (pv 2) (pa_cons (pv 3) pa_nil))))))
      (pss_cons (ps_set (i := 5) sc_law.nd rfl (Or.inl rfl) (pe_callH H__law_machine (hr.mono (by omega)) rfl (glo__law_machine D) passL (pa_cons (pv 1) (pa_cons pe_int (pa_cons (pv 2) (pa_cons (pv 3) pa_nil))))))
      (pss_cons (ps_set (i := 6) sc_law.nd rfl (Or.inl rfl) (pe_ix (ix_tupK K) (pe_tup (pa_cons (pe_callH H__law_draw (hr.mono (by omega)) rfl (glo__law_draw D) passL (pa_cons (pv 1) (pa_cons pe_int pa_nil))) (pa_cons (pe_callH H__law_draw (hr.mono (by omega)) rfl (glo__law_draw D) passL (pa_cons (pv 1) (pa_cons pe_int pa_nil))) pa_nil))) (pe_callTy call_int1 rfl (free_int D) (by decide +kernel) (pa_cons (pe_cmpR op_eq (pe_callH H__law_draw (hr.mono (by omega)) rfl (glo__law_draw D) passL (pa_cons (pv 1) (pa_cons pe_int pa_nil))) pe_int (nomark _)) pa_nil)) (fun _ _ => rfl)))
      (pss_cons (ps_set (i := 7) sc_law.nd rfl (Or.inl rfl) pe_int)
      (pss_cons (ps_for PassesOwn.never rfl (pi_range1 rfl (free_range D) (pa_cons (pv 6) pa_nil)) (pg_name (i := 8) sc_law.nd rfl (Or.inl rfl))
      (pss_one (ps_set (i := 7) sc_law.nd rfl (Or.inl rfl) (pe_callB (call_min2 rfl) rfl (free_min D) (by decide +kernel) (pa_cons (pe_op op_mulW (pe_op op_mulW (pv 7) (pv 2)) (pv 3)) (pa_cons pe_int pa_nil))))))
      (pss_cons (ps_if (PW.pt (pw_and (pt_chain op_lt op_lt pe_int (pv 7) pe_int) (pw_and1 (pt_cmpR op_gt (pe_callH H__law_draw (hr.mono (by omega)) rfl (glo__law_draw D) passL (pa_cons (pv 1) (pa_cons pe_int pa_nil))) pe_int (nomark _)))))
      (pss_one (ps_ret pe_bl))
      pss_nil)
      (pss_cons (L2N.ps_try_as (i := 10) (Wout := fun _ _ _ _ => False) rfl rfl sc_law.nd rfl rfl ⟨rfl, by decide, .inl (glo_TestError D)⟩ takesN0
      (fun W pn xe tk _ => pss_one (ps_set (i := 9) sc_law.nd rfl (Or.inl rfl) (pe_callSHN H_best_test (hr.mono (by omega)) rfl (glo_best_test D) (fun σ => L2N.passAt tk σ) (pa_cons (pe_callH H__law_made (hr.mono (by omega)) rfl (glo__law_made D) passL (pa_cons (pv 4) pa_nil)) (pa_cons (pe_callH H__law_made (hr.mono (by omega)) rfl (glo__law_made D) passL (pa_cons (pv 5) pa_nil)) (pa_cons (pv 6) pa_nil))))))
      (fun a oe cls d pn hz hf => pss_one (ps_ret (pe_and (pe_cmpR op_gt (pv 7) pe_int (nomark _)) (pe_and (pe_callB (call_isEd (isE_TooLarge D) hz.zc hf) rfl (free_isinstance D) (by decide +kernel) (pa_cons (pv 10) (pa_cons (pe_glob (v := .ref (He.ga K "TooLarge")) rfl (glo_TooLarge D) rfl) pa_nil))) (pe_and (pe_not (pe_callB (call_isETd (isE_TooLarge D) hz.zc hf) rfl (free_isinstance D) (by decide +kernel) (pa_cons (pv 10) (pa_cons (pe_tup (pa_cons (pe_glob (v := .ref (He.ga K "BadMachine")) rfl (glo_BadMachine D) rfl) (pa_cons (pe_glob (v := .ref (He.ga K "BadPaper")) rfl (glo_BadPaper D) rfl) (pa_cons (pe_glob (v := .ref (He.ga K "BadRatio")) rfl (glo_BadRatio D) rfl) (pa_cons (pe_glob (v := .ref (He.ga K "BadText")) rfl (glo_BadText D) rfl) pa_nil))))) pa_nil)))) (pe_one (L2H.pe_callH (E := fun _ => E0) H_sameH (L2H.roomH_mark (hr.mono (show 1 ≤ 51 by decide)) _) (hot_suite hz hf) rfl (glo__law_same D) kH bH (fun σ _ _ _ _ _ _ h => (cx_none h).elim) (pa_cons (pe_xf (oex_TooLarge D).xf (oex_TooLarge D).no hz.zc hf (pv 10)) (pa_cons pe_str pa_nil))))))))))
      (pss_cons (ps_if (PW.pt (pw_or (pt_cmpR op_gt (pv 7) pe_int (nomark _)) (pw_or (pt_val (pe_methH (pe_ix (ix_tupK K) (pv 9) pe_int (fun _ _ => rfl)) (cls_Ratio (K := K) D) (me_Ratio_less (K := K) D) H_Ratio_less (hr.mono (by omega)) passL (pa_cons (pe_makeH (mkr_Ratio (K := K) D) H_Ratio_init (hr.mono (by omega)) rfl (glo_Ratio D) passL (pa_cons pe_int (pa_cons pe_int pa_nil))) pa_nil))) (pw_or (pt_val (pe_methH (pe_makeH (mkr_Ratio (K := K) D) H_Ratio_init1 (hr.mono (by omega)) rfl (glo_Ratio D) passL (pa_cons pe_int pa_nil)) (cls_Ratio (K := K) D) (me_Ratio_less (K := K) D) H_Ratio_less (hr.mono (by omega)) passL (pa_cons (pe_ix (ix_tupK K) (pv 9) pe_int (fun _ _ => rfl)) pa_nil))) (pw_or1 (pt_cmpR op_ne (pe_callB (call_lenK K) rfl (free_len D) PySem.boot_len (pa_cons (pv 9) pa_nil)) pe_int (nomark _)))))))
      (pss_one (ps_ret pe_bl))
      pss_nil)
      (pss_cons (ps_set (i := 11) sc_law.nd rfl (Or.inl rfl) (pe_ix (ix_tupK K) (pv 9) pe_int (fun _ _ => rfl)))
      (pss_cons (ps_for PassesOwn.never rfl (pi_range1 rfl (free_range D) (pa_cons (pv 6) pa_nil)) (pg_name (i := 8) sc_law.nd rfl (Or.inl rfl))
      (pss_cons (ps_if (PW.pt (pw_or (pt_cmpR op_ne (pe_ix (ix_tupK K) (pv 11) pe_int (fun _ _ => rfl)) pe_str (nomark _)) (pw_or1 (pt_cmpR op_ne (pe_callB (call_lenK K) rfl (free_len D) PySem.boot_len (pa_cons (pe_ix (ix_tupK K) (pv 11) pe_int (fun _ _ => rfl)) pa_nil)) (pv 3) (nomark _)))))
      (pss_one (ps_ret pe_bl))
      pss_nil)
      (pss_one (ps_set (i := 11) sc_law.nd rfl (Or.inl rfl) (pe_ix (ix_tupK K) (pe_ix (ix_tupK K) (pv 11) pe_int (fun _ _ => rfl)) (pe_callH H__law_draw (hr.mono (by omega)) rfl (glo__law_draw D) passL (pa_cons (pv 1) (pa_cons (pv 3) pa_nil))) (fun _ _ => rfl))))))
      (pss_one (ps_ret (pe_and (pe_cmpR op_eq (pe_ix (ix_tupK K) (pv 11) pe_int (fun _ _ => rfl)) pe_str (nomark _)) (pe_one (pe_cmpR (op_eqOwnH H_Ratio_eq (hr.mono (by omega)) passL (me_Ratio_eq (K := K) D)) (pe_callH H_plan_chance (hr.mono (by omega)) rfl (glo_plan_chance D) passL (pa_cons (pe_callH H__law_made (hr.mono (by omega)) rfl (glo__law_made D) passL (pa_cons (pv 4) pa_nil)) (pa_cons (pe_callH H__law_made (hr.mono (by omega)) rfl (glo__law_made D) passL (pa_cons (pv 5) pa_nil)) (pa_cons (pe_ix (ix_tupK K) (pv 9) pe_int (fun _ _ => rfl)) pa_nil)))) (pe_ix (ix_tupK K) (pv 9) pe_int (fun _ _ => rfl)) (nomark _)))))))))))))))))))⟩
end
/-! ### a drawn machine's fractions -/
theorem gd_dv {N B : Nat} {q : Rat} (h : Gd N B q) (hB : B * N < 2 ^ 2000) : dvB N q := by
  have h2 := h.size
  obtain ⟨n, a, ha, rfl⟩ := h
  refine ⟨?_, by omega⟩
  have e2 := rt_den (n := (a : Int)) (d := (N : Int)) (by omega)
  have g := gz_pos (n := (a : Int)) (d := (N : Int)) (by omega)
  have hd : gz (a : Int) (N : Int) ∣ (N : Int) := by unfold gz; exact Int.ofNat_dvd_left.mpr (Nat.gcd_dvd_right _ _)
  have e3 := Int.ediv_mul_cancel hd
  rw [← e2] at e3
  exact Int.natCast_dvd_natCast.mp ⟨_, e3.symm⟩
theorem flat_le {α : Type} {l : List (List α)} {c : Nat} (h : ∀ x ∈ l, x.length ≤ c) : l.flatten.length ≤ l.length * c := by
  induction l with
  | nil => simp
  | cons x r ih =>
    have h1 := h x List.mem_cons_self
    have h2 := ih fun y hy => h y (List.mem_cons_of_mem _ hy)
    rw [List.flatten_cons, List.length_append, List.length_cons, Nat.succ_mul]; omega
theorem mdv_of {k n bs as : Nat} {M : Ma} (h : MPk k M n bs as) (hk : k ≤ 2) : MDv M n bs as (60 * 6 ^ k) := by
  have hN : 60 * 6 ^ k ≤ 60 * 6 ^ 2 := Nat.mul_le_mul_left _ (Nat.pow_le_pow_right (by decide) hk)
  have hN2 : 1 * (60 * 6 ^ k) < 2 ^ 2000 := Nat.lt_of_le_of_lt (by omega) (show (60 * 6 ^ 2 : Nat) < 2 ^ 2000 by decide +kernel)
  refine ⟨h.ok hk, fun q hq => ?_, fun q hq => ?_, ?_⟩
  · obtain ⟨i, hi, rfl⟩ := mem_gq hq
    exact gd_dv (h.g0 i (by rw [← h.l0]; exact hi)) hN2
  · unfold flatW at hq
    obtain ⟨r, hr, hq⟩ := List.mem_flatten.mp hq
    obtain ⟨R, hR, hr⟩ := List.mem_flatten.mp hr
    obtain ⟨T, hT, hR⟩ := List.mem_flatten.mp hR
    obtain ⟨i, hi, rfl⟩ := mem_gl hT
    obtain ⟨j, hj, rfl⟩ := mem_gl hR
    obtain ⟨s, hs, rfl⟩ := mem_gl hr
    obtain ⟨t, ht, rfl⟩ := mem_gq hq
    rw [h.l1] at hi
    rw [h.l2 i hi] at hj
    rw [h.l3 i j hi hj] at hs
    rw [h.l4 i j s hi hj hs] at ht
    exact gd_dv (h.g1 i j s t hi hj hs ht) hN2
  · have n1 := h.n1
    have a1 := h.a1
    have b1 := h.b1
    have e1 : ∀ T ∈ M.2, T.length ≤ 4 := fun T hT => by
      obtain ⟨i, hi, rfl⟩ := mem_gl hT
      rw [h.l1] at hi; rw [h.l2 i hi]; exact a1
    have e2 : ∀ R ∈ M.2.flatten, R.length ≤ 12 := fun R hR => by
      obtain ⟨T, hT, hR⟩ := List.mem_flatten.mp hR
      obtain ⟨i, hi, rfl⟩ := mem_gl hT
      obtain ⟨j, hj, rfl⟩ := mem_gl hR
      rw [h.l1] at hi; rw [h.l2 i hi] at hj; rw [h.l3 i j hi hj]; exact n1
    have e3 : ∀ r ∈ M.2.flatten.flatten, r.length ≤ 12 := fun r hr => by
      obtain ⟨R, hR, hr⟩ := List.mem_flatten.mp hr
      obtain ⟨T, hT, hR⟩ := List.mem_flatten.mp hR
      obtain ⟨i, hi, rfl⟩ := mem_gl hT
      obtain ⟨j, hj, rfl⟩ := mem_gl hR
      obtain ⟨s, hs, rfl⟩ := mem_gl hr
      rw [h.l1] at hi; rw [h.l2 i hi] at hj; rw [h.l3 i j hi hj] at hs; rw [h.l4 i j s hi hj hs]; exact n1
    have f1 := flat_le e1
    have f2 := flat_le e2
    have f3 := flat_le e3
    have l1 := h.l1
    unfold flatW
    omega
end K

set_option Elab.async false
set_option linter.all false
set_option maxRecDepth 100000
set_option maxHeartbeats 4000000
set_option exponentiation.threshold 5000
namespace K
open PySem PySem.Spec PyProof.Rows L2 Tk Hd Mt
theorem ends_step {m i : Nat} (hm : 0 < m) : min (min (m ^ i) 9999 * m) 9999 = min (m ^ (i + 1)) 9999 := by
  rw [Nat.pow_succ]
  by_cases h : m ^ i ≤ 9999
  · rw [Nat.min_eq_left h]
  · have h2 : 9999 ≤ m ^ i := by omega
    have h3 : 9999 * 1 ≤ m ^ i * m := Nat.mul_le_mul h2 hm
    have h4 : 9999 * 1 ≤ 9999 * m := Nat.mul_le_mul_left _ hm
    rw [Nat.min_eq_right h2, Nat.min_eq_right (by omega), Nat.min_eq_right (by omega)]
section
variable {P : Program} {w : World} {K : PySem.W.Frag} {mg : Str → Option Value} {base : Heap}
theorem ok_law (D : Dt K mg) {fd : FuncData} (F : FnP K "law" "law" s_law [] (He.ga K "law") fd) : FnOk P w K mg base (L2.CX P w) 52 (He.ga K "law") fd ["script"] (spLaw K) := by
  obtain ⟨fdH, kH, bH, H_sameH⟩ := ok_sameHot (P := P) (w := w) (base := base) D
  refine fnN F sc_law (fun vs H Q E h => ?_) (fun cdv A outer s H vs Q E hr h => ?_)
  · obtain ⟨a, ns, rfl, _⟩ := h; rfl
  · obtain ⟨a, ns, rfl, hS, hl, k⟩ := h
    refine ⟨_, (lawP D hr kH bH H_sameH).2, ?_⟩
    unfold lawP
    (try dsimp only)
    refine seq_cut (fun σ' H1 => ∃ (I1 : Hp) (p : Addr), σ' = [some (.ref a), some (.ref p), none, none, none, none, none, none, none, none, none, none] ∧ Same I1 H1 ∧ PoolOk I1 H1 p) (fun nx q => ?_) ?_
    · refine ⟨_, rfl, fun _ => none, a, ns, 0, rfl, (fun _ _ h => nomatch h), hS, by omega, fun I1 H1 p g1 po1 _ => q _ _ ⟨I1, p, rfl, g1.ih, po1⟩⟩
    clear hS hl
    rintro σ' H1 ⟨I1, p, rfl, s1, po1⟩
    (try dsimp only)
    refine seq_cut (fun σ' H2 => ∃ (bs : Nat), σ' = [some (.ref a), some (.ref p), some (.int (bs : Int)), none, none, none, none, none, none, none, none, none] ∧ Gr [p] I1 H1 I1 H2 ∧ PoolOk I1 H2 p ∧ 0 < bs ∧ bs ≤ 4) (fun nx q => ?_) ?_
    · refine ⟨_, rfl, I1, p, 4, rfl, s1, po1, by decide, by decide, fun x H2 a2 b2 g2 po2 => ⟨_, _, rfl, rfl, ?_⟩⟩
      obtain ⟨z, rfl⟩ := Int.eq_ofNat_of_zero_le a2
      exact q _ _ ⟨1 + z, by rw [show ((1 + z : Nat) : Int) = 1 + (z : Int) from by omega]; rfl, g2, po2, by omega, by omega⟩
    rintro σ' H2 ⟨bs, rfl, g2, po2, b0, b1⟩
    (try dsimp only)
    refine seq_cut (fun σ' H3 => ∃ (as : Nat), σ' = [some (.ref a), some (.ref p), some (.int (bs : Int)), some (.int (as : Int)), none, none, none, none, none, none, none, none] ∧ Gr [p] I1 H2 I1 H3 ∧ PoolOk I1 H3 p ∧ 0 < as ∧ as ≤ 4) (fun nx q => ?_) ?_
    · refine ⟨_, rfl, I1, p, 4, rfl, g2.ih, po2, by decide, by decide, fun x H2 a2 b2 g2 po2 => ⟨_, _, rfl, rfl, ?_⟩⟩
      obtain ⟨z, rfl⟩ := Int.eq_ofNat_of_zero_le a2
      exact q _ _ ⟨1 + z, by rw [show ((1 + z : Nat) : Int) = 1 + (z : Int) from by omega]; rfl, g2, po2, by omega, by omega⟩
    rintro σ' H3 ⟨as, rfl, g3, po3, a0, a1⟩
    (try dsimp only)
    refine seq_cut (fun σ' H4 => ∃ (I4 : Hp) (v4 : V) (A : Ma), σ' = [some (.ref a), some (.ref p), some (.int (bs : Int)), some (.int (as : Int)), some v4, none, none, none, none, none, none, none] ∧ Same I4 H4 ∧ PoolOk I4 H4 p ∧ iLM I4 v4 A ∧ MPk 0 A 1 bs as) (fun nx q => ?_) ?_
    · exact ⟨_, rfl, _, rfl, _, rfl, I1, p, 1, bs, as, rfl, g3.ih, po3, ⟨by decide, by decide⟩, ⟨b0, b1⟩, ⟨a0, a1⟩, fun I4 H4 v M g4 po4 r4 ok => q _ _ ⟨I4, v, M, rfl, g4.ih, po4, r4, ok⟩⟩
    clear g2 po2 g3 po3 s1 po1 I1
    rintro σ' H4 ⟨I4, v4, A, rfl, s4, po4, rA, okA⟩
    (try dsimp only)
    refine seq_cut (fun σ' H5 => ∃ (I5 : Hp) (v5 : V) (B : Ma), σ' = [some (.ref a), some (.ref p), some (.int (bs : Int)), some (.int (as : Int)), some v4, some v5, none, none, none, none, none, none] ∧ Same I5 H5 ∧ PoolOk I5 H5 p ∧ iLM I5 v4 A ∧ iLM I5 v5 B ∧ MPk 0 B 1 bs as) (fun nx q => ?_) ?_
    · exact ⟨_, rfl, _, rfl, _, rfl, I4, p, 1, bs, as, rfl, s4, po4, ⟨by decide, by decide⟩, ⟨b0, b1⟩, ⟨a0, a1⟩, fun I5 H5 v M g5 po5 r5 ok => q _ _ ⟨I5, v, M, rfl, g5.ih, po5, up g5.ii rA, r5, ok⟩⟩
    clear s4 po4 rA I4
    rintro σ' H5 ⟨I5, v5, B, rfl, s5, po5, rA, rB, okB⟩
    (try dsimp only)
    have dA : MDv A 1 bs as 60 := mdv_of okA (by decide)
    have dB : MDv B 1 bs as 60 := mdv_of okB (by decide)
    -- length
    refine seq_cut (fun σ' H6 => ∃ (L : Nat), σ' = [some (.ref a), some (.ref p), some (.int (bs : Int)), some (.int (as : Int)), some v4, some v5, some (.int (L : Int)), none, none, none, none, none] ∧ Gr [p] I5 H5 I5 H6 ∧ PoolOk I5 H6 p ∧ L ≤ 40) (fun nx q => ?_) ?_
    · refine ⟨_, rfl, I5, p, 8, rfl, s5, po5, by decide, by decide, fun x8 H6 a6 b6 g6 po6 => ⟨_, rfl, I5, p, 41, rfl, g6.ih, po6, by decide, by decide, fun x41 H7 a7 b7 g7 po7 => ⟨(by show 2 ≤ sizeLine; decide), fun t ht => ?_⟩⟩⟩
      have g8 : Gr [] I5 H7 I5 (upd H7 t (.tup [.int x8, .int x41])) := Gr.tmp g7.ih ht
      have po8 := po7.up g8 (by simp)
      refine ⟨_, rfl, I5, p, 4, rfl, g8.ih, po8, by decide, by decide, fun x4 H9 a9 b9 g9 po9 => ⟨rfl, .inr ⟨_, rfl, ?_⟩⟩⟩
      have hne : t ∉ [p] := by
        have := po7.ne ht
        simpa using fun h => this h.symm
      have ht9 : H9 t = some (.tup [.int x8, .int x41]) := g9.at upd_same (by simpa using fun h => po7.ne ht h.symm)
      have gg : Gr [p] I5 H5 I5 H9 := ((g6.trans g7).trans g8.nil).trans g9
      obtain ⟨z8, rfl⟩ := Int.eq_ofNat_of_zero_le a6
      obtain ⟨z41, rfl⟩ := Int.eq_ofNat_of_zero_le a7
      by_cases c : decide (V.int x4 = V.int 0) = true
      · refine ⟨t, _, 1, .int (z41 : Int), rfl, by rw [c]; rfl, SqT.of ht9, at_of (j := 1) rfl rfl, q _ _ ⟨z41, rfl, gg, po9, by omega⟩⟩
      · refine ⟨t, _, 0, .int (z8 : Int), rfl, by rw [if_neg c], SqT.of ht9, at_of (j := 0) rfl rfl, q _ _ ⟨z8, rfl, gg, po9, by omega⟩⟩
    rintro σ' H6 ⟨L, rfl, g6, po6, hL⟩
    (try dsimp only)
    have s6 := g6.ih
    clear g6 s5 po5
    have m0 : 0 < bs * as := Nat.mul_pos b0 a0
    have hm : bs * as ≤ 4 * 4 := Nat.mul_le_mul b1 a1
    refine seq_cut (fun σ' H7 => H7 = H6 ∧ σ' = [some (.ref a), some (.ref p), some (.int (bs : Int)), some (.int (as : Int)), some v4, some v5, some (.int (L : Int)), some (.int ((min ((bs * as) ^ 0) 9999 : Nat) : Int)), none, none, none, none]) (fun nx q => ?_) ?_
    · exact q _ _ ⟨rfl, rfl⟩
    rintro σ' H7 ⟨rfl, rfl⟩
    (try dsimp only)
    refine seq_cut (fun σ' H8 => H8 = H7 ∧ ∃ x8 : Option V, σ' = [some (.ref a), some (.ref p), some (.int (bs : Int)), some (.int (as : Int)), some v4, some v5, some (.int (L : Int)), some (.int ((min ((bs * as) ^ L) 9999 : Nat) : Int)), x8, none, none, none]) (fun nx q => ?_) ?_
    · refine ⟨_, rfl, _, rfl, by omega, by omega, ?_⟩
      rw [Int.toNat_natCast]
      refine for_rangeP (D := { nx := nx, rt := Q }) (fun σ' H8 => H8 = H7 ∧ ∃ x8 : Option V, σ' = [some (.ref a), some (.ref p), some (.int (bs : Int)), some (.int (as : Int)), some v4, some v5, some (.int (L : Int)), some (.int ((min ((bs * as) ^ L) 9999 : Nat) : Int)), x8, none, none, none]) (fun i σ' H8 => H8 = H7 ∧ ∃ x8 : Option V, σ' = [some (.ref a), some (.ref p), some (.int (bs : Int)), some (.int (as : Int)), some v4, some v5, some (.int (L : Int)), some (.int ((min ((bs * as) ^ i) 9999 : Nat) : Int)), x8, none, none, none]) ⟨rfl, none, rfl⟩ (fun nx2 qn i σ' H8 hi h => ?_) (fun σ' H8 h => h) (fun σ' H8 h => q _ _ h)
      obtain ⟨rfl, x8, rfl⟩ := h
      refine gName_of ?_
      (try dsimp only)
      have hle : min ((bs * as) ^ i) 9999 ≤ 9999 := Nat.min_le_right _ _
      generalize hz : min ((bs * as) ^ i) 9999 = z at hle
      have hzb : z * bs ≤ 9999 * 4 := Nat.mul_le_mul hle b1
      refine ⟨_, rfl, _, rfl, _, _, rfl, rfl, mulW_of (a := 20) (b := 20) (by rw [Int.natAbs_natCast]; omega) (by rw [Int.natAbs_natCast]; omega) (by decide) (by decide) (by decide), _, rfl, _, _, rfl, rfl, mulW_of (a := 20) (b := 20) (by rw [← Int.natCast_mul, Int.natAbs_natCast]; omega) (by rw [Int.natAbs_natCast]; omega) (by decide) (by decide) (by decide), _, _, rfl, ?_⟩
      refine ⟨rfl, some (.int (0 + (i : Int))), ?_⟩
      have e : (if (9999 : Int) < (z : Int) * (bs : Int) * (as : Int) then (9999 : Int) else (z : Int) * (bs : Int) * (as : Int)) = ((min ((bs * as) ^ (i + 1)) 9999 : Nat) : Int) := by
        rw [← ends_step m0, hz, ← Nat.mul_assoc, ← Int.natCast_mul, ← Int.natCast_mul]
        split <;> omega
      rw [← e]; rfl
    rintro σ' H8 ⟨rfl, x8, rfl⟩
    (try dsimp only)
    have e5 : (5000 < min ((bs * as) ^ L) 9999) ↔ 5000 < (bs * as) ^ L := by omega
    generalize hen : min ((bs * as) ^ L) 9999 = ends at e5
    refine seq_cut (fun σ' H9 => σ' = [some (.ref a), some (.ref p), some (.int (bs : Int)), some (.int (as : Int)), some v4, some v5, some (.int (L : Int)), some (.int (ends : Int)), x8, none, none, none] ∧ Gr [p] I5 H8 I5 H9 ∧ PoolOk I5 H9 p) (fun nx q => ?_) ?_
    · have qn : ∀ {H'}, Gr [p] I5 H8 I5 H' → PoolOk I5 H' p → nx [some (.ref a), some (.ref p), some (.int (bs : Int)), some (.int (as : Int)), some v4, some v5, some (.int (L : Int)), some (.int (ends : Int)), x8, none, none, none] H' := fun {H'} g po => q _ _ ⟨rfl, g, po⟩
      refine ⟨_, rfl, _, _, rfl, rfl, _, rfl, ?_⟩
      refine ifD (fun c => ?_) (fun c => ?_)
      · refine ⟨_, _, rfl, rfl, _, rfl, ?_⟩
        refine ifD (fun c2 => ?_) (fun c2 => ?_)
        · refine ⟨_, rfl, I5, p, 6, rfl, s6, po6, by decide, by decide, fun x H9 a9 b9 g9 po9 => ⟨_, _, rfl, rfl, _, rfl, ?_⟩⟩
          exact ifB (fun _ => k _) (fun _ => qn g9 po9)
        · exact ifF rfl (qn (Gr.refl s6) po6)
      · exact ⟨_, rfl, ifF rfl (ifF rfl (qn (Gr.refl s6) po6))⟩
    rintro σ' H9 ⟨rfl, g9, po9⟩
    (try dsimp only)
    have s9 := g9.ih
    clear g9 s6 po6
    obtain ⟨RB, eRB⟩ : ∃ RB, RB = rbest A B 1 1 bs as L (gq A.1) (gq B.1) := ⟨_, rfl⟩
    refine seq_cut (fun σ' H10 => ∃ (I10 : Hp) (t : Addr) (vr vp : V), σ' = [some (.ref a), some (.ref p), some (.int (bs : Int)), some (.int (as : Int)), some v4, some v5, some (.int (L : Int)), some (.int (ends : Int)), x8, some (.ref t), none, none] ∧ Same I10 H10 ∧ PoolOk I10 H10 p ∧ iLM I10 v4 A ∧ iLM I10 v5 B ∧ I10 t = some (.tup [vr, vp]) ∧ iR (CR K) I10 vr (RB.1 / 2) ∧ dR I10 vp RB.2 ∧ Fit (RB.1 / 2) ∧ (bs * as) ^ L ≤ 5000) (fun nx q => ?_) ?_
    · refine ⟨_, rfl, I5, v4, A, 1, bs, as, rfl, s9, rA, okA.ok (by decide), fun I10 H10 u1 g10 r10 => ⟨_, rfl, I10, v5, B, 1, bs, as, rfl, g10.ih, up g10.ii rB, okB.ok (by decide), fun I11 H11 u2 g11 r11 => ?_⟩⟩
      have g911 := g10.trans g11
      refine ⟨_, rfl, I11, u1, u2, A, B, 1, 1, bs, as, 60, L, rfl, g11.ih, up g11.ii r10, r11, dA, dB, by decide, by decide, hL, fun hle ft I12 H12 v12 g12 r12 => ?_, fun hgt I' H' d g hd => ?_⟩
      · obtain ⟨t, vr, vp, rfl, ht, rr, rp⟩ := r12
        rw [← eRB] at rr rp ft
        exact q _ _ ⟨I12, t, vr, vp, rfl, g12.ih, po9.up (g911.trans g12) (by simp), up (g911.ii.trans g12.ii) rA, up (g911.ii.trans g12.ii) rB, ht, rr, rp, ft, hle⟩
      · refine ⟨true, exm_TooLarge_TestError D, fun _ e9 he => ?_, fun q => nomatch q⟩
        refine ⟨_, rfl, _, _, rfl, rfl, _, rfl, ifT (decide_eq_true (by show ((5000 : Int)) < (ends : Int); have := e5.mpr hgt; omega)) ?_⟩
        refine ⟨_, rfl, rfl, ⟨d, _, rfl, hd⟩, _, _, true, rfl, (fun u r => r), kit_TooLarge_TooLarge D, _, rfl, ifT rfl ?_⟩
        refine ⟨_, rfl, (by show 4 ≤ sizeLine; decide), fun T hT => ?_⟩
        refine ⟨rfl, ⟨d, _, rfl, sNew hT _ _ hd⟩, T, _, _, false, rfl, upd_same, .cons (.own _) (.cons (.own _) (.cons (.own _) (.cons (.own _) .nil))), kitTL D, _, rfl, _, rfl, ifT rfl ?_⟩
        refine ⟨_, rfl, rfl, rfl, d, _, .str "test", rfl, sNew hT _ _ hd, rfl, .str "test", .str "test", .str "test", .str "test", rfl, by simp [dR], by simp [dR], rfl, rfl, ?_⟩
        rw [(eqd_iff _ _).mpr rfl]
        exact k _
    clear s9 po9 rA rB I5
    rintro σ' H10 ⟨I10, t, vr, vp, rfl, s10, po10, rA, rB, ht, rr, rp, ft, hle⟩
    (try dsimp only)
    have hends : ends ≤ 5000 := by
      have : ¬ 5000 < ends := fun h => by have := e5.mp h; omega
      omega
    have sA : S 1 (gq A.1) = 1 := by have := okA.s0; unfold Mt.tot at this; rw [okA.l0] at this; exact this
    have sB : S 1 (gq B.1) = 1 := by have := okB.s0; unfold Mt.tot at this; rw [okB.l0] at this; exact this
    have rb := rbest_bounds dA dB L (gq A.1) (gq B.1) (fun i hi => (gd_le1 dA hi).1) (fun i hi => (gd_le1 dB hi).1)
    have hx := rbest_plx (A := A) (B := B) (n1 := 1) (n2 := 1) (as := as) b0 L (gq A.1) (gq B.1)
    have hrr := rright_best (A := A) (B := B) (n1 := 1) (n2 := 1) (as := as) b0 L (gq A.1) (gq B.1)
    rw [sA, sB] at rb
    rw [← eRB] at rb hx hrr
    -- the bounds
    refine seq_cut (fun σ' H11 => ∃ (I11 : Hp), σ' = [some (.ref a), some (.ref p), some (.int (bs : Int)), some (.int (as : Int)), some v4, some v5, some (.int (L : Int)), some (.int (ends : Int)), x8, some (.ref t), none, none] ∧ Gr [] I10 H10 I11 H11) (fun nx q => ?_) ?_
    · refine ⟨_, rfl, _, _, rfl, rfl, _, rfl, ?_⟩
      rw [decide_eq_false (by show ¬ ((5000 : Int)) < (ends : Int); omega)]
      refine ifF rfl ?_
      obtain ⟨ar, dr, ear, har⟩ := id rr
      refine ⟨_, rfl, t, _, _, _, rfl, rfl, SqT.of (s10 _ _ ht), at_of (j := 0) rfl rfl, ar, dr, _, ear, s10 _ _ har, rf_no _ (by decide +kernel) (by decide +kernel), ?_⟩
      refine fun y dy ny nd ne => ⟨y, dy, _, _, rfl, upd_same, sm_of (by decide) (by decide), fun _ => ⟨rfl, ?_⟩, fun h => absurd h (by decide)⟩
      obtain ⟨g1, r1⟩ := rat_new (ms := []) (C := CR K) (q := rt 1 2) s10 ny nd ne
      refine ⟨_, vr, .ref y, _, _, rfl, g1.ih, up g1.ii rr, r1, ft, fit_b (b := 2) (by decide) (by decide), ?_⟩
      have e12 : rt 1 2 = 1 / 2 := by rw [rt_div]; rfl
      rw [decide_eq_false (by rw [e12]; intro h; grind)]
      refine ⟨_, rfl, ifF rfl ?_⟩
      refine fun y2 dy2 ny2 nd2 ne2 => ⟨y2, dy2, _, _, rfl, upd_same, sm_of (by decide) (by decide), fun _ => ⟨rfl, ?_⟩, fun h => absurd h (by decide)⟩
      obtain ⟨g2, r2⟩ := rat_new (ms := []) (C := CR K) (q := rt 1 1) g1.ih ny2 nd2 ne2
      have g12 := g1.trans g2
      obtain ⟨a2, d2, ea2, ha2⟩ := id r2
      refine ⟨a2, d2, _, ea2, g2.ih _ _ ha2, rf_no _ (by decide +kernel) (by decide +kernel), _, rfl, t, _, _, _, rfl, rfl, SqT.of (g12.ih _ _ (g12.ii _ _ ht)), at_of (j := 0) rfl rfl, ?_⟩
      refine ⟨_, .ref y2, vr, _, _, rfl, g2.ih, r2, up g12.ii rr, fit_b (b := 1) (by decide) (by decide), ft, ?_⟩
      have e11 : rt 1 1 = 1 := by rw [rt_cR]; rfl
      rw [decide_eq_false (by rw [e11]; intro h; grind)]
      refine ⟨_, rfl, ifF rfl ?_⟩
      refine ⟨_, rfl, _, 2, rfl, .inr ⟨_, SqT.of (g12.ih _ _ (g12.ii _ _ ht)), rfl⟩, rfl, _, rfl, ifF rfl ?_⟩
      exact q _ _ ⟨_, rfl, g12⟩
    rintro σ' H11 ⟨I11, rfl, g11⟩
    (try dsimp only)
    have s11 := g11.ih
    have po11 := po10.up g11 (by simp)
    have rA := up g11.ii rA
    have rB := up g11.ii rB
    have ht := g11.ii _ _ ht
    have rr := up g11.ii rr
    have rp := dR_up g11.ii _ _ rp
    clear g11 s10 po10
    refine seq_cut (fun σ' H12 => H12 = H11 ∧ σ' = [some (.ref a), some (.ref p), some (.int (bs : Int)), some (.int (as : Int)), some v4, some v5, some (.int (L : Int)), some (.int (ends : Int)), x8, some (.ref t), none, some vp]) (fun nx q => ?_) ?_
    · exact ⟨_, rfl, t, _, _, _, rfl, rfl, SqT.of (s11 _ _ ht), at_of (j := 1) rfl rfl, q _ _ ⟨rfl, rfl⟩⟩
    rintro σ' H12 ⟨rfl, rfl⟩
    (try dsimp only)
    refine seq_cut (fun σ' H13 => ∃ (x8 : Option V) (v11 : V) (d : Da), σ' = [some (.ref a), some (.ref p), some (.int (bs : Int)), some (.int (as : Int)), some v4, some v5, some (.int (L : Int)), some (.int (ends : Int)), x8, some (.ref t), none, some v11] ∧ Gr [p] I11 H12 I11 H13 ∧ dR I11 v11 d ∧ PlX bs as 0 d) (fun nx q => ?_) ?_
    · refine ⟨_, rfl, _, rfl, by omega, by omega, ?_⟩
      rw [Int.toNat_natCast]
      refine for_rangeP (D := { nx := nx, rt := Q }) (fun σ' H13 => ∃ (x8 : Option V) (v11 : V) (d : Da), σ' = [some (.ref a), some (.ref p), some (.int (bs : Int)), some (.int (as : Int)), some v4, some v5, some (.int (L : Int)), some (.int (ends : Int)), x8, some (.ref t), none, some v11] ∧ Gr [p] I11 H12 I11 H13 ∧ dR I11 v11 d ∧ PlX bs as 0 d)
        (fun i σ' H13 => ∃ (x8 : Option V) (v11 : V) (d : Da), σ' = [some (.ref a), some (.ref p), some (.int (bs : Int)), some (.int (as : Int)), some v4, some v5, some (.int (L : Int)), some (.int (ends : Int)), x8, some (.ref t), none, some v11] ∧ Gr [p] I11 H12 I11 H13 ∧ PoolOk I11 H13 p ∧ dR I11 v11 d ∧ PlX bs as (L - i) d)
        ⟨x8, vp, RB.2, rfl, Gr.refl s11, po11, rp, hx⟩ (fun nx2 qn i σ' H13 hi h => ?_) (fun σ' H13 h => ?_) (fun σ' H13 h => q _ _ h)
      · obtain ⟨x8, v11, d, rfl, g13, po13, rd, hd⟩ := h
        refine gName_of ?_
        (try dsimp only)
        obtain ⟨j, ej⟩ : ∃ j, L - i = j + 1 := ⟨L - i - 1, by omega⟩
        rw [ej] at hd
        obtain ⟨bt, ps, rfl, hbt, hlen, hps⟩ := hd
        simp only [pressD, dR, dRs] at rd
        obtain ⟨tp, ws, rfl, htp, v1, r1, rfl, rfl, v2, r2, rfl, rfl, v3, r3, rfl, ⟨tq, wq, rfl, htq, rps⟩, rfl⟩ := rd
        have lwq := dRs_len rps
        have htp13 := g13.ih _ _ htp
        have htq13 := g13.ih _ _ htq
        refine ⟨_, rfl, tp, _, _, _, rfl, rfl, SqT.of htp13, at_of (j := 0) rfl rfl, rfl, _, rfl, ifF rfl ?_⟩
        refine ⟨_, rfl, tp, _, _, _, rfl, rfl, SqT.of htp13, at_of (j := 2) rfl rfl, _, as, rfl, .inr ⟨_, SqT.of htq13, by omega⟩, _, rfl, rfl, _, rfl, ifF (by show (!decide (V.int (as : Int) = V.int (as : Int))) = false; rw [decide_eq_true rfl]; rfl) ?_⟩
        (try unfold tNext)
        (try dsimp only)
        refine ⟨_, rfl, tp, _, _, _, rfl, rfl, SqT.of htp13, at_of (j := 2) rfl rfl, _, rfl, _, rfl, I11, p, (as : Int), rfl, g13.ih, po13, by omega, by omega, fun x H14 a14 b14 g14 po14 => ?_⟩
        obtain ⟨z, rfl⟩ := Int.eq_ofNat_of_zero_le a14
        have hz : z < ps.length := by omega
        obtain ⟨u, hu, ru⟩ := dRs_at rps (List.getElem?_eq_getElem hz)
        refine ⟨tq, wq, (z : Int), u, rfl, rfl, SqT.of (g14.ih _ _ htq), at_of (j := z) rfl hu, ?_⟩
        exact ⟨_, u, ps[z], rfl, g13.trans g14, po14, ru, by rw [show L - (i + 1) = j from by omega]; exact hps _ (List.getElem_mem hz)⟩
      · obtain ⟨x8, v11, d, rfl, g13, po13, rd, hd⟩ := h
        exact ⟨x8, v11, d, rfl, g13, rd, by rw [Nat.sub_self] at hd; exact hd⟩
    rintro σ' H13 ⟨x8', v11, d, rfl, g13, rd, hd⟩
    (try dsimp only)
    obtain ⟨kk, ed⟩ : ∃ kk : Int, d = sayD kk := by
      rcases hd with rfl | rfl
      · exact ⟨1, rfl⟩
      · exact ⟨2, rfl⟩
    subst ed
    simp only [sayD, dR, dRs] at rd
    obtain ⟨tp, ws, rfl, htp, v1, r1, rfl, rfl, v2, r2, rfl, rfl, rfl⟩ := rd
    refine ⟨_, rfl, tp, _, _, _, rfl, rfl, SqT.of (g13.ih _ _ htp), at_of (j := 0) rfl rfl, rfl, _, rfl, ifT rfl ?_⟩
    refine ⟨_, rfl, I11, v4, A, 1, bs, as, rfl, g13.ih, rA, okA.ok (by decide), fun I14 H14 u1 g14 r14 => ⟨_, rfl, I14, v5, B, 1, bs, as, rfl, g14.ih, up g14.ii rB, okB.ok (by decide), fun I15 H15 u2 g15 r15 => ?_⟩⟩
    have gi := g14.ii.trans g15.ii
    refine ⟨_, rfl, t, _, _, _, rfl, rfl, SqT.of (g15.ih _ _ (gi _ _ ht)), at_of (j := 1) rfl rfl, ?_⟩
    refine ⟨I15, u1, u2, vp, A, B, 1, 1, bs, as, 60, L, RB.2, rfl, g15.ih, up g15.ii r14, r15, dA, dB, by decide, by decide, hL, dR_up gi _ _ rp, hx.s, ?_, fun I16 H16 v16 g16 r16 => ?_⟩
    · refine Nat.le_trans (Nat.mul_le_mul_right _ (Nat.pow_le_pow_right (by decide) hL)) (by decide +kernel)
    rw [hrr] at r16
    have gj := gi.trans g16.ii
    obtain ⟨a1, d1, e1, h1⟩ := id r16
    have rr16 := up gj rr
    obtain ⟨a2, d2, e2, h2⟩ := id rr16
    refine ⟨_, rfl, t, _, _, _, rfl, rfl, SqT.of (g16.ih _ _ (gj _ _ ht)), at_of (j := 0) rfl rfl, ?_⟩
    refine ⟨a1, a2, d1, d2, _, _, e1, e2, g16.ih _ _ h1, g16.ih _ _ h2, _, v16, vr, _, _, rfl, g16.ih, r16, rr16, ?_⟩
    rw [decide_eq_true rfl]
    exact k _
end
end K

set_option Elab.async false
set_option linter.all false
set_option maxRecDepth 100000
namespace K
open PySem PySem.Spec PyProof.Rows L2 Tk Hd
theorem facts {P : Program} {w : World} {K : PySem.W.Frag} {h : Heap} {mg : Str → Option Value} {f : Addr} (X : K.In h) (G : h.Ns mainGlobals mg) (hfa : mg ("law" : Str) = some (.ref f)) (c : SaysY ex fn K) :
    ∃ fd : FuncData, (∀ (s : Shared) (v : Value), BindsTo s fd ⟨[v], []⟩ [("script", v)]) ∧ ∀ base : Heap, K.In base → base.Ns mainGlobals mg → FnOk P w K mg base CX0 52 f fd ["script"] (fun vs H Q _ => spLaw K vs H Q E0) := by
  have D : Dt K mg := ⟨c, h, X, G⟩
  obtain ⟨fd, F⟩ := fd_law D
  have e := hfa.symm.trans (glo_law D)
  cases e
  have b := FunD.bindsA (ps := ["script"]) F fun _ _ _ _ _ _ us hl => match us, hl with | [_], _ => rfl
  exact ⟨fd, fun s v => b s [v] rfl, fun base _ _ => fn0 (ok_law D F)⟩
end K
open PySem PySem.W PySem.Calls PyProof.Rows
set_option maxHeartbeats 0 in
theorem PySem.Challenge.cw_notesttells_k41_tests_that_are_too_long_holds : PySem.Challenge.rw_notesttells_k41_tests_that_are_too_long.Holds := by
  w_on; o_law
  refine HandSHeadRun.head_imp (r := Hd.R) (q := Hd.vw) (H := Hd.hk) (ob := Hd.ob) (M := 20000) (loose := Hd.loose) (d := HandSHeadRun.topDef Hd.R.prog 50) (kwd := []) Hd.ob_eq Hd.run
    (by kernel_rfl) (by kernel_rfl) (by kernel_rfl) (by rfl) (by first | assumption | decide +kernel) (by decide +kernel) ⟨rfl, rfl, rfl, rfl, rfl, by decide +kernel⟩ ?hw ?hc
  case hw => w_witness2
  case hc =>
    refine L2.walk_ofE (l := PySem.Challenge.rw_notesttells_k41_tests_that_are_too_long) (n := 63) (k := 52) (x := "script") (CX := L2.CX0) rfl (by decide) (by kernel_rfl) ⟨rfl, by decide, by decide⟩ ?F (fun _ _ _ _ z => z)
    intro w mg fa h Y G hmg0
    obtain ⟨Kf, KX, c⟩ := Y
    have hmg : mg ("law" : PySem.Str) = some (.ref fa) := by
      have e : (HandSHeadRun.topDef Hd.R.prog 50).name = ("law" : PySem.Str) := by kernel_rfl
      rw [← e]
      exact hmg0
    obtain ⟨fd, hb, hF⟩ := K.facts (P := (PySem.Challenge.rw_notesttells_k41_tests_that_are_too_long).prog) (w := w) KX G hmg c
    exact ⟨Kf, fd, _, KX, hb, fun H a ns hl _ hS => ⟨a, ns, rfl, hS, hl, fun _ => rfl⟩, hF⟩

