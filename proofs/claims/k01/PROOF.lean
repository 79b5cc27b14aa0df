import PyProof.Rows.All
import Wide.All
import OpenK.AllK
import Wide.FinOn
import KE.KCallOwn
import HandS.ForExc
import HandS.Gcd
import HandS.Wide
import HandS.Defaults
import HandS.ExcIs
import HandS.IsInst
import HandS.HeadEnd
import HandS.HeadHook2
import HandS.Head3
import HandS.MakeKwOnly
import HandS.MakeKw
import HandS.FStr
import HandS.CallSlots
import HandS.ForMost
import HandS.ExcInit
import HandS.ExcField
import KE.KExcIs
import PyProof.FitsInt
import PyProof.Rows.StrDigitsNeg
import HandS.Comp
import HandS.Zip
import HandS.ForList
import KE.GoesMore
import KE.GoesZip
import HandS.TupAny
import HandS.OwnEq
import HandS.ExcCtx
import HandS.HotCalls
import HandS.ExcInitHot
import PySem.Challenge.RW_notesttells_k01_machines_that_are_none
set_option Elab.async false
set_option linter.all false
set_option maxRecDepth 100000
set_option maxHeartbeats 4000000
namespace Tk
open PySem PySem.Spec PyProof.Rows L2

section
variable {X : Cx} {CXx : CXT} {k : Nat} {f C : Addr} {fd : FuncData} {ps : List Str} {sp : Sp} {E : XK}

/-- a def runs at any depth of this body -/
theorem runAt {A' : Around} {pins : List (Addr × Obj)} {σ : L2.St} {H : Hp} {s : Shared} {Q : VK} {us ds : List Value} {vs dvs : List V}
    (F : FnOk X.prog X.w X.K X.mg X.base CXx k f fd ps sp) (hr : Room k A') (he : Env0 X.prog X.w X.K X.mg X.base A' X.stack s H)
    (hb : Binds X.K fd ps ds) (hd : Vals dvs ds) (hx : Passes CXx X E) (I : Inv X pins σ H s) (r : Vals vs us) (h : sp (vs ++ dvs) H Q E) :
    wpAny (model X.prog X.w) A' (call (.ref f) us) (EP X pins σ Q) X.xe s := by
  have r2 := r.append hd
  have hl := r2.length.symm.trans (F.len _ _ _ _ h)
  refine wpAny_call (codeAny_mono (F.run A' X.stack s H ⟨us, []⟩ (us ++ ds) (vs ++ dvs) Q E hr he (hb s us I.kIn hl) r2 h) ?_)
  intro res s' z
  cases res with
  | error e => exact hx _ _ _ _ _ _ I z
  | ok fl => cases fl with
    | ret u => exact I.after z
    | _ => exact False.elim z

/-- what an operator of a class's own asks: both instances of it, the def's promise -/
def rOwn (C : Addr) (sp : Sp) (E : XK) : R2 := fun x y H Q => ∃ a b dx dy fs gs, x = .ref a ∧ y = .ref b ∧ H a = some (.ins C dx fs) ∧ H b = some (.ins C dy gs) ∧ sp [x, y] H Q E

theorem notNI {v : V} {u : Value} (r : RelV v u) : u ≠ .notImplemented := by
  intro e; subst e
  cases v with
  | non => cases (show Value.notImplemented = Value.none from r)
  | bl b => cases (show Value.notImplemented = Value.bool b from r)
  | int i => obtain ⟨t, e⟩ := (show ∃ t, Value.notImplemented = Value.int i t from r); cases e
  | str x => obtain ⟨t, e⟩ := (show ∃ t, Value.notImplemented = Value.str x t from r); cases e
  | byt b => obtain ⟨t, e⟩ := (show ∃ t, Value.notImplemented = Value.bytes b t from r); cases e
  | flt b => obtain ⟨t, e⟩ := (show ∃ t, Value.notImplemented = Value.float b t from r); cases e
  | ref a => cases (show Value.notImplemented = Value.ref a from r)
  | ty n => cases (show Value.notImplemented = Value.type n from r)
theorem cmpBack_of {Q : Value → Shared → Prop} {u : Value} {s : Shared} (n : u ≠ .notImplemented) (q : Q u s) : PySem.W.CmpBack Q u s := by
  cases u <;> first | exact absurd rfl n | exact q
theorem inst_of {pins : List (Addr × Obj)} {σ : L2.St} {H : Hp} {s : Shared} (I : Inv X pins σ H s) {a dx : Addr} {fs : List (Str × V)} (e : H a = some (.ins C dx fs)) : ∃ od, PySem.W.InstAt s.heap a (PySem.W.instObj C dx) C (some od) := by
  obtain ⟨mA, O, _⟩ := ins_get I.hok e
  obtain ⟨od, J, _⟩ := O.look
  exact ⟨od, J⟩

/-- a + b and the like by the class's own __add__ and the like -/
theorem op_own {op : Operator} (F : FnOk X.prog X.w X.K X.mg X.base CXx k f fd ps sp) (hr : Room k X.A) (hb : Binds X.K fd ps []) (hx : Passes CXx X E)
    (hc : PySem.W.selfFirst X.K C = true) (hs : PySem.W.findIn X.K (.ref C) (PySem.dunder op.info.2) = some (some (.ref f))) (hf : PySem.W.isFn X.K (.ref f) = true) :
    OpR X (binaryOp op) (rOwn C sp E) := by
  intro pins s σ H x y v u Q I rx ry h
  obtain ⟨a, b, dx, dy, fs, gs, rfl, rfl, ea, eb, h⟩ := h
  cases rx; cases ry
  obtain ⟨od, J⟩ := inst_of I ea
  obtain ⟨od', J'⟩ := inst_of I eb
  have KX := I.kIn
  obtain ⟨cd, hcd, hm⟩ := PySem.W.any_some hc
  obtain ⟨rest, hm⟩ : ∃ rest, cd.mro = .ref C :: rest := by
    cases q : cd.mro with
    | nil => rw [q] at hm; cases hm
    | cons z r => rw [q] at hm; rw [List.head?_cons] at hm; exact ⟨r, by rw [Option.some.inj (eq_of_beq hm)]⟩
  unfold binaryOp
  refine wpAny_holding (wpAny_bind ?_)
  unfold binaryOp1
  refine wpAny_bind (J.type.here (wpAny_bind (J'.type.here (wpAny_bind ((PySem.W.fills_K KX hcd hm hs).here ?_)))))
  simp only [beq_self_eq_true, if_true]
  refine wpAny_bind (wpAny_pure ?_)
  simp only [Bool.and_false, Bool.false_eq_true, if_false, Bool.false_and]
  refine wpAny_bind (wpAny_pure ?_)
  simp only [Bool.false_eq_true, if_false]
  refine wpAny_bind (m := tryMethod (.ref a) _ (.ref b)) ?_
  unfold tryMethod
  refine wpAny_bind (PySem.W.special_fn KX J hs (beq_iff_eq.mp hf) (wpAny_mono (runAt (vs := [.ref a, .ref b]) (dvs := []) F hr I.env0 hb .nil hx I (.cons rfl (.cons rfl .nil)) h) (fun r s' hv => ?_) fun _ _ e => e))
  obtain ⟨v', H', I', rv, q⟩ := hv
  have hn := notNI rv
  cases r <;> first | exact absurd rfl hn | exact wpAny_pure (wpAny_pure (wpAny_pure ⟨v', H', I', rv, q⟩))

/-- a == b by the class's own __eq__; b is of the same class -/
theorem rc_own {op : CmpOp} (F : FnOk X.prog X.w X.K X.mg X.base CXx k f fd ps sp) (hr : Room k X.A) (hb : Binds X.K fd ps []) (hx : Passes CXx X E)
    (hs : PySem.W.findIn X.K (.ref C) (cmpInfo op).2.1 = some (some (.ref f))) (hf : PySem.W.isFn X.K (.ref f) = true) :
    OpR X (richCompare op) (rOwn C sp E) := by
  intro pins s σ H x y v u Q I rx ry h
  obtain ⟨a, b, dx, dy, fs, gs, rfl, rfl, ea, eb, h⟩ := h
  cases rx; cases ry
  obtain ⟨od, J⟩ := inst_of I ea
  obtain ⟨od', J'⟩ := inst_of I eb
  have KX := I.kIn
  have one : wpAny (model X.prog X.w) X.A (tryCompare (.ref a) (cmpInfo op).2.1 (.ref b)) (fun r s' => ∃ v, r = some v ∧ EP X pins σ Q v s') X.xe s := by
    unfold tryCompare
    refine wpAny_bind (PySem.W.ifBound_K KX J hs hf (wpAny_mono (runAt (vs := [.ref a, .ref b]) (dvs := []) F hr I.env0 hb .nil hx I (.cons rfl (.cons rfl .nil)) h) (fun r s' hv => ?_) fun _ _ e => e))
    obtain ⟨v', H', I', rv, q⟩ := hv
    have hn := notNI rv
    cases r <;> first | exact absurd rfl hn | exact wpAny_pure ⟨_, rfl, v', H', I', rv, q⟩
  unfold richCompare
  simp only [oneThing_ref]
  refine wpAny_holding (wpAny_bind (wpAny_cRoomFor hr.units0 ?_))
  refine wpAny_bind (J.type.here (wpAny_bind (J'.type.here ?_)))
  split
  · rename_i q
    exact absurd q (by simp)
  · refine wpAny_bind (wpAny_pure ?_)
    simp only [Bool.false_eq_true, if_false]
    refine wpAny_bind (wpAny_mono one (fun r s' z => ?_) fun _ _ e => e)
    obtain ⟨v, rfl, hq⟩ := z
    exact wpAny_pure hq
theorem op_eqOwn (F : FnOk X.prog X.w X.K X.mg X.base CXx k f fd ps sp) (hr : Room k X.A) (hb : Binds X.K fd ps []) (hx : Passes CXx X E)
    (hs : PySem.W.findIn X.K (.ref C) "__eq__" = some (some (.ref f))) (hf : PySem.W.isFn X.K (.ref f) = true) : OpR X (compareOp .Eq) (rOwn C sp E) :=
  rc_own (op := .Eq) F hr hb hx hs hf

/-- str(x) by the class's own __str__, which hands back a text -/
def rStrOwn (C : Addr) (sp : Sp) (E : XK) : List V → Hp → VK → Prop := fun xs H Q => ∃ a dx fs, xs = [.ref a] ∧ H a = some (.ins C dx fs) ∧ sp [.ref a] H (fun v H' => (∃ z, v = .str z) ∧ Q v H') E
theorem call_strOwn (F : FnOk X.prog X.w X.K X.mg X.base CXx k f fd ps sp) (hr : Room (k + 2) X.A) (hb : Binds X.K fd ps []) (hx : Passes CXx X E)
    (hs : PySem.W.findIn X.K (.ref C) "__str__" = some (some (.ref f))) (hf : PySem.W.isFn X.K (.ref f) = true) : CallR X (.type "str") (rStrOwn C sp E) := by
  intro pins s σ H xs us Q I r h
  obtain ⟨a, dx, fs, rfl, ea, h⟩ := h
  obtain ⟨u, rfl, ru⟩ := vals1 r
  cases ru
  obtain ⟨od, J⟩ := inst_of I ea
  have r1 : Room (k + 1) X.A.in1 := hr.in1
  have r2 : Room k X.A.in1.in1 := r1.in1
  refine PySem.W.kso_call r2.units0 I.kIn J hs hf (wpAny_mono (runAt (vs := [.ref a]) (dvs := []) F r2 I.env0.in1.in1 hb .nil hx I (.cons rfl .nil) h) (fun r s' hv => ?_) fun _ _ e => e)
  obtain ⟨v', H', I', rv, ⟨z, rfl⟩, q⟩ := hv
  obtain ⟨t, rfl⟩ := rv
  exact ⟨.str z, H', I', ⟨t, rfl⟩, q⟩
end
end Tk

set_option Elab.async false
set_option linter.all false
set_option maxRecDepth 100000
set_option maxHeartbeats 4000000
/-! Heaps that grow: I is the part that never changes again, H all of it; ms may change. -/
namespace Tk
open PySem PySem.Spec PyProof.Rows L2

structure Gr (ms : List Addr) (I H I' H' : Hp) : Prop where
  ii : Same I I'
  ih : Same I' H'
  hh : ∀ a o, a ∉ ms → H a = some o → H' a = some o
  th : ∀ a o, H a = some o → ∃ o', H' a = some o'
  nw : ∀ a o, I a = none → H a = some o → I' a = none
section
variable {ms ns : List Addr} {I H I' H' I'' H'' : Hp} {p m : Addr} {o o' : HO}
theorem sNew (h : H p = none) : Same H (upd H p o) := fun a u e => by rw [upd_ne (ne_of_none e h)]; exact e
theorem sBoth (s : Same I H) : Same (upd I p o) (upd H p o) := fun a u e => by
  by_cases q : a = p
  · subst q; rw [upd_same] at e ⊢; exact e
  · rw [upd_ne q] at e ⊢; exact s a u e
theorem sUnder (s : Same I H) (h : I p = none) : Same I (upd H p o) := fun a u e => by
  rw [upd_ne (ne_of_none e h)]; exact s a u e
theorem sNone (s : Same I H) (h : H p = none) : I p = none := s.free h
theorem Gr.refl (s : Same I H) : Gr ms I H I H := ⟨Same.refl I, s, fun _ _ _ e => e, fun _ o e => ⟨o, e⟩, fun _ _ e _ => e⟩
theorem Gr.trans (a : Gr ms I H I' H') (b : Gr ms I' H' I'' H'') : Gr ms I H I'' H'' :=
  ⟨a.ii.trans b.ii, b.ih, fun x o n e => b.hh x o n (a.hh x o n e), fun x o e => by obtain ⟨u, q⟩ := a.th x o e; exact b.th x u q,
    fun x o e1 e2 => by obtain ⟨u, q⟩ := a.th x o e2; exact b.nw x u (a.nw x o e1 e2) q⟩
theorem Gr.mono (a : Gr ms I H I' H') (h : ∀ x ∈ ms, x ∈ ns) : Gr ns I H I' H' := ⟨a.ii, a.ih, fun x o n e => a.hh x o (fun z => n (h x z)) e, a.th, a.nw⟩
theorem Gr.nil (a : Gr [] I H I' H') : Gr ms I H I' H' := a.mono (fun _ z => nomatch z)
/-- a new thing that stays as it is -/
theorem Gr.new (s : Same I H) (h : H p = none) : Gr ms I H (upd I p o) (upd H p o) :=
  ⟨sNew (s.free h), sBoth s, fun _ _ _ e => sNew h _ _ e, fun _ u e => ⟨u, sNew h _ _ e⟩, fun a u e1 e2 => by rw [upd_ne (ne_of_none e2 h)]; exact e1⟩
/-- a new thing that may change -/
theorem Gr.tmp (s : Same I H) (h : H p = none) : Gr ms I H I (upd H p o) :=
  ⟨Same.refl I, sUnder s (s.free h), fun _ _ _ e => sNew h _ _ e, fun _ u e => ⟨u, sNew h _ _ e⟩, fun a u e1 _ => e1⟩
/-- a change -/
theorem Gr.mut (s : Same I H) (hi : I m = none) (hm : m ∈ ms) : Gr ms I H I (upd H m o) :=
  ⟨Same.refl I, sUnder s hi, fun a u n e => by rw [upd_ne (fun (z : a = m) => n (z ▸ hm))]; exact e,
    fun a u e => by
      by_cases q : a = m
      · subst q; exact ⟨_, upd_same⟩
      · exact ⟨u, by rw [upd_ne q]; exact e⟩, fun a u e1 _ => e1⟩
/-- what was new and may have changed stays from here on as it is -/
theorem Gr.frz (g : Gr (m :: ms) I H I' H') (s : Same I H) (h : H m = none) (e : H' m = some o) : Gr ms I H (upd I' m o) H' := by
  have h1 : ∀ a u, H a = some u → a ≠ m := fun a u q => ne_of_none q h
  refine ⟨fun a u q => ?_, fun a u q => ?_, fun a u n q => ?_, g.th, fun a u e1 e2 => ?_⟩
  · rw [upd_ne (h1 a u (s a u q))]; exact g.ii a u q
  · by_cases z : a = m
    · subst z; rw [upd_same] at q; rw [← q]; exact e
    · rw [upd_ne z] at q; exact g.ih a u q
  · exact g.hh a u (fun z => (List.mem_cons.mp z).elim (h1 a u q) n) q
  · rw [upd_ne (h1 a u e2)]; exact g.nw a u e1 e2
/-- a mutable thing that is not in I stays out of it -/
theorem Gr.out (g : Gr ms I H I' H') (hi : I m = none) (h : H m = some o) : I' m = none := g.nw m o hi h
theorem Gr.at (g : Gr ms I H I' H') (h : H m = some o) (n : m ∉ ms) : H' m = some o := g.hh m o n h
end

/-! What a value is, by the part that stays. -/
abbrev Rp (α : Type) := Hp → V → α → Prop
class Mono {α : Type} (R : Rp α) : Prop where
  up : ∀ {H H' : Hp} {v : V} {x : α}, Same H H' → R H v x → R H' v x
section
variable {α β : Type}
def iI : Rp Int := fun _ v i => v = .int i
def iN : Rp Nat := fun _ v i => v = .int (i : Int)
def iB : Rp Bool := fun _ v b => v = .bl b
def iS : Rp Str := fun _ v z => v = .str z
/-- a list, a tuple of things of one kind -/
inductive All2 (R : V → α → Prop) : List V → List α → Prop where
  | nil : All2 R [] []
  | cons {v : V} {x : α} {vs : List V} {xs : List α} (h : R v x) (t : All2 R vs xs) : All2 R (v :: vs) (x :: xs)
def iL (R : Rp α) : Rp (List α) := fun H v xs => ∃ a vs, v = .ref a ∧ H a = some (.lst vs) ∧ All2 (R H) vs xs
def iT (R : Rp α) : Rp (List α) := fun H v xs => ∃ a vs, v = .ref a ∧ H a = some (.tup vs) ∧ All2 (R H) vs xs
def iP (R : Rp α) (S : Rp β) : Rp (α × β) := fun H v p => ∃ a x y, v = .ref a ∧ H a = some (.tup [x, y]) ∧ R H x p.1 ∧ S H y p.2
theorem All2.mono {R S : V → α → Prop} (h : ∀ v x, R v x → S v x) : ∀ {vs : List V} {xs : List α}, All2 R vs xs → All2 S vs xs
  | _, _, .nil => .nil
  | _, _, .cons a t => .cons (h _ _ a) (t.mono h)
theorem All2.len {R : V → α → Prop} : ∀ {vs : List V} {xs : List α}, All2 R vs xs → vs.length = xs.length
  | _, _, .nil => rfl
  | _, _, .cons _ t => congrArg Nat.succ t.len
theorem All2.get {R : V → α → Prop} : ∀ {vs : List V} {xs : List α} {i : Nat} {v : V}, All2 R vs xs → vs[i]? = some v → ∃ x, xs[i]? = some x ∧ R v x
  | _, _, _, _, .nil, e => by simp at e
  | _, _, 0, _, .cons a t, e => by simp at e; subst e; exact ⟨_, rfl, a⟩
  | _, _, i + 1, v, .cons a t, e => by
    obtain ⟨x, h1, h2⟩ := All2.get (i := i) (v := v) t (by simpa using e)
    exact ⟨x, by simpa using h1, h2⟩
theorem All2.get' {R : V → α → Prop} : ∀ {vs : List V} {xs : List α} {i : Nat} {x : α}, All2 R vs xs → xs[i]? = some x → ∃ v, vs[i]? = some v ∧ R v x
  | _, _, _, _, .nil, e => by simp at e
  | _, _, 0, _, .cons a t, e => by simp at e; subst e; exact ⟨_, rfl, a⟩
  | _, _, i + 1, v, .cons a t, e => by
    obtain ⟨x, h1, h2⟩ := All2.get' (i := i) (x := v) t (by simpa using e)
    exact ⟨x, by simpa using h1, h2⟩
theorem All2.append {R : V → α → Prop} : ∀ {vs ws : List V} {xs ys : List α}, All2 R vs xs → All2 R ws ys → All2 R (vs ++ ws) (xs ++ ys)
  | _, _, _, _, .nil, h => h
  | _, _, _, _, .cons a t, h => .cons a (t.append h)
theorem All2.set {R : V → α → Prop} : ∀ {vs : List V} {xs : List α} (i : Nat) {v : V} {x : α}, All2 R vs xs → R v x → All2 R (vs.set i v) (xs.set i x)
  | _, _, _, _, _, .nil, _ => .nil
  | _, _, 0, _, _, .cons _ t, h => .cons h t
  | _, _, i + 1, _, _, .cons a t, h => .cons a (t.set i h)
theorem All2.ints : ∀ {xs : List Int} {vs : List V}, All2 (fun v x => v = V.int x) vs xs → vs = xs.map V.int
  | _, _, .nil => rfl
  | _, _, .cons a t => by rw [a, t.ints]; rfl
theorem All2.ofInts {H : Hp} : ∀ (xs : List Int), All2 (iI H) (xs.map V.int) xs
  | [] => .nil
  | x :: r => .cons rfl (All2.ofInts r)
instance : Mono iI := ⟨fun _ h => h⟩
instance : Mono iN := ⟨fun _ h => h⟩
instance : Mono iB := ⟨fun _ h => h⟩
instance : Mono iS := ⟨fun _ h => h⟩
instance {R : Rp α} [m : Mono R] : Mono (iL R) := ⟨fun s ⟨a, vs, e, h, t⟩ => ⟨a, vs, e, s _ _ h, t.mono fun _ _ => m.up s⟩⟩
instance {R : Rp α} [m : Mono R] : Mono (iT R) := ⟨fun s ⟨a, vs, e, h, t⟩ => ⟨a, vs, e, s _ _ h, t.mono fun _ _ => m.up s⟩⟩
instance {R : Rp α} {S : Rp β} [m : Mono R] [n : Mono S] : Mono (iP R S) := ⟨fun s ⟨a, x, y, e, h, p, q⟩ => ⟨a, x, y, e, s _ _ h, m.up s p, n.up s q⟩⟩
theorem up {R : Rp α} [m : Mono R] {H H' : Hp} {v : V} {x : α} (s : Same H H') (h : R H v x) : R H' v x := m.up s h
end
end Tk

set_option Elab.async false
set_option linter.all false
set_option maxRecDepth 100000
set_option maxHeartbeats 4000000
/-! The head: what the top leaves, told by one Bool and the defs' own texts. -/
namespace Tk
open PySem PySem.Spec PyProof.Rows L2
def obsY (ex : PySem.W.Frag → Bool) (fn : List He.DefD) (K : PySem.W.Frag) : He.AlD := (ex K && fn.all fun d => d.ok K, fn.map fun d => He.fnW K d.at_)
def SaysY (ex : PySem.W.Frag → Bool) (fn : List He.DefD) (K : PySem.W.Frag) : Prop := obsY ex fn K = He.valD fn
def obsYG (n : Nat) (ex : PySem.W.Frag → Bool) (fn : List He.DefD) (g : Addr → Option Obj) : He.AlD := obsY ex fn (He.frG g (He.asD g n))
def hookY (n : Nat) (ex : PySem.W.Frag → Bool) (fn : List He.DefD) : PySem.W.Hook :=
  { α := He.AlD, obs := fun s => obsYG n ex fn s.heap.get?, val := fun _ => He.valD fn, says := fun _ h => ∃ K : PySem.W.Frag, K.In h ∧ SaysY ex fn K,
    of := fun _ _ e => ⟨_, He.frG_in, e⟩, keeps := fun _ _ _ z k => by obtain ⟨K, hK, c⟩ := z; exact ⟨K, PySem.W.Frag.In.keeps hK k, c⟩ }
theorem obsYG_eq {n : Nat} {ex : PySem.W.Frag → Bool} {fn : List He.DefD} {g : Addr → Option Obj} {s : Shared} (h : ∀ a, g a = s.heap.get? a) : obsYG n ex fn g = (hookY n ex fn).obs s := by
  rw [show g = s.heap.get? from funext h]; rfl
section
variable {ex : PySem.W.Frag → Bool} {fn : List He.DefD} {K : PySem.W.Frag}
theorem SaysY.more (c : SaysY ex fn K) : ex K = true := (He.ba (show (ex K && fn.all fun d => d.ok K) = true from congrArg (fun z : He.AlD => z.1) c)).1
theorem SaysY.get (c : SaysY ex fn K) (i : Nat) {d : He.DefD} (h : fn[i]? = some d := by rfl) : ∃ fd, FunD K d.name d.qual d.params d.body d.scope (d.dvs K) (d.kws K) (He.fAd K d.at_) fd := by
  have c2 := (He.ba (show (ex K && fn.all fun d => d.ok K) = true from congrArg (fun z : He.AlD => z.1) c)).2
  have e : fn.map (fun d => He.fnW K d.at_) = fn.map He.DefD.val := congrArg (fun z : He.AlD => z.2) c
  have e2 := congrArg (fun l : List He.FnW => l[i]?) e
  simp only [List.getElem?_map, h] at e2
  exact He.DefD.funD (Option.some.inj e2) (List.all_eq_true.mp c2 d (List.mem_of_getElem? h))
end
def blB (K : PySem.W.Frag) (x : Str) (id : String) : Bool := He.eqO (PySem.W.nsIn K mainGlobals x) (some (some (.builtin id)))
def instB (K : PySem.W.Frag) (x : Str) : Bool :=
  He.eqO (PySem.W.findIn K (.ref (He.ga K x)) "__class__") (some (some (.builtin "object.__class__"))) &&
  (He.eqO (PySem.W.specialIn K (.builtin "object.__class__") "__get__") (some (some (.builtin "getset_descriptor.__get__"))) &&
  (decide (PySem.W.takesIn K (.builtin "object.__class__") = some true) && decide (PySem.W.mroIn K (He.ga K x) (.type "object") = some true)))
def isEB (K : PySem.W.Frag) (x : Str) : Bool :=
  He.eqO (PySem.W.findIn K (.ref (He.ga K x)) "__getattribute__") (some (some (.builtin "BaseException.__getattribute__"))) &&
  (He.eqO (PySem.W.findIn K (.ref (He.ga K x)) "__getattr__") (some none) &&
  (decide (PySem.W.subIn K (.ref (He.ga K x)) (.type "BaseException") = some true) && (PySem.W.hasDictIn K (He.ga K x) && instB K x)))
section
variable {K : PySem.W.Frag} {h : Heap} {mg : Str → Option Value} {x : Str} {id : String}
theorem blB_ok (X : K.In h) (G : h.Ns mainGlobals mg) (c : blB K x id = true) : mg x = some (.builtin id) := PySem.W.mg_of X G (He.eqO_ok c)
structure InstC (K : PySem.W.Frag) (C : Addr) : Prop where
  ha : PySem.W.findIn K (.ref C) "__class__" = some (some (.builtin "object.__class__"))
  hn : PySem.W.specialIn K (.builtin "object.__class__") "__get__" = some (some (.builtin "getset_descriptor.__get__"))
  ht : PySem.W.takesIn K (.builtin "object.__class__") = some true
  hm : PySem.W.mroIn K C (.type "object") = some true
theorem instB_ok (c : instB K x = true) : InstC K (He.ga K x) := by
  obtain ⟨c1, c⟩ := He.ba c
  obtain ⟨c2, c⟩ := He.ba c
  obtain ⟨c3, c4⟩ := He.ba c
  exact ⟨He.eqO_ok c1, He.eqO_ok c2, of_decide_eq_true c3, of_decide_eq_true c4⟩
theorem isEB_ok (c : isEB K x = true) : ExcC K (He.ga K x) := by
  obtain ⟨c1, c⟩ := He.ba c
  obtain ⟨c2, c⟩ := He.ba c
  obtain ⟨c3, c⟩ := He.ba c
  obtain ⟨c4, c5⟩ := He.ba c
  have i := instB_ok c5
  exact { hg := He.eqO_ok c1, hk := He.eqO_ok c2, hs := of_decide_eq_true c3, hd := c4, ha := i.ha, hn := i.hn, ht := i.ht, hm := i.hm }
theorem InstC.ty {H : Hp} {C a dx : Addr} {fs : List (Str × V)} (i : InstC K C) (cl : Cls K C) (e : H a = some (.ins C dx fs)) : TyX K H (.ref a) (.ref C) := .base (.ins e cl i.ha i.hn i.ht i.hm)
end
end Tk

set_option Elab.async false
set_option linter.all false
set_option maxRecDepth 100000
set_option maxHeartbeats 4000000
/-! A def that stands and keeps its promise; how it is called. -/
namespace Tk
open PySem PySem.Spec PyProof.Rows L2
def Has (P : Program) (w : World) (K : PySem.W.Frag) (mg : Str → Option Value) (base : Heap) (k : Nat) (f : Addr) (ps : List Str) (dvs : List V) (sp : Sp) : Prop :=
  PySem.W.keepIn K (.ref f) = true ∧ ∃ (fd : FuncData) (ds : List Value), Vals dvs ds ∧ Binds K fd ps ds ∧ FnOk P w K mg base (L2.CX P w) k f fd ps sp
theorem Has.mono {P : Program} {w : World} {K : PySem.W.Frag} {mg : Str → Option Value} {base : Heap} {j k : Nat} {f : Addr} {ps : List Str} {dvs : List V} {sp : Sp} (h : Has P w K mg base j f ps dvs sp) (l : j ≤ k) : Has P w K mg base k f ps dvs sp := by
  obtain ⟨a, fd, ds, b, c, F⟩ := h
  exact ⟨a, fd, ds, b, c, F.mono l⟩
section
variable {X : Cx} {k : Nat} {f C : Addr} {ps : List Str} {sp : Sp} {dvs : List V} {E : XK} {x m : Str} {p pos apos : Pos} {e o : Expr} {es : List Expr} {ta : TE} {t : TA}
abbrev HasX (X : Cx) := Has X.prog X.w X.K X.mg X.base
theorem pe_callH (h : HasX X k f ps dvs sp) (hr : Room k X.A) (hg : Gl X x) (hm : X.mg x = some (.ref f)) (hx : Passes (L2.CX X.prog X.w) X E) (ha : PA X (e :: es) t)
    (hdb : (x == ("__debug__" : Str)) = false := by decide) (he : starEach (e :: es) X.env = (false, eval e X.env) :: starEach es X.env := by rfl) (hpl : (backTo pos (starEach es X.env)).any (·.1) = false := by rfl) :
    PE X (.Call (.Name x p) (e :: es) [] pos) (tCall sp dvs E t) := by
  obtain ⟨hk, fd, ds, hd, hb, F⟩ := h
  exact pe_call F hr hg hm hk hb hd hx ha hdb he hpl
theorem pe_methH {pl : Sem Bool} (he : PE X o ta) (c : Cls X.K C) (hm : Meth X.K C m f) (h : HasX X k f ps dvs sp) (hr : Room k X.A) (hx : Passes (L2.CX X.prog X.w) X E) (ha : PA X (e :: es) t)
    (hst : starEach (e :: es) X.env = (false, eval e X.env) :: starEach es X.env := by rfl) (hpl : (backTo pos (starEach es X.env)).any (·.1) = false := by rfl)
    (ht : eval (.Call (.Attribute o m apos) (e :: es) [] pos) X.env = (do
      let ov ← eval o X.env
      standAt apos.atName
      let (f, first) ← holding [ov] (getMethod ov m pl)
      callWith pos f first (backTo pos (starEach (e :: es) X.env)) (backToKw pos (keywordEach [] X.env))) := by rfl) :
    PE X (.Call (.Attribute o m apos) (e :: es) [] pos) (tMeth C m sp dvs E ta t) := by
  obtain ⟨hk, fd, ds, hd, hb, F⟩ := h
  exact pe_meth (pl := pl) he c hm F hr hb hd hx ha hst hpl ht
theorem pe_makeH (M : Mk X.K C f) (h : HasX X k f ps dvs sp) (hr : Room (k + 1) X.A) (hg : Gl X x) (hm : X.mg x = some (.ref C)) (hx : Passes (L2.CX X.prog X.w) X E) (ha : PA X (e :: es) t)
    (hdb : (x == ("__debug__" : Str)) = false := by decide) (he : starEach (e :: es) X.env = (false, eval e X.env) :: starEach es X.env := by rfl) (hpl : (backTo pos (starEach es X.env)).any (·.1) = false := by rfl) :
    PE X (.Call (.Name x p) (e :: es) [] pos) (tMake C sp dvs E t) := by
  obtain ⟨hk, fd, ds, hd, hb, F⟩ := h
  exact pe_make M F hr hg hm hb hd hx ha hdb he hpl
theorem op_ownH {op : Operator} (h : HasX X k f ps [] sp) (hr : Room k X.A) (hx : Passes (L2.CX X.prog X.w) X E)
    (hc : PySem.W.selfFirst X.K C = true) (hm : Meth X.K C (PySem.dunder op.info.2) f) : OpR X (binaryOp op) (rOwn C sp E) := by
  obtain ⟨hk, fd, ds, hd, hb, F⟩ := h
  cases hd
  exact op_own F hr hb hx hc hm.at_ hm.fn
theorem op_eqOwnH (h : HasX X k f ps [] sp) (hr : Room k X.A) (hx : Passes (L2.CX X.prog X.w) X E) (hm : Meth X.K C "__eq__" f) : OpR X (compareOp .Eq) (rOwn C sp E) := by
  obtain ⟨hk, fd, ds, hd, hb, F⟩ := h
  cases hd
  exact op_eqOwn F hr hb hx hm.at_ hm.fn
theorem call_strOwnH (h : HasX X k f ps [] sp) (hr : Room (k + 2) X.A) (hx : Passes (L2.CX X.prog X.w) X E) (hm : Meth X.K C "__str__" f) : CallR X (.type "str") (rStrOwn C sp E) := by
  obtain ⟨hk, fd, ds, hd, hb, F⟩ := h
  cases hd
  exact call_strOwn F hr hb hx hm.at_ hm.fn
/-- a class called with keywords alone -/
def HasK (P : Program) (w : World) (K : PySem.W.Frag) (mg : Str → Option Value) (base : Heap) (k : Nat) (f : Addr) (ps : List Str) (n : Nat) (ks : List Str) (gV : List V → List V → List V) (sp : Sp) : Prop :=
  ∃ (fd : FuncData) (g : List Value → List Value → List Value), KBn K fd ps n ks g gV ∧ FnOk P w K mg base (L2.CX P w) k f fd ps sp
/-- the law's own def, as the end wants it -/
def IsLaw (P : Program) (w : World) (K : PySem.W.Frag) (mg : Str → Option Value) (base : Heap) (k : Nat) (f : Addr) (fd : FuncData) (ps : List Str) (sp : Sp) : Prop := FnOk P w K mg base (L2.CX P w) k f fd ps sp
end

/-! a def of no defaults: from its body to what it is -/
section
variable {P : Program} {w : World} {K : PySem.W.Frag} {mg : Str → Option Value} {base : Heap} {x qual : Str} {st : Stmt} {f : Addr} {fd : FuncData} {N ps : List Str} {k : Nat} {sp : Sp}
abbrev FnQ (K : PySem.W.Frag) (x q : Str) (st : Stmt) (ds : List V) (f : Addr) (fd : FuncData) : Prop := FunD K x q (defArgs st) (defBody st) (defScope st) ds [] f fd
/-- nothing is raised -/
theorem hasN (F : FnQ K x qual st [] f fd) (b : Binds K fd ps []) (S : FnScope N ps (defScope st)) (len : ∀ vs H Q E, sp vs H Q E → vs.length = ps.length)
    (hbody : ∀ (cdv : Value) (A : Around) (outer : List Env) (s : Shared) (H : Hp) (vs : List V) (Q : VK) (E : XK), Room k (A.deeper (envOfC qual (defScope st) s.heap.objs.size f cdv)) → sp vs H Q E →
      ∃ t, PSs (cxOf (L2.CX P w) P w K mg base N qual (defScope st) f cdv A outer s H E).nox (defBody st) t ∧ t { nx := fun _ H' => Q .non H', rt := Q } (start N vs) H) :
    Has P w K mg base (k + 1) f ps [] sp :=
  ⟨F.kp, fd, [], .nil, b, F.ok S len fun cdv A outer s H vs Q E hr h => by obtain ⟨t, h1, h2⟩ := hbody cdv A outer s H vs Q E hr h; exact ⟨t, h1.nox, h2⟩⟩
theorem hasX (F : FnQ K x qual st [] f fd) (b : Binds K fd ps []) (S : FnScope N ps (defScope st)) (len : ∀ vs H Q E, sp vs H Q E → vs.length = ps.length)
    (hbody : ∀ (cdv : Value) (A : Around) (outer : List Env) (s : Shared) (H : Hp) (vs : List V) (Q : VK) (E : XK), Room k (A.deeper (envOfC qual (defScope st) s.heap.objs.size f cdv)) → sp vs H Q E →
      ∃ t, PSs (cxOf (L2.CX P w) P w K mg base N qual (defScope st) f cdv A outer s H E) (defBody st) t ∧ t { nx := fun _ H' => Q .non H', rt := Q } (start N vs) H) :
    Has P w K mg base (k + 1) f ps [] sp :=
  ⟨F.kp, fd, [], .nil, b, F.ok S len hbody⟩
end

/-! one step of a reading -/
theorem ifT {c : Bool} {A B : Prop} (hc : c = true) (h : A) : if c = true then A else B := by rw [if_pos hc]; exact h
theorem ifF {c : Bool} {A B : Prop} (hc : c = false) (h : B) : if c = true then A else B := by rw [hc]; exact iteF h
theorem ifD {p : Prop} [Decidable p] {A B : Prop} (h1 : p → A) (h2 : ¬ p → B) : if (decide p) = true then A else B := by
  by_cases h : p
  · rw [if_pos (decide_eq_true h)]; exact h1 h
  · rw [if_neg (by rw [decide_eq_false h]; exact Bool.false_ne_true)]; exact h2 h
theorem ifB {c : Bool} {A B : Prop} (h1 : c = true → A) (h2 : c = false → B) : if c = true then A else B := by
  cases c with
  | true => exact iteT (h1 rfl)
  | false => exact iteF (h2 rfl)
end Tk

set_option linter.all false
/-! Fractions: what the program and the law make of a numerator and a denominator. -/
namespace Mt
abbrev rt (n d : Int) : Rat := Rat.divInt n d
def gz (n d : Int) : Int := (Nat.gcd n.natAbs d.natAbs : Nat)
theorem gz_pos {n d : Int} (h : 0 < d) : 0 < gz n d := by
  unfold gz
  have : 0 < Nat.gcd n.natAbs d.natAbs := Nat.gcd_pos_of_pos_right _ (by omega)
  omega
theorem gz_le {n d : Int} (h : 0 < d) : gz n d ≤ d := by
  unfold gz
  have : Nat.gcd n.natAbs d.natAbs ≤ d.natAbs := Nat.le_of_dvd (by omega) (Nat.gcd_dvd_right _ _)
  omega
theorem rt_num {n d : Int} (h : 0 < d) : (rt n d).num = n / gz n d := by
  unfold rt gz
  rw [Rat.num_divInt, Int.sign_eq_one_of_pos h, Int.one_mul]
  congr 1
  rw [Int.gcd_comm]; rfl
theorem rt_den {n d : Int} (h : 0 < d) : ((rt n d).den : Int) = d / gz n d := by
  unfold rt gz
  rw [Rat.den_divInt, if_neg (by omega)]
  have e : d.gcd n = Nat.gcd n.natAbs d.natAbs := by rw [Int.gcd_comm]; rfl
  rw [e]
  have : ((d.natAbs : Nat) : Int) = d := by omega
  rw [Int.natCast_ediv, this]
theorem rt_self (q : Rat) : rt q.num q.den = q := Rat.num_divInt_den q
theorem den_pos (q : Rat) : 0 < (q.den : Int) := by have := q.den_nz; omega

/-- Euclid, so many turns -/
def eu : Nat → Int → Int → Int
  | 0, a, _ => a
  | k + 1, a, b => if b = 0 then a else eu k b (a % b)
theorem eu_zero (k : Nat) (a : Int) : eu k a 0 = a := by cases k <;> simp [eu]
theorem gcd_step (a b : Int) (ha : 0 ≤ a) (hb : 0 < b) : Nat.gcd a.natAbs b.natAbs = Nat.gcd b.natAbs (a % b).natAbs := by
  have e : (a % b).natAbs = a.natAbs % b.natAbs := by
    obtain ⟨x, rfl⟩ := Int.eq_ofNat_of_zero_le ha
    obtain ⟨y, rfl⟩ := Int.eq_ofNat_of_zero_le (Int.le_of_lt hb)
    rw [← Int.natCast_emod]; rfl
  rw [e, Nat.gcd_comm, Nat.gcd_rec, Nat.gcd_comm]
theorem half (b r s : Int) (h0 : 0 < r) (h1 : r < b) (hs : s = b % r) : 2 * s < b := by
  subst hs
  have h2 := Int.emod_lt_of_pos b h0
  have h3 := Int.emod_nonneg b (by omega : r ≠ 0)
  have h4 := Int.mul_ediv_add_emod b r
  have h5 : 1 ≤ b / r := by
    have := Int.le_ediv_of_mul_le h0 (by omega : 1 * r ≤ b)
    exact this
  have h6 : r ≤ r * (b / r) := by
    have := Int.mul_le_mul_of_nonneg_left h5 (Int.le_of_lt h0)
    omega
  omega
theorem eu_gcd : ∀ (m k : Nat) (a b : Int), 0 ≤ a → 0 ≤ b → b < 2 ^ m → 2 * m + 2 ≤ k → eu k a b = (Nat.gcd a.natAbs b.natAbs : Nat)
  | m, k, a, b, ha, hb, hm, hk => by
    by_cases h0 : b = 0
    · subst h0; rw [eu_zero]; simp; omega
    · obtain ⟨k, rfl⟩ : ∃ j, k = j + 2 := ⟨k - 2, by omega⟩
      have hb' : 0 < b := by omega
      rw [gcd_step a b ha hb']
      have hr0 := Int.emod_nonneg a h0
      have hr1 := Int.emod_lt_of_pos a hb'
      show (if b = 0 then a else eu (k + 1) b (a % b)) = _
      rw [if_neg h0]
      by_cases h1 : a % b = 0
      · rw [h1, eu_zero]; simp; omega
      · have hr' : 0 < a % b := by omega
        rw [gcd_step b (a % b) hb hr']
        show (if a % b = 0 then b else eu k (a % b) (b % (a % b))) = _
        rw [if_neg h1]
        have hh := half b (a % b) _ hr' hr1 rfl
        cases m with
        | zero => simp at hm; omega
        | succ m =>
          have : b % (a % b) < 2 ^ m := by rw [Int.pow_succ] at hm; omega
          exact eu_gcd m k _ _ (by omega) (Int.emod_nonneg _ h1) this (by omega)
theorem eu_gz {n d : Int} (h : 0 < d) (hd : d < 2 ^ 1999) : eu 4000 (if n < 0 then -n else n) d = gz n d := by
  rw [eu_gcd 1999 4000 _ d (by split <;> omega) (by omega) hd (by omega)]
  unfold gz
  congr 2
  split <;> omega
/-! sizes -/
/-- the fraction's denominator divides N, the fraction lies between -B and B -/
def Sz (N B : Nat) (q : Rat) : Prop := q.den ∣ N ∧ q.num.natAbs ≤ B * q.den
end Mt

set_option Elab.async false
set_option linter.all false
set_option maxRecDepth 100000
set_option maxHeartbeats 4000000
/-! Cuts: what holds between two statements, behind a loop. -/
namespace Tk
open PySem PySem.Spec PyProof.Rows L2
theorem seq_cut {s1 s2 : TS} {D : Ends} {σ : L2.St} {H : Hp} (Mid : L2.St → Hp → Prop) (h1 : ∀ nx : L2.St → Hp → Prop, (∀ σ' H', Mid σ' H' → nx σ' H') → s1 { D with nx := nx } σ H) (h2 : ∀ σ' H', Mid σ' H' → s2 D σ' H') : tSeq s1 s2 D σ H :=
  h1 (s2 D) h2
theorem for_rangeP {lo : Int} {n : Nat} {g : TG} {tb : TS} {D : Ends} {σ : L2.St} {H : Hp} (Post : L2.St → Hp → Prop) (Pv : Nat → L2.St → Hp → Prop) (h0 : Pv 0 σ H)
    (hs : ∀ nx : L2.St → Hp → Prop, (∀ σ' H', Post σ' H' → nx σ' H') → ∀ i σ H, i < n → Pv i σ H → g (.int (lo + i)) σ H fun σ2 H2 => tb { D with nx := Pv (i + 1), ct := Pv (i + 1), bk := nx } σ2 H2)
    (hd : ∀ σ H, Pv n σ H → Post σ H) (fin : ∀ σ' H', Post σ' H' → D.nx σ' H') :
    ∃ W : Nat → Nat → L2.St → Hp → Prop, (∃ m, W 0 m σ H) ∧ ∀ i m σ H, W i m σ H →
      ((Itr lo n).stop i H ∧ D.nx σ H) ∨ ((Itr lo n).go i H ∧ ∃ N : L2.St → Hp → Prop, (∀ σ' H', N σ' H' → ∃ m', m' < m ∧ W (i + 1) m' σ' H') ∧ ∀ x H', (Itr lo n).yld i H x H' → g x σ H' fun σ2 H2 => tb { D with nx := N, ct := N, bk := D.nx } σ2 H2) :=
  for_range Pv h0 (hs D.nx fin) (fun σ H p => fin σ H (hd σ H p))
theorem ix_l {K : PySem.W.Frag} {H : Hp} {a : Addr} {xs : List V} {j : Nat} {v : V} {i : Int} {Q : VK} (h : SqL K H a xs) (e : i = (j : Int)) (hj : xs[j]? = some v) (k : Q v H) : rIxL K (.ref a) (.int i) H Q := ⟨a, xs, i, v, rfl, rfl, h, at_of e hj, k⟩
theorem ix_t {K : PySem.W.Frag} {H : Hp} {a : Addr} {xs : List V} {j : Nat} {v : V} {i : Int} {Q : VK} (h : SqT K H a xs) (e : i = (j : Int)) (hj : xs[j]? = some v) (k : Q v H) : rIxT K (.ref a) (.int i) H Q := ⟨a, xs, i, v, rfl, rfl, h, at_of e hj, k⟩
end Tk
namespace Tk
open PySem PySem.Spec PyProof.Rows L2
section
variable {P : Program} {w : World} {K : PySem.W.Frag} {mg : Str → Option Value} {base : Heap} {x qual : Str} {st : Stmt} {f : Addr} {fd : FuncData} {N ps : List Str} {k : Nat} {sp sp' : Sp} {CX : CXT}
theorem fnOr (A : FnOk P w K mg base CX k f fd ps sp) (B : FnOk P w K mg base CX k f fd ps sp') : FnOk P w K mg base CX k f fd ps (fun vs H Q E => sp vs H Q E ∨ sp' vs H Q E) :=
  ⟨fun vs H Q E h => h.elim (A.len vs H Q E) (B.len vs H Q E), fun A' outer s H args us vs Q E hr he hb hv h => h.elim (A.run A' outer s H args us vs Q E hr he hb hv) (B.run A' outer s H args us vs Q E hr he hb hv)⟩
theorem fnN (F : FnQ K x qual st [] f fd) (S : FnScope N ps (defScope st)) (len : ∀ vs H Q E, sp vs H Q E → vs.length = ps.length)
    (hbody : ∀ (cdv : Value) (A : Around) (outer : List Env) (s : Shared) (H : Hp) (vs : List V) (Q : VK) (E : XK), Room k (A.deeper (envOfC qual (defScope st) s.heap.objs.size f cdv)) → sp vs H Q E →
      ∃ t, PSs (cxOf (L2.CX P w) P w K mg base N qual (defScope st) f cdv A outer s H E).nox (defBody st) t ∧ t { nx := fun _ H' => Q .non H', rt := Q } (start N vs) H) :
    FnOk P w K mg base (L2.CX P w) (k + 1) f fd ps sp :=
  F.ok S len fun cdv A outer s H vs Q E hr h => by obtain ⟨t, h1, h2⟩ := hbody cdv A outer s H vs Q E hr h; exact ⟨t, h1.nox, h2⟩
end
end Tk

set_option Elab.async false
set_option linter.all false
set_option maxRecDepth 100000
set_option maxHeartbeats 4000000
/-! Errors: calls in a try, isinstance of what was caught. -/
namespace Tk
open PySem PySem.Spec PyProof.Rows L2
section
variable {X : Cx} {k : Nat} {f C : Addr} {ps : List Str} {sp : Sp} {dvs : List V} {E : L2.St → XK} {x m : Str} {p pos apos : Pos} {e o : Expr} {es : List Expr} {ta : TE} {t : TA}
/-- C(e, ..) in a try: what is raised is wished for at the slots as they are -/
def tMakeS (C : Addr) (sp : Sp) (dvs : List V) (E : L2.St → XK) (t : TA) : TE := fun σ H Q => t σ H fun vs H1 => ∀ x dx, H1 x = none → H1 dx = none → dx ≠ x →
  sp (.ref x :: (vs ++ dvs)) (upd (upd H1 dx (.own x)) x (.ins C dx [])) (fun v H2 => v = .non ∧ Q (.ref x) H2) (E σ)
theorem pe_makeSH (M : Mk X.K C f) (h : HasX X k f ps dvs sp) (hr : Room (k + 1) X.A) (hg : Gl X x) (hm : X.mg x = some (.ref C)) (hx : ∀ σ, PassesAt (L2.CX X.prog X.w) X σ (E σ)) (ha : PA X (e :: es) t)
    (hdb : (x == ("__debug__" : Str)) = false := by decide) (he : starEach (e :: es) X.env = (false, eval e X.env) :: starEach es X.env := by rfl) (hpl : (backTo pos (starEach es X.env)).any (·.1) = false := by rfl) :
    PE X (.Call (.Name x p) (e :: es) [] pos) (tMakeS C sp dvs E t) := by
  obtain ⟨_, fd, ds, hd, hb, F⟩ := h
  constructor
  intro pins s σ H Q I hq0
  refine wpAny_Call_Name_kw (ld_glob I hg hm (PySem.W.callWith_K (h₀ := X.base) I.ok.mod.kin M.kp (thn (ha.run pos pins s σ H _ I hq0) ?_) he hpl) hdb)
  rintro us s1 ⟨vs, H1, I1, r, q⟩
  refine ⟨I1.kIn, ?_⟩
  have q' := q (s1.heap.objs.size + 1) s1.heap.objs.size (I1.hok.fresh (Nat.le_succ _)) (I1.hok.fresh (Nat.le_refl _)) (Nat.ne_of_lt (Nat.lt_succ_self _))
  have I2 := Inv.made (C := C) I1
  have rr : Vals (V.ref (s1.heap.objs.size + 1) :: (vs ++ dvs)) (Value.ref (s1.heap.objs.size + 1) :: us ++ ds) := .cons rfl (r.append hd)
  have hl := rr.length.symm.trans (F.len _ _ _ _ q')
  have go := F.run _ X.stack _ _ ⟨Value.ref (s1.heap.objs.size + 1) :: us, []⟩ _ _ _ _ (hr.make C us []) (I2.env0.make C us []) (hb _ _ I2.kIn hl) rr q'
  refine wpAny_call (make_map (f := f) I1.kIn M.makes M.init (beq_iff_eq.mp M.fn) (codeAny_mono go ?_))
  intro res s' z
  cases res with
  | error err => exact hx σ pins _ _ err s' I2 z
  | ok fl => cases fl with
    | ret u =>
      obtain ⟨v, H', I3, rv, ev, q3⟩ := I2.after z
      subst ev
      exact ⟨rv, V.ref (s1.heap.objs.size + 1), H', I3, rfl, q3⟩
    | _ => exact False.elim z
/-- o.m(e, ..) in a try -/
def tMethS (C : Addr) (m : Str) (sp : Sp) (dvs : List V) (E : L2.St → XK) (ta : TE) (t : TA) : TE := fun σ H Q => ta σ H fun x H1 => ∃ a dx fs, x = .ref a ∧ H1 a = some (.ins C dx fs) ∧ fs.lookup m = none ∧
  t σ H1 fun vs H2 => sp (x :: (vs ++ dvs)) H2 Q (E σ)
theorem pe_methSH {pl : Sem Bool} (he : PE X o ta) (c : Cls X.K C) (hm : Meth X.K C m f) (h : HasX X k f ps dvs sp) (hr : Room k X.A) (hx : ∀ σ, PassesAt (L2.CX X.prog X.w) X σ (E σ)) (ha : PA X (e :: es) t)
    (hst : starEach (e :: es) X.env = (false, eval e X.env) :: starEach es X.env := by rfl) (hpl : (backTo pos (starEach es X.env)).any (·.1) = false := by rfl)
    (ht : eval (.Call (.Attribute o m apos) (e :: es) [] pos) X.env = (do
      let ov ← eval o X.env
      standAt apos.atName
      let (f, first) ← holding [ov] (getMethod ov m pl)
      callWith pos f first (backTo pos (starEach (e :: es) X.env)) (backToKw pos (keywordEach [] X.env))) := by rfl) :
    PE X (.Call (.Attribute o m apos) (e :: es) [] pos) (tMethS C m sp dvs E ta t) := by
  obtain ⟨_, fd, ds, hd, hb, F⟩ := h
  constructor
  intro pins s σ H Q I hq0
  refine PySem.W.methodCall_KW (pl := pl) (thn (he.run pins s σ H _ I hq0) ?_) ht
  rintro u s1 ⟨x, H1, I1, rx, a, dx, fs, rfl, ea, l, q⟩
  cases rx
  refine getmeth_ok I1 ea c hm l (PySem.W.callWith_K (first := [.ref a]) (h₀ := X.base) I.ok.mod.kin hm.kp (thn (ha.run pos pins s1 σ H1 _ I1 q) ?_) hst hpl)
  rintro us s2 ⟨vs, H2, I2, r, q2⟩
  exact ⟨I2.kIn, run_fnSD (us := .ref a :: us) (vs := .ref a :: vs) F hr hb hd (hx σ) I2 (.cons rfl r) q2⟩
/-- isinstance of the caught exception, its class D (no fields) told by the reading -/
def rIsEq (K : PySem.W.Frag) (D a : Addr) (cls : Value) (d : Option Addr) : List V → Hp → VK → Prop := fun xs H Q => cls = .ref D ∧ d = none ∧ rIsE K D a xs H Q
theorem call_isEq {a D : Addr} {oe : Obj} {cls : Value} {d : Option Addr} {pn : List (Addr × Obj)} (c : ExcC X.K D) (hz : Zc cls d oe) (hf : ∃ vs, oe.data = .fields vs) : CallR (X.suite a ((a, oe) :: pn)) (.builtin "isinstance") (rIsEq X.K D a cls d) := by
  intro pins s σ H xs us Q I r h
  obtain ⟨rfl, rfl, h⟩ := h
  exact call_isE (X := X) (a := a) (oe := oe) (pn := pn) c hz hf pins s σ H xs us Q I r h
def rIsET (K : PySem.W.Frag) (D a : Addr) (cls : Value) (d : Option Addr) : List V → Hp → VK → Prop := fun xs H Q => cls = .ref D ∧ d = none ∧ ∃ (tp : Addr) (cs : List V) (us : List Value) (b : Bool), xs = [.ref a, .ref tp] ∧ H tp = some (.tup cs) ∧ Paired ClsV cs us ∧ PySem.W.kitAny K (.ref D) us = some b ∧ Q (.bl b) H
theorem call_isET {a D : Addr} {oe : Obj} {cls : Value} {d : Option Addr} {pn : List (Addr × Obj)} (c : ExcC X.K D) (hz : Zc cls d oe) (hf : ∃ vs, oe.data = .fields vs) : CallR (X.suite a ((a, oe) :: pn)) (.builtin "isinstance") (rIsET X.K D a cls d) := by
  intro pins s σ H xs us Q I r h
  obtain ⟨rfl, rfl, tp, cs, ws, b, rfl, htp, hcs, e, q⟩ := h
  obtain ⟨u1, u2, rfl, r1, r2⟩ := vals2 r
  cases r1; cases r2
  obtain ⟨hget, _⟩ := I.pin (a, oe) (List.mem_append.mpr (.inl List.mem_cons_self))
  obtain ⟨vs, hv⟩ := hf
  have J : PySem.W.InstAt s.heap a oe D none := by
    obtain ⟨oc, od, oda, osl⟩ := oe
    obtain ⟨h1, h2⟩ := hz
    dsimp only at h1 h2 hv
    subst h1 h2 hv
    exact ⟨hget, rfl, rfl, trivial⟩
  have ob : ObjOk X.prog X.w H s.heap tp (.tup cs) := I.hok tp _ htp
  obtain ⟨_, its, rv, ⟨oc, od, oda, osl⟩, g1, g2, n, g3⟩ := ob
  dsimp only at g2 g3
  subst g2 g3
  have ew := ClsV.all hcs rv
  subst ew
  exact PySem.W.kia_tup (PySem.W.handS_kitx_exc c.hg c.hk c.hs c.hd c.ha c.hn c.ht c.hm) I.kIn J g1 e (fun z => nomatch z) fun tk => ⟨.bl b, H, I.kept (t' := tk) fun _ _ z => z, rfl, q⟩
end
end Tk
namespace Tk
open PySem PySem.Spec PyProof.Rows L2
theorem cx_none {P : Program} {w : World} {outer : List Env} {H : Hp} {s s' : Shared} {e : Value} (h : L2.CX P w outer H s E0 e s') : False := by
  obtain ⟨_, _, _, _, _, _, _, _, _, _, _, _, z⟩ := h
  exact z
/-- a def that raises nothing, seen so -/
theorem fn0 {P : Program} {w : World} {K : PySem.W.Frag} {mg : Str → Option Value} {base : Heap} {k : Nat} {f : Addr} {fd : FuncData} {ps : List Str} {sp : Sp} (F : FnOk P w K mg base (L2.CX P w) k f fd ps sp) :
    FnOk P w K mg base CX0 k f fd ps (fun vs H Q _ => sp vs H Q E0) :=
  ⟨fun vs H Q _ h => F.len vs H Q E0 h, fun A outer s H args us vs Q E hr he hb hv h => codeAny_mono (F.run A outer s H args us vs Q E0 hr he hb hv h) (fun r s' z => by
    cases r with
    | error e => exact (cx_none z).elim
    | ok fl => cases fl <;> exact z)⟩
end Tk

set_option Elab.async false
set_option linter.all false
set_option maxRecDepth 100000
set_option maxHeartbeats 4000000
/-! Errors with fields: what was caught is asked for its class and read. -/
namespace Tk
open PySem PySem.Spec PyProof.Rows L2
section
variable {X : Cx}
theorem xd_inst {a D dd : Addr} {oe : Obj} {pn : List (Addr × Obj)} {fs : List (Str × V)} {pins : List (Addr × Obj)} {σ : L2.St} {H : Hp} {s : Shared} (I : Inv (X.suite a ((a, oe) :: pn)) pins σ H s)
    (hz : Zc (.ref D) (some dd) oe) (hf : ∃ vs, oe.data = .fields vs) (h : H dd = some (.xd fs)) : ∃ od, PySem.W.InstAt s.heap a oe D (some od) := by
  obtain ⟨hget, _⟩ := I.pin (a, oe) (List.mem_append.mpr (.inl List.mem_cons_self))
  obtain ⟨vs, hv⟩ := hf
  have hx : ObjOk X.prog X.w H s.heap dd (.xd fs) := I.hok dd _ h
  obtain ⟨mA, hns, hr⟩ := hx
  obtain ⟨od, ho, hl⟩ := lookIn_ns hns
  exact ⟨od, hget, hz.1, by unfold PySem.W.notCls; rw [hv] <;> rfl, by rw [hz.2]; exact ho⟩
theorem exc_cls {K : PySem.W.Frag} {D : Addr} (c : ExcC K D) : (PySem.W.clsIn K D).isSome = true := by
  obtain ⟨cd, hc, _⟩ := PySem.W.any_some c.hd
  rw [hc]; rfl
/-- isinstance of the caught exception, one that has fields -/
def rIsEd (K : PySem.W.Frag) (D a : Addr) (cls : Value) (d : Option Addr) : List V → Hp → VK → Prop := fun xs H Q => cls = .ref D ∧ (∃ dd fs, d = some dd ∧ H dd = some (.xd fs)) ∧ rIsE K D a xs H Q
theorem call_isEd {a D : Addr} {oe : Obj} {cls : Value} {d : Option Addr} {pn : List (Addr × Obj)} (c : ExcC X.K D) (hz : Zc cls d oe) (hf : ∃ vs, oe.data = .fields vs) : CallR (X.suite a ((a, oe) :: pn)) (.builtin "isinstance") (rIsEd X.K D a cls d) := by
  intro pins s σ H xs us Q I r h
  obtain ⟨rfl, ⟨dd, fs, rfl, hd⟩, cc, cv, b, rfl, hcv, e, q⟩ := h
  obtain ⟨u1, u2, rfl, r1, r2⟩ := vals2 r
  cases r1
  have ec := hcv _ r2
  subst ec
  obtain ⟨od, J⟩ := xd_inst I hz hf hd
  exact PySem.W.kia_one (PySem.W.kitx_exc (exc_cls c) c.hg c.hk c.hs c.ha c.hn c.ht c.hm) I.kIn J e (fun z => nomatch z) fun tk => ⟨.bl b, H, I.kept (t' := tk) fun _ _ z => z, rfl, q⟩
def rIsETd (K : PySem.W.Frag) (D a : Addr) (cls : Value) (d : Option Addr) : List V → Hp → VK → Prop := fun xs H Q => cls = .ref D ∧ (∃ dd fs, d = some dd ∧ H dd = some (.xd fs)) ∧ ∃ (tp : Addr) (cs : List V) (us : List Value) (b : Bool), xs = [.ref a, .ref tp] ∧ H tp = some (.tup cs) ∧ Paired ClsV cs us ∧ PySem.W.kitAny K (.ref D) us = some b ∧ Q (.bl b) H
theorem call_isETd {a D : Addr} {oe : Obj} {cls : Value} {d : Option Addr} {pn : List (Addr × Obj)} (c : ExcC X.K D) (hz : Zc cls d oe) (hf : ∃ vs, oe.data = .fields vs) : CallR (X.suite a ((a, oe) :: pn)) (.builtin "isinstance") (rIsETd X.K D a cls d) := by
  intro pins s σ H xs us Q I r h
  obtain ⟨rfl, ⟨dd, fs, rfl, hd⟩, tp, cs, ws, b, rfl, htp, hcs, e, q⟩ := h
  obtain ⟨u1, u2, rfl, r1, r2⟩ := vals2 r
  cases r1; cases r2
  obtain ⟨od, J⟩ := xd_inst I hz hf hd
  have ob : ObjOk X.prog X.w H s.heap tp (.tup cs) := I.hok tp _ htp
  obtain ⟨_, its, rv, ⟨oc, od', oda, osl⟩, g1, g2, n, g3⟩ := ob
  dsimp only at g2 g3
  subst g2 g3
  have ew := ClsV.all hcs rv
  subst ew
  exact PySem.W.kia_tup (PySem.W.kitx_exc (exc_cls c) c.hg c.hk c.hs c.ha c.hn c.ht c.hm) I.kIn J g1 e (fun z => nomatch z) fun tk => ⟨.bl b, H, I.kept (t' := tk) fun _ _ z => z, rfl, q⟩
end
/-- an error class over ValueError, as it lies there -/
def clsO (C : Addr) (o : Obj) : Bool := match o.data with
  | .cls cd => decide (o.cls = .type "type") && (decide (cd.mro.head? = some (.ref C)) && (HandSPX.refsVE cd.mro.tail && (decide (o.slots.size = 6) && (decide (o.slots[4]? = some (some (.builtin "ValueError.__new__"))) && (cd.hasDict && !cd.hasDel)))))
  | _ => false
theorem six {α : Type} {l : List α} (h : l.length = 6) : ∃ a b c d e f, l = [a, b, c, d, e, f] := by
  match l, h with
  | [a, b, c, d, e, f], _ => exact ⟨a, b, c, d, e, f, rfl⟩
theorem clsO_ok {C : Addr} {o : Obj} (h : clsO C o = true) : ∃ nm q N bs bm sn sub ab col dd k0 k1 k2 k3 k5, o = excClassObj nm q C N bs bm true sn sub ab col dd k0 k1 k2 k3 k5 "ValueError.__new__" ∧ HandSPX.refsVE bm = true := by
  obtain ⟨oc, od, oda, osl⟩ := o
  unfold clsO at h
  split at h
  case h_2 => cases h
  rename_i cd e
  dsimp only at e
  subst e
  obtain ⟨h1, h⟩ := He.ba h
  obtain ⟨h2, h⟩ := He.ba h
  obtain ⟨h3, h⟩ := He.ba h
  obtain ⟨h4, h⟩ := He.ba h
  obtain ⟨h5, h⟩ := He.ba h
  obtain ⟨h6, h7⟩ := He.ba h
  replace h1 := of_decide_eq_true h1
  replace h2 := of_decide_eq_true h2
  replace h4 := of_decide_eq_true h4
  replace h5 := of_decide_eq_true h5
  obtain ⟨nm, bs, mro, ns, qn, hd, sn, sub, ab, col, del⟩ := cd
  dsimp only at h1 h2 h3 h4 h5 h6 h7
  obtain ⟨l⟩ := osl
  obtain ⟨k0, k1, k2, k3, k4, k5, rfl⟩ := six (show l.length = 6 from h4)
  replace h5 : k4 = some (.builtin "ValueError.__new__") := by simpa using h5
  cases mro with
  | nil => cases h2
  | cons m bm =>
    replace h2 : m = .ref C := by simpa using h2
    subst h1 h2 h5 h6
    replace h7 : del = false := by simpa using h7
    subst h7
    exact ⟨nm, qn, ns, bs, bm, sn, sub, ab, col, od, k0, k1, k2, k3, k5, rfl, h3⟩
/-- what the head tells of such a class with its own __init__ and a field -/
structure OexF (K : PySem.W.Frag) (C f : Addr) (fld : Str) : Prop where
  T : OexC K C
  iC : PySem.W.findIn K (.ref C) "__init__" = some (some (.ref f))
  tI : PySem.W.typeIn K (.ref f) = some (.type "function")
  no : PySem.W.findIn K (.ref C) fld = some none
  xf : XfC K C
def oexB (K : PySem.W.Frag) (x fld : Str) : Bool :=
  (match K.lookup (He.ga K x) with
    | some o => clsO (He.ga K x) o
    | none => false) &&
  (decide (PySem.W.findIn K (.ref (He.ga K x)) "__setattr__" = some (some (.builtin "object.__setattr__"))) &&
  (decide (PySem.W.subIn K (.ref (He.ga K x)) (.type "BaseException") = some true) &&
  (decide (PySem.W.typeIn K (.ref (He.ga K x)) = some (.type "type")) &&
  (PySem.W.keepIn K (.ref (He.ga K x)) &&
  (decide (PySem.W.findIn K (.ref (He.ga K x)) "__init__" = some (some (.ref (He.ma K (He.ga K x) "__init__")))) &&
  (decide (PySem.W.typeIn K (.ref (He.ma K (He.ga K x) "__init__")) = some (.type "function")) &&
  (decide (PySem.W.findIn K (.ref (He.ga K x)) fld = some none) && xfB K (He.ga K x))))))))
theorem oexB_ok {K : PySem.W.Frag} {x fld : Str} (h : oexB K x fld = true) : OexF K (He.ga K x) (He.ma K (He.ga K x) "__init__") fld := by
  obtain ⟨h1, h⟩ := He.ba h
  obtain ⟨h2, h⟩ := He.ba h
  obtain ⟨h3, h⟩ := He.ba h
  obtain ⟨h4, h⟩ := He.ba h
  obtain ⟨h5, h⟩ := He.ba h
  obtain ⟨h6, h⟩ := He.ba h
  obtain ⟨h7, h⟩ := He.ba h
  obtain ⟨h8, h9⟩ := He.ba h
  have hc : ∃ nm q N bs bm sn sub ab col dd k0 k1 k2 k3 k5, K.lookup (He.ga K x) = some (excClassObj nm q (He.ga K x) N bs bm true sn sub ab col dd k0 k1 k2 k3 k5 "ValueError.__new__") ∧ HandSPX.refsVE bm = true := by
    cases e : K.lookup (He.ga K x) with
    | none => rw [e] at h1; cases h1
    | some o =>
      rw [e] at h1
      obtain ⟨nm, q, N, bs, bm, sn, sub, ab, col, dd, k0, k1, k2, k3, k5, eo, hb⟩ := clsO_ok h1
      exact ⟨nm, q, N, bs, bm, sn, sub, ab, col, dd, k0, k1, k2, k3, k5, by rw [eo], hb⟩
  exact ⟨⟨hc, of_decide_eq_true h2, of_decide_eq_true h3, of_decide_eq_true h4, h5⟩, of_decide_eq_true h6, of_decide_eq_true h7, of_decide_eq_true h8, xfB_ok h9⟩
end Tk

set_option Elab.async false
set_option linter.all false
set_option maxRecDepth 100000
set_option maxHeartbeats 0
/-! ### the text by places, the head -/
namespace Hd
open PySem PySem.Spec PyProof.Rows L2 Tk
def top (i : Nat) : Stmt := PySem.Challenge.pw_notesttells_k01_machines_that_are_none.main.body.getD i (.Pass ⟨0, 0, 0, 0⟩)
abbrev s__wall : Stmt := top 1
abbrev s__digits : Stmt := top 11
abbrev s_total : Stmt := top 13
abbrev s_are_lots : Stmt := top 14
abbrev s__table : Stmt := top 20
abbrev s__fault : Stmt := top 21
abbrev s__out_of : Stmt := top 22
abbrev s__is_square : Stmt := top 23
abbrev s__leads_on : Stmt := top 24
abbrev s_fit : Stmt := top 25
abbrev s_begun : Stmt := top 26
abbrev s__law_pool : Stmt := top 28
abbrev s__law_draw : Stmt := top 29
abbrev s__law_same : Stmt := top 30
abbrev s__law_less : Stmt := top 31
abbrev s__law_plus : Stmt := top 32
abbrev s__law_minus : Stmt := top 33
abbrev s__law_sum : Stmt := top 34
abbrev s__law_cells : Stmt := top 35
abbrev s__law_machine : Stmt := top 36
abbrev s__law_changed : Stmt := top 37
abbrev s__law_made : Stmt := top 38
abbrev s__law_lots_right : Stmt := top 39
abbrev s__law_bad : Stmt := top 40
abbrev s__law_shifted : Stmt := top 41
abbrev s__law_resized : Stmt := top 42
abbrev s__law_spoilt : Stmt := top 43
abbrev s__law_data : Stmt := top 44
abbrev s__law_tuples : Stmt := top 45
abbrev s_law : Stmt := top 46
abbrev s_BadText_init : Stmt := inClass (top 4) 0
abbrev s_BadPaper_init : Stmt := inClass (top 5) 0
abbrev s_BadMachine_init : Stmt := inClass (top 6) 0
abbrev s_TooLarge_init : Stmt := inClass (top 7) 0
abbrev s_Ratio_init : Stmt := inClass (top 12) 0
abbrev s_Ratio_add : Stmt := inClass (top 12) 1
abbrev s_Ratio_sub : Stmt := inClass (top 12) 2
abbrev s_Ratio_mul : Stmt := inClass (top 12) 3
abbrev s_Ratio_eq : Stmt := inClass (top 12) 4
abbrev s_Ratio_str : Stmt := inClass (top 12) 5
abbrev s_Ratio_less : Stmt := inClass (top 12) 6
abbrev s_Ratio_by : Stmt := inClass (top 12) 7
abbrev s_Machine_init : Stmt := inClass (top 19) 0
abbrev s_Machine_eq : Stmt := inClass (top 19) 1
abbrev s_Machine_states : Stmt := inClass (top 19) 2
abbrev s_Machine_buttons : Stmt := inClass (top 19) 3
abbrev s_Machine_answers : Stmt := inClass (top 19) 4
abbrev FnP (K : PySem.W.Frag) (x q : Str) (st : Stmt) (ds : List V) (f : Addr) (fd : FuncData) : Prop := FunD K x q (defArgs st) (defBody st) (defScope st) ds [] f fd
def d__wall : He.DefD := ⟨("_wall", none), "_wall", "_wall", defArgs s__wall, defBody s__wall, defScope s__wall, [], []⟩
def d__digits : He.DefD := ⟨("_digits", none), "_digits", "_digits", defArgs s__digits, defBody s__digits, defScope s__digits, [], []⟩
def d_total : He.DefD := ⟨("total", none), "total", "total", defArgs s_total, defBody s_total, defScope s_total, [], []⟩
def d_are_lots : He.DefD := ⟨("are_lots", none), "are_lots", "are_lots", defArgs s_are_lots, defBody s_are_lots, defScope s_are_lots, [], []⟩
def d__table : He.DefD := ⟨("_table", none), "_table", "_table", defArgs s__table, defBody s__table, defScope s__table, [], []⟩
def d__fault : He.DefD := ⟨("_fault", none), "_fault", "_fault", defArgs s__fault, defBody s__fault, defScope s__fault, [], []⟩
def d__out_of : He.DefD := ⟨("_out_of", none), "_out_of", "_out_of", defArgs s__out_of, defBody s__out_of, defScope s__out_of, [], []⟩
def d__is_square : He.DefD := ⟨("_is_square", none), "_is_square", "_is_square", defArgs s__is_square, defBody s__is_square, defScope s__is_square, [], []⟩
def d__leads_on : He.DefD := ⟨("_leads_on", none), "_leads_on", "_leads_on", defArgs s__leads_on, defBody s__leads_on, defScope s__leads_on, [], []⟩
def d_fit : He.DefD := ⟨("fit", none), "fit", "fit", defArgs s_fit, defBody s_fit, defScope s_fit, [], []⟩
def d_begun : He.DefD := ⟨("begun", none), "begun", "begun", defArgs s_begun, defBody s_begun, defScope s_begun, [], []⟩
def d__law_pool : He.DefD := ⟨("_law_pool", none), "_law_pool", "_law_pool", defArgs s__law_pool, defBody s__law_pool, defScope s__law_pool, [], []⟩
def d__law_draw : He.DefD := ⟨("_law_draw", none), "_law_draw", "_law_draw", defArgs s__law_draw, defBody s__law_draw, defScope s__law_draw, [], []⟩
def d__law_same : He.DefD := ⟨("_law_same", none), "_law_same", "_law_same", defArgs s__law_same, defBody s__law_same, defScope s__law_same, [], []⟩
def d__law_less : He.DefD := ⟨("_law_less", none), "_law_less", "_law_less", defArgs s__law_less, defBody s__law_less, defScope s__law_less, [], []⟩
def d__law_plus : He.DefD := ⟨("_law_plus", none), "_law_plus", "_law_plus", defArgs s__law_plus, defBody s__law_plus, defScope s__law_plus, [], []⟩
def d__law_minus : He.DefD := ⟨("_law_minus", none), "_law_minus", "_law_minus", defArgs s__law_minus, defBody s__law_minus, defScope s__law_minus, [], []⟩
def d__law_sum : He.DefD := ⟨("_law_sum", none), "_law_sum", "_law_sum", defArgs s__law_sum, defBody s__law_sum, defScope s__law_sum, [], []⟩
def d__law_cells : He.DefD := ⟨("_law_cells", none), "_law_cells", "_law_cells", defArgs s__law_cells, defBody s__law_cells, defScope s__law_cells, [], []⟩
def d__law_machine : He.DefD := ⟨("_law_machine", none), "_law_machine", "_law_machine", defArgs s__law_machine, defBody s__law_machine, defScope s__law_machine, [], []⟩
def d__law_changed : He.DefD := ⟨("_law_changed", none), "_law_changed", "_law_changed", defArgs s__law_changed, defBody s__law_changed, defScope s__law_changed, [], []⟩
def d__law_made : He.DefD := ⟨("_law_made", none), "_law_made", "_law_made", defArgs s__law_made, defBody s__law_made, defScope s__law_made, [], []⟩
def d__law_lots_right : He.DefD := ⟨("_law_lots_right", none), "_law_lots_right", "_law_lots_right", defArgs s__law_lots_right, defBody s__law_lots_right, defScope s__law_lots_right, [], []⟩
def d__law_bad : He.DefD := ⟨("_law_bad", none), "_law_bad", "_law_bad", defArgs s__law_bad, defBody s__law_bad, defScope s__law_bad, [], []⟩
def d__law_shifted : He.DefD := ⟨("_law_shifted", none), "_law_shifted", "_law_shifted", defArgs s__law_shifted, defBody s__law_shifted, defScope s__law_shifted, [], []⟩
def d__law_resized : He.DefD := ⟨("_law_resized", none), "_law_resized", "_law_resized", defArgs s__law_resized, defBody s__law_resized, defScope s__law_resized, [], []⟩
def d__law_spoilt : He.DefD := ⟨("_law_spoilt", none), "_law_spoilt", "_law_spoilt", defArgs s__law_spoilt, defBody s__law_spoilt, defScope s__law_spoilt, [], []⟩
def d__law_data : He.DefD := ⟨("_law_data", none), "_law_data", "_law_data", defArgs s__law_data, defBody s__law_data, defScope s__law_data, [], []⟩
def d__law_tuples : He.DefD := ⟨("_law_tuples", none), "_law_tuples", "_law_tuples", defArgs s__law_tuples, defBody s__law_tuples, defScope s__law_tuples, [], []⟩
def d_law : He.DefD := ⟨("law", none), "law", "law", defArgs s_law, defBody s_law, defScope s_law, [], []⟩
def d_BadText_init : He.DefD := ⟨("BadText", some "__init__"), "__init__", "BadText.__init__", defArgs s_BadText_init, defBody s_BadText_init, defScope s_BadText_init, [], []⟩
def d_BadPaper_init : He.DefD := ⟨("BadPaper", some "__init__"), "__init__", "BadPaper.__init__", defArgs s_BadPaper_init, defBody s_BadPaper_init, defScope s_BadPaper_init, [], []⟩
def d_BadMachine_init : He.DefD := ⟨("BadMachine", some "__init__"), "__init__", "BadMachine.__init__", defArgs s_BadMachine_init, defBody s_BadMachine_init, defScope s_BadMachine_init, [], []⟩
def d_TooLarge_init : He.DefD := ⟨("TooLarge", some "__init__"), "__init__", "TooLarge.__init__", defArgs s_TooLarge_init, defBody s_TooLarge_init, defScope s_TooLarge_init, [], []⟩
def d_Ratio_init : He.DefD := ⟨("Ratio", some "__init__"), "__init__", "Ratio.__init__", defArgs s_Ratio_init, defBody s_Ratio_init, defScope s_Ratio_init, [.int 1], []⟩
def d_Ratio_add : He.DefD := ⟨("Ratio", some "__add__"), "__add__", "Ratio.__add__", defArgs s_Ratio_add, defBody s_Ratio_add, defScope s_Ratio_add, [], []⟩
def d_Ratio_sub : He.DefD := ⟨("Ratio", some "__sub__"), "__sub__", "Ratio.__sub__", defArgs s_Ratio_sub, defBody s_Ratio_sub, defScope s_Ratio_sub, [], []⟩
def d_Ratio_mul : He.DefD := ⟨("Ratio", some "__mul__"), "__mul__", "Ratio.__mul__", defArgs s_Ratio_mul, defBody s_Ratio_mul, defScope s_Ratio_mul, [], []⟩
def d_Ratio_eq : He.DefD := ⟨("Ratio", some "__eq__"), "__eq__", "Ratio.__eq__", defArgs s_Ratio_eq, defBody s_Ratio_eq, defScope s_Ratio_eq, [], []⟩
def d_Ratio_str : He.DefD := ⟨("Ratio", some "__str__"), "__str__", "Ratio.__str__", defArgs s_Ratio_str, defBody s_Ratio_str, defScope s_Ratio_str, [], []⟩
def d_Ratio_less : He.DefD := ⟨("Ratio", some "less"), "less", "Ratio.less", defArgs s_Ratio_less, defBody s_Ratio_less, defScope s_Ratio_less, [], []⟩
def d_Ratio_by : He.DefD := ⟨("Ratio", some "by"), "by", "Ratio.by", defArgs s_Ratio_by, defBody s_Ratio_by, defScope s_Ratio_by, [], []⟩
def d_Machine_init : He.DefD := ⟨("Machine", some "__init__"), "__init__", "Machine.__init__", defArgs s_Machine_init, defBody s_Machine_init, defScope s_Machine_init, [], []⟩
def d_Machine_eq : He.DefD := ⟨("Machine", some "__eq__"), "__eq__", "Machine.__eq__", defArgs s_Machine_eq, defBody s_Machine_eq, defScope s_Machine_eq, [], []⟩
def d_Machine_states : He.DefD := ⟨("Machine", some "states"), "states", "Machine.states", defArgs s_Machine_states, defBody s_Machine_states, defScope s_Machine_states, [], []⟩
def d_Machine_buttons : He.DefD := ⟨("Machine", some "buttons"), "buttons", "Machine.buttons", defArgs s_Machine_buttons, defBody s_Machine_buttons, defScope s_Machine_buttons, [], []⟩
def d_Machine_answers : He.DefD := ⟨("Machine", some "answers"), "answers", "Machine.answers", defArgs s_Machine_answers, defBody s_Machine_answers, defScope s_Machine_answers, [], []⟩
def fn : List He.DefD := [d__wall, d__digits, d_total, d_are_lots, d__table, d__fault, d__out_of, d__is_square, d__leads_on, d_fit, d_begun, d__law_pool, d__law_draw, d__law_same, d__law_less, d__law_plus, d__law_minus, d__law_sum, d__law_cells, d__law_machine, d__law_changed, d__law_made, d__law_lots_right, d__law_bad, d__law_shifted, d__law_resized, d__law_spoilt, d__law_data, d__law_tuples, d_law, d_BadText_init, d_BadPaper_init, d_BadMachine_init, d_TooLarge_init, d_Ratio_init, d_Ratio_add, d_Ratio_sub, d_Ratio_mul, d_Ratio_eq, d_Ratio_str, d_Ratio_less, d_Ratio_by, d_Machine_init, d_Machine_eq, d_Machine_states, d_Machine_buttons, d_Machine_answers]
def fas (K : PySem.W.Frag) : List Bool := [(He.Fa.free "ValueError").ok K,
  (He.Fa.free "abs").ok K,
  (He.Fa.free "all").ok K,
  (He.Fa.free "any").ok K,
  (He.Fa.free "bool").ok K,
  (He.Fa.free "divmod").ok K,
  (He.Fa.free "int").ok K,
  (He.Fa.free "isinstance").ok K,
  (He.Fa.free "len").ok K,
  (He.Fa.free "list").ok K,
  (He.Fa.free "max").ok K,
  (He.Fa.free "range").ok K,
  (He.Fa.free "str").ok K,
  (He.Fa.free "sum").ok K,
  (He.Fa.free "tuple").ok K,
  (He.Fa.glo "_wall").ok K,
  (He.Fa.glo "_digits").ok K,
  (He.Fa.glo "total").ok K,
  (He.Fa.glo "are_lots").ok K,
  (He.Fa.glo "_table").ok K,
  (He.Fa.glo "_fault").ok K,
  (He.Fa.glo "_out_of").ok K,
  (He.Fa.glo "_is_square").ok K,
  (He.Fa.glo "_leads_on").ok K,
  (He.Fa.glo "fit").ok K,
  (He.Fa.glo "begun").ok K,
  (He.Fa.glo "_law_pool").ok K,
  (He.Fa.glo "_law_draw").ok K,
  (He.Fa.glo "_law_same").ok K,
  (He.Fa.glo "_law_less").ok K,
  (He.Fa.glo "_law_plus").ok K,
  (He.Fa.glo "_law_minus").ok K,
  (He.Fa.glo "_law_sum").ok K,
  (He.Fa.glo "_law_cells").ok K,
  (He.Fa.glo "_law_machine").ok K,
  (He.Fa.glo "_law_changed").ok K,
  (He.Fa.glo "_law_made").ok K,
  (He.Fa.glo "_law_lots_right").ok K,
  (He.Fa.glo "_law_bad").ok K,
  (He.Fa.glo "_law_shifted").ok K,
  (He.Fa.glo "_law_resized").ok K,
  (He.Fa.glo "_law_spoilt").ok K,
  (He.Fa.glo "_law_data").ok K,
  (He.Fa.glo "_law_tuples").ok K,
  (He.Fa.glo "law").ok K,
  blB K "gcd" "math.gcd",
  (He.Fa.int "PART_END" (10000000000000000000000000000000000000000000000000000000000000000)).ok K,
  (He.Fa.int "MOST_STATES" (12)).ok K,
  (He.Fa.int "MOST_BUTTONS" (4)).ok K,
  (He.Fa.int "MOST_ANSWERS" (4)).ok K,
  (He.Fa.glo "TestError").ok K,
  (He.Fa.keep "TestError").ok K,
  (He.Fa.exc "TestError").ok K,
  isEB K "TestError",
  (He.Fa.glo "BadText").ok K,
  (He.Fa.keep "BadText").ok K,
  isEB K "BadText",
  oexB K "BadText" "at",
  (He.Fa.glo "BadPaper").ok K,
  (He.Fa.keep "BadPaper").ok K,
  isEB K "BadPaper",
  oexB K "BadPaper" "at",
  (He.Fa.glo "BadMachine").ok K,
  (He.Fa.keep "BadMachine").ok K,
  isEB K "BadMachine",
  oexB K "BadMachine" "what",
  (He.Fa.glo "TooLarge").ok K,
  (He.Fa.keep "TooLarge").ok K,
  isEB K "TooLarge",
  oexB K "TooLarge" "what",
  (He.Fa.glo "BadRatio").ok K,
  (He.Fa.keep "BadRatio").ok K,
  (He.Fa.exc "BadRatio").ok K,
  isEB K "BadRatio",
  (He.Fa.glo "Ratio").ok K,
  (He.Fa.keep "Ratio").ok K,
  (He.Fa.cls "Ratio").ok K,
  instB K "Ratio",
  (He.Fa.mkr "Ratio").ok K,
  PySem.W.selfFirst K (He.ga K "Ratio"),
  (He.Fa.meth "Ratio" "__init__").ok K,
  (He.Fa.meth "Ratio" "__add__").ok K,
  (He.Fa.meth "Ratio" "__sub__").ok K,
  (He.Fa.meth "Ratio" "__mul__").ok K,
  (He.Fa.meth "Ratio" "__eq__").ok K,
  (He.Fa.meth "Ratio" "__str__").ok K,
  (He.Fa.meth "Ratio" "less").ok K,
  (He.Fa.meth "Ratio" "by").ok K,
  (He.Fa.noat "Ratio" "num").ok K,
  (He.Fa.noat "Ratio" "den").ok K,
  (He.Fa.glo "Machine").ok K,
  (He.Fa.keep "Machine").ok K,
  (He.Fa.cls "Machine").ok K,
  instB K "Machine",
  (He.Fa.mkr "Machine").ok K,
  PySem.W.selfFirst K (He.ga K "Machine"),
  (He.Fa.meth "Machine" "__init__").ok K,
  (He.Fa.meth "Machine" "__eq__").ok K,
  (He.Fa.meth "Machine" "states").ok K,
  (He.Fa.meth "Machine" "buttons").ok K,
  (He.Fa.meth "Machine" "answers").ok K,
  (He.Fa.noat "Machine" "start").ok K,
  (He.Fa.noat "Machine" "moves").ok K,
  decide (PySem.W.kitOne K (.ref (He.ga K "BadText")) (.type "ValueError") = some true),
  decide (PySem.W.kitOne K (.ref (He.ga K "BadText")) (.ref (He.ga K "TestError")) = some true),
  decide (PySem.W.exmOne K (.ref (He.ga K "BadText")) (.ref (He.ga K "TestError")) = some true),
  decide (PySem.W.kitOne K (.ref (He.ga K "BadText")) (.ref (He.ga K "BadText")) = some true),
  decide (PySem.W.exmOne K (.ref (He.ga K "BadText")) (.ref (He.ga K "BadText")) = some true),
  decide (PySem.W.kitOne K (.ref (He.ga K "BadText")) (.ref (He.ga K "BadPaper")) = some false),
  decide (PySem.W.exmOne K (.ref (He.ga K "BadText")) (.ref (He.ga K "BadPaper")) = some false),
  decide (PySem.W.kitOne K (.ref (He.ga K "BadText")) (.ref (He.ga K "BadMachine")) = some false),
  decide (PySem.W.exmOne K (.ref (He.ga K "BadText")) (.ref (He.ga K "BadMachine")) = some false),
  decide (PySem.W.kitOne K (.ref (He.ga K "BadText")) (.ref (He.ga K "TooLarge")) = some false),
  decide (PySem.W.exmOne K (.ref (He.ga K "BadText")) (.ref (He.ga K "TooLarge")) = some false),
  decide (PySem.W.kitOne K (.ref (He.ga K "BadText")) (.ref (He.ga K "BadRatio")) = some false),
  decide (PySem.W.exmOne K (.ref (He.ga K "BadText")) (.ref (He.ga K "BadRatio")) = some false),
  decide (PySem.W.kitOne K (.ref (He.ga K "BadPaper")) (.type "ValueError") = some true),
  decide (PySem.W.kitOne K (.ref (He.ga K "BadPaper")) (.ref (He.ga K "TestError")) = some true),
  decide (PySem.W.exmOne K (.ref (He.ga K "BadPaper")) (.ref (He.ga K "TestError")) = some true),
  decide (PySem.W.kitOne K (.ref (He.ga K "BadPaper")) (.ref (He.ga K "BadText")) = some false),
  decide (PySem.W.exmOne K (.ref (He.ga K "BadPaper")) (.ref (He.ga K "BadText")) = some false),
  decide (PySem.W.kitOne K (.ref (He.ga K "BadPaper")) (.ref (He.ga K "BadPaper")) = some true),
  decide (PySem.W.exmOne K (.ref (He.ga K "BadPaper")) (.ref (He.ga K "BadPaper")) = some true),
  decide (PySem.W.kitOne K (.ref (He.ga K "BadPaper")) (.ref (He.ga K "BadMachine")) = some false),
  decide (PySem.W.exmOne K (.ref (He.ga K "BadPaper")) (.ref (He.ga K "BadMachine")) = some false),
  decide (PySem.W.kitOne K (.ref (He.ga K "BadPaper")) (.ref (He.ga K "TooLarge")) = some false),
  decide (PySem.W.exmOne K (.ref (He.ga K "BadPaper")) (.ref (He.ga K "TooLarge")) = some false),
  decide (PySem.W.kitOne K (.ref (He.ga K "BadPaper")) (.ref (He.ga K "BadRatio")) = some false),
  decide (PySem.W.exmOne K (.ref (He.ga K "BadPaper")) (.ref (He.ga K "BadRatio")) = some false),
  decide (PySem.W.kitOne K (.ref (He.ga K "BadMachine")) (.type "ValueError") = some true),
  decide (PySem.W.kitOne K (.ref (He.ga K "BadMachine")) (.ref (He.ga K "TestError")) = some true),
  decide (PySem.W.exmOne K (.ref (He.ga K "BadMachine")) (.ref (He.ga K "TestError")) = some true),
  decide (PySem.W.kitOne K (.ref (He.ga K "BadMachine")) (.ref (He.ga K "BadText")) = some false),
  decide (PySem.W.exmOne K (.ref (He.ga K "BadMachine")) (.ref (He.ga K "BadText")) = some false),
  decide (PySem.W.kitOne K (.ref (He.ga K "BadMachine")) (.ref (He.ga K "BadPaper")) = some false),
  decide (PySem.W.exmOne K (.ref (He.ga K "BadMachine")) (.ref (He.ga K "BadPaper")) = some false),
  decide (PySem.W.kitOne K (.ref (He.ga K "BadMachine")) (.ref (He.ga K "BadMachine")) = some true),
  decide (PySem.W.exmOne K (.ref (He.ga K "BadMachine")) (.ref (He.ga K "BadMachine")) = some true),
  decide (PySem.W.kitOne K (.ref (He.ga K "BadMachine")) (.ref (He.ga K "TooLarge")) = some false),
  decide (PySem.W.exmOne K (.ref (He.ga K "BadMachine")) (.ref (He.ga K "TooLarge")) = some false),
  decide (PySem.W.kitOne K (.ref (He.ga K "BadMachine")) (.ref (He.ga K "BadRatio")) = some false),
  decide (PySem.W.exmOne K (.ref (He.ga K "BadMachine")) (.ref (He.ga K "BadRatio")) = some false),
  decide (PySem.W.kitOne K (.ref (He.ga K "TooLarge")) (.type "ValueError") = some true),
  decide (PySem.W.kitOne K (.ref (He.ga K "TooLarge")) (.ref (He.ga K "TestError")) = some true),
  decide (PySem.W.exmOne K (.ref (He.ga K "TooLarge")) (.ref (He.ga K "TestError")) = some true),
  decide (PySem.W.kitOne K (.ref (He.ga K "TooLarge")) (.ref (He.ga K "BadText")) = some false),
  decide (PySem.W.exmOne K (.ref (He.ga K "TooLarge")) (.ref (He.ga K "BadText")) = some false),
  decide (PySem.W.kitOne K (.ref (He.ga K "TooLarge")) (.ref (He.ga K "BadPaper")) = some false),
  decide (PySem.W.exmOne K (.ref (He.ga K "TooLarge")) (.ref (He.ga K "BadPaper")) = some false),
  decide (PySem.W.kitOne K (.ref (He.ga K "TooLarge")) (.ref (He.ga K "BadMachine")) = some false),
  decide (PySem.W.exmOne K (.ref (He.ga K "TooLarge")) (.ref (He.ga K "BadMachine")) = some false),
  decide (PySem.W.kitOne K (.ref (He.ga K "TooLarge")) (.ref (He.ga K "TooLarge")) = some true),
  decide (PySem.W.exmOne K (.ref (He.ga K "TooLarge")) (.ref (He.ga K "TooLarge")) = some true),
  decide (PySem.W.kitOne K (.ref (He.ga K "TooLarge")) (.ref (He.ga K "BadRatio")) = some false),
  decide (PySem.W.exmOne K (.ref (He.ga K "TooLarge")) (.ref (He.ga K "BadRatio")) = some false),
  decide (PySem.W.kitOne K (.ref (He.ga K "BadRatio")) (.type "ValueError") = some true),
  decide (PySem.W.kitOne K (.ref (He.ga K "BadRatio")) (.ref (He.ga K "TestError")) = some true),
  decide (PySem.W.exmOne K (.ref (He.ga K "BadRatio")) (.ref (He.ga K "TestError")) = some true),
  decide (PySem.W.kitOne K (.ref (He.ga K "BadRatio")) (.ref (He.ga K "BadText")) = some false),
  decide (PySem.W.exmOne K (.ref (He.ga K "BadRatio")) (.ref (He.ga K "BadText")) = some false),
  decide (PySem.W.kitOne K (.ref (He.ga K "BadRatio")) (.ref (He.ga K "BadPaper")) = some false),
  decide (PySem.W.exmOne K (.ref (He.ga K "BadRatio")) (.ref (He.ga K "BadPaper")) = some false),
  decide (PySem.W.kitOne K (.ref (He.ga K "BadRatio")) (.ref (He.ga K "BadMachine")) = some false),
  decide (PySem.W.exmOne K (.ref (He.ga K "BadRatio")) (.ref (He.ga K "BadMachine")) = some false),
  decide (PySem.W.kitOne K (.ref (He.ga K "BadRatio")) (.ref (He.ga K "TooLarge")) = some false),
  decide (PySem.W.exmOne K (.ref (He.ga K "BadRatio")) (.ref (He.ga K "TooLarge")) = some false),
  decide (PySem.W.kitOne K (.ref (He.ga K "BadRatio")) (.ref (He.ga K "BadRatio")) = some true),
  decide (PySem.W.exmOne K (.ref (He.ga K "BadRatio")) (.ref (He.ga K "BadRatio")) = some true)]
def ex (K : PySem.W.Frag) : Bool := (fas K).all id
theorem fas_at {K : PySem.W.Frag} (c : ex K = true) (i : Nat) {b : Bool} (h : (fas K)[i]? = some b) : b = true := List.all_eq_true.mp c b (List.mem_of_getElem? h)
structure Dt (K : PySem.W.Frag) (mg : Str → Option Value) : Prop where
  s : SaysY ex fn K
  n : ∃ h : Heap, K.In h ∧ h.Ns mainGlobals mg
section
variable {K : PySem.W.Frag} {mg : Str → Option Value}
theorem free_ValueError (D : Dt K mg) : mg "ValueError" = none := by obtain ⟨h, X, G⟩ := D.n; exact He.free_ok X G (fas_at D.s.more 0 rfl)
theorem free_abs (D : Dt K mg) : mg "abs" = none := by obtain ⟨h, X, G⟩ := D.n; exact He.free_ok X G (fas_at D.s.more 1 rfl)
theorem free_all (D : Dt K mg) : mg "all" = none := by obtain ⟨h, X, G⟩ := D.n; exact He.free_ok X G (fas_at D.s.more 2 rfl)
theorem free_any (D : Dt K mg) : mg "any" = none := by obtain ⟨h, X, G⟩ := D.n; exact He.free_ok X G (fas_at D.s.more 3 rfl)
theorem free_bool (D : Dt K mg) : mg "bool" = none := by obtain ⟨h, X, G⟩ := D.n; exact He.free_ok X G (fas_at D.s.more 4 rfl)
theorem free_divmod (D : Dt K mg) : mg "divmod" = none := by obtain ⟨h, X, G⟩ := D.n; exact He.free_ok X G (fas_at D.s.more 5 rfl)
theorem free_int (D : Dt K mg) : mg "int" = none := by obtain ⟨h, X, G⟩ := D.n; exact He.free_ok X G (fas_at D.s.more 6 rfl)
theorem free_isinstance (D : Dt K mg) : mg "isinstance" = none := by obtain ⟨h, X, G⟩ := D.n; exact He.free_ok X G (fas_at D.s.more 7 rfl)
theorem free_len (D : Dt K mg) : mg "len" = none := by obtain ⟨h, X, G⟩ := D.n; exact He.free_ok X G (fas_at D.s.more 8 rfl)
theorem free_list (D : Dt K mg) : mg "list" = none := by obtain ⟨h, X, G⟩ := D.n; exact He.free_ok X G (fas_at D.s.more 9 rfl)
theorem free_max (D : Dt K mg) : mg "max" = none := by obtain ⟨h, X, G⟩ := D.n; exact He.free_ok X G (fas_at D.s.more 10 rfl)
theorem free_range (D : Dt K mg) : mg "range" = none := by obtain ⟨h, X, G⟩ := D.n; exact He.free_ok X G (fas_at D.s.more 11 rfl)
theorem free_str (D : Dt K mg) : mg "str" = none := by obtain ⟨h, X, G⟩ := D.n; exact He.free_ok X G (fas_at D.s.more 12 rfl)
theorem free_sum (D : Dt K mg) : mg "sum" = none := by obtain ⟨h, X, G⟩ := D.n; exact He.free_ok X G (fas_at D.s.more 13 rfl)
theorem free_tuple (D : Dt K mg) : mg "tuple" = none := by obtain ⟨h, X, G⟩ := D.n; exact He.free_ok X G (fas_at D.s.more 14 rfl)
theorem glo__wall (D : Dt K mg) : mg "_wall" = some (.ref (He.ga K "_wall")) := by obtain ⟨h, X, G⟩ := D.n; exact He.glo_ok X G (fas_at D.s.more 15 rfl)
theorem glo__digits (D : Dt K mg) : mg "_digits" = some (.ref (He.ga K "_digits")) := by obtain ⟨h, X, G⟩ := D.n; exact He.glo_ok X G (fas_at D.s.more 16 rfl)
theorem glo_total (D : Dt K mg) : mg "total" = some (.ref (He.ga K "total")) := by obtain ⟨h, X, G⟩ := D.n; exact He.glo_ok X G (fas_at D.s.more 17 rfl)
theorem glo_are_lots (D : Dt K mg) : mg "are_lots" = some (.ref (He.ga K "are_lots")) := by obtain ⟨h, X, G⟩ := D.n; exact He.glo_ok X G (fas_at D.s.more 18 rfl)
theorem glo__table (D : Dt K mg) : mg "_table" = some (.ref (He.ga K "_table")) := by obtain ⟨h, X, G⟩ := D.n; exact He.glo_ok X G (fas_at D.s.more 19 rfl)
theorem glo__fault (D : Dt K mg) : mg "_fault" = some (.ref (He.ga K "_fault")) := by obtain ⟨h, X, G⟩ := D.n; exact He.glo_ok X G (fas_at D.s.more 20 rfl)
theorem glo__out_of (D : Dt K mg) : mg "_out_of" = some (.ref (He.ga K "_out_of")) := by obtain ⟨h, X, G⟩ := D.n; exact He.glo_ok X G (fas_at D.s.more 21 rfl)
theorem glo__is_square (D : Dt K mg) : mg "_is_square" = some (.ref (He.ga K "_is_square")) := by obtain ⟨h, X, G⟩ := D.n; exact He.glo_ok X G (fas_at D.s.more 22 rfl)
theorem glo__leads_on (D : Dt K mg) : mg "_leads_on" = some (.ref (He.ga K "_leads_on")) := by obtain ⟨h, X, G⟩ := D.n; exact He.glo_ok X G (fas_at D.s.more 23 rfl)
theorem glo_fit (D : Dt K mg) : mg "fit" = some (.ref (He.ga K "fit")) := by obtain ⟨h, X, G⟩ := D.n; exact He.glo_ok X G (fas_at D.s.more 24 rfl)
theorem glo_begun (D : Dt K mg) : mg "begun" = some (.ref (He.ga K "begun")) := by obtain ⟨h, X, G⟩ := D.n; exact He.glo_ok X G (fas_at D.s.more 25 rfl)
theorem glo__law_pool (D : Dt K mg) : mg "_law_pool" = some (.ref (He.ga K "_law_pool")) := by obtain ⟨h, X, G⟩ := D.n; exact He.glo_ok X G (fas_at D.s.more 26 rfl)
theorem glo__law_draw (D : Dt K mg) : mg "_law_draw" = some (.ref (He.ga K "_law_draw")) := by obtain ⟨h, X, G⟩ := D.n; exact He.glo_ok X G (fas_at D.s.more 27 rfl)
theorem glo__law_same (D : Dt K mg) : mg "_law_same" = some (.ref (He.ga K "_law_same")) := by obtain ⟨h, X, G⟩ := D.n; exact He.glo_ok X G (fas_at D.s.more 28 rfl)
theorem glo__law_less (D : Dt K mg) : mg "_law_less" = some (.ref (He.ga K "_law_less")) := by obtain ⟨h, X, G⟩ := D.n; exact He.glo_ok X G (fas_at D.s.more 29 rfl)
theorem glo__law_plus (D : Dt K mg) : mg "_law_plus" = some (.ref (He.ga K "_law_plus")) := by obtain ⟨h, X, G⟩ := D.n; exact He.glo_ok X G (fas_at D.s.more 30 rfl)
theorem glo__law_minus (D : Dt K mg) : mg "_law_minus" = some (.ref (He.ga K "_law_minus")) := by obtain ⟨h, X, G⟩ := D.n; exact He.glo_ok X G (fas_at D.s.more 31 rfl)
theorem glo__law_sum (D : Dt K mg) : mg "_law_sum" = some (.ref (He.ga K "_law_sum")) := by obtain ⟨h, X, G⟩ := D.n; exact He.glo_ok X G (fas_at D.s.more 32 rfl)
theorem glo__law_cells (D : Dt K mg) : mg "_law_cells" = some (.ref (He.ga K "_law_cells")) := by obtain ⟨h, X, G⟩ := D.n; exact He.glo_ok X G (fas_at D.s.more 33 rfl)
theorem glo__law_machine (D : Dt K mg) : mg "_law_machine" = some (.ref (He.ga K "_law_machine")) := by obtain ⟨h, X, G⟩ := D.n; exact He.glo_ok X G (fas_at D.s.more 34 rfl)
theorem glo__law_changed (D : Dt K mg) : mg "_law_changed" = some (.ref (He.ga K "_law_changed")) := by obtain ⟨h, X, G⟩ := D.n; exact He.glo_ok X G (fas_at D.s.more 35 rfl)
theorem glo__law_made (D : Dt K mg) : mg "_law_made" = some (.ref (He.ga K "_law_made")) := by obtain ⟨h, X, G⟩ := D.n; exact He.glo_ok X G (fas_at D.s.more 36 rfl)
theorem glo__law_lots_right (D : Dt K mg) : mg "_law_lots_right" = some (.ref (He.ga K "_law_lots_right")) := by obtain ⟨h, X, G⟩ := D.n; exact He.glo_ok X G (fas_at D.s.more 37 rfl)
theorem glo__law_bad (D : Dt K mg) : mg "_law_bad" = some (.ref (He.ga K "_law_bad")) := by obtain ⟨h, X, G⟩ := D.n; exact He.glo_ok X G (fas_at D.s.more 38 rfl)
theorem glo__law_shifted (D : Dt K mg) : mg "_law_shifted" = some (.ref (He.ga K "_law_shifted")) := by obtain ⟨h, X, G⟩ := D.n; exact He.glo_ok X G (fas_at D.s.more 39 rfl)
theorem glo__law_resized (D : Dt K mg) : mg "_law_resized" = some (.ref (He.ga K "_law_resized")) := by obtain ⟨h, X, G⟩ := D.n; exact He.glo_ok X G (fas_at D.s.more 40 rfl)
theorem glo__law_spoilt (D : Dt K mg) : mg "_law_spoilt" = some (.ref (He.ga K "_law_spoilt")) := by obtain ⟨h, X, G⟩ := D.n; exact He.glo_ok X G (fas_at D.s.more 41 rfl)
theorem glo__law_data (D : Dt K mg) : mg "_law_data" = some (.ref (He.ga K "_law_data")) := by obtain ⟨h, X, G⟩ := D.n; exact He.glo_ok X G (fas_at D.s.more 42 rfl)
theorem glo__law_tuples (D : Dt K mg) : mg "_law_tuples" = some (.ref (He.ga K "_law_tuples")) := by obtain ⟨h, X, G⟩ := D.n; exact He.glo_ok X G (fas_at D.s.more 43 rfl)
theorem glo_law (D : Dt K mg) : mg "law" = some (.ref (He.ga K "law")) := by obtain ⟨h, X, G⟩ := D.n; exact He.glo_ok X G (fas_at D.s.more 44 rfl)
theorem blt_gcd (D : Dt K mg) : mg "gcd" = some (.builtin "math.gcd") := by obtain ⟨h, X, G⟩ := D.n; exact blB_ok X G (fas_at D.s.more 45 rfl)
theorem int_PART_END (D : Dt K mg) : ∃ t, mg "PART_END" = some (.int (10000000000000000000000000000000000000000000000000000000000000000) t) := by obtain ⟨h, X, G⟩ := D.n; exact He.int_ok X G (fas_at D.s.more 46 rfl)
theorem int_MOST_STATES (D : Dt K mg) : ∃ t, mg "MOST_STATES" = some (.int (12) t) := by obtain ⟨h, X, G⟩ := D.n; exact He.int_ok X G (fas_at D.s.more 47 rfl)
theorem int_MOST_BUTTONS (D : Dt K mg) : ∃ t, mg "MOST_BUTTONS" = some (.int (4) t) := by obtain ⟨h, X, G⟩ := D.n; exact He.int_ok X G (fas_at D.s.more 48 rfl)
theorem int_MOST_ANSWERS (D : Dt K mg) : ∃ t, mg "MOST_ANSWERS" = some (.int (4) t) := by obtain ⟨h, X, G⟩ := D.n; exact He.int_ok X G (fas_at D.s.more 49 rfl)
theorem glo_TestError (D : Dt K mg) : mg "TestError" = some (.ref (He.ga K "TestError")) := by obtain ⟨h, X, G⟩ := D.n; exact He.glo_ok X G (fas_at D.s.more 50 rfl)
theorem kp_TestError (D : Dt K mg) : PySem.W.keepIn K (.ref (He.ga K "TestError")) = true := He.keep_ok (fas_at D.s.more 51 rfl)
theorem exc_TestError (D : Dt K mg) : PySem.W.excIn K (He.ga K "TestError") He.veBase "ValueError.__new__" = true ∧ PySem.W.keepIn K (.ref (He.ga K "TestError")) = true ∧ PySem.W.subIn K (.ref (He.ga K "TestError")) (.type "BaseException") = some true ∧ PySem.W.typeIn K (.ref (He.ga K "TestError")) = some (.type "type") := He.exc_ok (fas_at D.s.more 52 rfl)
theorem isE_TestError (D : Dt K mg) : ExcC K (He.ga K "TestError") := isEB_ok (fas_at D.s.more 53 rfl)
theorem glo_BadText (D : Dt K mg) : mg "BadText" = some (.ref (He.ga K "BadText")) := by obtain ⟨h, X, G⟩ := D.n; exact He.glo_ok X G (fas_at D.s.more 54 rfl)
theorem kp_BadText (D : Dt K mg) : PySem.W.keepIn K (.ref (He.ga K "BadText")) = true := He.keep_ok (fas_at D.s.more 55 rfl)
theorem isE_BadText (D : Dt K mg) : ExcC K (He.ga K "BadText") := isEB_ok (fas_at D.s.more 56 rfl)
theorem oex_BadText (D : Dt K mg) : OexF K (He.ga K "BadText") (He.ma K (He.ga K "BadText") "__init__") "at" := oexB_ok (fas_at D.s.more 57 rfl)
theorem glo_BadPaper (D : Dt K mg) : mg "BadPaper" = some (.ref (He.ga K "BadPaper")) := by obtain ⟨h, X, G⟩ := D.n; exact He.glo_ok X G (fas_at D.s.more 58 rfl)
theorem kp_BadPaper (D : Dt K mg) : PySem.W.keepIn K (.ref (He.ga K "BadPaper")) = true := He.keep_ok (fas_at D.s.more 59 rfl)
theorem isE_BadPaper (D : Dt K mg) : ExcC K (He.ga K "BadPaper") := isEB_ok (fas_at D.s.more 60 rfl)
theorem oex_BadPaper (D : Dt K mg) : OexF K (He.ga K "BadPaper") (He.ma K (He.ga K "BadPaper") "__init__") "at" := oexB_ok (fas_at D.s.more 61 rfl)
theorem glo_BadMachine (D : Dt K mg) : mg "BadMachine" = some (.ref (He.ga K "BadMachine")) := by obtain ⟨h, X, G⟩ := D.n; exact He.glo_ok X G (fas_at D.s.more 62 rfl)
theorem kp_BadMachine (D : Dt K mg) : PySem.W.keepIn K (.ref (He.ga K "BadMachine")) = true := He.keep_ok (fas_at D.s.more 63 rfl)
theorem isE_BadMachine (D : Dt K mg) : ExcC K (He.ga K "BadMachine") := isEB_ok (fas_at D.s.more 64 rfl)
theorem oex_BadMachine (D : Dt K mg) : OexF K (He.ga K "BadMachine") (He.ma K (He.ga K "BadMachine") "__init__") "what" := oexB_ok (fas_at D.s.more 65 rfl)
theorem glo_TooLarge (D : Dt K mg) : mg "TooLarge" = some (.ref (He.ga K "TooLarge")) := by obtain ⟨h, X, G⟩ := D.n; exact He.glo_ok X G (fas_at D.s.more 66 rfl)
theorem kp_TooLarge (D : Dt K mg) : PySem.W.keepIn K (.ref (He.ga K "TooLarge")) = true := He.keep_ok (fas_at D.s.more 67 rfl)
theorem isE_TooLarge (D : Dt K mg) : ExcC K (He.ga K "TooLarge") := isEB_ok (fas_at D.s.more 68 rfl)
theorem oex_TooLarge (D : Dt K mg) : OexF K (He.ga K "TooLarge") (He.ma K (He.ga K "TooLarge") "__init__") "what" := oexB_ok (fas_at D.s.more 69 rfl)
theorem glo_BadRatio (D : Dt K mg) : mg "BadRatio" = some (.ref (He.ga K "BadRatio")) := by obtain ⟨h, X, G⟩ := D.n; exact He.glo_ok X G (fas_at D.s.more 70 rfl)
theorem kp_BadRatio (D : Dt K mg) : PySem.W.keepIn K (.ref (He.ga K "BadRatio")) = true := He.keep_ok (fas_at D.s.more 71 rfl)
theorem exc_BadRatio (D : Dt K mg) : PySem.W.excIn K (He.ga K "BadRatio") He.veBase "ValueError.__new__" = true ∧ PySem.W.keepIn K (.ref (He.ga K "BadRatio")) = true ∧ PySem.W.subIn K (.ref (He.ga K "BadRatio")) (.type "BaseException") = some true ∧ PySem.W.typeIn K (.ref (He.ga K "BadRatio")) = some (.type "type") := He.exc_ok (fas_at D.s.more 72 rfl)
theorem isE_BadRatio (D : Dt K mg) : ExcC K (He.ga K "BadRatio") := isEB_ok (fas_at D.s.more 73 rfl)
theorem glo_Ratio (D : Dt K mg) : mg "Ratio" = some (.ref (He.ga K "Ratio")) := by obtain ⟨h, X, G⟩ := D.n; exact He.glo_ok X G (fas_at D.s.more 74 rfl)
theorem kp_Ratio (D : Dt K mg) : PySem.W.keepIn K (.ref (He.ga K "Ratio")) = true := He.keep_ok (fas_at D.s.more 75 rfl)
theorem cls_Ratio (D : Dt K mg) : Cls K (He.ga K "Ratio") := He.cls_ok (fas_at D.s.more 76 rfl)
theorem inst_Ratio (D : Dt K mg) : InstC K (He.ga K "Ratio") := instB_ok (fas_at D.s.more 77 rfl)
theorem mkr_Ratio (D : Dt K mg) : Mk K (He.ga K "Ratio") (He.ma K (He.ga K "Ratio") "__init__") := He.mkr_ok (fas_at D.s.more 78 rfl)
theorem self_Ratio (D : Dt K mg) : PySem.W.selfFirst K (He.ga K "Ratio") = true := fas_at D.s.more 79 rfl
theorem me_Ratio_init (D : Dt K mg) : Meth K (He.ga K "Ratio") "__init__" (He.ma K (He.ga K "Ratio") "__init__") := He.meth_ok (fas_at D.s.more 80 rfl)
theorem me_Ratio_add (D : Dt K mg) : Meth K (He.ga K "Ratio") "__add__" (He.ma K (He.ga K "Ratio") "__add__") := He.meth_ok (fas_at D.s.more 81 rfl)
theorem me_Ratio_sub (D : Dt K mg) : Meth K (He.ga K "Ratio") "__sub__" (He.ma K (He.ga K "Ratio") "__sub__") := He.meth_ok (fas_at D.s.more 82 rfl)
theorem me_Ratio_mul (D : Dt K mg) : Meth K (He.ga K "Ratio") "__mul__" (He.ma K (He.ga K "Ratio") "__mul__") := He.meth_ok (fas_at D.s.more 83 rfl)
theorem me_Ratio_eq (D : Dt K mg) : Meth K (He.ga K "Ratio") "__eq__" (He.ma K (He.ga K "Ratio") "__eq__") := He.meth_ok (fas_at D.s.more 84 rfl)
theorem me_Ratio_str (D : Dt K mg) : Meth K (He.ga K "Ratio") "__str__" (He.ma K (He.ga K "Ratio") "__str__") := He.meth_ok (fas_at D.s.more 85 rfl)
theorem me_Ratio_less (D : Dt K mg) : Meth K (He.ga K "Ratio") "less" (He.ma K (He.ga K "Ratio") "less") := He.meth_ok (fas_at D.s.more 86 rfl)
theorem me_Ratio_by (D : Dt K mg) : Meth K (He.ga K "Ratio") "by" (He.ma K (He.ga K "Ratio") "by") := He.meth_ok (fas_at D.s.more 87 rfl)
theorem na_Ratio_num (D : Dt K mg) : NoAttr K (He.ga K "Ratio") "num" := He.noat_ok (fas_at D.s.more 88 rfl)
theorem na_Ratio_den (D : Dt K mg) : NoAttr K (He.ga K "Ratio") "den" := He.noat_ok (fas_at D.s.more 89 rfl)
theorem glo_Machine (D : Dt K mg) : mg "Machine" = some (.ref (He.ga K "Machine")) := by obtain ⟨h, X, G⟩ := D.n; exact He.glo_ok X G (fas_at D.s.more 90 rfl)
theorem kp_Machine (D : Dt K mg) : PySem.W.keepIn K (.ref (He.ga K "Machine")) = true := He.keep_ok (fas_at D.s.more 91 rfl)
theorem cls_Machine (D : Dt K mg) : Cls K (He.ga K "Machine") := He.cls_ok (fas_at D.s.more 92 rfl)
theorem inst_Machine (D : Dt K mg) : InstC K (He.ga K "Machine") := instB_ok (fas_at D.s.more 93 rfl)
theorem mkr_Machine (D : Dt K mg) : Mk K (He.ga K "Machine") (He.ma K (He.ga K "Machine") "__init__") := He.mkr_ok (fas_at D.s.more 94 rfl)
theorem self_Machine (D : Dt K mg) : PySem.W.selfFirst K (He.ga K "Machine") = true := fas_at D.s.more 95 rfl
theorem me_Machine_init (D : Dt K mg) : Meth K (He.ga K "Machine") "__init__" (He.ma K (He.ga K "Machine") "__init__") := He.meth_ok (fas_at D.s.more 96 rfl)
theorem me_Machine_eq (D : Dt K mg) : Meth K (He.ga K "Machine") "__eq__" (He.ma K (He.ga K "Machine") "__eq__") := He.meth_ok (fas_at D.s.more 97 rfl)
theorem me_Machine_states (D : Dt K mg) : Meth K (He.ga K "Machine") "states" (He.ma K (He.ga K "Machine") "states") := He.meth_ok (fas_at D.s.more 98 rfl)
theorem me_Machine_buttons (D : Dt K mg) : Meth K (He.ga K "Machine") "buttons" (He.ma K (He.ga K "Machine") "buttons") := He.meth_ok (fas_at D.s.more 99 rfl)
theorem me_Machine_answers (D : Dt K mg) : Meth K (He.ga K "Machine") "answers" (He.ma K (He.ga K "Machine") "answers") := He.meth_ok (fas_at D.s.more 100 rfl)
theorem na_Machine_start (D : Dt K mg) : NoAttr K (He.ga K "Machine") "start" := He.noat_ok (fas_at D.s.more 101 rfl)
theorem na_Machine_moves (D : Dt K mg) : NoAttr K (He.ga K "Machine") "moves" := He.noat_ok (fas_at D.s.more 102 rfl)
theorem kitV_BadText (D : Dt K mg) : PySem.W.kitOne K (.ref (He.ga K "BadText")) (.type "ValueError") = some true := of_decide_eq_true (fas_at D.s.more 103 rfl)
theorem kit_BadText_TestError (D : Dt K mg) : PySem.W.kitOne K (.ref (He.ga K "BadText")) (.ref (He.ga K "TestError")) = some true := of_decide_eq_true (fas_at D.s.more 104 rfl)
theorem exm_BadText_TestError (D : Dt K mg) : PySem.W.exmOne K (.ref (He.ga K "BadText")) (.ref (He.ga K "TestError")) = some true := of_decide_eq_true (fas_at D.s.more 105 rfl)
theorem kit_BadText_BadText (D : Dt K mg) : PySem.W.kitOne K (.ref (He.ga K "BadText")) (.ref (He.ga K "BadText")) = some true := of_decide_eq_true (fas_at D.s.more 106 rfl)
theorem exm_BadText_BadText (D : Dt K mg) : PySem.W.exmOne K (.ref (He.ga K "BadText")) (.ref (He.ga K "BadText")) = some true := of_decide_eq_true (fas_at D.s.more 107 rfl)
theorem kit_BadText_BadPaper (D : Dt K mg) : PySem.W.kitOne K (.ref (He.ga K "BadText")) (.ref (He.ga K "BadPaper")) = some false := of_decide_eq_true (fas_at D.s.more 108 rfl)
theorem exm_BadText_BadPaper (D : Dt K mg) : PySem.W.exmOne K (.ref (He.ga K "BadText")) (.ref (He.ga K "BadPaper")) = some false := of_decide_eq_true (fas_at D.s.more 109 rfl)
theorem kit_BadText_BadMachine (D : Dt K mg) : PySem.W.kitOne K (.ref (He.ga K "BadText")) (.ref (He.ga K "BadMachine")) = some false := of_decide_eq_true (fas_at D.s.more 110 rfl)
theorem exm_BadText_BadMachine (D : Dt K mg) : PySem.W.exmOne K (.ref (He.ga K "BadText")) (.ref (He.ga K "BadMachine")) = some false := of_decide_eq_true (fas_at D.s.more 111 rfl)
theorem kit_BadText_TooLarge (D : Dt K mg) : PySem.W.kitOne K (.ref (He.ga K "BadText")) (.ref (He.ga K "TooLarge")) = some false := of_decide_eq_true (fas_at D.s.more 112 rfl)
theorem exm_BadText_TooLarge (D : Dt K mg) : PySem.W.exmOne K (.ref (He.ga K "BadText")) (.ref (He.ga K "TooLarge")) = some false := of_decide_eq_true (fas_at D.s.more 113 rfl)
theorem kit_BadText_BadRatio (D : Dt K mg) : PySem.W.kitOne K (.ref (He.ga K "BadText")) (.ref (He.ga K "BadRatio")) = some false := of_decide_eq_true (fas_at D.s.more 114 rfl)
theorem exm_BadText_BadRatio (D : Dt K mg) : PySem.W.exmOne K (.ref (He.ga K "BadText")) (.ref (He.ga K "BadRatio")) = some false := of_decide_eq_true (fas_at D.s.more 115 rfl)
theorem kitV_BadPaper (D : Dt K mg) : PySem.W.kitOne K (.ref (He.ga K "BadPaper")) (.type "ValueError") = some true := of_decide_eq_true (fas_at D.s.more 116 rfl)
theorem kit_BadPaper_TestError (D : Dt K mg) : PySem.W.kitOne K (.ref (He.ga K "BadPaper")) (.ref (He.ga K "TestError")) = some true := of_decide_eq_true (fas_at D.s.more 117 rfl)
theorem exm_BadPaper_TestError (D : Dt K mg) : PySem.W.exmOne K (.ref (He.ga K "BadPaper")) (.ref (He.ga K "TestError")) = some true := of_decide_eq_true (fas_at D.s.more 118 rfl)
theorem kit_BadPaper_BadText (D : Dt K mg) : PySem.W.kitOne K (.ref (He.ga K "BadPaper")) (.ref (He.ga K "BadText")) = some false := of_decide_eq_true (fas_at D.s.more 119 rfl)
theorem exm_BadPaper_BadText (D : Dt K mg) : PySem.W.exmOne K (.ref (He.ga K "BadPaper")) (.ref (He.ga K "BadText")) = some false := of_decide_eq_true (fas_at D.s.more 120 rfl)
theorem kit_BadPaper_BadPaper (D : Dt K mg) : PySem.W.kitOne K (.ref (He.ga K "BadPaper")) (.ref (He.ga K "BadPaper")) = some true := of_decide_eq_true (fas_at D.s.more 121 rfl)
theorem exm_BadPaper_BadPaper (D : Dt K mg) : PySem.W.exmOne K (.ref (He.ga K "BadPaper")) (.ref (He.ga K "BadPaper")) = some true := of_decide_eq_true (fas_at D.s.more 122 rfl)
theorem kit_BadPaper_BadMachine (D : Dt K mg) : PySem.W.kitOne K (.ref (He.ga K "BadPaper")) (.ref (He.ga K "BadMachine")) = some false := of_decide_eq_true (fas_at D.s.more 123 rfl)
theorem exm_BadPaper_BadMachine (D : Dt K mg) : PySem.W.exmOne K (.ref (He.ga K "BadPaper")) (.ref (He.ga K "BadMachine")) = some false := of_decide_eq_true (fas_at D.s.more 124 rfl)
theorem kit_BadPaper_TooLarge (D : Dt K mg) : PySem.W.kitOne K (.ref (He.ga K "BadPaper")) (.ref (He.ga K "TooLarge")) = some false := of_decide_eq_true (fas_at D.s.more 125 rfl)
theorem exm_BadPaper_TooLarge (D : Dt K mg) : PySem.W.exmOne K (.ref (He.ga K "BadPaper")) (.ref (He.ga K "TooLarge")) = some false := of_decide_eq_true (fas_at D.s.more 126 rfl)
theorem kit_BadPaper_BadRatio (D : Dt K mg) : PySem.W.kitOne K (.ref (He.ga K "BadPaper")) (.ref (He.ga K "BadRatio")) = some false := of_decide_eq_true (fas_at D.s.more 127 rfl)
theorem exm_BadPaper_BadRatio (D : Dt K mg) : PySem.W.exmOne K (.ref (He.ga K "BadPaper")) (.ref (He.ga K "BadRatio")) = some false := of_decide_eq_true (fas_at D.s.more 128 rfl)
theorem kitV_BadMachine (D : Dt K mg) : PySem.W.kitOne K (.ref (He.ga K "BadMachine")) (.type "ValueError") = some true := of_decide_eq_true (fas_at D.s.more 129 rfl)
theorem kit_BadMachine_TestError (D : Dt K mg) : PySem.W.kitOne K (.ref (He.ga K "BadMachine")) (.ref (He.ga K "TestError")) = some true := of_decide_eq_true (fas_at D.s.more 130 rfl)
theorem exm_BadMachine_TestError (D : Dt K mg) : PySem.W.exmOne K (.ref (He.ga K "BadMachine")) (.ref (He.ga K "TestError")) = some true := of_decide_eq_true (fas_at D.s.more 131 rfl)
theorem kit_BadMachine_BadText (D : Dt K mg) : PySem.W.kitOne K (.ref (He.ga K "BadMachine")) (.ref (He.ga K "BadText")) = some false := of_decide_eq_true (fas_at D.s.more 132 rfl)
theorem exm_BadMachine_BadText (D : Dt K mg) : PySem.W.exmOne K (.ref (He.ga K "BadMachine")) (.ref (He.ga K "BadText")) = some false := of_decide_eq_true (fas_at D.s.more 133 rfl)
theorem kit_BadMachine_BadPaper (D : Dt K mg) : PySem.W.kitOne K (.ref (He.ga K "BadMachine")) (.ref (He.ga K "BadPaper")) = some false := of_decide_eq_true (fas_at D.s.more 134 rfl)
theorem exm_BadMachine_BadPaper (D : Dt K mg) : PySem.W.exmOne K (.ref (He.ga K "BadMachine")) (.ref (He.ga K "BadPaper")) = some false := of_decide_eq_true (fas_at D.s.more 135 rfl)
theorem kit_BadMachine_BadMachine (D : Dt K mg) : PySem.W.kitOne K (.ref (He.ga K "BadMachine")) (.ref (He.ga K "BadMachine")) = some true := of_decide_eq_true (fas_at D.s.more 136 rfl)
theorem exm_BadMachine_BadMachine (D : Dt K mg) : PySem.W.exmOne K (.ref (He.ga K "BadMachine")) (.ref (He.ga K "BadMachine")) = some true := of_decide_eq_true (fas_at D.s.more 137 rfl)
theorem kit_BadMachine_TooLarge (D : Dt K mg) : PySem.W.kitOne K (.ref (He.ga K "BadMachine")) (.ref (He.ga K "TooLarge")) = some false := of_decide_eq_true (fas_at D.s.more 138 rfl)
theorem exm_BadMachine_TooLarge (D : Dt K mg) : PySem.W.exmOne K (.ref (He.ga K "BadMachine")) (.ref (He.ga K "TooLarge")) = some false := of_decide_eq_true (fas_at D.s.more 139 rfl)
theorem kit_BadMachine_BadRatio (D : Dt K mg) : PySem.W.kitOne K (.ref (He.ga K "BadMachine")) (.ref (He.ga K "BadRatio")) = some false := of_decide_eq_true (fas_at D.s.more 140 rfl)
theorem exm_BadMachine_BadRatio (D : Dt K mg) : PySem.W.exmOne K (.ref (He.ga K "BadMachine")) (.ref (He.ga K "BadRatio")) = some false := of_decide_eq_true (fas_at D.s.more 141 rfl)
theorem kitV_TooLarge (D : Dt K mg) : PySem.W.kitOne K (.ref (He.ga K "TooLarge")) (.type "ValueError") = some true := of_decide_eq_true (fas_at D.s.more 142 rfl)
theorem kit_TooLarge_TestError (D : Dt K mg) : PySem.W.kitOne K (.ref (He.ga K "TooLarge")) (.ref (He.ga K "TestError")) = some true := of_decide_eq_true (fas_at D.s.more 143 rfl)
theorem exm_TooLarge_TestError (D : Dt K mg) : PySem.W.exmOne K (.ref (He.ga K "TooLarge")) (.ref (He.ga K "TestError")) = some true := of_decide_eq_true (fas_at D.s.more 144 rfl)
theorem kit_TooLarge_BadText (D : Dt K mg) : PySem.W.kitOne K (.ref (He.ga K "TooLarge")) (.ref (He.ga K "BadText")) = some false := of_decide_eq_true (fas_at D.s.more 145 rfl)
theorem exm_TooLarge_BadText (D : Dt K mg) : PySem.W.exmOne K (.ref (He.ga K "TooLarge")) (.ref (He.ga K "BadText")) = some false := of_decide_eq_true (fas_at D.s.more 146 rfl)
theorem kit_TooLarge_BadPaper (D : Dt K mg) : PySem.W.kitOne K (.ref (He.ga K "TooLarge")) (.ref (He.ga K "BadPaper")) = some false := of_decide_eq_true (fas_at D.s.more 147 rfl)
theorem exm_TooLarge_BadPaper (D : Dt K mg) : PySem.W.exmOne K (.ref (He.ga K "TooLarge")) (.ref (He.ga K "BadPaper")) = some false := of_decide_eq_true (fas_at D.s.more 148 rfl)
theorem kit_TooLarge_BadMachine (D : Dt K mg) : PySem.W.kitOne K (.ref (He.ga K "TooLarge")) (.ref (He.ga K "BadMachine")) = some false := of_decide_eq_true (fas_at D.s.more 149 rfl)
theorem exm_TooLarge_BadMachine (D : Dt K mg) : PySem.W.exmOne K (.ref (He.ga K "TooLarge")) (.ref (He.ga K "BadMachine")) = some false := of_decide_eq_true (fas_at D.s.more 150 rfl)
theorem kit_TooLarge_TooLarge (D : Dt K mg) : PySem.W.kitOne K (.ref (He.ga K "TooLarge")) (.ref (He.ga K "TooLarge")) = some true := of_decide_eq_true (fas_at D.s.more 151 rfl)
theorem exm_TooLarge_TooLarge (D : Dt K mg) : PySem.W.exmOne K (.ref (He.ga K "TooLarge")) (.ref (He.ga K "TooLarge")) = some true := of_decide_eq_true (fas_at D.s.more 152 rfl)
theorem kit_TooLarge_BadRatio (D : Dt K mg) : PySem.W.kitOne K (.ref (He.ga K "TooLarge")) (.ref (He.ga K "BadRatio")) = some false := of_decide_eq_true (fas_at D.s.more 153 rfl)
theorem exm_TooLarge_BadRatio (D : Dt K mg) : PySem.W.exmOne K (.ref (He.ga K "TooLarge")) (.ref (He.ga K "BadRatio")) = some false := of_decide_eq_true (fas_at D.s.more 154 rfl)
theorem kitV_BadRatio (D : Dt K mg) : PySem.W.kitOne K (.ref (He.ga K "BadRatio")) (.type "ValueError") = some true := of_decide_eq_true (fas_at D.s.more 155 rfl)
theorem kit_BadRatio_TestError (D : Dt K mg) : PySem.W.kitOne K (.ref (He.ga K "BadRatio")) (.ref (He.ga K "TestError")) = some true := of_decide_eq_true (fas_at D.s.more 156 rfl)
theorem exm_BadRatio_TestError (D : Dt K mg) : PySem.W.exmOne K (.ref (He.ga K "BadRatio")) (.ref (He.ga K "TestError")) = some true := of_decide_eq_true (fas_at D.s.more 157 rfl)
theorem kit_BadRatio_BadText (D : Dt K mg) : PySem.W.kitOne K (.ref (He.ga K "BadRatio")) (.ref (He.ga K "BadText")) = some false := of_decide_eq_true (fas_at D.s.more 158 rfl)
theorem exm_BadRatio_BadText (D : Dt K mg) : PySem.W.exmOne K (.ref (He.ga K "BadRatio")) (.ref (He.ga K "BadText")) = some false := of_decide_eq_true (fas_at D.s.more 159 rfl)
theorem kit_BadRatio_BadPaper (D : Dt K mg) : PySem.W.kitOne K (.ref (He.ga K "BadRatio")) (.ref (He.ga K "BadPaper")) = some false := of_decide_eq_true (fas_at D.s.more 160 rfl)
theorem exm_BadRatio_BadPaper (D : Dt K mg) : PySem.W.exmOne K (.ref (He.ga K "BadRatio")) (.ref (He.ga K "BadPaper")) = some false := of_decide_eq_true (fas_at D.s.more 161 rfl)
theorem kit_BadRatio_BadMachine (D : Dt K mg) : PySem.W.kitOne K (.ref (He.ga K "BadRatio")) (.ref (He.ga K "BadMachine")) = some false := of_decide_eq_true (fas_at D.s.more 162 rfl)
theorem exm_BadRatio_BadMachine (D : Dt K mg) : PySem.W.exmOne K (.ref (He.ga K "BadRatio")) (.ref (He.ga K "BadMachine")) = some false := of_decide_eq_true (fas_at D.s.more 163 rfl)
theorem kit_BadRatio_TooLarge (D : Dt K mg) : PySem.W.kitOne K (.ref (He.ga K "BadRatio")) (.ref (He.ga K "TooLarge")) = some false := of_decide_eq_true (fas_at D.s.more 164 rfl)
theorem exm_BadRatio_TooLarge (D : Dt K mg) : PySem.W.exmOne K (.ref (He.ga K "BadRatio")) (.ref (He.ga K "TooLarge")) = some false := of_decide_eq_true (fas_at D.s.more 165 rfl)
theorem kit_BadRatio_BadRatio (D : Dt K mg) : PySem.W.kitOne K (.ref (He.ga K "BadRatio")) (.ref (He.ga K "BadRatio")) = some true := of_decide_eq_true (fas_at D.s.more 166 rfl)
theorem exm_BadRatio_BadRatio (D : Dt K mg) : PySem.W.exmOne K (.ref (He.ga K "BadRatio")) (.ref (He.ga K "BadRatio")) = some true := of_decide_eq_true (fas_at D.s.more 167 rfl)
theorem fd__wall (D : Dt K mg) : ∃ fd, FnP K "_wall" "_wall" s__wall [] (He.ga K "_wall") fd := D.s.get 0 (d := d__wall) rfl
theorem fd__digits (D : Dt K mg) : ∃ fd, FnP K "_digits" "_digits" s__digits [] (He.ga K "_digits") fd := D.s.get 1 (d := d__digits) rfl
theorem fd_total (D : Dt K mg) : ∃ fd, FnP K "total" "total" s_total [] (He.ga K "total") fd := D.s.get 2 (d := d_total) rfl
theorem fd_are_lots (D : Dt K mg) : ∃ fd, FnP K "are_lots" "are_lots" s_are_lots [] (He.ga K "are_lots") fd := D.s.get 3 (d := d_are_lots) rfl
theorem fd__table (D : Dt K mg) : ∃ fd, FnP K "_table" "_table" s__table [] (He.ga K "_table") fd := D.s.get 4 (d := d__table) rfl
theorem fd__fault (D : Dt K mg) : ∃ fd, FnP K "_fault" "_fault" s__fault [] (He.ga K "_fault") fd := D.s.get 5 (d := d__fault) rfl
theorem fd__out_of (D : Dt K mg) : ∃ fd, FnP K "_out_of" "_out_of" s__out_of [] (He.ga K "_out_of") fd := D.s.get 6 (d := d__out_of) rfl
theorem fd__is_square (D : Dt K mg) : ∃ fd, FnP K "_is_square" "_is_square" s__is_square [] (He.ga K "_is_square") fd := D.s.get 7 (d := d__is_square) rfl
theorem fd__leads_on (D : Dt K mg) : ∃ fd, FnP K "_leads_on" "_leads_on" s__leads_on [] (He.ga K "_leads_on") fd := D.s.get 8 (d := d__leads_on) rfl
theorem fd_fit (D : Dt K mg) : ∃ fd, FnP K "fit" "fit" s_fit [] (He.ga K "fit") fd := D.s.get 9 (d := d_fit) rfl
theorem fd_begun (D : Dt K mg) : ∃ fd, FnP K "begun" "begun" s_begun [] (He.ga K "begun") fd := D.s.get 10 (d := d_begun) rfl
theorem fd__law_pool (D : Dt K mg) : ∃ fd, FnP K "_law_pool" "_law_pool" s__law_pool [] (He.ga K "_law_pool") fd := D.s.get 11 (d := d__law_pool) rfl
theorem fd__law_draw (D : Dt K mg) : ∃ fd, FnP K "_law_draw" "_law_draw" s__law_draw [] (He.ga K "_law_draw") fd := D.s.get 12 (d := d__law_draw) rfl
theorem fd__law_same (D : Dt K mg) : ∃ fd, FnP K "_law_same" "_law_same" s__law_same [] (He.ga K "_law_same") fd := D.s.get 13 (d := d__law_same) rfl
theorem fd__law_less (D : Dt K mg) : ∃ fd, FnP K "_law_less" "_law_less" s__law_less [] (He.ga K "_law_less") fd := D.s.get 14 (d := d__law_less) rfl
theorem fd__law_plus (D : Dt K mg) : ∃ fd, FnP K "_law_plus" "_law_plus" s__law_plus [] (He.ga K "_law_plus") fd := D.s.get 15 (d := d__law_plus) rfl
theorem fd__law_minus (D : Dt K mg) : ∃ fd, FnP K "_law_minus" "_law_minus" s__law_minus [] (He.ga K "_law_minus") fd := D.s.get 16 (d := d__law_minus) rfl
theorem fd__law_sum (D : Dt K mg) : ∃ fd, FnP K "_law_sum" "_law_sum" s__law_sum [] (He.ga K "_law_sum") fd := D.s.get 17 (d := d__law_sum) rfl
theorem fd__law_cells (D : Dt K mg) : ∃ fd, FnP K "_law_cells" "_law_cells" s__law_cells [] (He.ga K "_law_cells") fd := D.s.get 18 (d := d__law_cells) rfl
theorem fd__law_machine (D : Dt K mg) : ∃ fd, FnP K "_law_machine" "_law_machine" s__law_machine [] (He.ga K "_law_machine") fd := D.s.get 19 (d := d__law_machine) rfl
theorem fd__law_changed (D : Dt K mg) : ∃ fd, FnP K "_law_changed" "_law_changed" s__law_changed [] (He.ga K "_law_changed") fd := D.s.get 20 (d := d__law_changed) rfl
theorem fd__law_made (D : Dt K mg) : ∃ fd, FnP K "_law_made" "_law_made" s__law_made [] (He.ga K "_law_made") fd := D.s.get 21 (d := d__law_made) rfl
theorem fd__law_lots_right (D : Dt K mg) : ∃ fd, FnP K "_law_lots_right" "_law_lots_right" s__law_lots_right [] (He.ga K "_law_lots_right") fd := D.s.get 22 (d := d__law_lots_right) rfl
theorem fd__law_bad (D : Dt K mg) : ∃ fd, FnP K "_law_bad" "_law_bad" s__law_bad [] (He.ga K "_law_bad") fd := D.s.get 23 (d := d__law_bad) rfl
theorem fd__law_shifted (D : Dt K mg) : ∃ fd, FnP K "_law_shifted" "_law_shifted" s__law_shifted [] (He.ga K "_law_shifted") fd := D.s.get 24 (d := d__law_shifted) rfl
theorem fd__law_resized (D : Dt K mg) : ∃ fd, FnP K "_law_resized" "_law_resized" s__law_resized [] (He.ga K "_law_resized") fd := D.s.get 25 (d := d__law_resized) rfl
theorem fd__law_spoilt (D : Dt K mg) : ∃ fd, FnP K "_law_spoilt" "_law_spoilt" s__law_spoilt [] (He.ga K "_law_spoilt") fd := D.s.get 26 (d := d__law_spoilt) rfl
theorem fd__law_data (D : Dt K mg) : ∃ fd, FnP K "_law_data" "_law_data" s__law_data [] (He.ga K "_law_data") fd := D.s.get 27 (d := d__law_data) rfl
theorem fd__law_tuples (D : Dt K mg) : ∃ fd, FnP K "_law_tuples" "_law_tuples" s__law_tuples [] (He.ga K "_law_tuples") fd := D.s.get 28 (d := d__law_tuples) rfl
theorem fd_law (D : Dt K mg) : ∃ fd, FnP K "law" "law" s_law [] (He.ga K "law") fd := D.s.get 29 (d := d_law) rfl
theorem fd_BadText_init (D : Dt K mg) : ∃ fd, FnP K "__init__" "BadText.__init__" s_BadText_init [] (He.ma K (He.ga K "BadText") "__init__") fd := D.s.get 30 (d := d_BadText_init) rfl
theorem fd_BadPaper_init (D : Dt K mg) : ∃ fd, FnP K "__init__" "BadPaper.__init__" s_BadPaper_init [] (He.ma K (He.ga K "BadPaper") "__init__") fd := D.s.get 31 (d := d_BadPaper_init) rfl
theorem fd_BadMachine_init (D : Dt K mg) : ∃ fd, FnP K "__init__" "BadMachine.__init__" s_BadMachine_init [] (He.ma K (He.ga K "BadMachine") "__init__") fd := D.s.get 32 (d := d_BadMachine_init) rfl
theorem fd_TooLarge_init (D : Dt K mg) : ∃ fd, FnP K "__init__" "TooLarge.__init__" s_TooLarge_init [] (He.ma K (He.ga K "TooLarge") "__init__") fd := D.s.get 33 (d := d_TooLarge_init) rfl
theorem fd_Ratio_init (D : Dt K mg) : ∃ fd, FnP K "__init__" "Ratio.__init__" s_Ratio_init [V.int 1] (He.ma K (He.ga K "Ratio") "__init__") fd := D.s.get 34 (d := d_Ratio_init) rfl
theorem fd_Ratio_add (D : Dt K mg) : ∃ fd, FnP K "__add__" "Ratio.__add__" s_Ratio_add [] (He.ma K (He.ga K "Ratio") "__add__") fd := D.s.get 35 (d := d_Ratio_add) rfl
theorem fd_Ratio_sub (D : Dt K mg) : ∃ fd, FnP K "__sub__" "Ratio.__sub__" s_Ratio_sub [] (He.ma K (He.ga K "Ratio") "__sub__") fd := D.s.get 36 (d := d_Ratio_sub) rfl
theorem fd_Ratio_mul (D : Dt K mg) : ∃ fd, FnP K "__mul__" "Ratio.__mul__" s_Ratio_mul [] (He.ma K (He.ga K "Ratio") "__mul__") fd := D.s.get 37 (d := d_Ratio_mul) rfl
theorem fd_Ratio_eq (D : Dt K mg) : ∃ fd, FnP K "__eq__" "Ratio.__eq__" s_Ratio_eq [] (He.ma K (He.ga K "Ratio") "__eq__") fd := D.s.get 38 (d := d_Ratio_eq) rfl
theorem fd_Ratio_str (D : Dt K mg) : ∃ fd, FnP K "__str__" "Ratio.__str__" s_Ratio_str [] (He.ma K (He.ga K "Ratio") "__str__") fd := D.s.get 39 (d := d_Ratio_str) rfl
theorem fd_Ratio_less (D : Dt K mg) : ∃ fd, FnP K "less" "Ratio.less" s_Ratio_less [] (He.ma K (He.ga K "Ratio") "less") fd := D.s.get 40 (d := d_Ratio_less) rfl
theorem fd_Ratio_by (D : Dt K mg) : ∃ fd, FnP K "by" "Ratio.by" s_Ratio_by [] (He.ma K (He.ga K "Ratio") "by") fd := D.s.get 41 (d := d_Ratio_by) rfl
theorem fd_Machine_init (D : Dt K mg) : ∃ fd, FnP K "__init__" "Machine.__init__" s_Machine_init [] (He.ma K (He.ga K "Machine") "__init__") fd := D.s.get 42 (d := d_Machine_init) rfl
theorem fd_Machine_eq (D : Dt K mg) : ∃ fd, FnP K "__eq__" "Machine.__eq__" s_Machine_eq [] (He.ma K (He.ga K "Machine") "__eq__") fd := D.s.get 43 (d := d_Machine_eq) rfl
theorem fd_Machine_states (D : Dt K mg) : ∃ fd, FnP K "states" "Machine.states" s_Machine_states [] (He.ma K (He.ga K "Machine") "states") fd := D.s.get 44 (d := d_Machine_states) rfl
theorem fd_Machine_buttons (D : Dt K mg) : ∃ fd, FnP K "buttons" "Machine.buttons" s_Machine_buttons [] (He.ma K (He.ga K "Machine") "buttons") fd := D.s.get 45 (d := d_Machine_buttons) rfl
theorem fd_Machine_answers (D : Dt K mg) : ∃ fd, FnP K "answers" "Machine.answers" s_Machine_answers [] (He.ma K (He.ga K "Machine") "answers") fd := D.s.get 46 (d := d_Machine_answers) rfl
end
abbrev R : PySem.W.OpenRow := PySem.W.OpenLaw.row PySem.Challenge.rw_notesttells_k01_machines_that_are_none
abbrev hk : PySem.W.Hook := hookY 4 ex fn
def ob (s : PySem.W.SharedT) : He.AlD := obsYG 4 ex fn (HandSHeadRun.getT s)
theorem ob_eq (s : PySem.W.SharedT) : ob s = hk.obs s.abs := obsYG_eq (HandSHeadRun.getT_eq s)
def loose0 : List Str := ["_wall", "__name__", "TestError", "BadText", "BadPaper", "BadMachine", "TooLarge", "BadRatio", "PART_END", "_digits", "Ratio", "total", "are_lots", "MOST_STATES", "MOST_BUTTONS", "MOST_ANSWERS", "Machine", "_table", "_fault", "_out_of"]
def loose1 : List Str := ["_is_square", "_leads_on", "fit", "begun", "_law_pool", "_law_draw", "_law_same", "_law_less", "_law_plus", "_law_minus", "_law_sum", "_law_cells", "_law_machine", "_law_changed", "_law_made", "_law_lots_right", "_law_bad", "_law_shifted", "_law_resized", "_law_spoilt"]
def loose2 : List Str := ["_law_data", "_law_tuples"]
def loose : List Str := loose0 ++ loose1 ++ loose2
abbrev vw : Program := PySem.W.view R.prog [0, 46]
theorem run (w : World) : HandSHeadRun.RunEqI R vw hk ob 20000 loose w := by
  unfold HandSHeadRun.RunEqI
  kernel_rfl
end Hd


set_option Elab.async false
set_option linter.all false
set_option maxRecDepth 100000
set_option maxHeartbeats 4000000
namespace K
open PySem PySem.Spec PyProof.Rows L2 Tk Hd Mt
/-! ### a fraction as it stands -/
theorem nd_ : ¬ (("num" : Str) = "den") := by decide +kernel
def rf (q : Rat) : List (Str × V) := putF "den" (.int q.den) (putF "num" (.int q.num) [])
theorem rf_num (q : Rat) : (rf q).lookup ("num" : Str) = some (.int q.num) := by
  unfold rf; rw [lookup_putF, if_neg nd_, lookup_putF, if_pos rfl]
theorem rf_den (q : Rat) : (rf q).lookup ("den" : Str) = some (.int q.den) := by
  unfold rf; rw [lookup_putF, if_pos rfl]
theorem rf_no (q : Rat) {m : Str} (h1 : ¬ m = "den") (h2 : ¬ m = "num") : (rf q).lookup m = none := by
  unfold rf; rw [lookup_putF, if_neg h1, lookup_putF, if_neg h2]; rfl
abbrev CR (K : PySem.W.Frag) : Addr := He.ga K "Ratio"
abbrev CB (K : PySem.W.Frag) : Addr := He.ga K "BadRatio"
def iR (C : Addr) : Rp Rat := fun H v q => ∃ a dx, v = .ref a ∧ H a = some (.ins C dx (rf q))
instance {C : Addr} : Mono (iR C) := ⟨fun s ⟨a, dx, e, h⟩ => ⟨a, dx, e, s _ _ h⟩⟩
/-- numbers that // still takes -/
def Sm (i : Int) : Prop := i.natAbs < 2 ^ 2000
theorem Sm.div {n d : Int} (h : 0 < d) (hd : Sm d) : CDivW n (gz n d) :=
  wide_div (gz_pos h) (Nat.lt_of_le_of_lt (by have := gz_le (n := n) h; have := gz_pos (n := n) h; omega) hd) (by decide) (by decide)
theorem Sm.mul {a b : Int} (ha : Sm a) (hb : Sm b) : CMulW a b := wide_mul ha hb (by decide) (by decide) (by decide)
theorem sm_of {i : Int} (h1 : -(2 ^ 1999) < i) (h2 : i < 2 ^ 1999) : Sm i := by
  have : i.natAbs < 2 ^ 1999 := by omega
  exact Nat.lt_trans this (Nat.pow_lt_pow_right (by decide) (by decide))

/-- Ratio.__init__ -/
def spInit (C B : Addr) : Sp := fun vs H Q E => ∃ (x dx : Addr) (n d : Int), vs = [.ref x, .int n, .int d] ∧ H x = some (.ins C dx []) ∧ Sm d ∧
  (0 < d → Q .non (upd H x (.ins C dx (rf (rt n d))))) ∧ (d ≤ 0 → E (.ref B) none H)
section
variable {P : Program} {w : World} {K : PySem.W.Frag} {mg : Str → Option Value} {base : Heap}
theorem sc_init : FnScope ["self", "num", "den", "common"] ["self", "num", "den"] (defScope s_Ratio_init) := ⟨rfl, rfl, rfl, by decide +kernel, rfl, by decide +kernel, by decide +kernel⟩
theorem ok_init (D : Dt K mg) {fd : FuncData} (F : FnP K "__init__" "Ratio.__init__" s_Ratio_init [.int 1] (He.ma K (CR K) "__init__") fd) :
    FnOk P w K mg base (L2.CX P w) 1 (He.ma K (CR K) "__init__") fd ["self", "num", "den"] (spInit (CR K) (CB K)) := by
  refine F.ok sc_init (fun vs H Q E h => ?_) (fun cdv A outer s H vs Q E hr h => ?_)
  · obtain ⟨x, dx, n, d, rfl, _⟩ := h; rfl
  · obtain ⟨x, dx, n, d, rfl, hx, hd, k1, k2⟩ := h
    obtain ⟨xP, kP, bP, tP⟩ := exc_BadRatio D
    refine ⟨_, pss_cons (ps_if (pt_cmpR op_le (pv 2) pe_int (nomark _)) (pss_one (ps_raise rfl (takes_of rfl rfl rfl rfl) (pmk_own PySem.F.excBase_ValueError xP (glo_BadRatio D) kP (raises_own bP tP) rfl))) pss_nil)
      (pss_cons (ps_set (i := 3) sc_init.nd rfl (Or.inl rfl) (pe_callBfun cr_gcd rfl (blt_gcd D) (pa_cons (pv 1) (pa_cons (pv 2) pa_nil))))
      (pss_cons (ps_fld (pv 0) (pe_op op_fdivW (pv 1) (pv 3)) rfl) (pss_one (ps_fld (pv 0) (pe_op op_fdivW (pv 2) (pv 3)) rfl)))), ?_⟩
    refine ⟨_, rfl, _, _, rfl, rfl, _, rfl, ifD (fun hle => ?_) (fun hgt => ?_)⟩
    · exact k2 hle
    · have h0 : 0 < d := by omega
      refine ⟨_, rfl, _, rfl, n, d, rfl, ?_⟩
      refine ⟨_, rfl, _, rfl, _, _, rfl, rfl, Sm.div h0 hd, _, rfl, x, _, dx, _, rfl, hx, cls_Ratio D, na_Ratio_num D, (by show 0 < 1000; decide), ?_⟩
      refine ⟨_, rfl, _, rfl, _, _, rfl, rfl, Sm.div h0 hd, _, rfl, x, _, dx, _, rfl, upd_same, cls_Ratio D, na_Ratio_den D, (by show 1 < 1000; decide), ?_⟩
      have e1 := rt_num (n := n) h0
      have e2 := rt_den (n := n) h0
      have e3 : putF "den" (V.int (d / gz n d)) (putF "num" (V.int (n / gz n d)) []) = rf (rt n d) := by rw [← e1, ← e2]; rfl
      rw [upd_upd]
      have := k1 h0
      rw [← e3] at this
      exact this
theorem has_init (D : Dt K mg) : Has P w K mg base 1 (He.ma K (CR K) "__init__") ["self", "num", "den"] [] (spInit (CR K) (CB K)) := by
  obtain ⟨fd, F⟩ := fd_Ratio_init D
  obtain ⟨ds, h1, h2⟩ := FunD.binds1 (ps := ["self", "num", "den"]) F 3 1 (by simp) rfl (fun T kV doc pm an cdv ct us its hu hi => match us, hu, its, hi with | [_, _, _], _, [_], _ => ⟨_, rfl, rfl⟩)
  exact ⟨F.kp, fd, ds, h1, h2, ok_init D F⟩
theorem has_init1 (D : Dt K mg) : Has P w K mg base 1 (He.ma K (CR K) "__init__") ["self", "num", "den"] [.int 1] (spInit (CR K) (CB K)) := by
  obtain ⟨fd, F⟩ := fd_Ratio_init D
  obtain ⟨ds, h1, h2⟩ := FunD.binds1 (ps := ["self", "num", "den"]) F 2 0 (by simp) rfl (fun T kV doc pm an cdv ct us its hu hi => match us, hu, its, hi with | [_, _], _, [_], _ => ⟨_, rfl, rfl⟩)
  exact ⟨F.kp, fd, ds, h1, h2, ok_init D F⟩
end
end K

set_option Elab.async false
set_option linter.all false
set_option maxRecDepth 100000
set_option maxHeartbeats 4000000
set_option exponentiation.threshold 5000
namespace K
open PySem PySem.Spec PyProof.Rows L2 Tk Hd Mt
/-- what is wanted of a def that hands back an x and leaves all else -/
def Ret {α : Type} (ms : List Addr) (I H : Hp) (R : Rp α) (x : α) (Q : VK) : Prop := ∀ I' H' v, Gr ms I H I' H' → R I' v x → Q v H'
theorem upd3 {H : Hp} {x : Addr} {a b c : HO} : upd (upd (upd H x a) x b) x c = upd H x c := by rw [upd_upd, upd_upd]
theorem rat_new {ms : List Addr} {I H : Hp} {x dx C : Addr} {q : Rat} (s : Same I H) (nx : H x = none) (nd : H dx = none) (ne : dx ≠ x) :
    Gr ms I H (upd (upd I dx (.own x)) x (.ins C dx (rf q))) (upd (upd (upd H dx (.own x)) x (.ins C dx [])) x (.ins C dx (rf q))) ∧ iR C (upd (upd I dx (.own x)) x (.ins C dx (rf q))) (.ref x) q := by
  rw [upd_upd]
  refine ⟨(Gr.new s nd).trans (Gr.new (sBoth s) ?_), x, dx, rfl, upd_same⟩
  rw [upd_ne (Ne.symm ne)]; exact nx
def Fit (q : Rat) : Prop := q.num.natAbs < 2 ^ 900 ∧ q.den < 2 ^ 900
theorem fit_lt {a b : Int} {m n k : Nat} (ha : a.natAbs < 2 ^ m) (hb : b.natAbs < 2 ^ n) (h : m + n ≤ k) : (a * b).natAbs < 2 ^ k :=
  Nat.lt_of_lt_of_le (wide_lt ha hb) (Nat.pow_le_pow_right (by decide) h)
theorem Fit.mul_n {p q : Rat} (hp : Fit p) (hq : Fit q) : CMulW p.num q.den := wide_mul hp.1 (show (q.den : Int).natAbs < 2 ^ 900 from hq.2) (by decide) (by decide) (by decide)
theorem Fit.mul_d {p q : Rat} (hp : Fit p) (hq : Fit q) : CMulW p.den q.den := wide_mul (show (p.den : Int).natAbs < 2 ^ 900 from hp.2) (show (q.den : Int).natAbs < 2 ^ 900 from hq.2) (by decide) (by decide) (by decide)
theorem Fit.mul_nn {p q : Rat} (hp : Fit p) (hq : Fit q) : CMulW p.num q.num := wide_mul hp.1 hq.1 (by decide) (by decide) (by decide)
theorem Fit.sm_dd {p q : Rat} (hp : Fit p) (hq : Fit q) : Sm ((p.den : Int) * q.den) := fit_lt (m := 900) (n := 900) (show (p.den : Int).natAbs < 2 ^ 900 from hp.2) (show (q.den : Int).natAbs < 2 ^ 900 from hq.2) (by decide)
theorem dd_pos (p q : Rat) : 0 < (p.den : Int) * q.den := Int.mul_pos (den_pos p) (den_pos q)
theorem rt_add (p q : Rat) : rt (p.num * q.den + q.num * p.den) (p.den * q.den) = p + q := by
  have h1 : (p.den : Int) ≠ 0 := by have := den_pos p; omega
  have h2 : (q.den : Int) ≠ 0 := by have := den_pos q; omega
  unfold rt
  rw [← Rat.divInt_add_divInt _ _ h1 h2, Rat.num_divInt_den, Rat.num_divInt_den]
theorem rt_sub (p q : Rat) : rt (p.num * q.den - q.num * p.den) (p.den * q.den) = p - q := by
  have h1 : (p.den : Int) ≠ 0 := by have := den_pos p; omega
  have h2 : (q.den : Int) ≠ 0 := by have := den_pos q; omega
  have e : p - q = rt p.num p.den + rt (-q.num) q.den := by
    rw [rt_self, show rt (-q.num) q.den = -q from by rw [show rt (-q.num) q.den = -(rt q.num q.den) from by unfold rt; rw [Rat.neg_divInt], rt_self]]
    exact Rat.sub_eq_add_neg p q
  rw [e]; unfold rt
  rw [Rat.divInt_add_divInt _ _ h1 h2]
  congr 1
  rw [Int.neg_mul]; omega
theorem rt_mul (p q : Rat) : rt (p.num * q.num) (p.den * q.den) = p * q := by
  unfold rt
  rw [← Rat.divInt_mul_divInt, Rat.num_divInt_den, Rat.num_divInt_den]

section
variable {P : Program} {w : World} {K : PySem.W.Frag} {mg : Str → Option Value} {base : Heap}
/-- an operator that makes a new fraction of two -/
def spBin (C : Addr) (g : Rat → Rat → Rat) : Sp := fun vs H Q _ => ∃ (I : Hp) (a b : V) (p q : Rat), vs = [a, b] ∧ Same I H ∧ iR C I a p ∧ iR C I b q ∧ Fit p ∧ Fit q ∧ Ret [] I H (iR C) (g p q) Q
theorem bin2 {f : Addr} {fd : FuncData} {st : Stmt} {x qual : Str} (F : FnP K x qual st [] f fd)
    (h : ∀ (kV doc pm : Value) (an : Option Addr) (cdv ct : Value) (us : List Value), us.length = 2 → bindArgs (PySem.W.fnOf x qual (defArgs st) (defBody st) (defScope st) .none kV doc pm an cdv ct) ⟨us, []⟩ = pure ((["self", "other"] : List Str).zip us)) : Binds K fd ["self", "other"] [] := FunD.bindsN F h
theorem sc_add : FnScope ["self", "other"] ["self", "other"] (defScope s_Ratio_add) := ⟨rfl, rfl, rfl, by decide +kernel, rfl, by decide +kernel, by decide +kernel⟩
theorem ok_add (D : Dt K mg) : Has P w K mg base 3 (He.ma K (CR K) "__add__") ["self", "other"] [] (spBin (CR K) (· + ·)) := by
  obtain ⟨fd, F⟩ := fd_Ratio_add D
  have H_Ratio_init := has_init (P := P) (w := w) (base := base) D
  refine hasN F (F.bindsN fun _ _ _ _ _ _ us hl => match us, hl with | [_, _], _ => rfl) sc_add (fun vs H Q E h => ?_) (fun cdv A outer s H vs Q E hr h => ?_)
  · obtain ⟨I, a, b, p, q, rfl, _⟩ := h; rfl
  · obtain ⟨I, va, vb, p, q, rfl, s0, ⟨a, dx, rfl, ha⟩, ⟨b, dy, rfl, hb⟩, fp, fq, k⟩ := h
    have ha' := s0 _ _ ha
    have hb' := s0 _ _ hb
    refine ⟨_, (pss_one (ps_ret (pe_makeH (mkr_Ratio D) H_Ratio_init (hr.mono (by decide)) rfl (glo_Ratio D) passL (pa_cons (pe_op op_add (pe_op op_mulW (pe_fld (pv 0) rfl) (pe_fld (pv 1) rfl)) (pe_op op_mulW (pe_fld (pv 1) rfl) (pe_fld (pv 0) rfl))) (pa_cons (pe_op op_mulW (pe_fld (pv 0) rfl) (pe_fld (pv 1) rfl)) pa_nil))))), ?_⟩
    refine ⟨_, rfl, _, _, _, _, _, rfl, ha', cls_Ratio D, na_Ratio_num D, rf_num p, _, rfl, _, _, _, _, _, rfl, hb', cls_Ratio D, na_Ratio_den D, rf_den q, _, _, rfl, rfl, fp.mul_n fq, _, rfl, _, _, _, _, _, rfl, hb', cls_Ratio D, na_Ratio_num D, rf_num q, _, rfl, _, _, _, _, _, rfl, ha', cls_Ratio D, na_Ratio_den D, rf_den p, _, _, rfl, rfl, fq.mul_n fp, _, _, rfl, rfl, ?_⟩
    refine ⟨_, rfl, _, _, _, _, _, rfl, ha', cls_Ratio D, na_Ratio_den D, rf_den p, _, rfl, _, _, _, _, _, rfl, hb', cls_Ratio D, na_Ratio_den D, rf_den q, _, _, rfl, rfl, fp.mul_d fq, fun x dx nx nd ne => ?_⟩
    refine ⟨x, dx, _, _, rfl, upd_same, fp.sm_dd fq, fun _ => ⟨rfl, ?_⟩, fun hle => absurd (dd_pos p q) (by omega)⟩
    obtain ⟨g, r⟩ := rat_new (ms := []) (q := rt (p.num * q.den + q.num * p.den) (p.den * q.den)) s0 nx nd ne
    rw [rt_add] at r g
    rw [rt_add]
    exact k _ _ _ g r
theorem sc_mul : FnScope ["self", "other"] ["self", "other"] (defScope s_Ratio_mul) := ⟨rfl, rfl, rfl, by decide +kernel, rfl, by decide +kernel, by decide +kernel⟩
theorem ok_mul (D : Dt K mg) : Has P w K mg base 3 (He.ma K (CR K) "__mul__") ["self", "other"] [] (spBin (CR K) (· * ·)) := by
  obtain ⟨fd, F⟩ := fd_Ratio_mul D
  have H_Ratio_init := has_init (P := P) (w := w) (base := base) D
  refine hasN F (F.bindsN fun _ _ _ _ _ _ us hl => match us, hl with | [_, _], _ => rfl) sc_mul (fun vs H Q E h => ?_) (fun cdv A outer s H vs Q E hr h => ?_)
  · obtain ⟨I, a, b, p, q, rfl, _⟩ := h; rfl
  · obtain ⟨I, va, vb, p, q, rfl, s0, ⟨a, dx, rfl, ha⟩, ⟨b, dy, rfl, hb⟩, fp, fq, k⟩ := h
    have ha' := s0 _ _ ha
    have hb' := s0 _ _ hb
    refine ⟨_, (pss_one (ps_ret (pe_makeH (mkr_Ratio D) H_Ratio_init (hr.mono (by decide)) rfl (glo_Ratio D) passL (pa_cons (pe_op op_mulW (pe_fld (pv 0) rfl) (pe_fld (pv 1) rfl)) (pa_cons (pe_op op_mulW (pe_fld (pv 0) rfl) (pe_fld (pv 1) rfl)) pa_nil))))), ?_⟩
    refine ⟨_, rfl, _, _, _, _, _, rfl, ha', cls_Ratio D, na_Ratio_num D, rf_num p, _, rfl, _, _, _, _, _, rfl, hb', cls_Ratio D, na_Ratio_num D, rf_num q, _, _, rfl, rfl, fp.mul_nn fq, _, rfl, _, _, _, _, _, rfl, ha', cls_Ratio D, na_Ratio_den D, rf_den p, _, rfl, _, _, _, _, _, rfl, hb', cls_Ratio D, na_Ratio_den D, rf_den q, _, _, rfl, rfl, fp.mul_d fq, fun x dx nx nd ne => ?_⟩
    refine ⟨x, dx, _, _, rfl, upd_same, fp.sm_dd fq, fun _ => ⟨rfl, ?_⟩, fun hle => absurd (dd_pos p q) (by omega)⟩
    obtain ⟨g, r⟩ := rat_new (ms := []) (q := rt (p.num * q.num) (p.den * q.den)) s0 nx nd ne
    rw [rt_mul] at r g
    rw [rt_mul]
    exact k _ _ _ g r
end
end K

set_option Elab.async false
set_option linter.all false
set_option maxRecDepth 100000
set_option maxHeartbeats 4000000
set_option exponentiation.threshold 5000
namespace K
open PySem PySem.Spec PyProof.Rows L2 Tk Hd Mt
theorem rt_div_pos (p q : Rat) : rt (p.num * q.den) (q.num * p.den) = p / q := by
  unfold rt
  rw [Rat.div_def, Rat.inv_def, Int.mul_comm q.num]
  rw [← Rat.divInt_mul_divInt, Rat.num_divInt_den]
theorem rt_div_neg (p q : Rat) : rt (-p.num * q.den) (-q.num * p.den) = p / q := by
  rw [← rt_div_pos]; unfold rt
  rw [Int.neg_mul, Int.neg_mul, Rat.neg_divInt_neg]
theorem kit_self {K : PySem.W.Frag} {t : Value} : PySem.W.kitOne K t t = some true := by
  unfold PySem.W.kitOne; rw [if_pos (by simp)]
theorem str_app (a b : String) : (PySem.Str.ofString (a ++ b)) = PySem.Str.ofString a ++ PySem.Str.ofString b := by
  rw [PySem.Str.ofString_eq_toList, PySem.Str.ofString_eq_toList, PySem.Str.ofString_eq_toList, String.toList_append, List.map_append]
  show _ = PySem.Str.append _ _
  simp [PySem.Str.append]
theorem empty_app (a : Str) : Str.empty ++ a = a := by
  show PySem.Str.append _ _ = _
  simp [PySem.Str.append, PySem.Str.empty]
/-- str of a fraction -/
def rtext (q : Rat) : Str := if (q.den : Int) > 1 then (PySem.Str.ofString (toString q.num)) ++ ("/" : Str) ++ (PySem.Str.ofString (toString (q.den : Int))) else PySem.Str.ofString (toString q.num)
def Few (i : Int) : Prop := i.natAbs < 10 ^ 64
theorem Few.log {i : Int} (h : Few i) : i.natAbs.log2 < 1920 := by
  by_cases h0 : i.natAbs = 0
  · rw [h0]; decide
  · exact (Nat.log2_lt h0).mpr (Nat.lt_of_lt_of_le h (by decide +kernel))
theorem txt_len {i : Int} (h : Few i) : (PySem.Str.ofString (toString i)).length ≤ 1000 := by
  have e := int_text_length_le10 (a := i) (k := 64) (by decide) h
  rw [PySem.ofString_length]; omega
theorem app_len (a b : Str) : (a ++ b).length = a.length + b.length := by
  show (PySem.Str.append a b).length = _
  simp [PySem.Str.append, PySem.Str.length]
theorem line_of {n : Nat} (h : n ≤ 100000) : n ≤ sizeLine := Nat.le_trans h (by decide)
theorem neg_text {n : Int} (h : n < 0) : Str.empty ++ ("-" : Str) ++ PySem.Str.ofString (toString (-n)) = PySem.Str.ofString (toString n) := by
  rw [toString_neg h, str_app, empty_app, Int.zero_sub]
section
variable {P : Program} {w : World} {K : PySem.W.Frag} {mg : Str → Option Value} {base : Heap}
def spEq (C : Addr) : Sp := fun vs H Q _ => ∃ (I : Hp) (a b : V) (p q : Rat), vs = [a, b] ∧ Same I H ∧ iR C I a p ∧ iR C I b q ∧ Q (.bl (decide (p = q))) H
def spLess (C : Addr) : Sp := fun vs H Q _ => ∃ (I : Hp) (a b : V) (p q : Rat), vs = [a, b] ∧ Same I H ∧ iR C I a p ∧ iR C I b q ∧ Fit p ∧ Fit q ∧ Q (.bl (decide (p < q))) H
def spBy (C B : Addr) : Sp := fun vs H Q E => ∃ (I : Hp) (a b : V) (p q : Rat), vs = [a, b] ∧ Same I H ∧ iR C I a p ∧ iR C I b q ∧ Fit p ∧ Fit q ∧ (q ≠ 0 → Ret [] I H (iR C) (p / q) Q) ∧ (q = 0 → E (.ref B) none H)
def spStr (C : Addr) : Sp := fun vs H Q _ => ∃ (I : Hp) (a : V) (p : Rat), vs = [a] ∧ Same I H ∧ iR C I a p ∧ Few p.num ∧ Few p.den ∧ Q (.str (rtext p)) H
def spDig : Sp := fun vs H Q _ => ∃ n : Int, vs = [.int n] ∧ Few n ∧ Q (.str (PySem.Str.ofString (toString n))) H
theorem sc_eq : FnScope ["self", "other"] ["self", "other"] (defScope s_Ratio_eq) := ⟨rfl, rfl, rfl, by decide +kernel, rfl, by decide +kernel, by decide +kernel⟩
theorem eq_parts (p q : Rat) : (p = q) ↔ (p.num = q.num ∧ (p.den : Int) = q.den) := by
  constructor
  · rintro rfl; exact ⟨rfl, rfl⟩
  · rintro ⟨h1, h2⟩
    exact Rat.ext h1 (by omega)
theorem ok_eq (D : Dt K mg) : Has P w K mg base 1 (He.ma K (CR K) "__eq__") ["self", "other"] [] (spEq (CR K)) := by
  obtain ⟨fd, F⟩ := fd_Ratio_eq D
  refine hasN F (F.bindsN fun _ _ _ _ _ _ us hl => match us, hl with | [_, _], _ => rfl) sc_eq (fun vs H Q E h => ?_) (fun cdv A outer s H vs Q E hr h => ?_)
  · obtain ⟨I, a, b, p, q, rfl, _⟩ := h; rfl
  · obtain ⟨I, va, vb, p, q, rfl, s0, ⟨a, dx, rfl, ha⟩, ⟨b, dy, rfl, hb⟩, k⟩ := h
    have ha' := s0 _ _ ha
    have hb' := s0 _ _ hb
    refine ⟨_, (pss_one (ps_ret (pe_and (pe_callB call_isi rfl (free_isinstance D) (by decide +kernel) (pa_cons (pv 1) (pa_cons (pe_glob (v := .ref (He.ga K "Ratio")) rfl (glo_Ratio D) rfl) pa_nil))) (pe_and (pe_cmpR op_eq (pe_fld (pv 0) rfl) (pe_fld (pv 1) rfl) (nomark _)) (pe_one (pe_cmpR op_eq (pe_fld (pv 0) rfl) (pe_fld (pv 1) rfl) (nomark _))))))), ?_⟩
    refine ⟨_, rfl, _, _, _, _, true, rfl, .own _, (inst_Ratio D).ty (cls_Ratio D) hb', kit_self, _, rfl, iteT ?_⟩
    refine ⟨_, rfl, _, _, _, _, _, rfl, ha', cls_Ratio D, na_Ratio_num D, rf_num p, _, rfl, _, _, _, _, _, rfl, hb', cls_Ratio D, na_Ratio_num D, rf_num q, rfl, _, rfl, ?_⟩
    have e : decide (p = q) = (decide (V.int p.num = V.int q.num) && decide (V.int (p.den : Int) = V.int q.den)) := by
      rw [← Bool.decide_and]; exact decide_eq_decide.mpr (by rw [eq_parts]; simp)
    rw [e] at k
    refine ifB (fun c => ?_) (fun c => ?_)
    · refine ⟨_, rfl, _, _, _, _, _, rfl, ha', cls_Ratio D, na_Ratio_den D, rf_den p, _, rfl, _, _, _, _, _, rfl, hb', cls_Ratio D, na_Ratio_den D, rf_den q, rfl, ?_⟩
      rw [c, Bool.true_and] at k
      exact k
    · rw [c, Bool.false_and] at k
      exact k
end
end K

set_option Elab.async false
set_option linter.all false
set_option maxRecDepth 100000
set_option maxHeartbeats 4000000
set_option exponentiation.threshold 5000
namespace K
open PySem PySem.Spec PyProof.Rows L2 Tk Hd Mt
/-! ### the law's draws -/
def plist (c : Addr) (pos : Nat) (big seed left bud : Int) : List V := [.ref c, .int pos, .int big, .int seed, .int left, .int bud]
def PoolOk (I H : Hp) (p : Addr) : Prop := I p = none ∧ ∃ (c : Addr) (cells : List Int) (pos : Nat) (big seed left bud : Int), I c = some (.lst (cells.map V.int)) ∧ cells.length ≤ 100000 ∧ pos ≤ cells.length ∧ H p = some (.lst (plist c pos big seed left bud))
theorem PoolOk.up {ms : List Addr} {I H I' H' : Hp} {p : Addr} (h : PoolOk I H p) (g : Gr ms I H I' H') (n : p ∉ ms) : PoolOk I' H' p := by
  obtain ⟨i, c, cells, pos, b, s, l, u, h1, h2, h3, h4⟩ := h
  exact ⟨g.out i h4, c, cells, pos, b, s, l, u, g.ii _ _ h1, h2, h3, g.at h4 n⟩
section
variable {P : Program} {w : World} {K : PySem.W.Frag} {mg : Str → Option Value} {base : Heap}
def spPool (K : PySem.W.Frag) : Sp := fun vs H Q _ => ∃ (I : Hp) (a : Addr) (ns : List Int) (b : Int), vs = [.ref a, .int b] ∧ Same I H ∧ SqL K H a (ns.map V.int) ∧ ns.length ≤ 100000 ∧
  ∀ I' H' p, Gr [] I H I' H' → PoolOk I' H' p → H p = none → Q (.ref p) H'
theorem sc_pool : FnScope ["script", "budget"] ["script", "budget"] (defScope s__law_pool) := ⟨rfl, rfl, rfl, by decide +kernel, rfl, by decide +kernel, by decide +kernel⟩
theorem ok_pool (D : Dt K mg) : Has P w K mg base 1 (He.ga K "_law_pool") ["script", "budget"] [] (spPool K) := by
  obtain ⟨fd, F⟩ := fd__law_pool D
  refine hasN F (F.bindsN fun _ _ _ _ _ _ us hl => match us, hl with | [_, _], _ => rfl) sc_pool (fun vs H Q E h => ?_) (fun cdv A outer s H vs Q E hr h => ?_)
  · obtain ⟨I, a, ns, b, rfl, _⟩ := h; rfl
  · obtain ⟨I, a, ns, b, rfl, s0, hS, hl, k⟩ := h
    refine ⟨_, (pss_one (ps_ret (pe_lst (pa_cons (pe_callTy call_list_of rfl (free_list D) (by decide +kernel) (pa_cons (pv 0) pa_nil)) (pa_cons pe_int (pa_cons pe_int (pa_cons pe_int (pa_cons pe_int (pa_cons (pv 1) pa_nil))))))))), ?_⟩
    refine ⟨_, rfl, a, _, rfl, .inl hS, fun c hc => ?_⟩
    refine ⟨_, rfl, (by show 6 ≤ sizeLine; decide), fun p hp => ?_⟩
    have npc : p ≠ c := fun e => by rw [e, upd_same] at hp; cases hp
    have hp0 : H p = none := by rw [upd_ne npc] at hp; exact hp
    have g : Gr [] I H (upd I c (.lst (ns.map V.int))) (upd (upd H c (.lst (ns.map V.int))) p (.lst (plist c 0 0 1 0 b))) := (Gr.new s0 hc).trans (Gr.tmp (sBoth s0) hp)
    exact k _ _ p g ⟨by rw [upd_ne npc]; exact s0.free hp0, c, ns, 0, 0, 1, 0, b, upd_same, hl, Nat.zero_le _, upd_same⟩ hp0
def spDraw : Sp := fun vs H Q _ => ∃ (I : Hp) (p : Addr) (n : Int), vs = [.ref p, .int n] ∧ Same I H ∧ PoolOk I H p ∧ 0 < n ∧ n < 2 ^ 64 ∧
  ∀ (v : Int) H', 0 ≤ v → v < n → Gr [p] I H I H' → PoolOk I H' p → Q (.int v) H'
theorem sc_draw : FnScope ["pool", "size", "cell", "value"] ["pool", "size"] (defScope s__law_draw) := ⟨rfl, rfl, rfl, by decide +kernel, rfl, by decide +kernel, by decide +kernel⟩
theorem mulc {i : Int} {j : Int} (h1 : -(2 ^ 64) < j) (h2 : j < 2 ^ 64) : CMul i j := .inr ⟨h1, h2⟩
theorem ok_draw (D : Dt K mg) : Has P w K mg base 1 (He.ga K "_law_draw") ["pool", "size"] [] spDraw := by
  obtain ⟨fd, F⟩ := fd__law_draw D
  refine hasN F (F.bindsN fun _ _ _ _ _ _ us hl => match us, hl with | [_, _], _ => rfl) sc_draw (fun vs H Q E h => ?_) (fun cdv A outer s H vs Q E hr h => ?_)
  · obtain ⟨I, p, n, rfl, _⟩ := h; rfl
  · obtain ⟨I, p, n, rfl, s0, ⟨hI, c, cells, pos, big, seed, left, bud, hc, hl, hpos, hp⟩, hn0, hn1, k⟩ := h
    refine ⟨_, (pss_cons (ps_if (PW.pt (pw_and (pt_cmpR op_le (pe_ix ix_list (pv 0) pe_int (fun _ _ => rfl)) pe_int (nomark _)) (pw_and (pt_cmpR op_le (pe_ix ix_list (pv 0) pe_int (fun _ _ => rfl)) pe_int (nomark _)) (pw_and1 (pt_cmpR op_lt (pe_ix ix_list (pv 0) pe_int (fun _ _ => rfl)) (pe_callB call_len rfl (free_len D) PySem.boot_len (pa_cons (pe_ix ix_list (pv 0) pe_int (fun _ _ => rfl)) pa_nil)) (nomark _))))))
      (pss_cons (ps_set (i := 2) sc_draw.nd rfl (Or.inl rfl) (pe_ix ix_list (pe_ix ix_list (pv 0) pe_int (fun _ _ => rfl)) (pe_ix ix_list (pv 0) pe_int (fun _ _ => rfl)) (fun _ _ => rfl)))
      (pss_cons (ps_asg (pe_op op_add (pe_ix ix_list (pv 0) pe_int (fun _ _ => rfl)) pe_int) (pg_sub (pv 0) pe_int set_list))
      (pss_cons (ps_asg (pe_op op_mod (pe_callTy call_int1 rfl (free_int D) (by decide +kernel) (pa_cons (pe_op op_add (pe_op op_mul (pe_ix ix_list (pv 0) pe_int (fun _ _ => rfl)) pe_int) (pv 2)) pa_nil)) pe_int) (pg_sub (pv 0) pe_int set_list))
      (pss_cons (ps_asg pe_int (pg_sub (pv 0) pe_int set_list))
      (pss_one (ps_if (pt_cmpR op_ge (pv 2) (pe_op op_pow pe_int pe_int) (nomark _))
      (pss_one (ps_asg (pv 2) (pg_sub (pv 0) pe_int set_list)))
      pss_nil))))))
      pss_nil)
      (pss_cons (ps_if (pt_cmpR op_gt (pe_ix ix_list (pv 0) pe_int (fun _ _ => rfl)) pe_int (nomark _))
      (pss_cons (ps_set (i := 3) sc_draw.nd rfl (Or.inl rfl) (pe_op op_mod (pe_callTy call_int1 rfl (free_int D) (by decide +kernel) (pa_cons (pe_ix ix_list (pv 0) pe_int (fun _ _ => rfl)) pa_nil)) (pv 1)))
      (pss_cons (ps_asg (pe_op op_fdivW (pe_ix ix_list (pv 0) pe_int (fun _ _ => rfl)) (pv 1)) (pg_sub (pv 0) pe_int set_list))
      (pss_cons (ps_asg pe_int (pg_sub (pv 0) pe_int set_list))
      (pss_one (ps_ret (pv 3))))))
      pss_nil)
      (pss_cons (ps_asg (pe_op op_sub (pe_ix ix_list (pv 0) pe_int (fun _ _ => rfl)) pe_int) (pg_sub (pv 0) pe_int set_list))
      (pss_cons (ps_asg (pe_op op_mod (pe_callTy call_int1 rfl (free_int D) (by decide +kernel) (pa_cons (pe_op op_add (pe_op op_mul (pe_ix ix_list (pv 0) pe_int (fun _ _ => rfl)) pe_int) pe_int) pa_nil)) pe_int) (pg_sub (pv 0) pe_int set_list))
      (pss_one (ps_ret (pe_op op_mod (pe_op op_mod (pe_callTy call_int1 rfl (free_int D) (by decide +kernel) (pa_cons (pe_op op_add (pe_op op_mul (pe_ix ix_list (pv 0) pe_int (fun _ _ => rfl)) pe_int) pe_int) pa_nil)) pe_int) (pv 1)))))))), ?_⟩
    refine seq_cut (fun σ' H' => ∃ (v : Option V) (pos' : Nat) (big' seed' left' : Int), σ' = [some (.ref p), some (.int n), v, none] ∧ Gr [p] I H I H' ∧ pos' ≤ cells.length ∧ H' p = some (.lst (plist c pos' big' seed' left' bud))) (fun nx q => ?_) ?_
    · have hc' := s0 _ _ hc
      have stay : nx [some (.ref p), some (.int n), none, none] H := q _ _ ⟨none, pos, big, seed, left, rfl, Gr.refl s0, hpos, hp⟩
      refine ⟨_, rfl, _, _, _, _, rfl, rfl, SqL.of hp, at_of (j := 2) rfl rfl, _, _, rfl, rfl, _, rfl, ifD (fun _ => ?_) (fun _ => iteF stay)⟩
      refine ⟨_, rfl, _, _, _, _, rfl, rfl, SqL.of hp, at_of (j := 4) rfl rfl, _, _, rfl, rfl, _, rfl, ifD (fun _ => ?_) (fun _ => iteF stay)⟩
      refine ⟨_, rfl, _, _, _, _, rfl, rfl, SqL.of hp, at_of (j := 1) rfl rfl, _, rfl, _, _, _, _, rfl, rfl, SqL.of hp, at_of (j := 0) rfl rfl, _, cells.length, rfl, .inl ⟨_, SqL.of hc', by simp⟩, _, _, rfl, rfl, _, rfl, ?_⟩
      refine ifD (fun hlt => ?_) (fun _ => stay)
      have hlt' : pos < cells.length := by omega
      have hcell : (cells.map V.int)[pos]? = some (.int cells[pos]) := by rw [List.getElem?_map, List.getElem?_eq_getElem hlt']; rfl
      refine ⟨_, rfl, _, _, _, _, rfl, rfl, SqL.of hp, at_of (j := 0) rfl rfl, _, rfl, _, _, _, _, rfl, rfl, SqL.of hp, at_of (j := 1) rfl rfl, _, _, _, _, rfl, rfl, SqL.of hc', at_of rfl hcell, ?_⟩
      refine ⟨_, rfl, _, _, _, _, rfl, rfl, SqL.of hp, at_of (j := 1) rfl rfl, _, _, rfl, rfl, _, rfl, _, _, _, _, rfl, rfl, hp, (show ixN _ _ = some 1 from rfl), ?_⟩
      refine ⟨_, rfl, _, _, _, _, rfl, rfl, SqL.of upd_same, at_of (j := 3) rfl rfl, _, _, rfl, rfl, mulc (by decide) (by decide), _, rfl, _, _, rfl, rfl, .inl ⟨_, rfl, _, _, rfl, rfl, (by show (0 : Int) < 2147483647; decide), _, rfl, _, _, _, _, rfl, rfl, upd_same, (show ixN _ _ = some 3 from rfl), ?_⟩⟩
      refine ⟨_, rfl, _, _, _, _, rfl, rfl, upd_same, (show ixN _ _ = some 4 from rfl), ?_⟩
      have hg : ∀ l : List V, Gr [p] I H I (upd H p (.lst l)) := fun l => Gr.mut s0 hI (by simp)
      refine ⟨_, rfl, _, _, rfl, rfl, ⟨by decide, by decide, by decide⟩, _, _, rfl, rfl, _, rfl, ifD (fun _ => ?_) (fun _ => ?_)⟩
      · refine ⟨_, rfl, _, rfl, _, _, _, _, rfl, rfl, upd_same, (show ixN _ _ = some 2 from rfl), ?_⟩
        refine q _ _ ⟨some (.int cells[pos]), pos + 1, cells[pos], (seed * 31 + cells[pos]) % 2147483647, 7, rfl, ?_, by omega, ?_⟩
        · rw [upd_upd, upd_upd, upd_upd]; exact hg _
        · rw [upd_same]; rfl
      · refine q _ _ ⟨some (.int cells[pos]), pos + 1, big, (seed * 31 + cells[pos]) % 2147483647, 7, rfl, ?_, by omega, ?_⟩
        · rw [upd_upd, upd_upd]; exact hg _
        · rw [upd_same]; rfl
    · rintro σ' H' ⟨v, pos, big, seed, left, rfl, g, hpos, hp⟩
      have s1 : Same I H' := g.ih
      refine ⟨_, rfl, _, _, _, _, rfl, rfl, SqL.of hp, at_of (j := 2) rfl rfl, _, _, rfl, rfl, _, rfl, ifD (fun _ => ?_) (fun _ => ?_)⟩
      · refine ⟨_, rfl, _, _, _, _, rfl, rfl, SqL.of hp, at_of (j := 2) rfl rfl, .inl ⟨_, rfl, _, rfl, _, _, rfl, rfl, hn0, ?_⟩⟩
        refine ⟨_, rfl, _, _, _, _, rfl, rfl, SqL.of hp, at_of (j := 2) rfl rfl, _, rfl, _, _, rfl, rfl, wide_div hn0 (b := 64) (by omega) (by decide) (by decide), _, rfl, _, _, _, _, rfl, rfl, hp, (show ixN _ _ = some 2 from rfl), ?_⟩
        refine ⟨_, rfl, _, _, _, _, rfl, rfl, upd_same, (show ixN _ _ = some 4 from rfl), _, rfl, ?_⟩
        have hm := Int.emod_nonneg big (by omega : n ≠ 0)
        have hm2 := Int.emod_lt_of_pos big hn0
        rw [upd_upd]
        exact k _ _ hm hm2 (g.trans (Gr.mut s1 hI (by simp))) ⟨hI, c, cells, pos, big / n, seed, 0, bud, hc, hl, hpos, upd_same⟩
      · refine ⟨_, rfl, _, _, _, _, rfl, rfl, SqL.of hp, at_of (j := 4) rfl rfl, _, _, rfl, rfl, _, rfl, _, _, _, _, rfl, rfl, hp, (show ixN _ _ = some 4 from rfl), ?_⟩
        refine ⟨_, rfl, _, _, _, _, rfl, rfl, SqL.of upd_same, at_of (j := 3) rfl rfl, _, _, rfl, rfl, mulc (by decide) (by decide), _, _, rfl, rfl, .inl ⟨_, rfl, _, _, rfl, rfl, (by show (0 : Int) < 2147483647; decide), _, rfl, _, _, _, _, rfl, rfl, upd_same, (show ixN _ _ = some 3 from rfl), ?_⟩⟩
        refine ⟨_, rfl, _, _, _, _, rfl, rfl, SqL.of upd_same, at_of (j := 3) rfl rfl, _, _, rfl, rfl, mulc (by decide) (by decide), _, _, rfl, rfl, .inl ⟨_, rfl, _, _, rfl, rfl, (by show (0 : Int) < 2147483647; decide), _, rfl, _, _, rfl, rfl, hn0, ?_⟩⟩
        rw [upd_upd]
        exact k _ _ (Int.emod_nonneg _ (by omega)) (Int.emod_lt_of_pos _ hn0) (g.trans (Gr.mut s1 hI (by simp))) ⟨hI, c, cells, pos, big, _, left - 1, bud, hc, hl, hpos, upd_same⟩
/-! ### the law's own fractions -/
def iQ : Rp Rat := fun H v q => ∃ a, v = .ref a ∧ H a = some (.tup [.int q.num, .int q.den])
instance : Mono iQ := ⟨fun s ⟨a, e, h⟩ => ⟨a, e, s _ _ h⟩⟩
def spLs : Sp := fun vs H Q _ => ∃ (I : Hp) (n d : Int), vs = [.int n, .int d] ∧ Same I H ∧ 0 < d ∧ d < 2 ^ 1999 ∧ Ret [] I H iQ (rt n d) Q
theorem sc_less_ : FnScope ["num", "den", "a", "b", "k"] ["num", "den"] (defScope s__law_less) := ⟨rfl, rfl, rfl, by decide +kernel, rfl, by decide +kernel, by decide +kernel⟩
theorem ok_ls (D : Dt K mg) : Has P w K mg base 1 (He.ga K "_law_less") ["num", "den"] [] spLs := by
  obtain ⟨fd, F⟩ := fd__law_less D
  refine hasN F (F.bindsN fun _ _ _ _ _ _ us hl => match us, hl with | [_, _], _ => rfl) sc_less_ (fun vs H Q E h => ?_) (fun cdv A outer s H vs Q E hr h => ?_)
  · obtain ⟨I, n, d, rfl, _⟩ := h; rfl
  · obtain ⟨I, n, d, rfl, s0, hd, hd2, k⟩ := h
    refine ⟨_, (pss_cons (ps_set (i := 2) sc_less_.nd rfl (Or.inl rfl) (pe_callB call_abs rfl (free_abs D) (by decide +kernel) (pa_cons (pv 0) pa_nil)))
      (pss_cons (ps_set (i := 3) sc_less_.nd rfl (Or.inl rfl) (pv 1))
      (pss_cons (ps_for PassesOwn.never rfl (pi_range1 rfl (free_range D) (pa_cons pe_int pa_nil)) (pg_name (i := 4) sc_less_.nd rfl (Or.inl rfl))
      (pss_cons (ps_if (pt_cmpR op_eq (pv 3) pe_int (nomark _))
      (pss_one ps_break)
      pss_nil)
      (pss_one (ps_par (i := 2) (j := 3) rfl sc_less_.nd rfl rfl (by decide) rfl rfl (pa_cons (pv 3) (pa_cons (pe_op op_mod (pe_callTy call_int1 rfl (free_int D) (by decide +kernel) (pa_cons (pv 2) pa_nil)) (pv 3)) pa_nil)) rfl))))
      (pss_one (ps_ret (pe_tup (pa_cons (pe_op op_fdivW (pv 0) (pv 2)) (pa_cons (pe_op op_fdivW (pv 1) (pv 2)) pa_nil)))))))), ?_⟩
    refine ⟨_, rfl, _, rfl, _, rfl, 4000, rfl, by decide, by decide, ?_⟩
    refine for_rangeP (n := 4000) (fun σ' H' => ∃ (b v : Option V), σ' = [some (.int n), some (.int d), some (.int (gz n d)), b, v] ∧ H' = H)
      (fun i σ' H' => ∃ (a b : Int) (v : Option V), σ' = [some (.int n), some (.int d), some (.int a), some (.int b), v] ∧ H' = H ∧ 0 ≤ a ∧ 0 ≤ b ∧ eu (4000 - i) a b = gz n d)
      ⟨_, d, none, rfl, rfl, by split <;> omega, by omega, eu_gz hd hd2⟩ (fun nx q i σ' H' hi h => ?_) (fun σ' H' h => ?_) ?_
    · obtain ⟨a, b, v, rfl, rfl, ha, hb, he⟩ := h
      obtain ⟨j, hj⟩ : ∃ j, 4000 - i = j + 1 := ⟨4000 - i - 1, by omega⟩
      have hj2 : 4000 - (i + 1) = j := by omega
      rw [hj] at he
      refine ⟨_, rfl, rfl, _, rfl, ifD (fun h0 => ?_) (fun h0 => ?_)⟩
      · have e0 : b = 0 := by simpa using h0
        rw [e0, eu_zero] at he
        exact q _ _ ⟨_, _, by rw [he]; rfl, rfl⟩
      · have e0 : ¬ b = 0 := by simpa using h0
        have b0 : 0 < b := by omega
        refine ⟨_, rfl, _, rfl, .inl ⟨_, rfl, _, rfl, _, _, rfl, rfl, b0, _, _, rfl, ?_⟩⟩
        have he' : eu j b (a % b) = gz n d := by rw [← he]; show _ = if b = 0 then a else eu j b (a % b); rw [if_neg e0]
        exact ⟨b, a % b, _, rfl, rfl, hb, Int.emod_nonneg _ e0, by rw [hj2]; exact he'⟩
    · obtain ⟨a, b, v, rfl, rfl, _, _, he⟩ := h
      have he' : a = gz n d := by rw [← he]; rfl
      rw [he']
      exact ⟨_, _, rfl, rfl⟩
    · rintro σ' H' ⟨b, v, rfl, rfl⟩
      have sm : Sm d := by show d.natAbs < 2 ^ 2000; have : d.natAbs < 2 ^ 1999 := by omega
                           exact Nat.lt_trans this (by decide)
      refine ⟨_, rfl, _, rfl, _, _, rfl, rfl, sm.div hd, _, rfl, _, rfl, _, _, rfl, rfl, sm.div hd, (by show 2 ≤ sizeLine; decide), fun p hp => ?_⟩
      have e1 := rt_num (n := n) hd
      have e2 := rt_den (n := n) hd
      have z := k _ _ (.ref p) (Gr.new (o := .tup [.int (rt n d).num, .int (rt n d).den]) s0 hp) ⟨p, rfl, upd_same⟩
      rw [e1, e2] at z
      exact z
end
end K

set_option Elab.async false
set_option linter.all false
set_option maxRecDepth 100000
set_option maxHeartbeats 4000000
/-! Data as the law compares it. -/
namespace Tk
open PySem PySem.Spec PyProof.Rows L2
inductive Da where
  | non | bl (b : Bool) | int (i : Int) | str (s : Str) | lst (l : List Da) | tup (l : List Da)
mutual
def eqd : Da → Da → Bool
  | .non, .non => true
  | .bl a, .bl b => decide (a = b)
  | .int a, .int b => decide (a = b)
  | .str a, .str b => decide (a = b)
  | .lst a, .lst b => eqds a b
  | .tup a, .tup b => eqds a b
  | _, _ => false
def eqds : List Da → List Da → Bool
  | [], [] => true
  | a :: r, b :: s => eqd a b && eqds r s
  | _, _ => false
end
mutual
def dep : Da → Nat
  | .lst l => deps l + 1
  | .tup l => deps l + 1
  | _ => 0
def deps : List Da → Nat
  | [] => 0
  | a :: r => max (dep a) (deps r)
end
mutual
def tame : Da → Prop
  | .lst l => l.length ≤ 100000 ∧ tames l
  | .tup l => l.length ≤ 100000 ∧ tames l
  | _ => True
def tames : List Da → Prop
  | [] => True
  | a :: r => tame a ∧ tames r
end
mutual
def dR (H : Hp) : V → Da → Prop
  | v, .non => v = .non
  | v, .bl b => v = .bl b
  | v, .int i => v = .int i
  | v, .str s => v = .str s
  | v, .lst l => ∃ a vs, v = .ref a ∧ H a = some (.lst vs) ∧ dRs H vs l
  | v, .tup l => ∃ a vs, v = .ref a ∧ H a = some (.tup vs) ∧ dRs H vs l
def dRs (H : Hp) : List V → List Da → Prop
  | vs, [] => vs = []
  | vs, d :: ds => ∃ v r, vs = v :: r ∧ dR H v d ∧ dRs H r ds
end
mutual
theorem dR_up {H H' : Hp} (s : Same H H') : ∀ (v : V) (d : Da), dR H v d → dR H' v d
  | v, .non, h => h
  | v, .bl _, h => h
  | v, .int _, h => h
  | v, .str _, h => h
  | v, .lst l, h => by
    simp only [dR] at h ⊢
    obtain ⟨a, vs, e, h1, h2⟩ := h
    exact ⟨a, vs, e, s _ _ h1, dRs_up s vs l h2⟩
  | v, .tup l, h => by
    simp only [dR] at h ⊢
    obtain ⟨a, vs, e, h1, h2⟩ := h
    exact ⟨a, vs, e, s _ _ h1, dRs_up s vs l h2⟩
theorem dRs_up {H H' : Hp} (s : Same H H') : ∀ (vs : List V) (ds : List Da), dRs H vs ds → dRs H' vs ds
  | vs, [], h => by simp only [dRs] at h ⊢; exact h
  | vs, d :: ds, h => by
    simp only [dRs] at h ⊢
    obtain ⟨v, r, e, h1, h2⟩ := h
    exact ⟨v, r, e, dR_up s v d h1, dRs_up s r ds h2⟩
end
theorem dRs_len {H : Hp} : ∀ {vs : List V} {ds : List Da}, dRs H vs ds → vs.length = ds.length
  | vs, [], h => by simp only [dRs] at h; subst h; rfl
  | vs, d :: ds, h => by
    simp only [dRs] at h
    obtain ⟨v, r, rfl, _, h2⟩ := h
    simp [dRs_len h2]
theorem dRs_at {H : Hp} : ∀ {vs : List V} {ds : List Da} {i : Nat} {d : Da}, dRs H vs ds → ds[i]? = some d → ∃ v, vs[i]? = some v ∧ dR H v d
  | _, [], _, _, _, e => by simp at e
  | vs, d :: ds, 0, x, h, e => by
    simp only [dRs] at h
    obtain ⟨v, r, rfl, h1, _⟩ := h
    simp at e; subst e
    exact ⟨v, rfl, h1⟩
  | vs, d :: ds, i + 1, x, h, e => by
    simp only [dRs] at h
    obtain ⟨v, r, rfl, _, h2⟩ := h
    obtain ⟨u, h3, h4⟩ := dRs_at (i := i) (d := x) h2 (by simpa using e)
    exact ⟨u, by simpa using h3, h4⟩
theorem tames_at : ∀ {ds : List Da} {i : Nat} {d : Da}, tames ds → ds[i]? = some d → tame d
  | [], _, _, _, e => by simp at e
  | d :: ds, 0, x, h, e => by simp at e; subst e; exact h.1
  | d :: ds, i + 1, x, h, e => tames_at (ds := ds) (i := i) h.2 (by simpa using e)
theorem deps_at : ∀ {ds : List Da} {i : Nat} {d : Da}, ds[i]? = some d → dep d ≤ deps ds
  | [], _, _, e => by simp at e
  | d :: ds, 0, x, e => by simp at e; subst e; simp only [deps]; omega
  | d :: ds, i + 1, x, e => by
    have := deps_at (ds := ds) (i := i) (d := x) (by simpa using e)
    simp only [deps]; omega
mutual
theorem eqd_iff : ∀ a b : Da, eqd a b = true ↔ a = b
  | .non, b => by cases b <;> simp [eqd]
  | .bl x, b => by cases b <;> simp [eqd]
  | .int x, b => by cases b <;> simp [eqd]
  | .str x, b => by cases b <;> simp [eqd]
  | .lst x, b => by cases b <;> simp [eqd]; exact eqds_iff _ _
  | .tup x, b => by cases b <;> simp [eqd]; exact eqds_iff _ _
theorem eqds_iff : ∀ a b : List Da, eqds a b = true ↔ a = b
  | [], b => by cases b <;> simp [eqds]
  | a :: r, b => by
    cases b with
    | nil => simp [eqds]
    | cons b s => simp [eqds, eqd_iff a b, eqds_iff r s]
end
theorem eqds_len : ∀ {a b : List Da}, a.length ≠ b.length → eqds a b = false
  | [], [], h => absurd rfl h
  | [], _ :: _, _ => rfl
  | _ :: _, [], _ => rfl
  | a :: r, b :: s, h => by
    have := eqds_len (a := r) (b := s) (by simpa using h)
    simp [eqds, this]
theorem eqds_false : ∀ {a b : List Da} {i : Nat} {x y : Da}, a[i]? = some x → b[i]? = some y → eqd x y = false → eqds a b = false
  | [], _, _, _, _, h, _, _ => by simp at h
  | _ :: _, [], _, _, _, _, h, _ => by simp at h
  | a :: r, b :: s, 0, x, y, h1, h2, h3 => by simp at h1 h2; subst h1 h2; simp [eqds, h3]
  | a :: r, b :: s, i + 1, x, y, h1, h2, h3 => by
    have := eqds_false (a := r) (b := s) (i := i) (by simpa using h1) (by simpa using h2) h3
    simp [eqds, this]
theorem eqds_true : ∀ {a b : List Da}, a.length = b.length → (∀ (i : Nat) (x y : Da), a[i]? = some x → b[i]? = some y → eqd x y = true) → eqds a b = true
  | [], [], _, _ => rfl
  | [], _ :: _, h, _ => by simp at h
  | _ :: _, [], h, _ => by simp at h
  | a :: r, b :: s, h, k => by
    simp only [eqds, Bool.and_eq_true]
    exact ⟨k 0 a b rfl rfl, eqds_true (by simpa using h) fun i x y h1 h2 => k (i + 1) x y (by simpa using h1) (by simpa using h2)⟩
/-- its kind -/
def knd : Da → String
  | .non => "NoneType" | .bl _ => "bool" | .int _ => "int" | .str _ => "str" | .lst _ => "list" | .tup _ => "tuple"
def isT : Da → String → Bool
  | .non, _ => false
  | .bl _, T => T == "bool" || T == "int"
  | .int _, T => T == "int"
  | .str _, T => T == "str"
  | .lst _, T => T == "list"
  | .tup _, T => T == "tuple"
theorem knd_ty {K : PySem.W.Frag} {H : Hp} {v : V} {d : Da} (h : dR H v d) : TyX K H v (.type (knd d)) := by
  cases d with
  | non => simp only [dR] at h; subst h; exact .base .non
  | bl b => simp only [dR] at h; subst h; exact .base (.bl b)
  | int b => simp only [dR] at h; subst h; exact .base (.int b)
  | str b => simp only [dR] at h; subst h; exact .base (.str b)
  | lst l => simp only [dR] at h; obtain ⟨a, vs, rfl, h1, _⟩ := h; exact .base (.lst h1)
  | tup l => simp only [dR] at h; obtain ⟨a, vs, rfl, h1, _⟩ := h; exact .base (.tup h1)
theorem knd_tuple {K : PySem.W.Frag} (d : Da) : PySem.W.kitOne K (.type (knd d)) (.type "tuple") = some (isT d "tuple") := by cases d <;> rfl
theorem knd_list {K : PySem.W.Frag} (d : Da) : PySem.W.kitOne K (.type (knd d)) (.type "list") = some (isT d "list") := by cases d <;> rfl
theorem knd_bool {K : PySem.W.Frag} (d : Da) : PySem.W.kitOne K (.type (knd d)) (.type "bool") = some (isT d "bool") := by cases d <;> rfl
theorem knd_int {K : PySem.W.Frag} (d : Da) : PySem.W.kitOne K (.type (knd d)) (.type "int") = some (isT d "int") := by cases d <;> rfl
theorem knd_str {K : PySem.W.Frag} (d : Da) : PySem.W.kitOne K (.type (knd d)) (.type "str") = some (isT d "str") := by cases d <;> rfl
def isNon : Da → Bool
  | .non => true
  | _ => false
theorem non_dec {H : Hp} {v : V} {d : Da} (h : dR H v d) : decide (v = V.non) = isNon d := by
  cases d with
  | non => simp only [dR] at h; subst h; rfl
  | bl b => simp only [dR] at h; subst h; rfl
  | int b => simp only [dR] at h; subst h; rfl
  | str b => simp only [dR] at h; subst h; rfl
  | lst l => simp only [dR] at h; obtain ⟨a, vs, rfl, h1, _⟩ := h; rfl
  | tup l => simp only [dR] at h; obtain ⟨a, vs, rfl, h1, _⟩ := h; rfl
end Tk

set_option Elab.async false
set_option linter.all false
set_option maxRecDepth 100000
set_option maxHeartbeats 4000000
set_option exponentiation.threshold 5000
namespace K
open PySem PySem.Spec PyProof.Rows L2 Tk Hd Mt
section
variable {P : Program} {w : World} {K : PySem.W.Frag} {mg : Str → Option Value} {base : Heap}
/-! ### _law_same -/
def spSame (n : Nat) : Sp := fun vs H Q _ => ∃ (a d : V) (x y : Da), vs = [a, d] ∧ dR H a x ∧ dR H d y ∧ dep y ≤ n ∧ tame x ∧ tame y ∧ Q (.bl (eqd x y)) H
theorem sc_same : FnScope ["actual", "due", "k"] ["actual", "due"] (defScope s__law_same) := ⟨rfl, rfl, rfl, by decide +kernel, rfl, by decide +kernel, by decide +kernel⟩
theorem dec_bl' (a b : Bool) : decide (V.bl a = V.bl b) = (a == b) := dec_bl
/-- nothing in it: no list, no tuple -/
theorem ok_same0 (D : Dt K mg) {fd : FuncData} (F : FnP K "_law_same" "_law_same" s__law_same [] (He.ga K "_law_same") fd) : FnOk P w K mg base (L2.CX P w) 1 (He.ga K "_law_same") fd ["actual", "due"] (fun vs H Q _ => ∃ (a d : V) (x y : Da), vs = [a, d] ∧ dR H a x ∧ dR H d y ∧ isT y "tuple" = false ∧ isT y "list" = false ∧ Q (.bl (eqd x y)) H) := by
  refine fnN F sc_same (fun vs H Q E h => ?_) (fun cdv A outer s H vs Q E hr h => ?_)
  · obtain ⟨a, d, x, y, rfl, _⟩ := h; rfl
  · obtain ⟨a, d, x, y, rfl, hx, hy, y1, y2, k⟩ := h
    refine ⟨_, (pss_cons (ps_if (PW.pt (pw_or (pt_val (pe_callB call_isi rfl (free_isinstance D) (by decide +kernel) (pa_cons (pv 1) (pa_cons (pe_bltn (v := .ty "tuple") rfl (free_tuple D) (by decide +kernel) rfl) pa_nil)))) (pw_or1 (pt_val (pe_callB call_isi rfl (free_isinstance D) (by decide +kernel) (pa_cons (pv 1) (pa_cons (pe_bltn (v := .ty "list") rfl (free_list D) (by decide +kernel) rfl) pa_nil))))))) pss_never pss_nil)
      (pss_cons (ps_if (PW.pt (pw_or (pt_cmpR op_isN (pv 1) pe_non (nomark _)) (pw_or1 (pt_val (pe_callB call_isi rfl (free_isinstance D) (by decide +kernel) (pa_cons (pv 1) (pa_cons (pe_bltn (v := .ty "bool") rfl (free_bool D) (by decide +kernel) rfl) pa_nil)))))))
      (pss_one (ps_ret (pe_and (pe_cmpR op_eq (pe_cmpR op_isN (pv 0) pe_non (nomark _)) (pe_cmpR op_isN (pv 1) pe_non (nomark _)) (nomark _)) (pe_and (pe_or (pe_cmpR op_isN (pv 1) pe_non (nomark _)) (pe_one (pe_callB call_isi rfl (free_isinstance D) (by decide +kernel) (pa_cons (pv 0) (pa_cons (pe_bltn (v := .ty "bool") rfl (free_bool D) (by decide +kernel) rfl) pa_nil))))) (pe_one (pe_cmpR op_eq (pv 0) (pv 1) (nomark _)))))))
      pss_nil)
      (pss_cons (ps_if (pt_val (pe_callB call_isi rfl (free_isinstance D) (by decide +kernel) (pa_cons (pv 1) (pa_cons (pe_bltn (v := .ty "int") rfl (free_int D) (by decide +kernel) rfl) pa_nil))))
      (pss_one (ps_ret (pe_and (pe_callB call_isi rfl (free_isinstance D) (by decide +kernel) (pa_cons (pv 0) (pa_cons (pe_bltn (v := .ty "int") rfl (free_int D) (by decide +kernel) rfl) pa_nil))) (pe_and (pe_not (pe_callB call_isi rfl (free_isinstance D) (by decide +kernel) (pa_cons (pv 0) (pa_cons (pe_bltn (v := .ty "bool") rfl (free_bool D) (by decide +kernel) rfl) pa_nil)))) (pe_one (pe_cmpR op_eq (pv 0) (pv 1) (nomark _)))))))
      pss_nil)
      (pss_one (ps_ret (pe_and (pe_callB call_isi rfl (free_isinstance D) (by decide +kernel) (pa_cons (pv 0) (pa_cons (pe_bltn (v := .ty "str") rfl (free_str D) (by decide +kernel) rfl) pa_nil))) (pe_one (pe_cmpR op_eq (pv 0) (pv 1) (nomark _))))))))), ?_⟩
    have cv : ∀ T : String, ClsV (.ty T) (.type T) := fun T => .ty T
    refine ⟨_, rfl, _, _, _, _, _, rfl, cv _, knd_ty hy, knd_tuple y, _, rfl, ifF y1 ?_⟩
    refine ⟨_, rfl, _, _, _, _, _, rfl, cv _, knd_ty hy, knd_list y, _, rfl, ifF y2 ?_⟩
    have nx := non_dec hx
    have ny := non_dec hy
    refine ⟨_, rfl, rfl, _, rfl, ?_⟩
    rw [ny]
    have finN : isNon y = true ∨ isT y "bool" = true → ∀ σ : L2.St, True := fun _ _ => trivial
    cases y with
    | lst l => simp [isT] at y2
    | tup l => simp [isT] at y1
    | non =>
      refine iteT ?_
      simp only [dR] at hy
      subst hy
      refine ⟨_, rfl, rfl, _, rfl, rfl, rfl, _, rfl, ?_⟩
      rw [nx, ny]
      cases x with
      | non =>
        simp only [dR] at hx; subst hx
        refine iteT ⟨_, rfl, rfl, _, rfl, iteT ⟨_, rfl, iteT ⟨_, rfl, _, rfl, rfl, ?_⟩⟩⟩
        exact k
      | _ => exact iteF k
    | bl b =>
      refine iteF ⟨_, rfl, _, _, _, _, _, rfl, cv _, knd_ty hy, knd_bool (.bl b), _, rfl, iteT ?_⟩
      refine ⟨_, rfl, rfl, _, rfl, rfl, rfl, _, rfl, ?_⟩
      rw [nx, ny]
      simp only [dR] at hy
      subst hy
      cases x with
      | non => exact iteF k
      | bl c =>
        refine iteT ⟨_, rfl, rfl, _, rfl, iteF ⟨_, rfl, _, _, _, _, _, rfl, cv _, knd_ty hx, knd_bool (.bl c), _, rfl, iteT ?_⟩⟩
        simp only [dR] at hx
        subst hx
        refine ⟨_, rfl, _, rfl, rfl, ?_⟩
        have e : decide (V.bl c = V.bl b) = eqd (.bl c) (.bl b) := by simp [eqd]
        rw [← e] at k; exact k
      | int i => exact iteT ⟨_, rfl, rfl, _, rfl, iteF ⟨_, rfl, _, _, _, _, _, rfl, cv _, knd_ty hx, knd_bool (.int i), _, rfl, iteF k⟩⟩
      | str i => exact iteT ⟨_, rfl, rfl, _, rfl, iteF ⟨_, rfl, _, _, _, _, _, rfl, cv _, knd_ty hx, knd_bool (.str i), _, rfl, iteF k⟩⟩
      | lst i => exact iteT ⟨_, rfl, rfl, _, rfl, iteF ⟨_, rfl, _, _, _, _, _, rfl, cv _, knd_ty hx, knd_bool (.lst i), _, rfl, iteF k⟩⟩
      | tup i => exact iteT ⟨_, rfl, rfl, _, rfl, iteF ⟨_, rfl, _, _, _, _, _, rfl, cv _, knd_ty hx, knd_bool (.tup i), _, rfl, iteF k⟩⟩
    | int b =>
      refine iteF ⟨_, rfl, _, _, _, _, _, rfl, cv _, knd_ty hy, knd_bool (.int b), _, rfl, iteF ?_⟩
      refine ⟨_, rfl, _, _, _, _, _, rfl, cv _, knd_ty hy, knd_int (.int b), _, rfl, iteT ?_⟩
      simp only [dR] at hy
      subst hy
      cases x with
      | int c =>
        refine ⟨_, rfl, _, _, _, _, _, rfl, cv _, knd_ty hx, knd_int (.int c), _, rfl, iteT ?_⟩
        refine ⟨_, rfl, _, _, _, _, _, rfl, cv _, knd_ty hx, knd_bool (.int c), _, rfl, _, rfl, iteT ?_⟩
        simp only [dR] at hx
        subst hx
        refine ⟨_, rfl, _, rfl, rfl, ?_⟩
        have e : decide (V.int c = V.int b) = eqd (.int c) (.int b) := by simp [eqd]
        rw [← e] at k; exact k
      | bl c =>
        refine ⟨_, rfl, _, _, _, _, _, rfl, cv _, knd_ty hx, knd_int (.bl c), _, rfl, iteT ?_⟩
        exact ⟨_, rfl, _, _, _, _, _, rfl, cv _, knd_ty hx, knd_bool (.bl c), _, rfl, _, rfl, iteF k⟩
      | non => exact ⟨_, rfl, _, _, _, _, _, rfl, cv _, knd_ty hx, knd_int .non, _, rfl, iteF k⟩
      | str c => exact ⟨_, rfl, _, _, _, _, _, rfl, cv _, knd_ty hx, knd_int (.str c), _, rfl, iteF k⟩
      | lst c => exact ⟨_, rfl, _, _, _, _, _, rfl, cv _, knd_ty hx, knd_int (.lst c), _, rfl, iteF k⟩
      | tup c => exact ⟨_, rfl, _, _, _, _, _, rfl, cv _, knd_ty hx, knd_int (.tup c), _, rfl, iteF k⟩
    | str b =>
      refine iteF ⟨_, rfl, _, _, _, _, _, rfl, cv _, knd_ty hy, knd_bool (.str b), _, rfl, iteF ?_⟩
      refine ⟨_, rfl, _, _, _, _, _, rfl, cv _, knd_ty hy, knd_int (.str b), _, rfl, iteF ?_⟩
      simp only [dR] at hy
      subst hy
      cases x with
      | str c =>
        refine ⟨_, rfl, _, _, _, _, _, rfl, cv _, knd_ty hx, knd_str (.str c), _, rfl, iteT ?_⟩
        simp only [dR] at hx
        subst hx
        refine ⟨_, rfl, _, rfl, rfl, ?_⟩
        have e : decide (V.str c = V.str b) = eqd (.str c) (.str b) := by simp [eqd]
        rw [← e] at k; exact k
      | bl c => exact ⟨_, rfl, _, _, _, _, _, rfl, cv _, knd_ty hx, knd_str (.bl c), _, rfl, iteF k⟩
      | non => exact ⟨_, rfl, _, _, _, _, _, rfl, cv _, knd_ty hx, knd_str .non, _, rfl, iteF k⟩
      | int c => exact ⟨_, rfl, _, _, _, _, _, rfl, cv _, knd_ty hx, knd_str (.int c), _, rfl, iteF k⟩
      | lst c => exact ⟨_, rfl, _, _, _, _, _, rfl, cv _, knd_ty hx, knd_str (.lst c), _, rfl, iteF k⟩
      | tup c => exact ⟨_, rfl, _, _, _, _, _, rfl, cv _, knd_ty hx, knd_str (.tup c), _, rfl, iteF k⟩
/-- a list or a tuple -/
theorem ok_sameS (D : Dt K mg) (n : Nat) (HREC : Has P w K mg base (n + 1) (He.ga K "_law_same") ["actual", "due"] [] (spSame n)) {fd : FuncData} (F : FnP K "_law_same" "_law_same" s__law_same [] (He.ga K "_law_same") fd) :
    FnOk P w K mg base (L2.CX P w) (n + 2) (He.ga K "_law_same") fd ["actual", "due"] (fun vs H Q _ => ∃ (a d : V) (x y : Da), vs = [a, d] ∧ dR H a x ∧ dR H d y ∧ dep y ≤ n + 1 ∧ tame x ∧ tame y ∧ (isT y "tuple" = true ∨ isT y "list" = true) ∧ Q (.bl (eqd x y)) H) := by
  refine fnN F sc_same (fun vs H Q E h => ?_) (fun cdv A outer s H vs Q E hr h => ?_)
  · obtain ⟨a, d, x, y, rfl, _⟩ := h; rfl
  · obtain ⟨a, d, x, y, rfl, hx, hy, dy, tx, ty, yy, k⟩ := h
    refine ⟨_, (pss_cons (ps_if (PW.pt (pw_or (pt_val (pe_callB call_isi rfl (free_isinstance D) (by decide +kernel) (pa_cons (pv 1) (pa_cons (pe_bltn (v := .ty "tuple") rfl (free_tuple D) (by decide +kernel) rfl) pa_nil)))) (pw_or1 (pt_val (pe_callB call_isi rfl (free_isinstance D) (by decide +kernel) (pa_cons (pv 1) (pa_cons (pe_bltn (v := .ty "list") rfl (free_list D) (by decide +kernel) rfl) pa_nil)))))))
      (pss_cons (ps_if (PW.pt (pw_or (pt_cmpR op_ne (pe_callB call_isi rfl (free_isinstance D) (by decide +kernel) (pa_cons (pv 1) (pa_cons (pe_bltn (v := .ty "tuple") rfl (free_tuple D) (by decide +kernel) rfl) pa_nil))) (pe_callB call_isi rfl (free_isinstance D) (by decide +kernel) (pa_cons (pv 0) (pa_cons (pe_bltn (v := .ty "tuple") rfl (free_tuple D) (by decide +kernel) rfl) pa_nil))) (nomark _)) (pw_or1 (pt_cmpR op_ne (pe_callB call_isi rfl (free_isinstance D) (by decide +kernel) (pa_cons (pv 1) (pa_cons (pe_bltn (v := .ty "list") rfl (free_list D) (by decide +kernel) rfl) pa_nil))) (pe_callB call_isi rfl (free_isinstance D) (by decide +kernel) (pa_cons (pv 0) (pa_cons (pe_bltn (v := .ty "list") rfl (free_list D) (by decide +kernel) rfl) pa_nil))) (nomark _)))))
      (pss_one (ps_ret pe_bl))
      pss_nil)
      (pss_cons (ps_if (pt_cmpR op_ne (pe_callB call_len rfl (free_len D) PySem.boot_len (pa_cons (pv 0) pa_nil)) (pe_callB call_len rfl (free_len D) PySem.boot_len (pa_cons (pv 1) pa_nil)) (nomark _))
      (pss_one (ps_ret pe_bl))
      pss_nil)
      (pss_cons (ps_for PassesOwn.never rfl (pi_range1 rfl (free_range D) (pa_cons (pe_callB call_len rfl (free_len D) PySem.boot_len (pa_cons (pv 1) pa_nil)) pa_nil)) (pg_name (i := 2) sc_same.nd rfl (Or.inl rfl))
      (pss_one (ps_if (pt_not (pt_val (pe_callH HREC (hr.mono (by omega)) rfl (glo__law_same D) passL (pa_cons (pe_ix ix_seq (pv 0) (pv 2) (fun _ _ => rfl)) (pa_cons (pe_ix ix_seq (pv 1) (pv 2) (fun _ _ => rfl)) pa_nil)))))
      (pss_one (ps_ret pe_bl))
      pss_nil)))
      (pss_one (ps_ret pe_bl)))))
      pss_nil)
      pss_never), ?_⟩
    have cv : ∀ T : String, ClsV (.ty T) (.type T) := fun T => .ty T
    cases y with
    | non => simp [isT] at yy
    | bl b => simp [isT] at yy
    | int b => simp [isT] at yy
    | str b => simp [isT] at yy
    | lst l =>
      refine ⟨_, rfl, _, _, _, _, _, rfl, cv _, knd_ty hy, knd_tuple _, _, rfl, iteF ⟨_, rfl, _, _, _, _, _, rfl, cv _, knd_ty hy, knd_list _, _, rfl, iteT ?_⟩⟩
      refine ⟨_, rfl, _, _, _, _, _, rfl, cv _, knd_ty hy, knd_tuple _, _, rfl, _, _, _, _, _, rfl, cv _, knd_ty hx, knd_tuple x, rfl, _, rfl, ?_⟩
      cases x with
      | lst l' =>
        refine ifF rfl ?_
        refine ⟨_, rfl, _, _, _, _, _, rfl, cv _, knd_ty hy, knd_list _, _, rfl, _, _, _, _, _, rfl, cv _, knd_ty hx, knd_list _, rfl, _, rfl, ifF rfl ?_⟩
        simp only [dR] at hx hy
        obtain ⟨pa, va, rfl, ha, ra⟩ := hx
        obtain ⟨pd, vd, rfl, hd, rd⟩ := hy
        have la := dRs_len ra
        have ld := dRs_len rd
        have hl : l.length ≤ 100000 := ty.1
        refine ⟨_, rfl, _, l'.length, rfl, .inl ⟨_, SqL.of ha, la.symm⟩, _, rfl, _, l.length, rfl, .inl ⟨_, SqL.of hd, ld.symm⟩, rfl, _, rfl, ?_⟩
        by_cases hlen : l'.length = l.length
        · refine ifF (by rw [hlen]; simp) ?_
          refine ⟨_, rfl, _, l.length, rfl, .inl ⟨_, SqL.of hd, ld.symm⟩, _, rfl, by omega, by omega, ?_⟩
          refine for_range (n := l.length) (fun i σ' H' => ∃ v : Option V, σ' = [some (.ref pa), some (.ref pd), v] ∧ H' = H ∧ ∀ (j : Nat) (x y : Da), j < i → l'[j]? = some x → l[j]? = some y → eqd x y = true)
            ⟨none, rfl, rfl, fun j _ _ h => absurd h (Nat.not_lt_zero j)⟩ (fun i σ' H' hi h => ?_) (fun σ' H' h => ?_)
          · obtain ⟨v, rfl, rfl, hj⟩ := h
            obtain ⟨u1, e1, r1⟩ := dRs_at ra (List.getElem?_eq_getElem (by omega : i < l'.length))
            obtain ⟨u2, e2, r2⟩ := dRs_at rd (List.getElem?_eq_getElem hi)
            refine ⟨_, rfl, _, rfl, .inl ⟨_, _, _, _, rfl, rfl, SqL.of ha, at_of (j := i) (by omega) e1, ?_⟩⟩
            refine ⟨_, rfl, _, rfl, .inl ⟨_, _, _, _, rfl, rfl, SqL.of hd, at_of (j := i) (by omega) e2, ?_⟩⟩
            have dd : dep l[i] ≤ n := by
              have := deps_at (List.getElem?_eq_getElem hi)
              simp only [dep] at dy; omega
            refine ⟨_, _, _, _, rfl, r1, r2, dd, tames_at tx.2 (List.getElem?_eq_getElem (by omega)), tames_at ty.2 (List.getElem?_eq_getElem hi), _, rfl, ?_⟩
            cases e : eqd l'[i] l[i] with
            | false =>
              refine iteT ?_
              have z : eqd (.lst l') (.lst l) = false := by simp only [eqd]; exact eqds_false (List.getElem?_eq_getElem (by omega)) (List.getElem?_eq_getElem hi) e
              rw [z] at k; exact k
            | true =>
              refine iteF ⟨_, rfl, rfl, fun j x y hji h1 h2 => ?_⟩
              by_cases q : j = i
              · subst q; rw [List.getElem?_eq_getElem (by omega)] at h1 h2; rw [← Option.some.inj h1, ← Option.some.inj h2]; exact e
              · exact hj j x y (by omega) h1 h2
          · obtain ⟨v, rfl, rfl, hj⟩ := h
            have z : eqd (.lst l') (.lst l) = true := by
              simp only [eqd]
              exact eqds_true hlen fun i x y h1 h2 => hj i x y (by have := (List.getElem?_eq_some_iff.mp h2).1; omega) h1 h2
            rw [z] at k; exact k
        · refine ifT (by simp; omega) ?_
          have z : eqd (.lst l') (.lst l) = false := by simp only [eqd]; exact eqds_len hlen
          rw [z] at k; exact k
      | non =>
        refine ifF rfl ⟨_, rfl, _, _, _, _, _, rfl, cv _, knd_ty hy, knd_list _, _, rfl, _, _, _, _, _, rfl, cv _, knd_ty hx, knd_list _, rfl, _, rfl, ifT rfl k⟩
      | bl b =>
        refine ifF rfl ⟨_, rfl, _, _, _, _, _, rfl, cv _, knd_ty hy, knd_list _, _, rfl, _, _, _, _, _, rfl, cv _, knd_ty hx, knd_list _, rfl, _, rfl, ifT rfl k⟩
      | int b =>
        refine ifF rfl ⟨_, rfl, _, _, _, _, _, rfl, cv _, knd_ty hy, knd_list _, _, rfl, _, _, _, _, _, rfl, cv _, knd_ty hx, knd_list _, rfl, _, rfl, ifT rfl k⟩
      | str b =>
        refine ifF rfl ⟨_, rfl, _, _, _, _, _, rfl, cv _, knd_ty hy, knd_list _, _, rfl, _, _, _, _, _, rfl, cv _, knd_ty hx, knd_list _, rfl, _, rfl, ifT rfl k⟩
      | tup b =>
        exact ifT rfl k
    | tup l =>
      refine ⟨_, rfl, _, _, _, _, _, rfl, cv _, knd_ty hy, knd_tuple _, _, rfl, iteT ?_⟩
      refine ⟨_, rfl, _, _, _, _, _, rfl, cv _, knd_ty hy, knd_tuple _, _, rfl, _, _, _, _, _, rfl, cv _, knd_ty hx, knd_tuple x, rfl, _, rfl, ?_⟩
      cases x with
      | tup l' =>
        refine ifF rfl ?_
        refine ⟨_, rfl, _, _, _, _, _, rfl, cv _, knd_ty hy, knd_list _, _, rfl, _, _, _, _, _, rfl, cv _, knd_ty hx, knd_list _, rfl, _, rfl, ifF rfl ?_⟩
        simp only [dR] at hx hy
        obtain ⟨pa, va, rfl, ha, ra⟩ := hx
        obtain ⟨pd, vd, rfl, hd, rd⟩ := hy
        have la := dRs_len ra
        have ld := dRs_len rd
        have hl : l.length ≤ 100000 := ty.1
        refine ⟨_, rfl, _, l'.length, rfl, .inr ⟨_, SqT.of ha, la.symm⟩, _, rfl, _, l.length, rfl, .inr ⟨_, SqT.of hd, ld.symm⟩, rfl, _, rfl, ?_⟩
        by_cases hlen : l'.length = l.length
        · refine ifF (by rw [hlen]; simp) ?_
          refine ⟨_, rfl, _, l.length, rfl, .inr ⟨_, SqT.of hd, ld.symm⟩, _, rfl, by omega, by omega, ?_⟩
          refine for_range (n := l.length) (fun i σ' H' => ∃ v : Option V, σ' = [some (.ref pa), some (.ref pd), v] ∧ H' = H ∧ ∀ (j : Nat) (x y : Da), j < i → l'[j]? = some x → l[j]? = some y → eqd x y = true)
            ⟨none, rfl, rfl, fun j _ _ h => absurd h (Nat.not_lt_zero j)⟩ (fun i σ' H' hi h => ?_) (fun σ' H' h => ?_)
          · obtain ⟨v, rfl, rfl, hj⟩ := h
            obtain ⟨u1, e1, r1⟩ := dRs_at ra (List.getElem?_eq_getElem (by omega : i < l'.length))
            obtain ⟨u2, e2, r2⟩ := dRs_at rd (List.getElem?_eq_getElem hi)
            refine ⟨_, rfl, _, rfl, .inr (.inl ⟨_, _, _, _, rfl, rfl, SqT.of ha, at_of (j := i) (by omega) e1, ?_⟩)⟩
            refine ⟨_, rfl, _, rfl, .inr (.inl ⟨_, _, _, _, rfl, rfl, SqT.of hd, at_of (j := i) (by omega) e2, ?_⟩)⟩
            have dd : dep l[i] ≤ n := by
              have := deps_at (List.getElem?_eq_getElem hi)
              simp only [dep] at dy; omega
            refine ⟨_, _, _, _, rfl, r1, r2, dd, tames_at tx.2 (List.getElem?_eq_getElem (by omega)), tames_at ty.2 (List.getElem?_eq_getElem hi), _, rfl, ?_⟩
            cases e : eqd l'[i] l[i] with
            | false =>
              refine iteT ?_
              have z : eqd (.tup l') (.tup l) = false := by simp only [eqd]; exact eqds_false (List.getElem?_eq_getElem (by omega)) (List.getElem?_eq_getElem hi) e
              rw [z] at k; exact k
            | true =>
              refine iteF ⟨_, rfl, rfl, fun j x y hji h1 h2 => ?_⟩
              by_cases q : j = i
              · subst q; rw [List.getElem?_eq_getElem (by omega)] at h1 h2; rw [← Option.some.inj h1, ← Option.some.inj h2]; exact e
              · exact hj j x y (by omega) h1 h2
          · obtain ⟨v, rfl, rfl, hj⟩ := h
            have z : eqd (.tup l') (.tup l) = true := by
              simp only [eqd]
              exact eqds_true hlen fun i x y h1 h2 => hj i x y (by have := (List.getElem?_eq_some_iff.mp h2).1; omega) h1 h2
            rw [z] at k; exact k
        · refine ifT (by simp; omega) ?_
          have z : eqd (.tup l') (.tup l) = false := by simp only [eqd]; exact eqds_len hlen
          rw [z] at k; exact k
      | non =>
        exact ifT rfl k
      | bl b =>
        exact ifT rfl k
      | int b =>
        exact ifT rfl k
      | str b =>
        exact ifT rfl k
      | lst b =>
        exact ifT rfl k
theorem ok_same (D : Dt K mg) : ∀ n, Has P w K mg base (n + 1) (He.ga K "_law_same") ["actual", "due"] [] (spSame n)
  | 0 => by
    obtain ⟨fd, F⟩ := fd__law_same D
    have b := F.bindsN (ps := ["actual", "due"]) fun _ _ _ _ _ _ us hl => match us, hl with | [_, _], _ => rfl
    refine ⟨F.kp, fd, [], .nil, b, (ok_same0 D F).imp fun vs H Q E h => ?_⟩
    obtain ⟨x, y, dx, dy, h1, h2, h3, h4, _, _, k⟩ := h
    refine ⟨x, y, dx, dy, h1, h2, h3, ?_, ?_, k⟩ <;> cases dy <;> first | rfl | (simp only [dep] at h4; omega)
  | n + 1 => by
    obtain ⟨fd, F⟩ := fd__law_same D
    have b := F.bindsN (ps := ["actual", "due"]) fun _ _ _ _ _ _ us hl => match us, hl with | [_, _], _ => rfl
    refine ⟨F.kp, fd, [], .nil, b, (fnOr ((ok_same0 D F).mono (by omega)) (ok_sameS D n (ok_same D n) F)).imp fun vs H Q E h => ?_⟩
    obtain ⟨x, y, dx, dy, h1, h2, h3, h4, h5, h6, k⟩ := h
    by_cases q : isT dy "tuple" = true ∨ isT dy "list" = true
    · exact .inr ⟨x, y, dx, dy, h1, h2, h3, h4, h5, h6, q, k⟩
    · refine .inl ⟨x, y, dx, dy, h1, h2, h3, ?_, ?_, k⟩ <;> cases dy <;> first | rfl | exact absurd (by first | exact .inl rfl | exact .inr rfl) q
/-! ### the law's sums, differences, products -/
def iZ : Rp (Int × Int) := fun H v p => ∃ a, v = .ref a ∧ H a = some (.tup [.int p.1, .int p.2])
instance : Mono iZ := ⟨fun s ⟨a, e, h⟩ => ⟨a, e, s _ _ h⟩⟩
def Fz (p : Int × Int) : Prop := p.1.natAbs < 2 ^ 900 ∧ p.2.natAbs < 2 ^ 900 ∧ 0 < p.2
def spZ (g h : Int × Int → Int × Int → Int) : Sp := fun vs H Q _ => ∃ (I : Hp) (a b : V) (p q : Int × Int), vs = [a, b] ∧ Same I H ∧ iZ I a p ∧ iZ I b q ∧ Fz p ∧ Fz q ∧ Ret [] I H iQ (rt (g p q) (h p q)) Q
theorem Fz.mul12 {p q : Int × Int} (hp : Fz p) (hq : Fz q) : CMulW p.1 q.2 := wide_mul hp.1 hq.2.1 (by decide) (by decide) (by decide)
theorem Fz.mul11 {p q : Int × Int} (hp : Fz p) (hq : Fz q) : CMulW p.1 q.1 := wide_mul hp.1 hq.1 (by decide) (by decide) (by decide)
theorem Fz.mul22 {p q : Int × Int} (hp : Fz p) (hq : Fz q) : CMulW p.2 q.2 := wide_mul hp.2.1 hq.2.1 (by decide) (by decide) (by decide)
theorem Fz.pos {p q : Int × Int} (hp : Fz p) (hq : Fz q) : 0 < p.2 * q.2 := Int.mul_pos hp.2.2 hq.2.2
theorem Fz.lt {p q : Int × Int} (hp : Fz p) (hq : Fz q) : p.2 * q.2 < 2 ^ 1999 := by
  have h := fit_lt (k := 1800) hp.2.1 hq.2.1 (by decide)
  have h2 : (2 : Nat) ^ 1800 < 2 ^ 1999 := by decide
  have h3 := hp.pos hq
  omega
theorem sc_plus : FnScope ["one", "other"] ["one", "other"] (defScope s__law_plus) := ⟨rfl, rfl, rfl, by decide +kernel, rfl, by decide +kernel, by decide +kernel⟩
theorem ok_plus (D : Dt K mg) : Has P w K mg base 2 (He.ga K "_law_plus") ["one", "other"] [] (spZ (fun p q => p.1 * q.2 + q.1 * p.2) fun p q => p.2 * q.2) := by
  obtain ⟨fd, F⟩ := fd__law_plus D
  have H__law_less := ok_ls (P := P) (w := w) (base := base) D
  refine hasN F (F.bindsN fun _ _ _ _ _ _ us hl => match us, hl with | [_, _], _ => rfl) sc_plus (fun vs H Q E h => ?_) (fun cdv A outer s H vs Q E hr h => ?_)
  · obtain ⟨I, a, b, p, q, rfl, _⟩ := h; rfl
  · obtain ⟨I, va, vb, p, q, rfl, s0, ⟨a, rfl, ha⟩, ⟨b, rfl, hb⟩, fp, fq, k⟩ := h
    have ha' := s0 _ _ ha
    have hb' := s0 _ _ hb
    refine ⟨_, (pss_one (ps_ret (pe_callH H__law_less (hr.mono (by decide)) rfl (glo__law_less D) passL (pa_cons (pe_op op_add (pe_op op_mulW (pe_ix ix_tup (pv 0) pe_int (fun _ _ => rfl)) (pe_ix ix_tup (pv 1) pe_int (fun _ _ => rfl))) (pe_op op_mulW (pe_ix ix_tup (pv 1) pe_int (fun _ _ => rfl)) (pe_ix ix_tup (pv 0) pe_int (fun _ _ => rfl)))) (pa_cons (pe_op op_mulW (pe_ix ix_tup (pv 0) pe_int (fun _ _ => rfl)) (pe_ix ix_tup (pv 1) pe_int (fun _ _ => rfl))) pa_nil))))), ?_⟩
    refine ⟨_, rfl, _, _, _, _, rfl, rfl, SqT.of ha', at_of (j := 0) rfl rfl, _, rfl, _, _, _, _, rfl, rfl, SqT.of hb', at_of (j := 1) rfl rfl, _, _, rfl, rfl, fp.mul12 fq, _, rfl, _, _, _, _, rfl, rfl, SqT.of hb', at_of (j := 0) rfl rfl, _, rfl, _, _, _, _, rfl, rfl, SqT.of ha', at_of (j := 1) rfl rfl, _, _, rfl, rfl, fq.mul12 fp, _, _, rfl, rfl, ?_⟩
    exact ⟨_, rfl, _, _, _, _, rfl, rfl, SqT.of ha', at_of (j := 1) rfl rfl, _, rfl, _, _, _, _, rfl, rfl, SqT.of hb', at_of (j := 1) rfl rfl, _, _, rfl, rfl, fp.mul22 fq, I, _, _, rfl, s0, fp.pos fq, fp.lt fq, k⟩
theorem sc_minus : FnScope ["one", "other"] ["one", "other"] (defScope s__law_minus) := ⟨rfl, rfl, rfl, by decide +kernel, rfl, by decide +kernel, by decide +kernel⟩
theorem ok_minus (D : Dt K mg) : Has P w K mg base 2 (He.ga K "_law_minus") ["one", "other"] [] (spZ (fun p q => p.1 * q.2 - q.1 * p.2) fun p q => p.2 * q.2) := by
  obtain ⟨fd, F⟩ := fd__law_minus D
  have H__law_less := ok_ls (P := P) (w := w) (base := base) D
  refine hasN F (F.bindsN fun _ _ _ _ _ _ us hl => match us, hl with | [_, _], _ => rfl) sc_minus (fun vs H Q E h => ?_) (fun cdv A outer s H vs Q E hr h => ?_)
  · obtain ⟨I, a, b, p, q, rfl, _⟩ := h; rfl
  · obtain ⟨I, va, vb, p, q, rfl, s0, ⟨a, rfl, ha⟩, ⟨b, rfl, hb⟩, fp, fq, k⟩ := h
    have ha' := s0 _ _ ha
    have hb' := s0 _ _ hb
    refine ⟨_, (pss_one (ps_ret (pe_callH H__law_less (hr.mono (by decide)) rfl (glo__law_less D) passL (pa_cons (pe_op op_sub (pe_op op_mulW (pe_ix ix_tup (pv 0) pe_int (fun _ _ => rfl)) (pe_ix ix_tup (pv 1) pe_int (fun _ _ => rfl))) (pe_op op_mulW (pe_ix ix_tup (pv 1) pe_int (fun _ _ => rfl)) (pe_ix ix_tup (pv 0) pe_int (fun _ _ => rfl)))) (pa_cons (pe_op op_mulW (pe_ix ix_tup (pv 0) pe_int (fun _ _ => rfl)) (pe_ix ix_tup (pv 1) pe_int (fun _ _ => rfl))) pa_nil))))), ?_⟩
    refine ⟨_, rfl, _, _, _, _, rfl, rfl, SqT.of ha', at_of (j := 0) rfl rfl, _, rfl, _, _, _, _, rfl, rfl, SqT.of hb', at_of (j := 1) rfl rfl, _, _, rfl, rfl, fp.mul12 fq, _, rfl, _, _, _, _, rfl, rfl, SqT.of hb', at_of (j := 0) rfl rfl, _, rfl, _, _, _, _, rfl, rfl, SqT.of ha', at_of (j := 1) rfl rfl, _, _, rfl, rfl, fq.mul12 fp, _, _, rfl, rfl, ?_⟩
    exact ⟨_, rfl, _, _, _, _, rfl, rfl, SqT.of ha', at_of (j := 1) rfl rfl, _, rfl, _, _, _, _, rfl, rfl, SqT.of hb', at_of (j := 1) rfl rfl, _, _, rfl, rfl, fp.mul22 fq, I, _, _, rfl, s0, fp.pos fq, fp.lt fq, k⟩
end
end K

set_option Elab.async false
set_option linter.all false
set_option maxRecDepth 100000
set_option maxHeartbeats 4000000
/-! Walks over things that stay; the lists that comprehensions make of them. -/
namespace Tk
open PySem PySem.Spec PyProof.Rows L2
/-- a thing walked in n turns, at turn i the value xs i -/
structure Wk (J : It) (n : Nat) (xs : Nat → V) (I : Hp) : Prop where
  go : ∀ i H, Same I H → i < n → J.go i H
  stop : ∀ H, Same I H → J.stop n H
  yld : ∀ i H x H', Same I H → i < n → J.yld i H x H' → x = xs i ∧ H' = H
def gv (vs : List V) (i : Nat) : V := vs.getD i .non
theorem gv_at {vs : List V} {i : Nat} (h : i < vs.length) : vs[i]? = some (gv vs i) := by
  unfold gv; rw [List.getD_eq_getElem?_getD, List.getElem?_eq_getElem h]; rfl
theorem gv_of {vs : List V} {i : Nat} {v : V} (h : vs[i]? = some v) : gv vs i = v := by
  unfold gv; rw [List.getD_eq_getElem?_getD, h]; rfl
section
variable {K : PySem.W.Frag} {I : Hp} {a : Addr} {vs : List V}
theorem wk_list (h : I a = some (.lst vs)) : Wk (Itl K a) vs.length (gv vs) I :=
  ⟨fun i H s hi => ⟨vs, _, SqL.of (s _ _ h), gv_at hi⟩, fun H s => ⟨vs, SqL.of (s _ _ h), Nat.le_refl _⟩,
    fun i H x H' s hi y => ⟨(gv_of (y.2 vs (SqL.of (s _ _ h)))).symm, y.1⟩⟩
theorem wk_tup (h : I a = some (.tup vs)) : Wk (Itt K a) vs.length (gv vs) I :=
  ⟨fun i H s hi => ⟨vs, _, SqT.of (s _ _ h), gv_at hi⟩, fun H s => ⟨vs, SqT.of (s _ _ h), Nat.le_refl _⟩,
    fun i H x H' s hi y => ⟨(gv_of (y.2 vs (SqT.of (s _ _ h)))).symm, y.1⟩⟩
theorem wk_range {lo : Int} {n : Nat} : Wk (Itr lo n) n (fun i => .int (lo + i)) I :=
  ⟨fun i H s hi => hi, fun H s => Nat.le_refl _, fun i H x H' s hi y => ⟨y.2, y.1⟩⟩
/-- a list or a tuple -/
def LtR (K : PySem.W.Frag) (x : V) (H1 : Hp) (R : It → Hp → Prop) : Prop := ∃ a, x = .ref a ∧ (((∃ xs, SqL K H1 a xs) ∧ R (Itl K a) H1) ∨ ((∃ xs, SqT K H1 a xs) ∧ R (Itt K a) H1))
def iLT (K : PySem.W.Frag) (tl : TE) : TI := fun σ H R => tl σ H fun x H1 => LtR K x H1 R
theorem pi_lt {X : Cx} {tg l : Expr} {tl : TE} (hl : PE X l tl) : PI X tg l (iLT X.K tl) := by
  refine ⟨fun pins s σ H R Iv h => ?_⟩
  refine thn (hl.run pins s σ H _ Iv h) fun v s1 q => ?_
  obtain ⟨x, H1, I1, r1, b, rfl, q⟩ := q
  cases r1
  rcases q with ⟨⟨xs, hq⟩, q⟩ | ⟨⟨xs, hq⟩, q⟩
  · have z : ∀ (te : TE) (v : V), True := fun _ _ => trivial
    obtain ⟨its, rv, p, hz⟩ := I1.list hq
    refine wpAny_pyIter_list p.isList ?_
    have ne : ∀ b' o, s1.heap.get? b' = some o → (s1.heap.push { cls := .type "list_iterator", data := .fields #[.ref b, .int 0 0] }).get? b' = some o := fun b' o e => Heap.get?_push_of_some _ e
    refine ⟨s1.heap.objs.size, [s1.heap.objs.size], _, _, H1, rfl, I1.kept (t' := s1.toks) ne, turn_list b s1.heap.objs.size, ⟨_, Heap.get?_push_size _ rfl, rfl, rfl⟩, fun b' hb => ?_, q⟩
    have e : b' = s1.heap.objs.size := by simpa using hb
    subst e
    exact I1.fpOk (Nat.le_refl _) (I1.hok.fresh (Nat.le_refl _))
  · obtain ⟨its, rv, p, hz⟩ := I1.tuple hq
    refine wpAny_pyIter_tuple p ?_
    have ne : ∀ b' o, s1.heap.get? b' = some o → (s1.heap.push { cls := .type "tuple_iterator", data := .fields #[.ref b, .int 0 0] }).get? b' = some o := fun b' o e => Heap.get?_push_of_some _ e
    refine ⟨s1.heap.objs.size, [s1.heap.objs.size], _, _, H1, rfl, I1.kept (t' := s1.toks) ne, turn_tuple b s1.heap.objs.size, ⟨_, Heap.get?_push_size _ rfl, rfl, rfl⟩, fun b' hb => ?_, q⟩
    have e : b' = s1.heap.objs.size := by simpa using hb
    subst e
    exact I1.fpOk (Nat.le_refl _) (I1.hok.fresh (Nat.le_refl _))
end
theorem lt_of {K : PySem.W.Frag} {I H : Hp} {a : Addr} {vs : List V} {R : It → Hp → Prop} (h : I a = some (.lst vs) ∨ I a = some (.tup vs)) (s : Same I H) (k : ∀ J, Wk J vs.length (gv vs) I → R J H) : LtR K (.ref a) H R :=
  ⟨a, rfl, h.elim (fun h => .inl ⟨⟨vs, SqL.of (s _ _ h)⟩, k _ (wk_list h)⟩) fun h => .inr ⟨⟨vs, SqT.of (s _ _ h)⟩, k _ (wk_tup h)⟩⟩
/-- a loop over such a thing -/
theorem for_wk {J : It} {n : Nat} {xs : Nat → V} {I : Hp} {g : TG} {tb : TS} {D : Ends} {σ : L2.St} {H : Hp} (W : Wk J n xs I) (Post : L2.St → Hp → Prop) (Pv : Nat → L2.St → Hp → Prop) (hS : ∀ i σ H, Pv i σ H → Same I H) (h0 : Pv 0 σ H)
    (hs : ∀ nx : L2.St → Hp → Prop, (∀ σ' H', Post σ' H' → nx σ' H') → ∀ i σ H, i < n → Pv i σ H → g (xs i) σ H fun σ2 H2 => tb { D with nx := Pv (i + 1), ct := Pv (i + 1), bk := nx } σ2 H2)
    (hd : ∀ σ H, Pv n σ H → Post σ H) (fin : ∀ σ' H', Post σ' H' → D.nx σ' H') :
    ∃ Wz : Nat → Nat → L2.St → Hp → Prop, (∃ m, Wz 0 m σ H) ∧ ∀ i m σ H, Wz i m σ H →
      (J.stop i H ∧ D.nx σ H) ∨ (J.go i H ∧ ∃ N : L2.St → Hp → Prop, (∀ σ' H', N σ' H' → ∃ m', m' < m ∧ Wz (i + 1) m' σ' H') ∧ ∀ x H', J.yld i H x H' → g x σ H' fun σ2 H2 => tb { D with nx := N, ct := N, bk := D.nx } σ2 H2) := by
  refine ⟨fun i m σ H => m = n - i ∧ i ≤ n ∧ Pv i σ H, ⟨n, rfl, Nat.zero_le _, h0⟩, ?_⟩
  rintro i m σ H ⟨rfl, hi, p⟩
  have s := hS i σ H p
  by_cases hlt : i < n
  · refine .inr ⟨W.go i H s hlt, Pv (i + 1), fun σ' H' p' => ⟨n - (i + 1), by omega, rfl, hlt, p'⟩, fun x H' y => ?_⟩
    obtain ⟨rfl, rfl⟩ := W.yld i H x H' s hlt y
    exact hs D.nx fin i σ _ hlt p
  · have e : i = n := by omega
    subst e
    exact .inl ⟨W.stop H s, fin σ H (hd σ H p)⟩
/-- the rest of a comprehension's reading, behind its iterator -/
abbrev LcR (J : It) (g : TG) (tt : TT) (te : TE) (vs : List Nat) (σ : L2.St) (H1 : Hp) (D : Addr) (Qd : Hp → Prop) : Prop :=
  ∃ W : Nat → Nat → Hp → Prop, (∃ m, W 0 m (upd H1 D (.lst []))) ∧ ∀ i m H, W i m H →
      (J.stop i H ∧ Qd H) ∨ (J.go i H ∧ ∃ Nx : Hp → Prop, (∀ H', Nx H' → ∃ m', m' < m ∧ W (i + 1) m' H') ∧ ∀ x H', J.yld i H x H' → g x (wipe σ vs) H' fun σ2 H2 => wipe σ2 vs = wipe σ vs ∧ tt σ2 H2 fun b H3 =>
        if b = true then te σ2 H3 fun y H4 => ∃ acc, H4 D = some (.lst acc) ∧ acc.length < sizeLine ∧ Nx (upd H4 D (.lst (acc ++ [y]))) else Nx H3)
theorem All2.snoc {α : Type} {R : V → α → Prop} {vs : List V} {xs : List α} {v : V} {x : α} (h : All2 R vs xs) (r : R v x) : All2 R (vs ++ [v]) (xs ++ [x]) := h.append (.cons r .nil)
/-- what a heap's own rule bears: the list under way at D, and that it stays from then on -/
structure Stb (Jv : Hp → Hp → Prop) (D : Addr) : Prop where
  chg : ∀ {I H : Hp} {l : List V}, I D = none → Jv I H → Jv I (upd H D (.lst l))
  frz : ∀ {I H : Hp} {o : HO}, I D = none → Jv I H → Jv (upd I D o) H
theorem stb_true {D : Addr} : Stb (fun _ _ => True) D := ⟨fun _ _ => trivial, fun _ _ => trivial⟩
theorem Gr.drop {m : Addr} {ms : List Addr} {I H I' H' : Hp} (g : Gr (m :: ms) I H I' H') (h : H m = none) : Gr ms I H I' H' :=
  ⟨g.ii, g.ih, fun a o n e => g.hh a o (fun z => (List.mem_cons.mp z).elim (fun q => by rw [q, h] at e; cases e) n) e, g.th, g.nw⟩
/-- a comprehension without tests over such a thing: one element a turn, what it is told by Rl -/
theorem lc_wk {β : Type} {J : It} {n : Nat} {xs : Nat → V} {I H1 : Hp} {g : TG} {tt : TT} {te : TE} {vs : List Nat} {σ : L2.St} {D : Addr} {Qd : Hp → Prop} (ms : List Addr) (Sy : Rp β) [Mono Sy] (Rl : Nat → β → Prop) (Jv : Hp → Hp → Prop)
    (W : Wk J n xs I) (s0 : Same I H1) (hD : H1 D = none) (hm : D ∉ ms) (hn : n < sizeLine) (st : Stb Jv D) (j0 : Jv I H1)
    (step : ∀ (i : Nat) (I' H' : Hp) (Nx : Hp → Prop) (Qk : VK), i < n → Same I I' → Same I' H' → Jv I' H' → (∀ I'' H'' y z, Gr ms I' H' I'' H'' → Jv I'' H'' → Sy I'' y z → Rl i z → Qk y H'') →
      g (xs i) (wipe σ vs) H' fun σ2 H2 => wipe σ2 vs = wipe σ vs ∧ tt σ2 H2 fun b H3 => if b = true then te σ2 H3 Qk else Nx H3)
    (hd : ∀ I' H' ys zs, Gr ms I H1 I' H' → I' D = some (.lst ys) → All2 (Sy I') ys zs → zs.length = n → (∀ i z, zs[i]? = some z → Rl i z) → Jv I' H' → Qd H') :
    LcR J g tt te vs σ H1 D Qd := by
  refine ⟨fun i m H => m = n - i ∧ i ≤ n ∧ ∃ I' ys zs, Gr ms I H1 I' H ∧ I' D = none ∧ H D = some (.lst ys) ∧ All2 (Sy I') ys zs ∧ zs.length = i ∧ (∀ i z, zs[i]? = some z → Rl i z) ∧ Jv I' H,
    ⟨n, rfl, Nat.zero_le _, I, [], [], (Gr.tmp s0 hD), s0.free hD, upd_same, .nil, rfl, fun i z h => by simp at h, st.chg (s0.free hD) j0⟩, ?_⟩
  rintro i m H ⟨rfl, hi, I', ys, zs, gr, hI, hH, a2, hl, rl, jv⟩
  have s : Same I H := gr.ii.trans gr.ih
  by_cases hlt : i < n
  · refine .inr ⟨W.go i H s hlt, fun H' => i + 1 ≤ n ∧ ∃ I' ys zs, Gr ms I H1 I' H' ∧ I' D = none ∧ H' D = some (.lst ys) ∧ All2 (Sy I') ys zs ∧ zs.length = i + 1 ∧ (∀ i z, zs[i]? = some z → Rl i z) ∧ Jv I' H',
      fun H' p => ⟨n - (i + 1), by omega, rfl, p.1, p.2⟩, fun x H' y => ?_⟩
    obtain ⟨rfl, rfl⟩ := W.yld i H x H' s hlt y
    refine step i I' H' _ _ hlt gr.ii gr.ih jv fun I'' H'' y z g2 jv2 sy r => ?_
    have hD2 : H'' D = some (.lst ys) := g2.at hH hm
    have hI2 : I'' D = none := g2.out hI hH
    refine ⟨ys, hD2, by rw [a2.len, hl]; omega, hlt, I'', ys ++ [y], zs ++ [z], ?_, hI2, upd_same, (a2.mono fun _ _ => up g2.ii).snoc sy, by rw [List.length_append, hl]; rfl, fun j u hu => ?_, st.chg hI2 jv2⟩
    · have g3 := gr.trans g2
      exact ((g3.mono (ns := D :: ms) fun _ z => List.mem_cons_of_mem _ z).trans (Gr.mut g3.ih hI2 List.mem_cons_self)).drop hD
    · by_cases hj : j < zs.length
      · rw [List.getElem?_append_left hj] at hu; exact rl j u hu
      · rw [List.getElem?_append_right (by omega)] at hu
        have : j - zs.length = 0 := by
          rcases Nat.eq_zero_or_pos (j - zs.length) with h | h
          · exact h
          · rw [List.getElem?_eq_none (by simp; omega)] at hu; cases hu
        rw [this] at hu
        simp at hu
        subst hu
        have : j = i := by omega
        rw [this]; exact r
  · have e : i = n := by omega
    subst e
    refine .inl ⟨W.stop H s, hd (upd I' D (.lst ys)) H ys zs (gr.mono (fun _ z => List.mem_cons_of_mem _ z) |>.frz s0 hD hH) upd_same (a2.mono fun _ _ => up (sNew hI)) hl rl (st.frz hI jv)⟩
end Tk

set_option Elab.async false
set_option linter.all false
set_option maxRecDepth 100000
set_option maxHeartbeats 4000000
/-! zip of a list or a tuple with a tuple. -/
namespace Tk
open PySem PySem.Spec PyProof.Rows L2
def SqB (K : PySem.W.Frag) (l : Bool) (H : Hp) (a : Addr) (xs : List V) : Prop := match l with
  | true => SqL K H a xs
  | false => SqT K H a xs
def ItB (l : Bool) (h : Heap) (i a : Addr) (k : Nat) : Prop := match l with
  | true => h.IsListIter i a k
  | false => h.IsTupleIter i a k
def IsB (l : Bool) (h : Heap) (a : Addr) (its : Array Value) : Prop := match l with
  | true => h.IsList a its
  | false => h.IsTuple a its
theorem ItB.fld {l : Bool} {h : Heap} {i a : Addr} {k : Nat} (t : ItB l h i a k) : ∃ o, h.get? i = some o ∧ ∀ v, o.data ≠ .cell v := by
  cases l with
  | true => obtain ⟨o, e, _, d⟩ := t; exact ⟨o, e, fun v q => by rw [d] at q; cases q⟩
  | false => obtain ⟨o, e, _, d⟩ := t; exact ⟨o, e, fun v q => by rw [d] at q; cases q⟩
theorem ItB.keep {l : Bool} {h h' : Heap} {i a : Addr} {k : Nat} (t : ItB l h i a k) (e : ∀ o, h.get? i = some o → h'.get? i = some o) : ItB l h' i a k := by
  cases l with
  | true => exact Heap.IsListIter.at t e
  | false => exact Heap.IsTupleIter.at t e
theorem drawsB {prog : Program} {w : World} {A : Around} (hh : A.handled = none) (l : Bool) (it a : Addr) (hne : a ≠ it) (its : Array Value) :
    Draws prog w A it [it, a] its.size (fun i v => its[i]? = some v) (fun i h => ItB l h it a i ∧ IsB l h a its) := by
  cases l with
  | true => exact Draws.list hh it a hne its
  | false => exact Draws.tuple hh it a hne its
section
variable {X : Cx} {pins : List (Addr × Obj)} {σ : L2.St} {H : Hp} {s : Shared}
theorem sqB_at {l : Bool} {a : Addr} {xs : List V} (I : Inv X pins σ H s) (h : SqB X.K l H a xs) : ∃ its : List Value, Vals xs its ∧ IsB l s.heap a its.toArray ∧ a < s.heap.objs.size := by
  cases l with
  | true => obtain ⟨its, r, p, _⟩ := I.list h; exact ⟨its, r, p.isList, p.lt⟩
  | false =>
    obtain ⟨its, r, p, _⟩ := I.tuple h
    obtain ⟨o, e, _⟩ := id p
    exact ⟨its, r, p, Heap.lt_size e⟩
theorem sqB_inj {l : Bool} {a : Addr} {xs ys : List V} (I : Inv X pins σ H s) (h : SqB X.K l H a xs) (k : SqB X.K l H a ys) : xs = ys := by
  cases l with
  | true => exact I.list_inj h k
  | false => exact I.tuple_inj h k
end
/-- new pairs of what stands at a and at b -/
def ItzM (K : PySem.W.Frag) (l m : Bool) (a b : Addr) : It :=
  ⟨fun i H => ∃ xs ys x y, (SqB K l H a xs ∧ xs[i]? = some x) ∧ SqB K m H b ys ∧ ys[i]? = some y,
    fun i H v H' => ∃ t x y, v = .ref t ∧ H t = none ∧ H' = upd H t (.tup [x, y]) ∧ (∀ xs, SqB K l H a xs → xs[i]? = some x) ∧ ∀ ys, SqB K m H b ys → ys[i]? = some y,
    fun i H => ∃ xs ys, SqB K l H a xs ∧ SqB K m H b ys ∧ i ≤ xs.length ∧ i ≤ ys.length ∧ (i = xs.length ∨ i = ys.length)⟩
/-- where the five objects of a zip lie -/
structure Zs (z TI TO i1 i2 a b : Addr) : Prop where
  sep : ZipSep2 z TI TO i1 i2 [i1, a] [i2, b]
  a1 : a ≠ i1
  b2 : b ≠ i2
theorem two_not {c x y : Addr} (h1 : c ≠ x) (h2 : c ≠ y) : c ∉ [x, y] := fun h => by
  rcases List.mem_cons.mp h with e | h
  · exact h1 e
  · rcases List.mem_cons.mp h with e | h
    · exact h2 e
    · exact nomatch h
theorem zs_new {n a b : Addr} (ha : a < n) (hb : b < n) : Zs (n + 4) (n + 2) (n + 3) n (n + 1) a b := by
  have D := PySem.W.ktu_apart n a b ha hb
  exact ⟨⟨D.TIz, D.TOz, D.TITO, D.TIi1, List.mem_cons_self, two_not D.i1z.symm D.l1z.symm, two_not D.TOi1 D.l1TO.symm, D.TIi2, List.mem_cons_self, two_not D.i2z.symm D.l2z.symm, two_not D.TOi2 D.l2TO.symm, two_not D.i12 D.l2i1.symm, two_not D.i12.symm D.l1i2.symm⟩, D.l1i1, D.l2i2⟩
theorem turn_zipM {P : Program} {w : World} {K : PySem.W.Frag} {elts : List Expr} {kk : Nat} {tpos : Pos} {l m : Bool} {a b z TI TO i1 i2 : Addr} (Z : Zs z TI TO i1 i2 a b) :
    Turn P w K (.Tuple elts kk tpos) (ItzM K l m a b) [z, TI, TO, i1, i2] z (fun i h => (IsZip h z TI TO .none ∧ IsPair h TI (.ref i1) (.ref i2) ∧ ∃ x y, IsPair h TO x y) ∧ ItB l h i1 a i ∧ ItB m h i2 b i) where
  mem := List.mem_cons_self
  obj := fun i h ⟨⟨hz, hI, x, y, hO⟩, h1, h2⟩ c hc => by
    simp only [List.mem_cons, List.not_mem_nil, or_false] at hc
    rcases hc with rfl | rfl | rfl | rfl | rfl
    · exact ⟨_, hz, nofun⟩
    · exact ⟨_, hI, nofun⟩
    · exact ⟨_, hO, nofun⟩
    · exact h1.fld
    · exact h2.fld
  keep := fun i h h' ⟨⟨hz, hI, x, y, hO⟩, h1, h2⟩ k =>
    ⟨⟨k _ (by simp) _ hz, k _ (by simp) _ hI, x, y, k _ (by simp) _ hO⟩, h1.keep (k _ (by simp)), h2.keep (k _ (by simp))⟩
  item := by
    rintro X rfl rfl rfl hc i pins s σ H E Iv hf ⟨⟨hz, hI, x0, y0, hO⟩, h1, h2⟩ ⟨xs, ys, x, y, ⟨qx, hx⟩, qy, hy⟩
    obtain ⟨its, rv, p1, _⟩ := sqB_at Iv qx
    obtain ⟨jts, rw', p2, _⟩ := sqB_at Iv qy
    obtain ⟨u, hu, ru⟩ := rv.get hx
    obtain ⟨u2, hu2, ru2⟩ := rw'.get hy
    have hh : X.A.in1.handled = none := Iv.ok.hd hc
    have lz := Heap.lt_size hz
    have b1 : i < its.toArray.size := by
      have := (List.getElem?_eq_some_iff.mp hu).1; simpa using this
    have b2 : i < jts.toArray.size := by
      have := (List.getElem?_eq_some_iff.mp hu2).1; simpa using this
    refine wpAny_pyNext_zipD2_item Z.sep (drawsB (A := X.A.in1) hh l i1 a Z.a1 its.toArray) (drawsB (A := X.A.in1) hh m i2 b Z.b2 jts.toArray) hz hI hO ⟨h1, p1⟩ ⟨h2, p2⟩ b1 b2 fun v1 v2 h' tk e1 e2 z' O' d1 d2 hT hs hk => ?_
    have e1' : u = v1 := by
      have : its.toArray[i]? = some u := by simpa using hu
      rw [this] at e1; exact Option.some.inj e1
    have e2' : u2 = v2 := by
      have : jts.toArray[i]? = some u2 := by simpa using hu2
      rw [this] at e2; exact Option.some.inj e2
    subst e1' e2'
    refine ⟨_, rfl, wpAny_letOwnedTupleGo_zip (s := { s with heap := h', toks := tk }) z' fun h'' z'' sb => ?_⟩
    have hT2 : h''.get? s.heap.objs.size = some { cls := .type "tuple", data := .seq #[u, u2] } := (sb.2 _ (Nat.ne_of_gt lz)).trans hT
    have hn : H s.heap.objs.size = none := Iv.hok.fresh (Nat.le_refl _)
    have kp : ∀ c o, c ∉ [z, TI, TO, i1, i2] → s.heap.get? c = some o → h''.get? c = some o := fun c o hcn q => by
      simp only [List.mem_cons, List.not_mem_nil, or_false, not_or] at hcn
      exact (sb.2 c hcn.1).trans (hk c o hcn.1 hcn.2.2.1 hcn.2.2.2.1 hcn.2.2.2.2 q)
    have I1 : Inv X pins σ (upd H s.heap.objs.size (.tup [x, y])) { s with heap := h'', toks := tk } :=
      Iv.turnedNew (t' := tk) (ch := [z, TI, TO, i1, i2]) kp hf (Nat.le_refl _) ⟨by show 2 ≤ sizeLine; decide, [u, u2], .cons ru (.cons ru2 .nil), ⟨_, hT2, rfl, _, rfl⟩⟩
    have S := Z.sep
    refine ⟨.ref s.heap.objs.size, _, I1, rfl, ⟨_, x, y, rfl, hn, rfl, fun l hl => by rw [sqB_inj Iv hl qx]; exact hx, fun l hl => by rw [sqB_inj Iv hl qy]; exact hy⟩,
      ⟨⟨z'', (sb.2 _ S.TIz).trans (hk _ _ S.TIz S.TITO S.TIi1 S.TIi2 hI), u, u2, (sb.2 _ S.TOz).trans O'⟩, d1.1.keep fun o q => (sb.2 _ S.zi1.symm).trans q, d2.1.keep fun o q => (sb.2 _ S.zi2.symm).trans q⟩, fun c hcm => ?_⟩
    have hlt : c ≠ s.heap.objs.size := by
      simp only [List.mem_cons, List.not_mem_nil, or_false] at hcm
      rcases hcm with rfl | rfl | rfl | rfl | rfl
      · exact Nat.ne_of_lt lz
      · exact Nat.ne_of_lt (Heap.lt_size hI)
      · exact Nat.ne_of_lt (Heap.lt_size hO)
      · obtain ⟨_, e, _⟩ := h1.fld; exact Nat.ne_of_lt (Heap.lt_size e)
      · obtain ⟨_, e, _⟩ := h2.fld; exact Nat.ne_of_lt (Heap.lt_size e)
    rw [upd_ne hlt]
    exact (hf c hcm).1
  done := by
    rintro X rfl rfl rfl hc i pins s σ H E Iv hf ⟨⟨hz, hI, x0, y0, hO⟩, h1, h2⟩ ⟨xs, ys, qx, qy, l1, l2, hend⟩
    obtain ⟨its, rv, p1, _⟩ := sqB_at Iv qx
    obtain ⟨jts, rw', p2, _⟩ := sqB_at Iv qy
    have hh : X.A.in1.handled = none := Iv.ok.hd hc
    have n1 := rv.length
    have n2 := rw'.length
    refine wpAny_pyNext_zipD2_end Z.sep (drawsB (A := X.A.in1) hh l i1 a Z.a1 its.toArray) (drawsB (A := X.A.in1) hh m i2 b Z.b2 jts.toArray) hz hI hO ⟨h1, p1⟩ ⟨h2, p2⟩ (by simp; omega) (by simp; omega)
      (by simp only [List.size_toArray]; omega) fun h' tk hk => ⟨rfl, Iv.turnedL (t' := tk) (ch := [z, TI, TO, i1, i2]) (fun c o hcn q => ?_) hf⟩
    simp only [List.mem_cons, List.not_mem_nil, or_false, not_or] at hcn
    exact hk c o hcn.1 hcn.2.2.1 hcn.2.2.2.1 hcn.2.2.2.2 q
  self := fun A i s Q E st h => wpAny_pyIter_zip st.1.1 h
def iZipM (K : PySem.W.Frag) (ta : TA) : TI := fun σ H R => ta σ H fun vs H1 => ∃ (l m : Bool) (a b : Addr) (xs ys : List V), vs = [.ref a, .ref b] ∧ SqB K l H1 a xs ∧ SqB K m H1 b ys ∧ R (ItzM K l m a b) H1
theorem beginsB (l : Bool) (a : Addr) (its : Array Value) : ∃ o : Obj, Begins (.ref a) o (fun h => IsB l h a its) ∧ ∀ h i, h.get? i = some o → ItB l h i a 0 := by
  cases l with
  | true => exact ⟨_, begins_list a its, fun h i e => ⟨_, e, rfl, rfl⟩⟩
  | false => exact ⟨_, begins_tuple a its, fun h i e => ⟨_, e, rfl, rfl⟩⟩
theorem pi_zipM {X : Cx} {e e2 : Expr} {ta : TA} {p pos tpos : Pos} {elts : List Expr} {kk : Nat} (hg : Gl X "zip") (hm : X.mg "zip" = none) (ha : PA X [e, e2] ta)
    (hs : starEach [e, e2] X.env = (false, eval e X.env) :: starEach [e2] X.env := by rfl) (hpl : (backTo pos (starEach [e2] X.env)).any (·.1) = false := by rfl) :
    PI X (.Tuple elts kk tpos) (.Call (.Name "zip" p) [e, e2] [] pos) (iZipM X.K ta) := by
  refine ⟨fun pins s σ H R Iv h => ?_⟩
  refine Call_ (ld_blt Iv hg hm PyProof.Rows.boot_zip (PyProof.Rows.callWith_type1 (thn (ha.run pos pins s σ H _ Iv h) fun us s1 q1 => ?_) hs hpl))
  obtain ⟨vs, H1, I1, r1, l, m, a, b, xs, ys, rfl, qx, qy, q⟩ := q1
  cases r1 with
  | cons ra rr =>
    cases rr with
    | cons rb rr =>
      cases rr
      cases ra
      cases rb
      obtain ⟨its, _, p1, la⟩ := sqB_at I1 qx
      obtain ⟨jts, _, p2, lb⟩ := sqB_at I1 qy
      obtain ⟨o1, B1, k1⟩ := beginsB l a its.toArray
      obtain ⟨o2, B2, k2⟩ := beginsB m b jts.toArray
      refine zip_begins2 B1 B2 p1 p2 fun h' hz hI hO g1 g2 hsz hk => wpAny_pyIter_zip hz ?_
      refine ⟨_, _, _, _, H1, rfl, I1.kept (t' := s1.toks) hk, turn_zipM (zs_new la lb), ⟨⟨hz, hI, _, _, hO⟩, k1 _ _ g1, k2 _ _ g2⟩, fun c hcm => ?_, q⟩
      have hle : s1.heap.objs.size ≤ c := by
        simp only [List.mem_cons, List.not_mem_nil, or_false] at hcm
        rcases hcm with rfl | rfl | rfl | rfl | rfl
        · exact Nat.le_add_right _ _
        · exact Nat.le_add_right _ _
        · exact Nat.le_add_right _ _
        · exact Nat.le_refl _
        · exact Nat.le_add_right _ _
      exact I1.fpOk hle (I1.hok.fresh hle)
end Tk

set_option Elab.async false
set_option linter.all false
set_option maxRecDepth 100000
set_option maxHeartbeats 4000000
/-! Rules that name K itself (in a comprehension's block the context's K is no name that the reading could keep). -/
namespace Tk
open PySem PySem.Spec PyProof.Rows L2
structure rTup (K : PySem.W.Frag) (xs : List V) (H : Hp) (Q : VK) : Prop where
  h : ∃ p ys, xs = [.ref p] ∧ ((SqL K H p ys ∧ ∀ l, H l = none → Q (.ref l) (upd H l (.tup ys))) ∨ (SqT K H p ys ∧ Q (.ref p) H))
section
variable {X : Cx} (K : PySem.W.Frag) {e l : Expr} {ta : TE} {f : Str} {pos p tpos : Pos} {tg : Expr} {tl : TE}
theorem pe_fldK (he : PE X e ta) (hb : attributeBase e f X.env (eval e X.env) = eval e X.env) (hK : X.K = K := by rfl) : PE X (.Attribute e f pos) (tFld K ta f) := hK ▸ pe_fld he hb
theorem ix_listK (hK : X.K = K := by rfl) : IxR X (rIxL K) := hK ▸ ix_list
theorem ix_tupK (hK : X.K = K := by rfl) : IxR X (rIxT K) := hK ▸ ix_tup
theorem sl_listK (hK : X.K = K := by rfl) : SlR X (rSlL K) := hK ▸ sl_list
theorem call_lenK (hK : X.K = K := by rfl) : CallR X (.builtin "len") (fun xs H Q => ∃ x n, xs = [x] ∧ LenV K x H n ∧ Q (.int n) H) := hK ▸ call_len
theorem call_list_ofK (hK : X.K = K := by rfl) : CallR X (.type "list") (fun xs H Q => ∃ p ys, xs = [.ref p] ∧ (SqL K H p ys ∨ SqT K H p ys) ∧ ∀ l, H l = none → Q (.ref l) (upd H l (.lst ys))) := hK ▸ call_list_of
theorem call_tuple_ofK (hK : X.K = K := by rfl) : CallR X (.type "tuple") (rTup K) := by
  subst hK
  intro pins s σ H vs us Q I r h
  exact call_tuple_of pins s σ H vs us Q I r h.h
theorem op_catTK (hK : X.K = K := by rfl) : OpR X (binaryOp .Add) (rCatT K) := hK ▸ op_catT
theorem op_neDK (hu : X.A.units + 64 < cLine) (hK : X.K = K := by rfl) : OpR X (compareOp .NotEq) (rNeD K) := hK ▸ op_neD hu
theorem op_eqDK (hu : X.A.units + 64 < cLine) (hK : X.K = K := by rfl) : OpR X (compareOp .Eq) (rEqD K) := hK ▸ op_eqD hu
theorem pg_tupK {es : List Expr} {k : Nat} {t : TGs} {n : Nat} (hc : X.calm = true) (h : PGs X es t) (hK : X.K = K := by rfl)
    (hn : (assignEach es X.env).length = n := by rfl) (hst : (assignEach es X.env).findIdx? (·.1) = none := by rfl) : PG X (.Tuple es k pos) (gTup K n t) := hK ▸ pg_tup hc h hn hst
theorem pi_listK (hl : PE X l tl) (hK : X.K = K := by rfl) : PI X tg l (iList K tl) := hK ▸ pi_list hl
theorem pi_tupK (hl : PE X l tl) (hK : X.K = K := by rfl) : PI X tg l (iTup K tl) := hK ▸ pi_tup hl
theorem pi_ltK (hl : PE X l tl) (hK : X.K = K := by rfl) : PI X tg l (iLT K tl) := hK ▸ pi_lt hl
theorem pi_zipMK {e2 : Expr} {t2 : TA} {elts : List Expr} {kk : Nat} (hg : Gl X "zip") (hm : X.mg "zip" = none) (ha : PA X [e, e2] t2) (hK : X.K = K := by rfl)
    (hs : starEach [e, e2] X.env = (false, eval e X.env) :: starEach [e2] X.env := by rfl) (hpl : (backTo pos (starEach [e2] X.env)).any (·.1) = false := by rfl) :
    PI X (.Tuple elts kk tpos) (.Call (.Name "zip" p) [e, e2] [] pos) (iZipM K t2) := hK ▸ pi_zipM hg hm ha hs hpl
theorem cr_allK (hc : X.calm = true) (hK : X.K = K := by rfl) : CallR X (.builtin "all") (rAll K) := hK ▸ cr_all hc
theorem cr_anyK (hc : X.calm = true) (hK : X.K = K := by rfl) : CallR X (.builtin "any") (rAny K) := hK ▸ cr_any hc
theorem cr_sumK (hc : X.calm = true) (hK : X.K = K := by rfl) : CallR X (.builtin "sum") (rSum K) := hK ▸ cr_sum hc
theorem call_isiK (hK : X.K = K := by rfl) : CallR X (.builtin "isinstance") (rIsi K) := hK ▸ call_isi
end
end Tk

set_option Elab.async false
set_option linter.all false
set_option maxRecDepth 100000
set_option maxHeartbeats 4000000
/-! Two clauses: all elements in one list. -/
namespace Tk
open PySem PySem.Spec PyProof.Rows L2
def flat {β : Type} (ks : Nat → Nat) (f : Nat → Nat → β) (n : Nat) : List β := (List.range n).flatMap fun i => (List.range (ks i)).map (f i)
theorem flat_succ {β : Type} {ks : Nat → Nat} {f : Nat → Nat → β} {n : Nat} : flat ks f (n + 1) = flat ks f n ++ (List.range (ks n)).map (f n) := by
  unfold flat; rw [List.range_succ, List.flatMap_append]; simp
theorem flat_le {β : Type} {ks : Nat → Nat} {f : Nat → Nat → β} {i n : Nat} (h : i ≤ n) : (flat ks f i).length ≤ (flat ks f n).length := by
  induction n with
  | zero => have : i = 0 := by omega
            subst this; exact Nat.le_refl _
  | succ n ih =>
    by_cases e : i = n + 1
    · subst e; exact Nat.le_refl _
    · refine Nat.le_trans (ih (by omega)) ?_
      rw [flat_succ, List.length_append]; omega
theorem flat_lt {β : Type} {ks : Nat → Nat} {f : Nat → Nat → β} {i j n : Nat} (h : i < n) (hj : j < ks i) : (flat ks f i ++ (List.range j).map (f i)).length < (flat ks f n).length := by
  have := flat_le (ks := ks) (f := f) (i := i + 1) (n := n) h
  rw [flat_succ] at this
  simp only [List.length_append, List.length_map, List.length_range] at this ⊢
  omega
abbrev LcR2 (J : It) (g : TG) (tt : TT) (wi1 : TI) (g1 : TG) (tt1 : TT) (te : TE) (vs vs1 : List Nat) (σ : L2.St) (H1 : Hp) (D : Addr) (Qd : Hp → Prop) : Prop :=
  ∃ W : Nat → Nat → Hp → Prop, (∃ m, W 0 m (upd H1 D (.lst []))) ∧ ∀ i m H, W i m H →
  (J.stop i H ∧ Qd H) ∨ (J.go i H ∧ ∃ Nx : Hp → Prop, (∀ H', Nx H' → ∃ m', m' < m ∧ W (i + 1) m' H') ∧ ∀ x H', J.yld i H x H' → g x (wipe σ vs) H' fun σ2 H2 => wipe σ2 vs = wipe σ vs ∧ tt σ2 H2 fun b H3 =>
    if b = true then wi1 σ2 H3 fun J1 H4 => ∃ W1 : Nat → Nat → Hp → Prop, (∃ m, W1 0 m H4) ∧ ∀ j k H, W1 j k H →
      (J1.stop j H ∧ Nx H) ∨ (J1.go j H ∧ ∃ Nx1 : Hp → Prop, (∀ H', Nx1 H' → ∃ k', k' < k ∧ W1 (j + 1) k' H') ∧ ∀ x H', J1.yld j H x H' → g1 x (wipe σ2 vs1) H' fun σ3 H5 => wipe σ3 vs1 = wipe σ2 vs1 ∧ tt1 σ3 H5 fun b H6 =>
        if b = true then te σ3 H6 fun y H7 => ∃ acc, H7 D = some (.lst acc) ∧ acc.length < sizeLine ∧ Nx1 (upd H7 D (.lst (acc ++ [y]))) else Nx1 H6)
    else Nx H3)
theorem lc2_wk {β : Type} {J : It} {n : Nat} {xs : Nat → V} {I H1 : Hp} {g g1 : TG} {tt tt1 : TT} {te : TE} {wi1 : TI} {vs vs1 : List Nat} {σ : L2.St} {D : Addr} {Qd : Hp → Prop} (Sy : Rp β) [Mono Sy] (ks : Nat → Nat) (f : Nat → Nat → β)
    (W : Wk J n xs I) (s0 : Same I H1) (hD : H1 D = none) (hn : (flat ks f n).length ≤ sizeLine)
    (step : ∀ (i : Nat) (I' H' : Hp) (Nx : Hp → Prop) (R2 : L2.St → It → Hp → Prop), i < n → Same I I' → Same I' H' →
      (∀ (σ2 : L2.St) (J1 : It) (xs1 : Nat → V), Wk J1 (ks i) xs1 I' →
        (∀ (j : Nat) (I2 H2 : Hp) (Nx1 : Hp → Prop) (Qk : VK), j < ks i → Same I' I2 → Same I2 H2 → (∀ I'' H'' y, Gr [] I2 H2 I'' H'' → Sy I'' y (f i j) → Qk y H'') →
          g1 (xs1 j) (wipe σ2 vs1) H2 fun σ3 H5 => wipe σ3 vs1 = wipe σ2 vs1 ∧ tt1 σ3 H5 fun b H6 => if b = true then te σ3 H6 Qk else Nx1 H6) → R2 σ2 J1 H') →
      g (xs i) (wipe σ vs) H' fun σ2 H2 => wipe σ2 vs = wipe σ vs ∧ tt σ2 H2 fun b H3 => if b = true then wi1 σ2 H3 (R2 σ2) else Nx H3)
    (hd : ∀ I' H' ys, Gr [] I H1 I' H' → I' D = some (.lst ys) → All2 (Sy I') ys (flat ks f n) → Qd H') :
    LcR2 J g tt wi1 g1 tt1 te vs vs1 σ H1 D Qd := by
  let Mid : List β → Hp → Prop := fun zs H => ∃ I' ys, Gr [] I H1 I' H ∧ I' D = none ∧ H D = some (.lst ys) ∧ All2 (Sy I') ys zs
  refine ⟨fun i m H => m = n - i ∧ i ≤ n ∧ Mid (flat ks f i) H, ⟨n, rfl, Nat.zero_le _, I, [], (Gr.tmp s0 hD), s0.free hD, upd_same, .nil⟩, ?_⟩
  rintro i m H ⟨rfl, hi, I', ys, gr, hI, hH, a2⟩
  have s : Same I H := gr.ii.trans gr.ih
  by_cases hlt : i < n
  · refine .inr ⟨W.go i H s hlt, fun H' => i + 1 ≤ n ∧ Mid (flat ks f (i + 1)) H', fun H' p => ⟨n - (i + 1), by omega, rfl, p.1, p.2⟩, fun x H' y => ?_⟩
    obtain ⟨rfl, rfl⟩ := W.yld i H x H' s hlt y
    refine step i I' H' _ (fun σ2 J1 H4 => ∃ W1 : Nat → Nat → Hp → Prop, (∃ m, W1 0 m H4) ∧ ∀ j k H, W1 j k H → _) hlt gr.ii gr.ih fun σ2 J1 xs1 W1 st => ?_
    refine ⟨fun j k H => k = ks i - j ∧ j ≤ ks i ∧ ∃ I2 ys, Gr [] I H1 I2 H ∧ Same I' I2 ∧ I2 D = none ∧ H D = some (.lst ys) ∧ All2 (Sy I2) ys (flat ks f i ++ (List.range j).map (f i)),
      ⟨ks i, rfl, Nat.zero_le _, I', ys, gr, Same.refl _, hI, hH, by simpa using a2⟩, ?_⟩
    rintro j k H2 ⟨rfl, hj, I2, ys2, gr2, s2, hI2, hH2, a22⟩
    by_cases hjl : j < ks i
    · refine .inr ⟨W1.go j H2 (s2.trans gr2.ih) hjl, fun H => j + 1 ≤ ks i ∧ ∃ I2 ys, Gr [] I H1 I2 H ∧ Same I' I2 ∧ I2 D = none ∧ H D = some (.lst ys) ∧ All2 (Sy I2) ys (flat ks f i ++ (List.range (j + 1)).map (f i)),
        fun H p => ⟨ks i - (j + 1), by omega, rfl, p.1, p.2⟩, fun x H3 y => ?_⟩
      obtain ⟨rfl, rfl⟩ := W1.yld j H2 x H3 (s2.trans gr2.ih) hjl y
      refine st j I2 H3 _ _ hjl s2 gr2.ih fun I3 H4 y g3 sy => ?_
      have hD4 := g3.at hH2 (by simp)
      have hI3 := g3.out hI2 hH2
      have ll := a22.len
      refine ⟨ys2, hD4, Nat.lt_of_lt_of_le (by rw [ll]; exact flat_lt hlt hjl) hn, hjl, I3, ys2 ++ [y], ?_, s2.trans g3.ii, hI3, upd_same, ?_⟩
      · have g4 := gr2.trans g3
        exact ((g4.mono (ns := [D]) fun _ z => nomatch z).trans (Gr.mut g4.ih hI3 List.mem_cons_self)).drop hD
      · rw [List.range_succ, List.map_append, ← List.append_assoc]
        exact (a22.mono fun _ _ => up g3.ii).snoc sy
    · have e : j = ks i := by omega
      subst e
      exact .inl ⟨W1.stop H2 (s2.trans gr2.ih), hlt, I2, ys2, gr2, hI2, hH2, by rw [flat_succ]; exact a22⟩
  · have e : i = n := by omega
    subst e
    exact .inl ⟨W.stop H s, hd (upd I' D (.lst ys)) H ys (gr.mono (ns := [D]) (fun _ z => nomatch z) |>.frz s0 hD hH) upd_same (a2.mono fun _ _ => up (sNew hI))⟩
end Tk
namespace Tk
open PySem PySem.Spec PyProof.Rows L2
section
variable {α β : Type} {K : PySem.W.Frag}
def iA (R : Rp α) : Rp (List α) := fun H v xs => ∃ a vs, v = .ref a ∧ (H a = some (.lst vs) ∨ H a = some (.tup vs)) ∧ All2 (R H) vs xs
instance {R : Rp α} [m : Mono R] : Mono (iA R) := ⟨fun s ⟨a, vs, e, h, t⟩ => ⟨a, vs, e, h.elim (fun h => .inl (s _ _ h)) (fun h => .inr (s _ _ h)), t.mono fun _ _ => m.up s⟩⟩
theorem iA.l {R : Rp α} {H : Hp} {v : V} {xs : List α} (h : iL R H v xs) : iA R H v xs := by
  obtain ⟨a, vs, e, h, t⟩ := h; exact ⟨a, vs, e, .inl h, t⟩
theorem iA.t {R : Rp α} {H : Hp} {v : V} {xs : List α} (h : iT R H v xs) : iA R H v xs := by
  obtain ⟨a, vs, e, h, t⟩ := h; exact ⟨a, vs, e, .inr h, t⟩
theorem All2.imp {R S : V → α → Prop} {vs : List V} {xs : List α} (h : All2 R vs xs) (k : ∀ v x, R v x → S v x) : All2 S vs xs := h.mono k
theorem gv2 {R : V → α → Prop} {vs : List V} {xs : List α} {i : Nat} {x : α} (h : All2 R vs xs) (e : xs[i]? = some x) : R (gv vs i) x := by
  obtain ⟨v, h1, h2⟩ := h.get' e
  rw [gv_of h1]; exact h2
/-- tuple(v) -/
theorem tup_of {R : Rp α} [Mono R] {I H : Hp} {v : V} {xs : List α} {Q : VK} (h : iA R I v xs) (s : Same I H) (k : ∀ I' H' v', Gr [] I H I' H' → iT R I' v' xs → Q v' H') :
    rTup K [v] H Q := by
  obtain ⟨a, vs, rfl, h, t⟩ := h
  refine ⟨⟨a, vs, rfl, h.elim (fun h => .inl ⟨SqL.of (s _ _ h), fun l hl => ?_⟩) (fun h => .inr ⟨SqT.of (s _ _ h), k _ _ _ (Gr.refl s) ⟨a, vs, rfl, h, t⟩⟩)⟩⟩
  have g := Gr.new (ms := []) (o := .tup vs) s hl
  exact k _ _ _ g ⟨l, vs, rfl, upd_same, t.mono fun _ _ => up g.ii⟩
theorem len_of {R : Rp α} {I H : Hp} {v : V} {xs : List α} (h : iA R I v xs) (s : Same I H) : LenV K v H xs.length := by
  obtain ⟨a, vs, rfl, h, t⟩ := h
  rw [← t.len]
  exact h.elim (fun h => .inl ⟨_, SqL.of (s _ _ h), rfl⟩) fun h => .inr ⟨_, SqT.of (s _ _ h), rfl⟩
/-- a new list of what stands for the same things -/
theorem lc_id {J : It} {R Sy : Rp α} [Mono R] [Mono Sy] {vs : List V} {xs : List α} {I H1 : Hp} {g : TG} {tt : TT} {te : TE} {vz : List Nat} {σ : L2.St} {D : Addr} {Qd : Hp → Prop}
    (W : Wk J vs.length (gv vs) I) (a2 : All2 (R I) vs xs) (s0 : Same I H1) (hD : H1 D = none) (hn : xs.length < sizeLine)
    (step : ∀ (i : Nat) (x : α) (I' H' : Hp) (Nx : Hp → Prop) (Qk : VK), xs[i]? = some x → R I' (gv vs i) x → Same I' H' → (∀ I'' H'' y, Gr [] I' H' I'' H'' → Sy I'' y x → Qk y H'') →
      g (gv vs i) (wipe σ vz) H' fun σ2 H2 => wipe σ2 vz = wipe σ vz ∧ tt σ2 H2 fun b H3 => if b = true then te σ2 H3 Qk else Nx H3)
    (hd : ∀ I' H', Gr [] I H1 I' H' → iL Sy I' (.ref D) xs → Qd H') : LcR J g tt te vz σ H1 D Qd := by
  have hl := a2.len
  refine lc_wk [] Sy (fun i z => xs[i]? = some z) (fun _ _ => True) W s0 hD (by simp) (by rw [hl]; exact hn) stb_true trivial (fun i I' H' Nx Qk hi s1 s2 _ kk => ?_) (fun I' H' ys zs g1 hD' b2 hz rl _ => ?_)
  · obtain ⟨x, hx⟩ : ∃ x, xs[i]? = some x := ⟨xs[i]'(by omega), List.getElem?_eq_getElem (by omega)⟩
    exact step i x I' H' Nx Qk hx (up s1 (gv2 a2 hx)) s2 fun I'' H'' y g2 sy => kk _ _ _ _ g2 trivial sy hx
  · have e : zs = xs := by
      refine List.ext_getElem? fun i => ?_
      by_cases hi : i < zs.length
      · rw [rl i _ (List.getElem?_eq_getElem hi), List.getElem?_eq_getElem hi]
      · rw [List.getElem?_eq_none (by omega), List.getElem?_eq_none (by omega)]
    subst e
    exact hd I' H' g1 ⟨D, ys, rfl, hD', b2⟩
theorem map_of {xs : List α} {zs : List β} {f : α → β} (h : zs.length = xs.length) (r : ∀ (i : Nat) (z : β), zs[i]? = some z → ∃ x, xs[i]? = some x ∧ z = f x) : zs = xs.map f := by
  refine List.ext_getElem? fun i => ?_
  by_cases hi : i < zs.length
  · obtain ⟨x, h1, h2⟩ := r i _ (List.getElem?_eq_getElem hi)
    rw [List.getElem?_map, h1, List.getElem?_eq_getElem hi, h2]; rfl
  · rw [List.getElem?_eq_none (by omega), List.getElem?_eq_none (by simp; omega)]
end
end Tk
namespace Tk
open PySem PySem.Spec PyProof.Rows L2
section
variable {α : Type} {K : PySem.W.Frag}
theorem bls_of {H : Hp} : ∀ {vs : List V} {bs : List Bool}, All2 (iB H) vs bs → vs = bs.map V.bl
  | _, _, .nil => rfl
  | _, _, .cons a t => by rw [a, bls_of t]; rfl
theorem all_any {bs : List Bool} {xs : List α} {p : α → Prop} [DecidablePred p] (h : bs.length = xs.length) (r : ∀ (i : Nat) (b : Bool), bs[i]? = some b → ∃ x, xs[i]? = some x ∧ b = decide (p x)) :
    bs.all id = decide (∀ x ∈ xs, p x) ∧ bs.any id = decide (∃ x ∈ xs, p x) := by
  have e : bs = xs.map fun x => decide (p x) := map_of h r
  subst e
  constructor
  · rw [Bool.eq_iff_iff, List.all_eq_true, decide_eq_true_iff]
    simp
  · rw [Bool.eq_iff_iff, List.any_eq_true, decide_eq_true_iff]
    simp
theorem lc_bool {J : It} {R : Rp α} [Mono R] {p : α → Prop} [DecidablePred p] {vs : List V} {xs : List α} {I H1 : Hp} {g : TG} {tt : TT} {te : TE} {vz : List Nat} {σ : L2.St} {D : Addr} {Qd : Hp → Prop}
    (W : Wk J vs.length (gv vs) I) (a2 : All2 (R I) vs xs) (s0 : Same I H1) (hD : H1 D = none) (hn : xs.length < sizeLine)
    (step : ∀ (i : Nat) (x : α) (I' H' : Hp) (Nx : Hp → Prop) (Qk : VK), xs[i]? = some x → R I' (gv vs i) x → Same I I' → Same I' H' → (∀ I'' H'', Gr [] I' H' I'' H'' → Qk (.bl (decide (p x))) H'') →
      g (gv vs i) (wipe σ vz) H' fun σ2 H2 => wipe σ2 vz = wipe σ vz ∧ tt σ2 H2 fun b H3 => if b = true then te σ2 H3 Qk else Nx H3)
    (hd : ∀ I' H' (bs : List Bool), Gr [] I H1 I' H' → SqL K H' D (bs.map V.bl) → bs.all id = decide (∀ x ∈ xs, p x) → bs.any id = decide (∃ x ∈ xs, p x) → Qd H') : LcR J g tt te vz σ H1 D Qd := by
  have hl := a2.len
  refine lc_wk [] iB (fun i b => ∃ x, xs[i]? = some x ∧ b = decide (p x)) (fun _ _ => True) W s0 hD (by simp) (by rw [hl]; exact hn) stb_true trivial (fun i I' H' Nx Qk hi s1 s2 _ kk => ?_) (fun I' H' ys zs g1 hD' b2 hz rl _ => ?_)
  · obtain ⟨x, hx⟩ : ∃ x, xs[i]? = some x := ⟨xs[i]'(by omega), List.getElem?_eq_getElem (by omega)⟩
    exact step i x I' H' Nx Qk hx (up s1 (gv2 a2 hx)) s1 s2 fun I'' H'' g2 => kk _ _ _ _ g2 trivial rfl ⟨x, hx, rfl⟩
  · have e := all_any (p := p) (by rw [hz, hl]) rl
    exact hd I' H' zs g1 (SqL.of (g1.ih _ _ (by rw [← bls_of b2]; exact hD'))) e.1 e.2
end
end Tk
namespace Tk
open PySem PySem.Spec PyProof.Rows L2
theorem All2.up {α : Type} {R : Rp α} [Mono R] {I I' : Hp} {vs : List V} {xs : List α} (h : All2 (R I) vs xs) (s : Same I I') : All2 (R I') vs xs := h.mono fun _ _ => Tk.up s
end Tk
namespace Tk
open PySem PySem.Spec PyProof.Rows L2
section
variable {β : Type} {K : PySem.W.Frag}
theorem range_of {n : Nat} {f : Nat → β} {zs : List β} (hl : zs.length = n) (r : ∀ (i : Nat) (z : β), zs[i]? = some z → z = f i) : zs = (List.range n).map f := by
  refine map_of (by rw [hl, List.length_range]) fun i z h => ⟨i, ?_, r i z h⟩
  have : i < zs.length := (List.getElem?_eq_some_iff.mp h).1
  rw [List.getElem?_range (by omega)]
/-- over a zip: new pairs -/
theorem lc_zip {l m : Bool} {a b : Addr} {vs us : List V} {n : Nat} {I H1 : Hp} {g : TG} {tt : TT} {te : TE} {vz : List Nat} {σ : L2.St} {D : Addr} {Qd : Hp → Prop} (Sy : Rp β) [Mono Sy] (f : Nat → β)
    (qa : ∀ H, Same I H → SqB K l H a vs) (qb : ∀ H, Same I H → SqB K m H b us) (la : vs.length = n) (lb : us.length = n) (s0 : Same I H1) (hD : H1 D = none) (hn : n < sizeLine)
    (step : ∀ (i : Nat) (t : Addr) (I' H' : Hp) (Nx : Hp → Prop) (Qk : VK), i < n → Same I I' → Same I' H' → H' t = some (.tup [gv vs i, gv us i]) → (∀ I'' H'' y, Gr [] I' H' I'' H'' → Sy I'' y (f i) → Qk y H'') →
      g (.ref t) (wipe σ vz) H' fun σ2 H2 => wipe σ2 vz = wipe σ vz ∧ tt σ2 H2 fun b H3 => if b = true then te σ2 H3 Qk else Nx H3)
    (hd : ∀ I' H', Gr [] I H1 I' H' → iL Sy I' (.ref D) ((List.range n).map f) → Qd H') : LcR (ItzM K l m a b) g tt te vz σ H1 D Qd := by
  refine ⟨fun i k H => k = n - i ∧ i ≤ n ∧ ∃ I' ys zs, Gr [] I H1 I' H ∧ I' D = none ∧ H D = some (.lst ys) ∧ All2 (Sy I') ys zs ∧ zs.length = i ∧ ∀ i z, zs[i]? = some z → z = f i,
    ⟨n, rfl, Nat.zero_le _, I, [], [], (Gr.tmp s0 hD), s0.free hD, upd_same, .nil, rfl, fun i z h => by simp at h⟩, ?_⟩
  rintro i k H ⟨rfl, hi, I', ys, zs, gr, hI, hH, a2, hl, rl⟩
  have s : Same I H := gr.ii.trans gr.ih
  by_cases hlt : i < n
  · refine .inr ⟨⟨vs, us, _, _, ⟨qa H s, gv_at (by omega)⟩, qb H s, gv_at (by omega)⟩, fun H' => i + 1 ≤ n ∧ ∃ I' ys zs, Gr [] I H1 I' H' ∧ I' D = none ∧ H' D = some (.lst ys) ∧ All2 (Sy I') ys zs ∧ zs.length = i + 1 ∧ ∀ i z, zs[i]? = some z → z = f i,
      fun H' p => ⟨n - (i + 1), by omega, rfl, p.1, p.2⟩, fun x H' y => ?_⟩
    obtain ⟨t, u, v, rfl, ht, rfl, y1, y2⟩ := y
    have e1 := gv_of (y1 vs (qa H s))
    have e2 := gv_of (y2 us (qb H s))
    subst e1 e2
    have g1 : Gr [] I' H I' (upd H t (.tup [gv vs i, gv us i])) := Gr.tmp gr.ih ht
    refine step i t I' _ _ _ hlt gr.ii g1.ih upd_same fun I'' H'' y g2 sy => ?_
    have g3 := g1.trans g2
    have hD2 : H'' D = some (.lst ys) := g3.at hH (by simp)
    have hI2 : I'' D = none := g3.out hI hH
    refine ⟨ys, hD2, by rw [a2.len, hl]; omega, hlt, I'', ys ++ [y], zs ++ [f i], ?_, hI2, upd_same, (a2.mono fun _ _ => up g2.ii).snoc sy, by rw [List.length_append, hl]; rfl, fun j w hw => ?_⟩
    · have g4 := gr.trans g3
      exact ((g4.mono (ns := [D]) fun _ z => nomatch z).trans (Gr.mut g4.ih hI2 List.mem_cons_self)).drop hD
    · by_cases hj : j < zs.length
      · rw [List.getElem?_append_left hj] at hw; exact rl j w hw
      · rw [List.getElem?_append_right (by omega)] at hw
        have h0 : j - zs.length = 0 := by
          rcases Nat.eq_zero_or_pos (j - zs.length) with h | h
          · exact h
          · rw [List.getElem?_eq_none (by simp; omega)] at hw; cases hw
        rw [h0] at hw
        simp at hw
        have : j = i := by omega
        rw [this]; exact hw.symm
  · have e : i = n := by omega
    subst e
    refine .inl ⟨⟨vs, us, qa H s, qb H s, by omega, by omega, .inl la.symm⟩, hd (upd I' D (.lst ys)) H (gr.mono (ns := [D]) (fun _ z => nomatch z) |>.frz s0 hD hH) ⟨D, ys, rfl, upd_same, ?_⟩⟩
    rw [← range_of hl rl]
    exact a2.mono fun _ _ => up (sNew hI)
/-- over numbers: what is told of each -/
theorem lc_range1 {lo : Int} {n : Nat} {I H1 : Hp} {g : TG} {tt : TT} {te : TE} {vz : List Nat} {σ : L2.St} {D : Addr} {Qd : Hp → Prop} (Sy : Rp β) [Mono Sy] (f : Nat → β) (s0 : Same I H1) (hD : H1 D = none) (hn : n < sizeLine)
    (step : ∀ (i : Nat) (I' H' : Hp) (Nx : Hp → Prop) (Qk : VK), i < n → Same I I' → Same I' H' → (∀ I'' H'' y, Gr [] I' H' I'' H'' → Sy I'' y (f i) → Qk y H'') →
      g (.int (lo + i)) (wipe σ vz) H' fun σ2 H2 => wipe σ2 vz = wipe σ vz ∧ tt σ2 H2 fun b H3 => if b = true then te σ2 H3 Qk else Nx H3)
    (hd : ∀ I' H', Gr [] I H1 I' H' → iL Sy I' (.ref D) ((List.range n).map f) → Qd H') : LcR (Itr lo n) g tt te vz σ H1 D Qd := by
  refine lc_wk [] Sy (fun i z => z = f i) (fun _ _ => True) (wk_range (I := I)) s0 hD (by simp) hn stb_true trivial (fun i I' H' Nx Qk hi s1 s2 _ kk => ?_) (fun I' H' ys zs g1 hD' b2 hz rl _ => ?_)
  · exact step i I' H' Nx Qk hi s1 s2 fun I'' H'' y g2 sy => kk _ _ _ _ g2 trivial sy rfl
  · exact hd I' H' g1 ⟨D, ys, rfl, hD', by rw [← range_of hz rl]; exact b2⟩
end
end Tk

set_option linter.all false
/-! Sums of fractions; chances of machines. -/
namespace Mt
/-- a natural number of N-ths, at most B in all -/
def Gd (N B : Nat) (q : Rat) : Prop := 0 < N ∧ ∃ a : Nat, a ≤ B * N ∧ q = rt a N
theorem rt_addN (a b : Int) {n : Int} (h : n ≠ 0) : rt a n + rt b n = rt (a + b) n := by
  unfold rt
  rw [Rat.divInt_add_divInt _ _ h h, ← Int.add_mul]
  exact Rat.divInt_mul_right h
theorem Gd.zero {N : Nat} (h : 0 < N) : Gd N 0 0 := ⟨h, 0, by omega, by simp [rt]⟩
theorem Gd.add {N B C : Nat} {p q : Rat} (h : Gd N B p) (k : Gd N C q) : Gd N (B + C) (p + q) := by
  obtain ⟨n, a, ha, rfl⟩ := h
  obtain ⟨_, b, hb, rfl⟩ := k
  exact ⟨n, a + b, by rw [Nat.add_mul]; omega, by rw [rt_addN _ _ (by omega)]; rfl⟩
theorem Gd.mul {N M B C : Nat} {p q : Rat} (h : Gd N B p) (k : Gd M C q) : Gd (N * M) (B * C) (p * q) := by
  obtain ⟨n, a, ha, rfl⟩ := h
  obtain ⟨m, b, hb, rfl⟩ := k
  refine ⟨Nat.mul_pos n m, a * b, ?_, ?_⟩
  · have := Nat.mul_le_mul ha hb
    calc a * b ≤ B * N * (C * M) := this
      _ = B * C * (N * M) := by grind
  · unfold rt; rw [Rat.divInt_mul_divInt]; simp
theorem Gd.mono {N B C : Nat} {q : Rat} (h : Gd N B q) (l : B ≤ C) : Gd N C q := by
  obtain ⟨n, a, ha, rfl⟩ := h
  exact ⟨n, a, Nat.le_trans ha (Nat.mul_le_mul_right _ l), rfl⟩
theorem Gd.scale {N B : Nat} {q : Rat} (h : Gd N B q) {M : Nat} (m : 0 < M) : Gd (N * M) B q := by
  obtain ⟨n, a, ha, rfl⟩ := h
  refine ⟨Nat.mul_pos n m, a * M, ?_, ?_⟩
  · rw [← Nat.mul_assoc]; exact Nat.mul_le_mul_right _ ha
  · unfold rt
    have := Rat.divInt_mul_right (n := (a : Int)) (d := (N : Int)) (a := (M : Int)) (by omega)
    rw [← this]; simp
theorem Gd.nonneg {N B : Nat} {q : Rat} (h : Gd N B q) : 0 ≤ q.num := by
  obtain ⟨n, a, ha, rfl⟩ := h
  rw [rt_num (by omega)]
  exact Int.ediv_nonneg (by omega) (by have := gz_pos (n := (a : Int)) (d := (N : Int)) (by omega); omega)
theorem Gd.size {N B : Nat} {q : Rat} (h : Gd N B q) : q.num.natAbs ≤ B * N ∧ q.den ≤ N := by
  obtain ⟨n, a, ha, rfl⟩ := h
  have g := gz_pos (n := (a : Int)) (d := (N : Int)) (by omega)
  have e1 := rt_num (n := (a : Int)) (d := (N : Int)) (by omega)
  have e2 := rt_den (n := (a : Int)) (d := (N : Int)) (by omega)
  have l1 : (a : Int) / gz a N ≤ a := Int.ediv_le_self _ (by omega)
  have l2 : (N : Int) / gz a N ≤ N := Int.ediv_le_self _ (by omega)
  have l3 : 0 ≤ (a : Int) / gz a N := Int.ediv_nonneg (by omega) (by omega)
  rw [← e1] at l1 l3
  rw [← e2] at l2
  omega
/-- a sum of n -/
def S : Nat → (Nat → Rat) → Rat
  | 0, _ => 0
  | n + 1, f => S n f + f n
theorem S_congr {n : Nat} {f g : Nat → Rat} (h : ∀ i, i < n → f i = g i) : S n f = S n g := by
  induction n with
  | zero => rfl
  | succ n ih => simp only [S]; rw [ih fun i hi => h i (by omega), h n (by omega)]
theorem S_add (n : Nat) (f g : Nat → Rat) : S n (fun i => f i + g i) = S n f + S n g := by
  induction n with
  | zero => simp only [S]; grind
  | succ n ih => simp only [S]; rw [ih]; grind
theorem S_mul (n : Nat) (c : Rat) (f : Nat → Rat) : S n (fun i => c * f i) = c * S n f := by
  induction n with
  | zero => simp only [S]; grind
  | succ n ih => simp only [S]; rw [ih]; grind
theorem S_mulr (n : Nat) (c : Rat) (f : Nat → Rat) : S n (fun i => f i * c) = S n f * c := by
  induction n with
  | zero => simp only [S]; grind
  | succ n ih => simp only [S]; rw [ih]; grind
theorem S_zero (n : Nat) : S n (fun _ => 0) = 0 := by
  induction n with
  | zero => rfl
  | succ n ih => simp only [S]; rw [ih]; grind
theorem S_comm (m n : Nat) (f : Nat → Nat → Rat) : S m (fun i => S n (fun j => f i j)) = S n (fun j => S m (fun i => f i j)) := by
  induction m with
  | zero => simp only [S]; rw [S_zero]
  | succ m ih => simp only [S]; rw [ih, ← S_add]
theorem S_app (m n : Nat) (f : Nat → Rat) : S (m + n) f = S m f + S n (fun i => f (m + i)) := by
  induction n with
  | zero => simp only [S, Nat.add_zero]; grind
  | succ n ih => rw [← Nat.add_assoc]; simp only [S]; rw [ih]; grind
theorem S_blocks (m n : Nat) (f : Nat → Rat) : S (m * n) f = S m (fun a => S n (fun k => f (a * n + k))) := by
  induction m with
  | zero => simp [S]
  | succ m ih => rw [Nat.succ_mul, S_app, ih]; rfl
theorem S_gd {N B n : Nat} {f : Nat → Rat} (hN : 0 < N) (h : ∀ i, i < n → Gd N B (f i)) : Gd N (n * B) (S n f) := by
  induction n with
  | zero => simp only [S, Nat.zero_mul]; exact Gd.zero hN
  | succ n ih => simp only [S]; rw [Nat.succ_mul]; exact (ih fun i hi => h i (by omega)).add (h n (by omega))
abbrev gq (l : List Rat) (i : Nat) : Rat := l.getD i 0
/-- the sum of a list -/
def tot (l : List Rat) : Rat := S l.length (gq l)
theorem gq_lt {l : List Rat} {i : Nat} (h : i < l.length) : l[i]? = some (gq l i) := by
  unfold gq; rw [List.getD_eq_getElem?_getD, List.getElem?_eq_getElem h]; rfl
theorem gq_of {l : List Rat} {i : Nat} {q : Rat} (h : l[i]? = some q) : gq l i = q := by
  unfold gq; rw [List.getD_eq_getElem?_getD, h]; rfl
theorem tot_app (a b : List Rat) : tot (a ++ b) = tot a + tot b := by
  unfold tot
  rw [List.length_append, S_app]
  congr 1
  · refine S_congr fun i hi => ?_
    unfold gq; rw [List.getD_eq_getElem?_getD, List.getD_eq_getElem?_getD, List.getElem?_append_left hi]
  · refine S_congr fun i hi => ?_
    unfold gq; rw [List.getD_eq_getElem?_getD, List.getD_eq_getElem?_getD, List.getElem?_append_right (by omega)]
    congr 2; omega
theorem tot_gd {N B : Nat} {l : List Rat} (hN : 0 < N) (h : ∀ q ∈ l, Gd N B q) : Gd N (l.length * B) (tot l) :=
  S_gd hN fun i hi => h _ (List.mem_of_getElem? (gq_lt hi))
end Mt

set_option linter.all false
/-! Machines of fractions, the chances of their ways. -/
namespace Mt
abbrev Rows := List (List Rat)
abbrev Ma := List Rat × List (List Rows)
abbrev gl {α : Type} (l : List (List α)) (i : Nat) : List α := l.getD i []
theorem gl_lt {α : Type} {l : List (List α)} {i : Nat} (h : i < l.length) : l[i]? = some (gl l i) := by
  unfold gl; rw [List.getD_eq_getElem?_getD, List.getElem?_eq_getElem h]; rfl
theorem gl_of {α : Type} {l : List (List α)} {i : Nat} {q : List α} (h : l[i]? = some q) : gl l i = q := by
  unfold gl; rw [List.getD_eq_getElem?_getD, h]; rfl
def wt (M : Ma) (b a s k : Nat) : Rat := gq (gl (gl (gl M.2 b) a) s) k
def nzl (l : List Rat) : Nat := l.countP (fun q => decide (q ≠ 0))
structure MOk (M : Ma) (n bs as : Nat) : Prop where
  n0 : 0 < n
  n1 : n ≤ 5
  b0 : 0 < bs
  b1 : bs ≤ 4
  a0 : 0 < as
  a1 : as ≤ 4
  l0 : M.1.length = n
  l1 : M.2.length = bs
  l2 : ∀ b, b < bs → (gl M.2 b).length = as
  l3 : ∀ b a, b < bs → a < as → (gl (gl M.2 b) a).length = n
  l4 : ∀ b a s, b < bs → a < as → s < n → (gl (gl (gl M.2 b) a) s).length = n
  g0 : ∀ s, s < n → Gd 60 1 (gq M.1 s)
  g1 : ∀ b a s k, b < bs → a < as → s < n → k < n → Gd 60 1 (wt M b a s k)
  s0 : tot M.1 = 1
  s1 : ∀ b s, b < bs → s < n → S as (fun a => S n (wt M b a s)) = 1
  z : ∀ b a s, b < bs → a < as → s < n → nzl (gl (gl (gl M.2 b) a) s) ≤ 3
abbrev Way := List (Nat × Nat)
def stp (M : Ma) (n : Nat) (w : Nat → Rat) (x : Nat × Nat) : Nat → Rat := fun k => S n (fun s => w s * wt M x.1 x.2 s k)
def adv (M : Ma) (n : Nat) (w : Nat → Rat) : Way → Nat → Rat
  | [] => w
  | x :: r => adv M n (stp M n w x) r
def chq (M : Ma) (n : Nat) (way : Way) : Rat := S n (adv M n (gq M.1) way)
def vl (M : Ma) (n : Nat) : Way → Nat → Rat
  | [], _ => 1
  | x :: r, s => S n (fun k => wt M x.1 x.2 s k * vl M n r k)
theorem adv_vl (M : Ma) (n : Nat) : ∀ (way : Way) (w : Nat → Rat), S n (adv M n w way) = S n (fun s => w s * vl M n way s)
  | [], w => by
    refine S_congr fun i _ => ?_
    simp only [adv, vl]; grind
  | x :: r, w => by
    show S n (adv M n (stp M n w x) r) = _
    rw [adv_vl M n r (stp M n w x)]
    have e1 : S n (fun s => stp M n w x s * vl M n r s) = S n (fun k => S n (fun s => w s * (wt M x.1 x.2 s k * vl M n r k))) := by
      refine S_congr fun k _ => ?_
      show S n _ * _ = _
      rw [← S_mulr]
      exact S_congr fun s _ => by grind
    rw [e1, S_comm]
    refine S_congr fun s _ => ?_
    rw [S_mul]; rfl
theorem adv_snoc (M : Ma) (n : Nat) (x : Nat × Nat) : ∀ (way : Way) (w : Nat → Rat), adv M n w (way ++ [x]) = stp M n (adv M n w way) x
  | [], w => rfl
  | y :: r, w => by
    show adv M n (stp M n w y) (r ++ [x]) = _
    rw [adv_snoc M n x r]; rfl
/-- the chances of all answers to one more press -/
theorem one_more {M : Ma} {n bs as : Nat} (ok : MOk M n bs as) (way : Way) {b : Nat} (hb : b < bs) : S as (fun a => chq M n (way ++ [(b, a)])) = chq M n way := by
  unfold chq
  have e : ∀ a, S n (adv M n (gq M.1) (way ++ [(b, a)])) = S n (fun s => adv M n (gq M.1) way s * S n (wt M b a s)) := fun a => by
    rw [adv_snoc]
    unfold stp
    rw [S_comm]
    exact S_congr fun s _ => by rw [S_mul]
  have e2 : S as (fun a => S n (adv M n (gq M.1) (way ++ [(b, a)]))) = S as (fun a => S n (fun s => adv M n (gq M.1) way s * S n (wt M b a s))) := S_congr fun a _ => e a
  rw [e2, S_comm]
  refine S_congr fun s hs => ?_
  rw [S_mul, ok.s1 b s hb hs]; grind
/-- sizes on the way -/
theorem adv_gd {M : Ma} {n bs as : Nat} (ok : MOk M n bs as) : ∀ (way : Way) (N B : Nat) (w : Nat → Rat), 0 < N → (∀ x ∈ way, x.1 < bs ∧ x.2 < as) → (∀ s, s < n → Gd N B (w s)) →
    ∀ s, s < n → Gd (N * 60 ^ way.length) (5 ^ way.length * B) (adv M n w way s)
  | [], N, B, w, hN, hw, hg, s, hs => by simpa [adv] using hg s hs
  | x :: r, N, B, w, hN, hw, hg, s, hs => by
    have hx := hw x List.mem_cons_self
    have g : ∀ s, s < n → Gd (N * 60) (5 * B) (stp M n w x s) := fun s hs => by
      have := S_gd (N := N * 60) (B := B * 1) (n := n) (f := fun t => w t * wt M x.1 x.2 t s) (by omega) fun t ht => (hg t ht).mul (ok.g1 x.1 x.2 t s hx.1 hx.2 ht hs)
      exact this.mono (by have := ok.n1; rw [Nat.mul_one]; exact Nat.mul_le_mul_right _ this)
    have := adv_gd ok r (N * 60) (5 * B) _ (by omega) (fun y hy => hw y (List.mem_cons_of_mem _ hy)) g s hs
    show Gd (N * 60 ^ (r.length + 1)) (5 ^ (r.length + 1) * B) (adv M n (stp M n w x) r s)
    rw [Nat.pow_succ, Nat.pow_succ, Nat.mul_comm (60 ^ r.length) 60, ← Nat.mul_assoc, Nat.mul_assoc (5 ^ r.length)]
    exact this
/-- turns for so many presses to come -/
def T : Nat → Nat
  | 0 => 1
  | k + 1 => 1 + 3 * T k
/-- something left: its part, its state, how many presses are done -/
abbrev It3 := Rat × Nat × Nat
def val3 (M : Ma) (n : Nat) (way : Way) (x : It3) : Rat := x.1 * vl M n (way.drop x.2.2) x.2.1
def tim (way : Way) (x : It3) : Nat := T (way.length - x.2.2)
def timS (way : Way) (l : List It3) : Nat := (l.map (tim way)).sum
theorem timS_app (way : Way) (a b : List It3) : timS way (a ++ b) = timS way a + timS way b := by unfold timS; rw [List.map_append, List.sum_append]
theorem tot_one (q : Rat) : tot [q] = q := by
  show (0 : Rat) + gq [q] 0 = q
  show (0 : Rat) + q = q
  grind
theorem tot_snoc (l : List Rat) (q : Rat) : tot (l ++ [q]) = tot l + q := by rw [tot_app, tot_one]
theorem drop_at {way : Way} {t : Nat} {x : Nat × Nat} (h : way[t]? = some x) : way.drop t = x :: way.drop (t + 1) := by
  obtain ⟨hl, e⟩ := List.getElem?_eq_some_iff.mp h
  rw [List.drop_eq_getElem_cons hl, e]
theorem nz_take {l : List Rat} {i : Nat} (h : i < l.length) : nzl (l.take (i + 1)) = nzl (l.take i) + (if gq l i = 0 then 0 else 1) := by
  unfold nzl
  rw [List.take_succ_eq_append_getElem h, List.countP_append]
  have e : gq l i = l[i] := gq_of (List.getElem?_eq_getElem h)
  rw [e]
  by_cases hz : l[i] = 0 <;> simp [hz]
theorem T_le : ∀ {j k : Nat}, j ≤ k → T j ≤ T k
  | 0, 0, _ => Nat.le_refl _
  | 0, k + 1, _ => by simp only [T]; omega
  | j + 1, k + 1, h => by have := T_le (j := j) (k := k) (by omega); simp only [T]; omega
/-- what _law_cells makes -/
structure Cells (c : Nat) (l : List Rat) : Prop where
  len : l.length = c
  gd : ∀ q ∈ l, Gd 60 1 q
  tot : tot l = 1
  nz : nzl l ≤ 3
theorem tot_cons (q : Rat) (l : List Rat) : Mt.tot (q :: l) = q + Mt.tot l := by
  rw [show q :: l = [q] ++ l from rfl, tot_app, tot_one]
theorem tot_rt {W : Nat} (hW : 0 < W) : ∀ ws : List Nat, Mt.tot (ws.map fun w : Nat => rt w W) = rt (ws.sum : Nat) W
  | [] => by simp [Mt.tot, S, rt]
  | w :: r => by
    rw [List.map_cons, tot_cons, tot_rt hW r, rt_addN _ _ (by omega), List.sum_cons]
    congr 1
theorem rt_zero_iff {w W : Nat} (hW : 0 < W) : rt w W = 0 ↔ w = 0 := by
  constructor
  · intro h
    have e := rt_num (n := (w : Int)) (d := (W : Int)) (by omega)
    rw [h] at e
    have g := gz_pos (n := (w : Int)) (d := (W : Int)) (by omega)
    have hd : gz (w : Int) (W : Int) ∣ (w : Int) := by unfold gz; exact Int.ofNat_dvd_left.mpr (Nat.gcd_dvd_left _ _)
    obtain ⟨m, hm⟩ := hd
    have e2 := Int.ediv_mul_cancel (a := (w : Int)) (b := gz w W) ⟨m, hm⟩
    rw [← e] at e2
    have e3 : (0 : Rat).num = 0 := rfl
    rw [e3] at e2; omega
  · rintro rfl; simp [rt]
theorem rt_same {n : Int} (h : 0 < n) : rt n n = 1 := by
  have e1 := rt_num (n := n) h
  have e2 := rt_den (n := n) h
  have g : gz n n = n := by unfold gz; rw [Nat.gcd_self]; omega
  rw [g, Int.ediv_self (by omega)] at e1 e2
  exact Rat.ext e1 (by have : (1 : Rat).den = 1 := rfl; omega)
theorem gd_part {w W : Nat} (h0 : 0 < W) (h1 : W ≤ 6) (h2 : w ≤ W) : Gd 60 1 (rt w W) := by
  have hd : W ∣ 60 := by
    have : W = 1 ∨ W = 2 ∨ W = 3 ∨ W = 4 ∨ W = 5 ∨ W = 6 := by omega
    rcases this with rfl | rfl | rfl | rfl | rfl | rfl <;> decide
  obtain ⟨m, hm⟩ := hd
  have g : Gd W 1 (rt w W) := ⟨h0, w, by omega, rfl⟩
  have m0 : 0 < m := by rcases Nat.eq_zero_or_pos m with h | h; · rw [h] at hm; simp at hm
                        · exact h
  have := g.scale m0
  rw [← hm] at this
  exact this
theorem le_sum_of_mem : ∀ {l : List Nat} {w : Nat}, w ∈ l → w ≤ l.sum
  | a :: r, w, h => by
    rw [List.sum_cons]
    rcases List.mem_cons.mp h with rfl | h
    · omega
    · have := le_sum_of_mem h; omega
theorem cells_of {ws : List Nat} {c k : Nat} (hl : ws.length = c) (h0 : 0 < ws.sum) (h1 : ws.sum ≤ 6) (hz : ws.countP (fun w => decide (w ≠ 0)) ≤ k) (hk : k ≤ 3) : Cells c (ws.map fun w : Nat => rt w (ws.sum : Nat)) := by
  refine ⟨by rw [List.length_map]; exact hl, fun q hq => ?_, ?_, ?_⟩
  · obtain ⟨w, hw, rfl⟩ := List.mem_map.mp hq
    exact gd_part h0 h1 (le_sum_of_mem hw)
  · rw [tot_rt h0]
    exact rt_same (by omega)
  · unfold nzl
    rw [List.countP_map]
    refine Nat.le_trans (Nat.le_of_eq ?_) (Nat.le_trans hz hk)
    refine List.countP_congr fun w _ => ?_
    simp only [Function.comp, decide_eq_true_eq]
    exact not_congr (rt_zero_iff h0)
theorem sum_set : ∀ {l : List Nat} {i v : Nat} (h : i < l.length), (l.set i v).sum + l[i] = l.sum + v
  | a :: r, 0, v, h => by simp; omega
  | a :: r, i + 1, v, h => by
    have := sum_set (l := r) (i := i) (v := v) (by simpa using h)
    simp only [List.set_cons_succ, List.sum_cons, List.getElem_cons_succ]
    omega
theorem nz_set {l : List Nat} {i v : Nat} (h : i < l.length) : (l.set i v).countP (fun w => decide (w ≠ 0)) ≤ l.countP (fun w => decide (w ≠ 0)) + 1 := by
  rw [List.countP_set h]
  split <;> split <;> omega
/-- rows cut into answers -/
theorem cut_gq {l : List Rat} {n a k : Nat} (h : k < n) : gq ((l.drop (a * n)).take n) k = gq l (a * n + k) := by
  unfold gq
  rw [List.getD_eq_getElem?_getD, List.getD_eq_getElem?_getD, List.getElem?_take_of_lt h, List.getElem?_drop]
theorem cut_sum {l : List Rat} {n as : Nat} (h : l.length = as * n) : S as (fun a => S n (gq ((l.drop (a * n)).take n))) = tot l := by
  unfold tot
  rw [h, S_blocks]
  exact S_congr fun a _ => S_congr fun k hk => cut_gq hk
theorem cut_nz (l : List Rat) (a n : Nat) : nzl ((l.drop a).take n) ≤ nzl l := ((List.take_sublist _ _).trans (List.drop_sublist _ _)).countP_le
end Mt

set_option Elab.async false
set_option linter.all false
set_option maxRecDepth 100000
set_option maxHeartbeats 4000000
set_option exponentiation.threshold 5000
namespace K
open PySem PySem.Spec PyProof.Rows L2 Tk Hd Mt
/-! ### sums of fractions -/
def Fits (qs : List Rat) : Prop := (∀ q ∈ qs, Fit q) ∧ ∀ i, i ≤ qs.length → Fit (S i (gq qs))
theorem fit_gd {N B : Nat} {q : Rat} (h : Gd N B q) (hb : B ≤ 2 ^ 400) (hn : N ≤ 2 ^ 400) : Fit q := by
  obtain ⟨h1, h2⟩ := h.size
  have h3 : B * N ≤ 2 ^ 400 * 2 ^ 400 := Nat.mul_le_mul hb hn
  have h4 : (2 : Nat) ^ 400 * 2 ^ 400 < 2 ^ 900 := by decide
  have h5 : (2 : Nat) ^ 400 < 2 ^ 900 := by decide
  exact ⟨by omega, by omega⟩
theorem fits_gd {N B : Nat} {qs : List Rat} (hN : 0 < N) (h : ∀ q ∈ qs, Gd N B q) (hb : qs.length * B ≤ 2 ^ 400) (hn : N ≤ 2 ^ 400) : Fits qs := by
  refine ⟨fun q hq => fit_gd (h q hq) ?_ hn, fun i hi => fit_gd (S_gd hN fun j hj => h _ (List.mem_of_getElem? (gq_lt (by omega)))) ?_ hn⟩
  · cases qs with
    | nil => cases hq
    | cons a r => rw [List.length_cons, Nat.succ_mul] at hb; omega
  · exact Nat.le_trans (Nat.mul_le_mul_right _ hi) hb
section
variable {P : Program} {w : World} {K : PySem.W.Frag} {mg : Str → Option Value} {base : Heap}
def spTotal (C : Addr) : Sp := fun vs H Q _ => ∃ (I : Hp) (a : V) (qs : List Rat), vs = [a] ∧ Same I H ∧ iA (iR C) I a qs ∧ Fits qs ∧ Ret [] I H (iR C) (tot qs) Q
theorem sc_total : FnScope ["ratios", "found", "ratio"] ["ratios"] (defScope s_total) := ⟨rfl, rfl, rfl, by decide +kernel, rfl, by decide +kernel, by decide +kernel⟩
theorem ok_total (D : Dt K mg) : Has P w K mg base 4 (He.ga K "total") ["ratios"] [] (spTotal (CR K)) := by
  obtain ⟨fd, F⟩ := fd_total D
  have H_Ratio_init := has_init1 (P := P) (w := w) (base := base) D
  have H_Ratio_add := ok_add (P := P) (w := w) (base := base) D
  refine hasN F (F.bindsN fun _ _ _ _ _ _ us hl => match us, hl with | [_], _ => rfl) sc_total (fun vs H Q E h => ?_) (fun cdv A outer s H vs Q E hr h => ?_)
  · obtain ⟨I, a, qs, rfl, _⟩ := h; rfl
  · obtain ⟨I, va, qs, rfl, s0, ⟨a, vs, rfl, ha, a2⟩, ft, k⟩ := h
    refine ⟨_, (pss_cons (ps_set (i := 1) sc_total.nd rfl (Or.inl rfl) (pe_makeH (mkr_Ratio (K := K) D) H_Ratio_init (hr.mono (by decide)) rfl (glo_Ratio D) passL (pa_cons pe_int pa_nil)))
      (pss_cons (ps_for PassesOwn.never rfl (pi_ltK K (pv 0)) (pg_name (i := 2) sc_total.nd rfl (Or.inl rfl))
      (pss_one (ps_set (i := 1) sc_total.nd rfl (Or.inl rfl) (pe_op (op_ownH H_Ratio_add (hr.mono (by decide)) passL (self_Ratio (K := K) D) (me_Ratio_add (K := K) D)) (pv 1) (pv 2)))))
      (pss_one (ps_ret (pv 1))))), ?_⟩
    (try dsimp only)
    refine seq_cut (fun σ' H1 => ∃ (I1 : Hp) (fv : V), σ' = [some (.ref a), some fv, none] ∧ Gr [] I H I1 H1 ∧ iR (CR K) I1 fv (S 0 (gq qs))) (fun nx q => ?_) ?_
    · refine fun x dx nx nd ne => ⟨x, dx, _, _, rfl, upd_same, sm_of (by decide) (by decide), fun _ => ⟨rfl, ?_⟩, fun h => absurd h (by decide)⟩
      obtain ⟨g1, r1⟩ := rat_new (ms := []) (C := CR K) (q := rt 0 1) s0 nx nd ne
      exact q _ _ ⟨_, _, rfl, g1, by
        have : rt 0 1 = S 0 (gq qs) := by simp [rt, S]
        rw [← this]; exact r1⟩
    rintro σ' H1 ⟨I1, fv0, rfl, g1, r1⟩
    (try dsimp only)
    have hl := a2.len
    refine ⟨_, rfl, lt_of (ha.imp (g1.ii _ _) (g1.ii _ _)) g1.ih fun J W => for_wk W
      (fun σ' H' => ∃ (I' : Hp) (fv : V) (v : Option V), σ' = [some (.ref a), some fv, v] ∧ Gr [] I H I' H' ∧ iR (CR K) I' fv (tot qs))
      (fun i σ' H' => ∃ (I' : Hp) (fv : V) (v : Option V), σ' = [some (.ref a), some fv, v] ∧ Gr [] I H I' H' ∧ Same I1 I' ∧ iR (CR K) I' fv (S i (gq qs)))
      (fun i σ' H' h => by obtain ⟨I', fv, v, _, gr, s, _⟩ := h; exact s.trans gr.ih)
      ⟨I1, fv0, none, rfl, g1, Same.refl _, r1⟩ (fun nx q i σ' H' hi h => ?_) (fun σ' H' h => ?_) ?_⟩
    · obtain ⟨I', fv, v, rfl, gr, s1, rf⟩ := h
      have hq := gq_lt (l := qs) (i := i) (by omega)
      have rq := up (g1.ii.trans s1) (gv2 a2 hq)
      obtain ⟨b, dy, eb, hb⟩ := id rq
      obtain ⟨c, dz, rfl, hc⟩ := id rf
      rw [eb] at rq ⊢
      refine ⟨_, rfl, _, rfl, c, b, dz, dy, _, _, rfl, rfl, gr.ih _ _ hc, gr.ih _ _ hb, I', _, _, _, _, rfl, gr.ih, rf, rq, ft.2 i (by omega), ft.1 _ (List.mem_of_getElem? hq), fun I2 H2 v2 g2 r2 => ?_⟩
      exact ⟨I2, v2, _, rfl, gr.trans g2, s1.trans g2.ii, r2⟩
    · obtain ⟨I', fv, v, rfl, gr, s1, rf⟩ := h
      rw [hl] at rf
      exact ⟨I', fv, v, rfl, gr, rf⟩
    · rintro σ' H' ⟨I', fv, v, rfl, gr, rf⟩
      exact ⟨_, rfl, k _ _ _ gr rf⟩
/-! lots -/
def lots (qs : List Rat) : Bool := decide (∀ q ∈ qs, 0 ≤ q.num) && decide (tot qs = 1)
theorem all_of {α : Type} {bs : List Bool} {xs : List α} {p : α → Prop} [DecidablePred p] (h : bs.length = xs.length) (r : ∀ (i : Nat) (b : Bool), bs[i]? = some b → ∃ x, xs[i]? = some x ∧ b = decide (p x)) : bs.all id = decide (∀ x ∈ xs, p x) := by
  rw [Bool.eq_iff_iff, List.all_eq_true, decide_eq_true_iff]
  constructor
  · intro k x hx
    obtain ⟨i, hi, e⟩ := List.getElem_of_mem hx
    have hb : bs[i]? = some bs[i] := List.getElem?_eq_getElem (by omega)
    obtain ⟨y, h1, h2⟩ := r i _ hb
    have := k _ (List.mem_of_getElem? hb)
    rw [List.getElem?_eq_getElem hi] at h1
    have e2 := Option.some.inj h1
    rw [h2] at this
    rw [← e, e2]; simpa using this
  · intro k b hb
    obtain ⟨i, hi, e⟩ := List.getElem_of_mem hb
    obtain ⟨y, h1, h2⟩ := r i b (by rw [List.getElem?_eq_getElem hi, e])
    rw [h2]; simpa using k y (List.mem_of_getElem? h1)
def spLots (C : Addr) : Sp := fun vs H Q _ => ∃ (I : Hp) (a : V) (qs : List Rat), vs = [a] ∧ Same I H ∧ iA (iR C) I a qs ∧ Fits qs ∧ qs.length ≤ 100000 ∧ ∀ I' H', Gr [] I H I' H' → Q (.bl (lots qs)) H'
theorem sc_are_lots : FnScope ["ratios", "ratio"] ["ratios"] (defScope s_are_lots) := ⟨rfl, rfl, rfl, by decide +kernel, rfl, by decide +kernel, by decide +kernel⟩
theorem ok_lots (D : Dt K mg) : Has P w K mg base 5 (He.ga K "are_lots") ["ratios"] [] (spLots (CR K)) := by
  obtain ⟨fd, F⟩ := fd_are_lots D
  have H_Ratio_init := has_init1 (P := P) (w := w) (base := base) D
  have H_Ratio_eq := ok_eq (P := P) (w := w) (base := base) D
  have H_total := ok_total (P := P) (w := w) (base := base) D
  refine hasN F (F.bindsN fun _ _ _ _ _ _ us hl => match us, hl with | [_], _ => rfl) sc_are_lots (fun vs H Q E h => ?_) (fun cdv A outer s H vs Q E hr h => ?_)
  · obtain ⟨I, a, qs, rfl, _⟩ := h; rfl
  · obtain ⟨I, va, qs, rfl, s0, ra, ft, hz, k⟩ := h
    obtain ⟨a, vs, rfl, ha, a2⟩ := id ra
    refine ⟨_, (pss_one (ps_ret (pe_and (pe_callB (cr_allK K rfl) rfl (free_all D) (by decide +kernel) (pa_cons (pe_lc (own := [("ratio", 1)]) (g := gName 1) rfl sc_are_lots.nd (pi_ltK K (pv 0)) (blkOk_by (own := [("ratio", 1)]) (N := ["ratios", "ratio"]) (by kernel_rfl)) (fun _ _ _ _ _ => (pg_name (i := 1) sc_are_lots.nd rfl (Or.inl rfl))) (fun _ _ _ _ _ => pts_nil) (fun _ _ _ _ _ => (pe_cmpR op_ge (pe_fldK K (pv 1) rfl) pe_int (nomark _)))) pa_nil))
      (pe_one (pe_cmpR (op_eqOwnH H_Ratio_eq (hr.mono (by decide)) passL (me_Ratio_eq (K := K) D)) (pe_callH H_total (hr.mono (by decide)) rfl (glo_total D) passL (pa_cons (pv 0) pa_nil)) (pe_makeH (mkr_Ratio (K := K) D) H_Ratio_init (hr.mono (by decide)) rfl (glo_Ratio D) passL (pa_cons pe_int pa_nil)) (nomark _)))))), ?_⟩
    have hl := a2.len
    refine ⟨_, rfl, lt_of ha s0 fun J W l hD => lc_wk [] iB (fun i b => ∃ q, qs[i]? = some q ∧ b = decide (0 ≤ q.num)) (fun _ _ => True) W s0 hD (by simp) (Nat.lt_of_le_of_lt (by omega : vs.length ≤ 100000) (by decide)) stb_true trivial (fun i I' H' Nx Qk hi s1 s2 _ kk => ?_) (fun I' H' ys zs g1 hD' b2 hn rl _ => ?_)⟩
    · have hq := gq_lt (l := qs) (i := i) (by omega)
      obtain ⟨b, dy, eb, hb⟩ := id (up (s1.trans s2) (gv2 a2 hq))
      rw [eb]
      refine ⟨rfl, ?_⟩
      refine ⟨_, rfl, _, _, _, _, _, rfl, hb, cls_Ratio D, na_Ratio_num D, rf_num (gq qs i), _, _, rfl, rfl, ?_⟩
      exact kk _ _ _ _ (Gr.refl s2) trivial rfl ⟨_, hq, rfl⟩
    · have e := all_of (p := fun q : Rat => 0 ≤ q.num) (xs := qs) (by rw [hn, hl]) rl
      refine ⟨_, zs, rfl, SqL.of (g1.ih _ _ (by rw [← bls_of b2]; exact hD')), _, rfl, ?_⟩
      rw [e]
      refine ifB (fun c => ?_) (fun c => ?_)
      · refine ⟨_, rfl, I', _, qs, rfl, g1.ih, up g1.ii ra, ft, fun I2 H2 tv g2 rt2 => ?_⟩
        refine fun x dx nx nd ne => ⟨x, dx, _, _, rfl, upd_same, sm_of (by decide) (by decide), fun _ => ⟨rfl, ?_⟩, fun h => absurd h (by decide)⟩
        obtain ⟨g3, r3⟩ := rat_new (ms := []) (C := CR K) (q := rt 1 1) g2.ih nx nd ne
        have g4 := (g1.trans g2).trans g3
        obtain ⟨t, dt, rfl, ht⟩ := id (up g3.ii rt2)
        refine ⟨t, _, dt, _, _, _, rfl, rfl, g3.ih _ _ ht, upd_same, _, _, _, _, _, rfl, g3.ih, up g3.ii rt2, r3, ?_⟩
        have z := k _ _ g4
        unfold lots at z
        rw [c, Bool.true_and] at z
        rw [show rt 1 1 = 1 from rt_same (by decide)]
        exact z
      · have z := k _ _ g1
        unfold lots at z
        rw [c, Bool.false_and] at z
        exact z
end
end K

set_option Elab.async false
set_option linter.all false
set_option maxRecDepth 100000
set_option maxHeartbeats 4000000
set_option exponentiation.threshold 5000
namespace K
open PySem PySem.Spec PyProof.Rows L2 Tk Hd Mt
section
variable {P : Program} {w : World} {K : PySem.W.Frag} {mg : Str → Option Value} {base : Heap}
/-! ### machines: rows kept as tuples -/
theorem lt_line {n : Nat} (h : n ≤ 100000) : n < sizeLine := Nat.lt_of_le_of_lt h (by decide)
def spTable (C : Addr) : Sp := fun vs H Q _ => ∃ (I : Hp) (a : V) (rows : Rows), vs = [a] ∧ Same I H ∧ iA (iA (iR C)) I a rows ∧ rows.length ≤ 100000 ∧ Ret [] I H (iT (iT (iR C))) rows Q
theorem sc_table : FnScope ["rows", "row"] ["rows"] (defScope s__table) := ⟨rfl, rfl, rfl, by decide +kernel, rfl, by decide +kernel, by decide +kernel⟩
theorem ok_table (D : Dt K mg) : Has P w K mg base 1 (He.ga K "_table") ["rows"] [] (spTable (CR K)) := by
  obtain ⟨fd, F⟩ := fd__table D
  refine hasN F (F.bindsN fun _ _ _ _ _ _ us hl => match us, hl with | [_], _ => rfl) sc_table (fun vs H Q E h => ?_) (fun cdv A outer s H vs Q E hr h => ?_)
  · obtain ⟨I, a, qs, rfl, _⟩ := h; rfl
  · obtain ⟨I, va, rows, rfl, s0, ra, hz, k⟩ := h
    obtain ⟨a, vs, rfl, ha, a2⟩ := id ra
    refine ⟨_, (pss_one (ps_ret (pe_callTy (call_tuple_ofK K) rfl (free_tuple D) (by decide +kernel) (pa_cons (pe_lc (own := [("row", 1)]) (g := gName 1) rfl sc_table.nd (pi_ltK K (pv 0)) (blkOk_by (own := [("row", 1)]) (N := ["rows", "row"]) (by kernel_rfl)) (fun _ _ _ _ _ => (pg_name (i := 1) sc_table.nd rfl (Or.inl rfl))) (fun _ _ _ _ _ => pts_nil) (fun _ _ _ _ _ => (pe_callTy (call_tuple_ofK K) rfl (free_tuple D) (by decide +kernel) (pa_cons (pv 1) pa_nil)))) pa_nil)))), ?_⟩
    refine ⟨_, rfl, lt_of ha s0 fun J W l hD => lc_id (R := iA (iR (CR K))) (Sy := iT (iR (CR K))) W a2 s0 hD (lt_line hz) (fun i x I' H' Nx Qk hx rx sx kk => ?_) (fun I' H' g1 r1 => ?_)⟩
    · exact ⟨rfl, _, rfl, tup_of rx sx kk⟩
    · exact tup_of (iA.l r1) g1.ih fun I2 H2 v2 g2 r2 => k _ _ _ (g1.trans g2) r2
def spOut : Sp := fun vs H Q _ => ∃ (m n : Int), vs = [.int m, .int n] ∧ Q (.bl (decide (m < 1) || decide (m > n))) H
theorem sc_out_of : FnScope ["many", "most"] ["many", "most"] (defScope s__out_of) := ⟨rfl, rfl, rfl, by decide +kernel, rfl, by decide +kernel, by decide +kernel⟩
theorem ok_out (D : Dt K mg) : Has P w K mg base 1 (He.ga K "_out_of") ["many", "most"] [] spOut := by
  obtain ⟨fd, F⟩ := fd__out_of D
  refine hasN F (F.bindsN fun _ _ _ _ _ _ us hl => match us, hl with | [_, _], _ => rfl) sc_out_of (fun vs H Q E h => ?_) (fun cdv A outer s H vs Q E hr h => ?_)
  · obtain ⟨m, n, rfl, _⟩ := h; rfl
  · obtain ⟨m, n, rfl, k⟩ := h
    refine ⟨_, (pss_one (ps_ret (pe_or (pe_cmpR op_lt (pv 0) pe_int (nomark _)) (pe_one (pe_cmpR op_gt (pv 0) (pv 1) (nomark _)))))), ?_⟩
    refine ⟨_, rfl, _, _, rfl, rfl, _, rfl, ifB (fun c => ?_) (fun c => ?_)⟩
    · rw [c, Bool.true_or] at k; exact k
    · rw [c, Bool.false_or] at k; exact ⟨_, rfl, _, rfl, _, _, rfl, rfl, k⟩
def square (rows : Rows) (n : Nat) : Bool := decide (rows.length = n) && decide (∀ r ∈ rows, r.length = n)
def spSquare (C : Addr) : Sp := fun vs H Q _ => ∃ (I : Hp) (a : V) (rows : Rows) (n : Nat), vs = [a, .int n] ∧ Same I H ∧ iT (iT (iR C)) I a rows ∧ rows.length ≤ 100000 ∧ ∀ I' H', Gr [] I H I' H' → Q (.bl (square rows n)) H'
theorem sc_is_square : FnScope ["rows", "states", "row"] ["rows", "states"] (defScope s__is_square) := ⟨rfl, rfl, rfl, by decide +kernel, rfl, by decide +kernel, by decide +kernel⟩
theorem dec_cast (a b : Nat) : decide ((a : Int) = b) = decide (a = b) := decide_eq_decide.mpr (by omega)
theorem dec_vi (a b : Nat) : decide (V.int (a : Int) = V.int b) = decide (a = b) := decide_eq_decide.mpr ⟨fun h => by injection h with h; omega, fun h => by rw [h]⟩
theorem ok_square (D : Dt K mg) : Has P w K mg base 1 (He.ga K "_is_square") ["rows", "states"] [] (spSquare (CR K)) := by
  obtain ⟨fd, F⟩ := fd__is_square D
  refine hasN F (F.bindsN fun _ _ _ _ _ _ us hl => match us, hl with | [_, _], _ => rfl) sc_is_square (fun vs H Q E h => ?_) (fun cdv A outer s H vs Q E hr h => ?_)
  · obtain ⟨I, a, rows, n, rfl, _⟩ := h; rfl
  · obtain ⟨I, va, rows, n, rfl, s0, ra, hz, k⟩ := h
    obtain ⟨a, vs, rfl, ha, a2⟩ := id ra
    have hl := a2.len
    refine ⟨_, (pss_one (ps_ret (pe_and (pe_cmpR op_eq (pe_callB (call_lenK K) rfl (free_len D) PySem.boot_len (pa_cons (pv 0) pa_nil)) (pv 1) (nomark _)) (pe_one (pe_callB (cr_allK K rfl) rfl (free_all D) (by decide +kernel) (pa_cons (pe_lc (own := [("row", 2)]) (g := gName 2) rfl sc_is_square.nd (pi_tupK K (pv 0)) (blkOk_by (own := [("row", 2)]) (N := ["rows", "states", "row"]) (by kernel_rfl)) (fun _ _ _ _ _ => (pg_name (i := 2) sc_is_square.nd rfl (Or.inl rfl))) (fun _ _ _ _ _ => pts_nil) (fun _ _ _ _ _ => (pe_cmpR op_eq (pe_callB (call_lenK K) rfl (free_len D) PySem.boot_len (pa_cons (pv 2) pa_nil)) (pv 1) (nomark _)))) pa_nil)))))), ?_⟩
    refine ⟨_, rfl, _, rows.length, rfl, len_of (iA.t ra) s0, _, rfl, rfl, _, rfl, ifB (fun c => ?_) (fun c => ?_)⟩
    · refine ⟨_, rfl, a, rfl, ⟨_, SqT.of (s0 _ _ ha)⟩, fun l hD => lc_bool (K := K) (R := iT (iR (CR K))) (p := fun r : List Rat => r.length = n) (wk_tup ha) a2 s0 hD (lt_line hz) (fun i r I' H' Nx Qk hx rx _ sx kk => ?_) (fun I' H' bs g1 hD' b1 _ => ?_)⟩
      · refine ⟨rfl, _, rfl, _, r.length, rfl, len_of (iA.t rx) sx, _, rfl, rfl, ?_⟩
        have z := kk _ _ (Gr.refl sx)
        rw [← dec_vi] at z
        exact z
      · refine ⟨_, bs, rfl, hD', ?_⟩
        have z := k _ _ g1
        unfold square at z
        rw [← dec_vi, c, Bool.true_and, ← b1] at z
        exact z
    · have z := k _ _ (Gr.refl s0)
      unfold square at z
      rw [← dec_vi, c, Bool.false_and] at z
      exact z
/-- all weights of a state on one button -/
def lead (parts : List Rows) (s : Nat) : List Rat := flat (fun a => (gl (gl parts a) s).length) (fun a j => gq (gl (gl parts a) s) j) parts.length
def spLead (C : Addr) : Sp := fun vs H Q _ => ∃ (I : Hp) (a : V) (parts : List Rows) (s : Nat), vs = [a, .int s] ∧ Same I H ∧ iT (iT (iT (iR C))) I a parts ∧ Fits (lead parts s) ∧ (lead parts s).length ≤ 100000 ∧ (∀ rows ∈ parts, s < rows.length) ∧
  ∀ I' H', Gr [] I H I' H' → Q (.bl (lots (lead parts s))) H'
theorem sc_leads_on : FnScope ["parts", "state", "rows", "weight"] ["parts", "state"] (defScope s__leads_on) := ⟨rfl, rfl, rfl, by decide +kernel, rfl, by decide +kernel, by decide +kernel⟩
theorem ok_lead (D : Dt K mg) : Has P w K mg base 6 (He.ga K "_leads_on") ["parts", "state"] [] (spLead (CR K)) := by
  obtain ⟨fd, F⟩ := fd__leads_on D
  have H_are_lots := ok_lots (P := P) (w := w) (base := base) D
  refine hasN F (F.bindsN fun _ _ _ _ _ _ us hl => match us, hl with | [_, _], _ => rfl) sc_leads_on (fun vs H Q E h => ?_) (fun cdv A outer s H vs Q E hr h => ?_)
  · obtain ⟨I, a, rows, n, rfl, _⟩ := h; rfl
  · obtain ⟨I, va, parts, st, rfl, s0, ra, ft, hz, hs, k⟩ := h
    obtain ⟨a, vs, rfl, ha, a2⟩ := id ra
    have hl := a2.len
    refine ⟨_, (pss_one (ps_ret (pe_callH H_are_lots (hr.mono (by decide)) rfl (glo_are_lots D) passL (pa_cons (pe_lc2 (own := [("rows", 2), ("weight", 3)]) (vs1 := [3]) (g := gName 2) (g1 := gName 3) rfl sc_leads_on.nd (pi_tupK K (pv 0)) (blkOk_by (own := [("rows", 2), ("weight", 3)]) (N := ["parts", "state", "rows", "weight"]) (by kernel_rfl)) (by decide) (fun _ _ _ _ _ => (pg_name (i := 2) sc_leads_on.nd rfl (Or.inl rfl))) (fun _ _ _ _ _ => pts_nil) (fun _ _ _ _ _ => (pi_tupK K (pe_ix (ix_tupK K) (pv 2) (pv 1) (fun _ _ => rfl)))) (fun _ _ _ _ _ => (pg_name (i := 3) sc_leads_on.nd rfl (Or.inl rfl))) (fun _ _ _ _ _ => pts_nil) (fun _ _ _ _ _ => (pv 3))) pa_nil)))), ?_⟩
    refine ⟨_, rfl, a, rfl, ⟨_, SqT.of (s0 _ _ ha)⟩, fun l hD => lc2_wk (n := vs.length) (xs := gv vs) (iR (CR K)) (fun a => (gl (gl parts a) st).length) (fun a j => gq (gl (gl parts a) st) j) (wk_tup ha) s0 hD (by rw [hl]; exact Nat.le_of_lt (lt_line hz)) (fun i I' H' Nx R2 hi s1 s2 kk => ?_) (fun I' H' ys g1 hD' b2 => ?_)⟩
    · have hp := gl_lt (l := parts) (i := i) (by omega)
      obtain ⟨b, ws, eb, hb, b2⟩ := up s1 (gv2 a2 hp)
      have hst := hs _ (List.mem_of_getElem? hp)
      obtain ⟨u, hu, c, xs, rfl, hc, c2⟩ := b2.get' (gl_lt hst)
      rw [eb]
      refine ⟨rfl, ?_⟩
      refine ⟨_, rfl, _, rfl, _, _, _, _, rfl, rfl, SqT.of (s2 _ _ hb), at_of rfl hu, c, rfl, ⟨_, SqT.of (s2 _ _ hc)⟩, ?_⟩
      have W1 := wk_tup (K := K) hc
      rw [c2.len] at W1
      refine kk _ _ (gv xs) W1 fun j I2 H2 Nx1 Qk hj s3 s4 ke => ?_
      refine ⟨rfl, ?_⟩
      exact ⟨_, rfl, ke _ _ _ (Gr.refl s4) (up s3 (gv2 c2 (gq_lt hj)))⟩
    · rw [hl] at b2
      refine ⟨I', _, lead parts st, rfl, g1.ih, iA.l ⟨l, ys, rfl, hD', b2⟩, ft, hz, fun I2 H2 g2 => k _ _ (g1.trans g2)⟩
end
end K

set_option Elab.async false
set_option linter.all false
set_option maxRecDepth 100000
set_option maxHeartbeats 4000000
set_option exponentiation.threshold 5000
namespace K
open PySem PySem.Spec PyProof.Rows L2 Tk Hd Mt
theorem mem_gl {α : Type} {l : List (List α)} {x : List α} (h : x ∈ l) : ∃ i, i < l.length ∧ x = gl l i := by
  obtain ⟨i, hi, e⟩ := List.getElem_of_mem h
  exact ⟨i, hi, by rw [gl_of (List.getElem?_eq_getElem hi), e]⟩
theorem mem_gq {l : List Rat} {x : Rat} (h : x ∈ l) : ∃ i, i < l.length ∧ x = gq l i := by
  obtain ⟨i, hi, e⟩ := List.getElem_of_mem h
  exact ⟨i, hi, by rw [gq_of (List.getElem?_eq_getElem hi), e]⟩
theorem flat_mem {β : Type} {ks : Nat → Nat} {f : Nat → Nat → β} {n : Nat} {x : β} (h : x ∈ flat ks f n) : ∃ i j, i < n ∧ j < ks i ∧ x = f i j := by
  unfold flat at h
  obtain ⟨i, hi, h⟩ := List.mem_flatMap.mp h
  obtain ⟨j, hj, e⟩ := List.mem_map.mp h
  exact ⟨i, j, List.mem_range.mp hi, List.mem_range.mp hj, e.symm⟩
theorem tot_range (n : Nat) (f : Nat → Rat) : tot ((List.range n).map f) = S n f := by
  unfold tot
  rw [List.length_map, List.length_range]
  refine S_congr fun i hi => gq_of ?_
  rw [List.getElem?_map, List.getElem?_range hi]; rfl
theorem tot_flat (ks : Nat → Nat) (f : Nat → Nat → Rat) : ∀ n, tot (flat ks f n) = S n (fun i => S (ks i) (f i))
  | 0 => by simp [flat, tot, S]
  | n + 1 => by rw [flat_succ, tot_app, tot_flat ks f n, tot_range]; rfl
theorem flat_len {β : Type} (ks : Nat → Nat) (f : Nat → Nat → β) (m : Nat) : ∀ n, (∀ i, i < n → ks i = m) → (flat ks f n).length = n * m
  | 0, _ => by simp [flat]
  | n + 1, h => by rw [flat_succ, List.length_append, flat_len ks f m n (fun i hi => h i (by omega)), List.length_map, List.length_range, h n (by omega), Nat.succ_mul]
section
variable {P : Program} {w : World} {K : PySem.W.Frag} {mg : Str → Option Value} {base : Heap}
abbrev iMv (C : Addr) : Rp (List (List Rows)) := iT (iT (iT (iT (iR C))))
/-- the first reason that a machine is none -/
def flt (st : List Rat) (mv : List (List Rows)) : Option Str :=
  if st.length < 1 ∨ 12 < st.length then some "states"
  else if mv.length < 1 ∨ 4 < mv.length then some "buttons"
  else if ((gl mv 0).length < 1 ∨ 4 < (gl mv 0).length) ∨ ∃ p ∈ mv, p.length ≠ (gl mv 0).length then some "answers"
  else if ¬ ∀ p ∈ mv, ∀ r ∈ p, square r st.length = true then some "rows"
  else if lots st = false then some "start"
  else if ¬ ∀ p ∈ mv, ∀ s, s < st.length → lots (lead p s) = true then some "moves"
  else none
def oV : Option Str → V
  | none => .non
  | some s => .str s
structure FOk (st : List Rat) (mv : List (List Rows)) : Prop where
  z0 : st.length ≤ 1000
  z1 : mv.length ≤ 1000
  z2 : ∀ p ∈ mv, p.length ≤ 1000
  z3 : ∀ p ∈ mv, ∀ r ∈ p, r.length ≤ 1000
  f0 : Fits st
  f1 : ∀ p ∈ mv, ∀ s, Fits (lead p s)
theorem sq_len {r : Rows} {n : Nat} (h : square r n = true) : r.length = n ∧ ∀ x ∈ r, x.length = n := by
  unfold square at h
  simpa only [Bool.and_eq_true, decide_eq_true_eq] using h
theorem flat_all (ks : Nat → Nat) (f : Nat → Nat → Bool) (n : Nat) : (flat ks f n).all id = true ↔ ∀ i, i < n → ∀ j, j < ks i → f i j = true := by
  unfold flat
  simp [List.all_eq_true]
def spFault (C : Addr) : Sp := fun vs H Q _ => ∃ (I : Hp) (a b : V) (st : List Rat) (mv : List (List Rows)), vs = [a, b] ∧ Same I H ∧ iT (iR C) I a st ∧ iMv C I b mv ∧ FOk st mv ∧ ∀ I' H', Gr [] I H I' H' → Q (oV (flt st mv)) H'
theorem sc_fault : FnScope ["start", "moves", "parts", "rows", "state"] ["start", "moves"] (defScope s__fault) := ⟨rfl, rfl, rfl, by decide +kernel, rfl, by decide +kernel, by decide +kernel⟩
theorem out_no {m n : Int} (h1 : 1 ≤ m) (h2 : m ≤ n) : (decide (m < 1) || decide (m > n)) = false := by
  rw [Bool.or_eq_false_iff, decide_eq_false_iff_not, decide_eq_false_iff_not]; omega
theorem ok_fault (D : Dt K mg) : Has P w K mg base 7 (He.ga K "_fault") ["start", "moves"] [] (spFault (CR K)) := by
  obtain ⟨fd, F⟩ := fd__fault D
  have H_are_lots := ok_lots (P := P) (w := w) (base := base) D
  have H__leads_on := ok_lead (P := P) (w := w) (base := base) D
  have H__is_square := ok_square (P := P) (w := w) (base := base) D
  have H__out_of := ok_out (P := P) (w := w) (base := base) D
  obtain ⟨t1, e1⟩ := int_MOST_STATES D
  obtain ⟨t2, e2⟩ := int_MOST_BUTTONS D
  obtain ⟨t3, e3⟩ := int_MOST_ANSWERS D
  refine hasN F (F.bindsN fun _ _ _ _ _ _ us hl => match us, hl with | [_, _], _ => rfl) sc_fault (fun vs H Q E h => ?_) (fun cdv A outer s H vs Q E hr h => ?_)
  · obtain ⟨I, a, b, st, mv, rfl, _⟩ := h; rfl
  · obtain ⟨I, va, vb, st, mv, rfl, s0, ra, rb, ok, k⟩ := h
    obtain ⟨a, vs, rfl, ha, a2⟩ := id ra
    obtain ⟨b, ws, rfl, hb, b2⟩ := id rb
    have hlb := b2.len
    have z0 := ok.z0
    have z1 := ok.z1
    refine ⟨_, (pss_cons (ps_if (pt_val (pe_callH H__out_of (hr.mono (by decide)) rfl (glo__out_of D) passL (pa_cons (pe_callB (call_lenK K) rfl (free_len D) PySem.boot_len (pa_cons (pv 0) pa_nil)) (pa_cons (pe_glob (v := .int 12) rfl e1 ⟨t1, rfl⟩) pa_nil))))
      (pss_one (ps_ret pe_str))
      pss_nil)
      (pss_cons (ps_if (pt_val (pe_callH H__out_of (hr.mono (by decide)) rfl (glo__out_of D) passL (pa_cons (pe_callB (call_lenK K) rfl (free_len D) PySem.boot_len (pa_cons (pv 1) pa_nil)) (pa_cons (pe_glob (v := .int 4) rfl e2 ⟨t2, rfl⟩) pa_nil))))
      (pss_one (ps_ret pe_str))
      pss_nil)
      (pss_cons (ps_if (PW.pt (pw_or (pt_val (pe_callH H__out_of (hr.mono (by decide)) rfl (glo__out_of D) passL (pa_cons (pe_callB (call_lenK K) rfl (free_len D) PySem.boot_len (pa_cons (pe_ix (ix_tupK K) (pv 1) pe_int (fun _ _ => rfl)) pa_nil)) (pa_cons (pe_glob (v := .int 4) rfl e3 ⟨t3, rfl⟩) pa_nil)))) (pw_or1 (pt_val (pe_callB (cr_anyK K rfl) rfl (free_any D) (by decide +kernel) (pa_cons (pe_lc (own := [("parts", 2)]) (g := gName 2) rfl sc_fault.nd (pi_tupK K (pv 1)) (blkOk_by (own := [("parts", 2)]) (N := ["start", "moves", "parts", "rows", "state"]) (by kernel_rfl)) (fun _ _ _ _ _ => (pg_name (i := 2) sc_fault.nd rfl (Or.inl rfl))) (fun _ _ _ _ _ => pts_nil) (fun _ _ _ _ _ => (pe_cmpR op_ne (pe_callB (call_lenK K) rfl (free_len D) PySem.boot_len (pa_cons (pv 2) pa_nil)) (pe_callB (call_lenK K) rfl (free_len D) PySem.boot_len (pa_cons (pe_ix (ix_tupK K) (pv 1) pe_int (fun _ _ => rfl)) pa_nil)) (nomark _)))) pa_nil))))))
      (pss_one (ps_ret pe_str))
      pss_nil)
      (pss_cons (ps_if (pt_not (pt_val (pe_callB (cr_allK K rfl) rfl (free_all D) (by decide +kernel) (pa_cons (pe_lc2 (own := [("parts", 2), ("rows", 3)]) (vs1 := [3]) (g := gName 2) (g1 := gName 3) rfl sc_fault.nd (pi_tupK K (pv 1)) (blkOk_by (own := [("parts", 2), ("rows", 3)]) (N := ["start", "moves", "parts", "rows", "state"]) (by kernel_rfl)) (by decide) (fun _ _ _ _ _ => (pg_name (i := 2) sc_fault.nd rfl (Or.inl rfl))) (fun _ _ _ _ _ => pts_nil) (fun _ _ _ _ _ => (pi_tupK K (pv 2))) (fun _ _ _ _ _ => (pg_name (i := 3) sc_fault.nd rfl (Or.inl rfl))) (fun _ _ _ _ _ => pts_nil) (fun _ _ _ _ _ => (pe_callH H__is_square (hr.mono (by decide)) rfl (glo__is_square D) passL (pa_cons (pv 3) (pa_cons (pe_callB (call_lenK K) rfl (free_len D) PySem.boot_len (pa_cons (pv 0) pa_nil)) pa_nil))))) pa_nil))))
      (pss_one (ps_ret pe_str))
      pss_nil)
      (pss_cons (ps_if (pt_not (pt_val (pe_callH H_are_lots (hr.mono (by decide)) rfl (glo_are_lots D) passL (pa_cons (pv 0) pa_nil))))
      (pss_one (ps_ret pe_str))
      pss_nil)
      (pss_cons (ps_if (pt_not (pt_val (pe_callB (cr_allK K rfl) rfl (free_all D) (by decide +kernel) (pa_cons (pe_lc2 (own := [("parts", 2), ("state", 4)]) (vs1 := [4]) (g := gName 2) (g1 := gName 4) rfl sc_fault.nd (pi_tupK K (pv 1)) (blkOk_by (own := [("parts", 2), ("state", 4)]) (N := ["start", "moves", "parts", "rows", "state"]) (by kernel_rfl)) (by decide) (fun _ _ _ _ _ => (pg_name (i := 2) sc_fault.nd rfl (Or.inl rfl))) (fun _ _ _ _ _ => pts_nil) (fun _ _ _ _ _ => (pi_range1 rfl (free_range D) (pa_cons (pe_callB (call_lenK K) rfl (free_len D) PySem.boot_len (pa_cons (pv 0) pa_nil)) pa_nil))) (fun _ _ _ _ _ => (pg_name (i := 4) sc_fault.nd rfl (Or.inl rfl))) (fun _ _ _ _ _ => pts_nil) (fun _ _ _ _ _ => (pe_callH H__leads_on (hr.mono (by decide)) rfl (glo__leads_on D) passL (pa_cons (pv 2) (pa_cons (pv 4) pa_nil))))) pa_nil))))
      (pss_one (ps_ret pe_str))
      pss_nil)
      (pss_one (ps_ret pe_non)))))))), ?_⟩
    refine ⟨_, rfl, _, st.length, rfl, len_of (iA.t ra) s0, _, _, rfl, _, rfl, ifB (fun c => ?_) (fun c => ?_)⟩
    · have z := k _ _ (Gr.refl s0)
      rw [show flt st mv = some "states" from if_pos (by simp only [Bool.or_eq_true, decide_eq_true_eq] at c; omega)] at z
      exact z
    have c1 : ¬ (st.length < 1 ∨ 12 < st.length) := by
      simp only [Bool.or_eq_false_iff, decide_eq_false_iff_not] at c; omega
    clear c
    refine ⟨_, rfl, _, mv.length, rfl, len_of (iA.t rb) s0, _, _, rfl, _, rfl, ifB (fun c => ?_) (fun c => ?_)⟩
    · have z := k _ _ (Gr.refl s0)
      rw [show flt st mv = some "buttons" from (if_neg c1).trans (if_pos (by simp only [Bool.or_eq_true, decide_eq_true_eq] at c; omega))] at z
      exact z
    have c2 : ¬ (mv.length < 1 ∨ 4 < mv.length) := by
      simp only [Bool.or_eq_false_iff, decide_eq_false_iff_not] at c; omega
    clear c
    obtain ⟨u, hu, c, xs, rfl, hc, d2⟩ := id (b2.get' (gl_lt (l := mv) (i := 0) (by omega)))
    have hc' := s0 _ _ hc
    have hb' := s0 _ _ hb
    refine ⟨_, rfl, _, _, _, _, rfl, rfl, SqT.of hb', at_of (j := 0) rfl hu, _, (gl mv 0).length, rfl, len_of (R := iT (iT (iR (CR K)))) (iA.t ⟨c, xs, rfl, hc, d2⟩) s0, _, _, rfl, _, rfl, ifB (fun c => ?_) (fun c => ?_)⟩
    · have z := k _ _ (Gr.refl s0)
      rw [show flt st mv = some "answers" from (if_neg c1).trans ((if_neg c2).trans (if_pos (.inl (by simp only [Bool.or_eq_true, decide_eq_true_eq] at c; omega))))] at z
      exact iteT z
    have c3 : ¬ ((gl mv 0).length < 1 ∨ 4 < (gl mv 0).length) := by
      simp only [Bool.or_eq_false_iff, decide_eq_false_iff_not] at c; omega
    clear c
    have hlen0 : 1 ≤ (gl mv 0).length ∧ (gl mv 0).length ≤ 4 := by omega
    refine ⟨_, rfl, b, rfl, ⟨_, SqT.of hb'⟩, fun l hD => lc_bool (K := K) (R := iT (iT (iT (iR (CR K))))) (p := fun parts : List Rows => parts.length ≠ (gl mv 0).length) (wk_tup hb) b2 s0 hD (lt_line (by omega)) (fun i x I' H' Nx Qk hx rx s1 sx kk => ?_) (fun I1 H1 bls g1 hl1 _ any1 => ?_)⟩
    · refine ⟨rfl, _, rfl, _, x.length, rfl, len_of (iA.t rx) sx, _, rfl, _, _, _, _, rfl, rfl, SqT.of (sx _ _ (s1 _ _ hb)), at_of (j := 0) rfl hu, _, (gl mv 0).length, rfl, len_of (R := iT (iT (iR (CR K)))) (iA.t ⟨c, xs, rfl, s1 _ _ hc, d2.up s1⟩) sx, ?_⟩
      have z := kk _ _ (Gr.refl sx)
      refine ⟨rfl, ?_⟩
      rw [dec_vi]
      rw [show decide (x.length ≠ (gl mv 0).length) = !decide (x.length = (gl mv 0).length) from by simp] at z
      exact z
    refine ⟨_, bls, rfl, hl1, _, rfl, ?_⟩
    rw [any1]
    by_cases c4 : ∃ x, x ∈ mv ∧ x.length ≠ (gl mv 0).length
    · rw [decide_eq_true c4]
      refine ifT rfl ?_
      have z := k _ _ g1
      rw [show flt st mv = some "answers" from (if_neg c1).trans ((if_neg c2).trans (if_pos (.inr c4)))] at z
      exact z
    rw [decide_eq_false c4]
    refine ifF rfl ?_
    have al : ∀ i, i < mv.length → (gl mv i).length = (gl mv 0).length := fun i hi => by
      refine Classical.byContradiction fun h => c4 ⟨gl mv i, List.mem_of_getElem? (gl_lt hi), h⟩
    have c34 : ¬ (((gl mv 0).length < 1 ∨ 4 < (gl mv 0).length) ∨ ∃ p ∈ mv, p.length ≠ (gl mv 0).length) := fun h => h.elim c3 c4
    clear any1 hl1
    replace s0 := g1.ih
    replace ra := up g1.ii ra
    replace rb := up g1.ii rb
    replace hb := g1.ii _ _ hb
    replace b2 := b2.up g1.ii
    refine ⟨_, rfl, b, rfl, ⟨_, SqT.of (s0 _ _ hb)⟩, fun l hD => lc2_wk iB (fun i => (gl mv i).length) (fun i j => square (gl (gl mv i) j) st.length) (wk_tup hb) s0 hD ?_ (fun i I' H' Nx R2 hi s1 s2 kk => ?_) (fun I2 H2 ys g2 hD' d2 => ?_)⟩
    · rw [flat_len _ _ (gl mv 0).length _ fun i hi => al i (by omega), hlb]
      have := Nat.mul_le_mul (show mv.length ≤ 4 by omega) hlen0.2
      exact Nat.le_of_lt (lt_line (by omega))
    · have hp := gl_lt (l := mv) (i := i) (by omega)
      obtain ⟨c, zs, ec, hc, c2'⟩ := up s1 (gv2 b2 hp)
      rw [ec]
      refine ⟨rfl, ?_⟩
      refine ⟨_, rfl, c, rfl, ⟨_, SqT.of (s2 _ _ hc)⟩, ?_⟩
      have W1 := wk_tup (K := K) hc
      rw [c2'.len] at W1
      refine kk _ _ (gv zs) W1 fun j I3 H3 Nx1 Qk hj s3 s4 ke => ?_
      have hq := gl_lt (l := gl mv i) hj
      refine ⟨rfl, _, rfl, _, rfl, _, st.length, rfl, len_of (iA.t (up ((s1.trans s3)) ra)) s4, I3, _, gl (gl mv i) j, st.length, rfl, s4, up s3 (gv2 c2' hq), ?_, fun I4 H4 g4 => ke _ _ _ g4 rfl⟩
      have := ok.z3 _ (List.mem_of_getElem? hp) _ (List.mem_of_getElem? hq)
      omega
    have ea : (flat (fun i => (gl mv i).length) (fun i j => square (gl (gl mv i) j) st.length) ws.length).all id = decide (∀ p ∈ mv, ∀ r ∈ p, square r st.length = true) := by
      rw [Bool.eq_iff_iff, flat_all, decide_eq_true_iff, hlb]
      constructor
      · intro h p hp r hr
        obtain ⟨i, hi, rfl⟩ := mem_gl hp
        obtain ⟨j, hj, rfl⟩ := mem_gl hr
        exact h i hi j hj
      · intro h i hi j hj
        exact h _ (List.mem_of_getElem? (gl_lt hi)) _ (List.mem_of_getElem? (gl_lt hj))
    refine ⟨_, _, rfl, SqL.of (g2.ih _ _ (by rw [← bls_of d2]; exact hD')), _, rfl, ?_⟩
    rw [ea]
    by_cases c5 : ∀ p ∈ mv, ∀ r ∈ p, square r st.length = true
    case neg =>
      rw [decide_eq_false c5]
      refine ifT rfl ?_
      have z := k _ _ (g1.trans g2)
      rw [show flt st mv = some "rows" from (if_neg c1).trans ((if_neg c2).trans ((if_neg c34).trans (if_pos c5)))] at z
      exact z
    rw [decide_eq_true c5]
    refine ifF rfl ?_
    clear ea d2 hD'
    replace s0 := g2.ih
    replace ra := up g2.ii ra
    replace rb := up g2.ii rb
    replace hb := g2.ii _ _ hb
    replace b2 := b2.up g2.ii
    refine ⟨_, rfl, I2, _, st, rfl, s0, iA.t ra, ok.f0, by omega, fun I3 H3 g3 => ?_⟩
    refine ⟨_, rfl, ?_⟩
    cases c6 : lots st with
    | false =>
      refine ifT rfl ?_
      have z := k _ _ ((g1.trans g2).trans g3)
      rw [show flt st mv = some "start" from (if_neg c1).trans ((if_neg c2).trans ((if_neg c34).trans ((if_neg (fun h => h c5)).trans (if_pos c6))))] at z
      exact z
    | true =>
      refine ifF rfl ?_
      replace s0 := g3.ih
      replace ra := up g3.ii ra
      replace rb := up g3.ii rb
      replace hb := g3.ii _ _ hb
      replace b2 := b2.up g3.ii
      have sq : ∀ i a, i < mv.length → a < (gl mv 0).length → (gl (gl mv i) a).length = st.length ∧ ∀ x ∈ gl (gl mv i) a, x.length = st.length := fun i a hi ha =>
        sq_len (c5 _ (List.mem_of_getElem? (gl_lt hi)) _ (List.mem_of_getElem? (gl_lt (by rw [al i hi]; exact ha))))
      refine ⟨_, rfl, b, rfl, ⟨_, SqT.of (s0 _ _ hb)⟩, fun l hD => lc2_wk iB (fun i => st.length) (fun i j => lots (lead (gl mv i) j)) (wk_tup hb) s0 hD ?_ (fun i I' H' Nx R2 hi s1 s2 kk => ?_) (fun I4 H4 ys g4 hD' d2 => ?_)⟩
      · rw [flat_len _ _ st.length _ fun i hi => rfl, hlb]
        have := Nat.mul_le_mul (show mv.length ≤ 4 by omega) (show st.length ≤ 12 by omega)
        exact Nat.le_of_lt (lt_line (by omega))
      · have hi' : i < mv.length := by omega
        have hp := gl_lt (l := mv) (i := i) hi'
        refine ⟨rfl, ?_⟩
        refine ⟨_, rfl, _, st.length, rfl, len_of (iA.t (up s1 ra)) s2, _, rfl, by omega, by omega, ?_⟩
        rw [Int.toNat_natCast]
        refine kk _ _ _ (wk_range (I := I')) fun j I3 H3 Nx1 Qk hj s3 s4 ke => ?_
        refine ⟨rfl, _, rfl, _, rfl, I3, _, gl mv i, j, by rw [Int.zero_add]; rfl, s4, up s3 (up s1 (gv2 b2 hp)), ok.f1 _ (List.mem_of_getElem? hp) j, ?_, fun rows hr => ?_, fun I4 H4 g4 => ke _ _ _ g4 rfl⟩
        · unfold lead
          rw [flat_len _ _ st.length _ fun a ha => (sq i a hi' (by rw [← al i hi']; exact ha)).2 _ (List.mem_of_getElem? (gl_lt (by rw [(sq i a hi' (by rw [← al i hi']; exact ha)).1]; exact hj))), al i hi']
          have := Nat.mul_le_mul hlen0.2 (show st.length ≤ 12 by omega)
          omega
        · obtain ⟨a, ha, rfl⟩ := mem_gl hr
          rw [(sq i a hi' (by rw [← al i hi']; exact ha)).1]; exact hj
      have ea : (flat (fun i => st.length) (fun i j => lots (lead (gl mv i) j)) ws.length).all id = decide (∀ p ∈ mv, ∀ s, s < st.length → lots (lead p s) = true) := by
        rw [Bool.eq_iff_iff, flat_all, decide_eq_true_iff, hlb]
        constructor
        · intro h p hp s hs
          obtain ⟨i, hi, rfl⟩ := mem_gl hp
          exact h i hi s hs
        · intro h i hi j hj
          exact h _ (List.mem_of_getElem? (gl_lt hi)) _ hj
      refine ⟨_, _, rfl, SqL.of (g4.ih _ _ (by rw [← bls_of d2]; exact hD')), _, rfl, ?_⟩
      rw [ea]
      have n6 : ¬ lots st = false := fun h => by rw [c6] at h; cases h
      by_cases c7 : ∀ p ∈ mv, ∀ s, s < st.length → lots (lead p s) = true
      · rw [decide_eq_true c7]
        refine ifF rfl ?_
        have z := k _ _ (((g1.trans g2).trans g3).trans g4)
        rw [show flt st mv = none from (if_neg c1).trans ((if_neg c2).trans ((if_neg c34).trans ((if_neg (fun h => h c5)).trans ((if_neg n6).trans (if_neg (fun h => h c7))))))] at z
        exact z
      · rw [decide_eq_false c7]
        refine ifT rfl ?_
        have z := k _ _ (((g1.trans g2).trans g3).trans g4)
        rw [show flt st mv = some "moves" from (if_neg c1).trans ((if_neg c2).trans ((if_neg c34).trans ((if_neg (fun h => h c5)).trans ((if_neg n6).trans (if_pos c7)))))] at z
        exact z
end
end K

set_option Elab.async false
set_option linter.all false
set_option maxRecDepth 100000
set_option maxHeartbeats 4000000
set_option exponentiation.threshold 5000
namespace Tk
open PySem PySem.Spec PyProof.Rows L2
theorem pmk_oexH {X : Cx} {k : Nat} {f C : Addr} {fld : Str} {ps : List Str} {sp : Sp} {dvs : List V} {x : Str} {e : Expr} {es : List Expr} {ta : TA} {p pos : Pos} (T : OexF X.K C f fld) (h : HasX X k f ps dvs sp) (hr : Room (k + 1) X.A) (hg : Gl X x) (hm : X.mg x = some (.ref C)) (ha : PA X (e :: es) ta)
    (hdb : (x == ("__debug__" : Str)) = false := by decide) (he : starEach (e :: es) X.env = (false, eval e X.env) :: starEach es X.env := by rfl) (hpl : (backTo pos (starEach es X.env)).any (·.1) = false := by rfl) :
    PMk X (.Call (.Name x p) (e :: es) [] pos) (tMkO C sp dvs ta) := by
  obtain ⟨_, fd, ds, hd, hb, F⟩ := h
  exact pmk_oex T.T T.iC T.tI F hr hb hd passL hg hm ha hdb he hpl
/-- what stands once such an error is raised -/
theorem xd_heap {H : Hp} {a d : Addr} {u v : HO} {fs : List (Str × V)} {o : HO} (ha : H a = none) (n : d ≠ a) : upd (del (upd (upd (upd H a o) d u) a v) a) d (.xd fs) = upd H d (.xd fs) := by
  funext b
  by_cases hb : b = d
  · subst hb; rw [upd_same, upd_same]
  · rw [upd_ne hb, upd_ne hb]
    by_cases hba : b = a
    · subst hba; rw [del_same, ha]
    · rw [del_ne hba, upd_ne hba, upd_ne hb, upd_ne hba]
end Tk
namespace K
open PySem PySem.Spec PyProof.Rows L2 Tk Hd Mt
abbrev CM (K : PySem.W.Frag) : Addr := He.ga K "Machine"
abbrev CBM (K : PySem.W.Frag) : Addr := He.ga K "BadMachine"
theorem ms_ : ¬ (("start" : Str) = "moves") := by decide +kernel
def mf (va vb : V) : List (Str × V) := putF "moves" vb (putF "start" va [])
theorem mf_start (va vb : V) : (mf va vb).lookup ("start" : Str) = some va := by
  unfold mf; rw [lookup_putF, if_neg ms_, lookup_putF, if_pos rfl]
theorem mf_moves (va vb : V) : (mf va vb).lookup ("moves" : Str) = some vb := by
  unfold mf; rw [lookup_putF, if_pos rfl]
/-- a machine as it stands -/
def iM (C C2 : Addr) : Rp Ma := fun H v M => ∃ a dx va vb, v = .ref a ∧ H a = some (.ins C2 dx (mf va vb)) ∧ iT (iR C) H va M.1 ∧ iMv C H vb M.2
instance {C C2 : Addr} : Mono (iM C C2) := ⟨fun s ⟨a, dx, va, vb, e, h, r1, r2⟩ => ⟨a, dx, va, vb, e, s _ _ h, up s r1, up s r2⟩⟩
section
variable {P : Program} {w : World} {K : PySem.W.Frag} {mg : Str → Option Value} {base : Heap}
def spBM (C : Addr) : Sp := fun vs H Q _ => ∃ (a : Addr) (v : V), vs = [.ref a, v] ∧ H a = some (exo a C none) ∧ ∀ dx, H dx = none → dx ≠ a → Q .non (upd (upd H dx (exd dx [("what", v)])) a (exo a C (some dx)))
theorem sc_bm : FnScope ["self", "what"] ["self", "what"] (defScope s_BadMachine_init) := ⟨rfl, rfl, rfl, by decide +kernel, rfl, by decide +kernel, by decide +kernel⟩
theorem ok_bm (D : Dt K mg) : Has P w K mg base 1 (He.ma K (CBM K) "__init__") ["self", "what"] [] (spBM (CBM K)) := by
  obtain ⟨fd, F⟩ := fd_BadMachine_init D
  refine hasN F (F.bindsN fun _ _ _ _ _ _ us hl => match us, hl with | [_, _], _ => rfl) sc_bm (fun vs H Q E h => ?_) (fun cdv A outer s H vs Q E hr h => ?_)
  · obtain ⟨a, v, rfl, _⟩ := h; rfl
  · obtain ⟨a, v, rfl, ha, k⟩ := h
    refine ⟨_, pss_one (ps_ost (pv 0) (pv 1)), ?_⟩
    exact ⟨_, rfl, _, rfl, a, CBM K, rfl, (oex_BadMachine D).T, (oex_BadMachine D).no, .inl ⟨ha, k⟩⟩
/-- what Machine.__init__ wants of what is passed -/
structure POk (st : List Rat) (mv : List (List Rows)) : Prop where
  f : FOk st mv
def spMInit (C C2 B : Addr) : Sp := fun vs H Q E => ∃ (I : Hp) (x dx : Addr) (a b : V) (M : Ma), vs = [.ref x, a, b] ∧ Same I H ∧ I x = none ∧ H x = some (.ins C2 dx []) ∧ iA (iR C) I a M.1 ∧ iA (iA (iA (iA (iR C)))) I b M.2 ∧ FOk M.1 M.2 ∧
  (flt M.1 M.2 = none → ∀ I' H' va vb, Gr [x] I H I' H' → H' x = some (.ins C2 dx (mf va vb)) → iT (iR C) I' va M.1 → iMv C I' vb M.2 → Q .non H') ∧
  (∀ r, flt M.1 M.2 = some r → ∀ I' H' d, Gr [x] I H I' H' → H' d = some (.xd [("what", .str r)]) → E (.ref B) (some d) H')
theorem sc_minit : FnScope ["self", "start", "moves", "rows", "parts", "why"] ["self", "start", "moves"] (defScope s_Machine_init) := ⟨rfl, rfl, rfl, by decide +kernel, rfl, by decide +kernel, by decide +kernel⟩
theorem ok_minit (D : Dt K mg) : Has P w K mg base 8 (He.ma K (CM K) "__init__") ["self", "start", "moves"] [] (spMInit (CR K) (CM K) (CBM K)) := by
  obtain ⟨fd, F⟩ := fd_Machine_init D
  have H__table := ok_table (P := P) (w := w) (base := base) D
  have H__fault := ok_fault (P := P) (w := w) (base := base) D
  have H_BM := ok_bm (P := P) (w := w) (base := base) D
  refine hasX F (F.bindsN fun _ _ _ _ _ _ us hl => match us, hl with | [_, _, _], _ => rfl) sc_minit (fun vs H Q E h => ?_) (fun cdv A outer s H vs Q E hr h => ?_)
  · obtain ⟨I, x, dx, a, b, M, rfl, _⟩ := h; rfl
  · obtain ⟨I, x, dx, va, vb, M, rfl, s0, hI, hx, ra, rb, ok, k, kE⟩ := h
    obtain ⟨b, ws, rfl, hb, b2⟩ := id rb
    have hlb := b2.len
    have z1 := ok.z1
    refine ⟨_, (pss_cons (ps_fld (pv 0) (pe_callTy (call_tuple_ofK K) rfl (free_tuple D) (by decide +kernel) (pa_cons (pv 1) pa_nil)) rfl)
      (pss_cons (ps_fld (pv 0) (pe_callTy (call_tuple_ofK K) rfl (free_tuple D) (by decide +kernel) (pa_cons (pe_lc (own := [("parts", 4)]) (g := gName 4) rfl sc_minit.nd (pi_ltK K (pv 2)) (blkOk_by (own := [("parts", 4)]) (N := ["self", "start", "moves", "rows", "parts", "why"]) (by kernel_rfl)) (fun _ _ _ _ _ => (pg_name (i := 4) sc_minit.nd rfl (Or.inl rfl))) (fun _ _ _ _ _ => pts_nil) (fun _ _ _ _ _ => (pe_callTy (call_tuple_ofK K) rfl (free_tuple D) (by decide +kernel) (pa_cons (pe_lc (own := [("rows", 3)]) (g := gName 3) rfl sc_minit.nd (pi_ltK K (pv 4)) (blkOk_by (own := [("rows", 3)]) (N := ["self", "start", "moves", "rows", "parts", "why"]) (by kernel_rfl)) (fun _ _ _ _ _ => (pg_name (i := 3) sc_minit.nd rfl (Or.inl rfl))) (fun _ _ _ _ _ => pts_nil) (fun _ _ _ _ _ => (pe_callH H__table (hr.mono (by decide)) rfl (glo__table D) passL (pa_cons (pv 3) pa_nil)))) pa_nil)))) pa_nil)) rfl)
      (pss_cons (ps_set (i := 5) sc_minit.nd rfl (Or.inl rfl) (pe_callH H__fault (hr.mono (by decide)) rfl (glo__fault D) passL (pa_cons (pe_fldK K (pv 0) rfl) (pa_cons (pe_fldK K (pv 0) rfl) pa_nil))))
      (pss_one (ps_if (pt_cmpR op_notN (pv 5) pe_non (nomark _))
      (pss_one (ps_raise rfl (takes_of rfl rfl rfl rfl) (pmk_oexH (oex_BadMachine (K := K) D) H_BM (hr.mono (by decide)) rfl (glo_BadMachine D) (pa_cons (pv 5) pa_nil))))
      pss_nil))))), ?_⟩
    (try dsimp only)
    refine seq_cut (fun σ' H1 => ∃ (I1 : Hp) (v1 : V), σ' = [some (.ref x), some va, some (.ref b), none, none, none] ∧ Gr [x] I H I1 H1 ∧ H1 x = some (.ins (CM K) dx (putF "start" v1 [])) ∧ iT (iR (CR K)) I1 v1 M.1) (fun nx q => ?_) ?_
    · refine ⟨_, rfl, tup_of ra s0 fun I1 H1 v1 g1 r1 => ?_⟩
      have h1 := g1.at hx (by simp)
      refine ⟨_, rfl, x, _, dx, _, rfl, h1, cls_Machine D, na_Machine_start D, (by show 0 < 1000; decide), ?_⟩
      exact q _ _ ⟨I1, v1, rfl, (g1.mono (ns := [x]) fun _ z => nomatch z).trans (Gr.mut g1.ih (g1.out hI hx) List.mem_cons_self), upd_same, r1⟩
    rintro σ' H1 ⟨I1, v1, rfl, g1, h1, r1⟩
    (try dsimp only)
    refine seq_cut (fun σ' H1 => ∃ (I1 : Hp) (v1 v2 : V), σ' = [some (.ref x), some va, some (.ref b), none, none, none] ∧ Gr [x] I H I1 H1 ∧ H1 x = some (.ins (CM K) dx (mf v1 v2)) ∧ iT (iR (CR K)) I1 v1 M.1 ∧ iMv (CR K) I1 v2 M.2) (fun nx q => ?_) ?_
    · have b2' := b2.up g1.ii
      refine ⟨_, rfl, lt_of (hb.imp (g1.ii _ _) (g1.ii _ _)) g1.ih fun J W l hD => lc_id (R := iA (iA (iA (iR (CR K))))) (Sy := iT (iT (iT (iR (CR K))))) W b2' g1.ih hD (lt_line (by omega)) (fun i y I' H' Nx Qk hy ry sx kk => ?_) (fun I2 H2 g2 r2 => ?_)⟩
      · obtain ⟨c, xs, ec, hc, c2⟩ := id ry
        have ly := ok.z2 _ (List.mem_of_getElem? hy)
        rw [ec]
        refine ⟨rfl, _, rfl, lt_of hc sx fun J W l hD => lc_id (R := iA (iA (iR (CR K)))) (Sy := iT (iT (iR (CR K)))) W c2 sx hD (lt_line (by omega)) (fun j z I3 H3 Nx3 Qk3 hz rz sz ke => ?_) (fun I3 H3 g3 r3 => ?_)⟩
        · have lz := ok.z3 _ (List.mem_of_getElem? hy) _ (List.mem_of_getElem? hz)
          refine ⟨rfl, _, rfl, I3, _, _, rfl, sz, rz, ?_, ke⟩
          omega
        · exact tup_of (iA.l r3) g3.ih fun I4 H4 v4 g4 r4 => kk _ _ _ (g3.trans g4) r4
      · refine tup_of (iA.l r2) g2.ih fun I3 H3 v3 g3 r3 => ?_
        have g4 := g2.trans g3
        have hI1 := g1.out hI hx
        have h3 := g4.at h1 (by simp)
        refine ⟨_, rfl, x, _, dx, _, rfl, h3, cls_Machine D, na_Machine_moves D, (by show 1 < 1000; decide), ?_⟩
        exact q _ _ ⟨I3, v1, v3, rfl, (g1.trans (g4.mono (ns := [x]) fun _ z => nomatch z)).trans (Gr.mut g4.ih (g4.out hI1 h1) List.mem_cons_self), upd_same, up g4.ii r1, r3⟩
    clear g1 h1 r1
    rintro σ' H1 ⟨I1, v1, v2, rfl, g1, h1, r1, r2⟩
    (try dsimp only)
    refine ⟨_, rfl, _, _, _, _, _, rfl, h1, cls_Machine D, na_Machine_start D, mf_start v1 v2, _, rfl, _, _, _, _, _, rfl, h1, cls_Machine D, na_Machine_moves D, mf_moves v1 v2, I1, _, _, M.1, M.2, rfl, g1.ih, r1, r2, ok, fun I2 H2 g2 => ?_⟩
    have g12 := g1.trans (g2.mono (ns := [x]) fun _ z => nomatch z)
    cases hf : flt M.1 M.2 with
    | none =>
      refine ⟨_, rfl, rfl, _, rfl, ifF rfl ?_⟩
      exact k hf I2 H2 v1 v2 g12 (g2.at h1 (by simp)) (up g2.ii r1) (up g2.ii r2)
    | some r =>
      refine ⟨_, rfl, rfl, _, rfl, ifT rfl ?_⟩
      refine ⟨_, rfl, (by show 1 ≤ 1000; decide), fun e he => ⟨e, _, rfl, upd_same, fun d hd ne => ⟨rfl, d, [("what", .str r)], upd_same, by rw [upd_ne ne]; exact upd_same, by rw [upd_ne ne] at hd; exact hd, ?_⟩⟩⟩
      have hd2 : H2 d = none := by rw [upd_ne ne] at hd; exact hd
      have e1 := xd_heap (H := H2) (u := exd d [("what", .str r)]) (v := exo e (CBM K) (some d)) (o := exo e (CBM K) none) (fs := [("what", .str r)]) he ne
      have z := kE r hf I2 (upd H2 d (.xd [("what", .str r)])) d (g12.trans (Gr.tmp g12.ih hd2)) upd_same
      rw [← e1] at z
      exact z
end
end K

set_option Elab.async false
set_option linter.all false
set_option maxRecDepth 100000
set_option maxHeartbeats 4000000
/-! == of tuples of own objects, both answers. -/
namespace Tk
open PySem PySem.SeqAt PySem.Spec PyProof.Rows L2 GQ
open AutoSeq1 (wpAny_loadPart')
open MeetsSeq MeetsSeq2 MeetsSeq3 SeqRoads2
/-- the answer of a comparison item by item -/
def cmpB (bs : Nat → Bool) (m n : Nat) : Bool := (List.range (min m n)).all bs && (m == n)
theorem cmpB_false {bs : Nat → Bool} {m n i : Nat} (h1 : i < m) (h2 : i < n) (h : bs i = false) : cmpB bs m n = false := by
  unfold cmpB
  have : (List.range (min m n)).all bs = false := by
    rw [List.all_eq_false]
    exact ⟨i, List.mem_range.mpr (by omega), by rw [h]; exact Bool.false_ne_true⟩
  rw [this]; rfl
theorem cmpB_all {bs : Nat → Bool} {m n : Nat} (h : ∀ j, j < min m n → bs j = true) : cmpB bs m n = (m == n) := by
  unfold cmpB
  have : (List.range (min m n)).all bs = true := List.all_eq_true.mpr fun j hj => h j (List.mem_range.mp hj)
  rw [this]; rfl
section
variable {prog : Program} {w : World} {A : Around} {R : Result → Shared → Prop}
theorem tup_eqB (l b : Addr) (xs ys : Array Value) (n n2 : Nat) (dd dd2 : Option Addr) (sl sl2 : Array (Option Value)) (bs : Nat → Bool) (J : Nat → Shared → Prop)
    (turn : ∀ i (h1 : i < xs.size) (h2 : i < ys.size) s, J i s → wpAny (model prog w) A.in1 (eqBool xs[i] ys[i]) (fun r s' => r = bs i ∧ J (i + 1) s') (fun e s' => R (.error e) s') s)
    (fin : ∀ i s, J i s → R (.ok (.ret (.bool (cmpB bs xs.size ys.size)))) s) {s : Shared} (o1 : s.heap.get? l = some { cls := .type "tuple", dict := dd, data := .seq xs n, slots := sl }) (o2 : s.heap.get? b = some { cls := .type "tuple", dict := dd2, data := .seq ys n2, slots := sl2 }) (h : J 0 s) :
    wpAny (model prog w) A.in1 (Builtin.«tuple.__eq__» ⟨[.ref l, .ref b], []⟩) (FinOf prog w A R) (fun e s' => R (.error e) s') s := by
  have f2 := AutoSeq1.sub_tuple_tuple
  have hZ : (xs.toList.zip ys.toList).length = min xs.size ys.size := by simp
  have h0 := h
  obtain ⟨hp, g, d, tk, os⟩ := s
  wp_walk using wpAny_loadPart' o1, wpAny_loadPart' o2, wpAny_forIn_list _ (fun rest b s' => b.1 = none ∧ ∃ i, rest = (xs.toList.zip ys.toList).drop i ∧ i ≤ min xs.size ys.size ∧ (∀ j, j < i → bs j = true) ∧ J i s') _
  case turn =>
    rintro ⟨y, x⟩ rest b s' ⟨hb', i, hz, hi, hj, hJ⟩
    have hlt : i < (xs.toList.zip ys.toList).length := by
      refine Classical.byContradiction fun q => ?_
      rw [List.drop_of_length_le (by omega)] at hz
      cases hz
    have h1 : i < xs.size := by omega
    have h2 : i < ys.size := by omega
    rw [List.drop_eq_getElem_cons hlt] at hz
    obtain ⟨hyx, hrest⟩ := List.cons.inj hz
    have hy : y = xs[i] := by simpa using congrArg Prod.fst hyx
    have hx : x = ys[i] := by simpa using congrArg Prod.snd hyx
    subst hy hx
    refine wpAny_bind (wpAny_mono (turn i h1 h2 s' hJ) (fun r s2 q2 => ?_) fun _ _ x => x)
    obtain ⟨hr, q2⟩ := q2
    cases e : bs i with
    | true =>
      rw [e] at hr
      subst hr
      wp_walk
      refine ⟨rfl, i + 1, hrest, by omega, fun j hj' => ?_, q2⟩
      by_cases hji : j = i
      · rw [hji]; exact e
      · exact hj j (by omega)
    | false =>
      rw [e] at hr
      subst hr
      have hR := fin _ s2 q2
      rw [cmpB_false h1 h2 e] at hR
      wp_walk
      exact hR
  case fin =>
    rintro ⟨b1, b2⟩ s' ⟨hb', i, hz, hi, hj, hJ⟩
    simp only at hb'
    subst hb'
    have hge : min xs.size ys.size ≤ i := by
      refine Classical.byContradiction fun q => ?_
      rw [List.drop_eq_getElem_cons (by omega)] at hz
      cases hz
    have hR := fin _ s' hJ
    rw [cmpB_all fun j hj' => hj j (by omega)] at hR
    wp_walk
    simpa [Builtin.Tuple.tupleCompareSizes] using hR
  case h =>
    exact ⟨rfl, 0, rfl, Nat.zero_le _, fun j hj => absurd hj (by omega), h0⟩
end
section
variable {prog : Program} {w : World} {A : Around} {E : Value → Shared → Prop} {s : Shared}
theorem rc_tupB {l b : Addr} {xs ys : Array Value} {Q : Value → Shared → Prop} (bs : Nat → Bool) (hu : A.units < cLine) (J : Nat → Shared → Prop)
    (hl : s.heap.IsTuple l xs) (hb : s.heap.IsTuple b ys)
    (turn : ∀ i (h1 : i < xs.size) (h2 : i < ys.size) s, J i s → wpAny (model prog w) A.in1 (eqBool xs[i] ys[i]) (fun r s' => r = bs i ∧ J (i + 1) s') E s)
    (fin : ∀ i s, J i s → Q (.bool (cmpB bs xs.size ys.size)) s) (h : J 0 s) : wpAny (model prog w) A (richCompare .Eq (.ref l) (.ref b)) Q E s := by
  obtain ⟨⟨c1, d1, a1, s1⟩, o1, e1, n1, f1⟩ := id hl
  obtain ⟨⟨c2, d2, a2, s2⟩, o2, e2, n2, f2⟩ := id hb
  simp only at e1 f1 e2 f2
  subst e1 f1 e2 f2
  refine wpAny_richCompare_same_room (op := .Eq) ⟨_, o1, rfl⟩ ⟨_, o2, rfl⟩ F.slot_tuple_eq (call_here F.slot_tuple_eq ⟨_, o1, rfl⟩ F.entry_tuple_eq (F.args_tuple_eq_2 _ _) ?_) hu
  exact tup_eqB (R := wants (fun v s' => v ≠ .notImplemented ∧ Q v s') E) l b xs ys n1 n2 d1 d2 s1 s2 bs J turn (fun i s' q => ⟨(fun x => nomatch x), fin i s' q⟩) o1 o2 h
end
/-- == gives the answer that D tells, and only makes objects -/
abbrev Eqb := V → V → Bool → Hp → Prop
def MonB (D : Eqb) : Prop := ∀ x y b H H', Ext H H' → D x y b H → D x y b H'
def EqB (X : Cx) (n : Nat) (D : Eqb) : Prop :=
  ∀ (A : Around) (pins : List (Addr × Obj)) (s : Shared) (σ : L2.St) (H : Hp) (x y : V) (b : Bool) (u v : Value), Sub X n A → Inv X pins σ H s → RelV x u → RelV y v → D x y b H →
    wpAny (model X.prog X.w) A (eqBool u v) (fun r s' => r = b ∧ ∃ H', Inv X pins σ H' s' ∧ Ext H H') X.xe s
def RcB (X : Cx) (n : Nat) (D : Eqb) : Prop :=
  ∀ (A : Around) (pins : List (Addr × Obj)) (s : Shared) (σ : L2.St) (H : Hp) (x y : V) (b : Bool) (u v : Value), Sub X n A → Inv X pins σ H s → RelV x u → RelV y v → D x y b H →
    wpAny (model X.prog X.w) A (richCompare .Eq u v) (fun r s' => r = .bool b ∧ ∃ H', Inv X pins σ H' s' ∧ Ext H H') X.xe s
def DTupB (D : Eqb) : Eqb := fun x y r H => ∃ (a b : Addr) (xs ys : List V) (bs : Nat → Bool), x = .ref a ∧ y = .ref b ∧ H a = some (.tup xs) ∧ H b = some (.tup ys) ∧ (∀ (i : Nat) x y, xs[i]? = some x → ys[i]? = some y → D x y (bs i) H) ∧ r = cmpB bs xs.length ys.length
section
variable {X : Cx} {n : Nat} {D : Eqb}
theorem monB_tup (hD : MonB D) : MonB (DTupB D) := fun x y r H H' e d => by
  obtain ⟨a, b, xs, ys, bs, hx, hy, h1, h2, p, hr⟩ := d
  exact ⟨a, b, xs, ys, bs, hx, hy, e _ _ h1, e _ _ h2, fun i x y q1 q2 => hD _ _ _ _ _ e (p i x y q1 q2), hr⟩
theorem rcB_tup (hD : MonB D) (h : EqB X n D) : RcB X (n + 1) (DTupB D) := by
  intro A pins s σ H x y r u v sb I rx ry d
  obtain ⟨a, b, xs, ys, bs, rfl, rfl, ha, hb, p, rfl⟩ := d
  cases rx
  cases ry
  obtain ⟨its, r1, e1, z1⟩ := I.tuple (SqT.of ha)
  obtain ⟨jts, r2, e2, z2⟩ := I.tuple (SqT.of hb)
  have l1 := r1.length
  have l2 := r2.length
  refine rc_tupB bs sb.room.units0 (fun _ s' => ∃ H', Inv X pins σ H' s' ∧ Ext H H') e1 e2 (fun i h1 h2 s' q => ?_) (fun i s' q => ⟨?_, q⟩) ⟨H, I, Ext.rfl'⟩
  · obtain ⟨H1, I1, x1⟩ := q
    have k1 : i < xs.length := by rw [l1]; simpa using h1
    have k2 : i < ys.length := by rw [l2]; simpa using h2
    obtain ⟨u, hu, ru⟩ := r1.get (List.getElem?_eq_getElem k1)
    obtain ⟨v, hv, rv⟩ := r2.get (List.getElem?_eq_getElem k2)
    have eu : its.toArray[i] = u := by
      have h1' : i < its.length := by simpa using h1
      rw [List.getElem?_eq_getElem h1'] at hu
      simpa using hu
    have ev : jts.toArray[i] = v := by
      have h2' : i < jts.length := by simpa using h2
      rw [List.getElem?_eq_getElem h2'] at hv
      simpa using hv
    rw [eu, ev]
    refine wpAny_mono (h A.in1 pins s' σ H1 _ _ (bs i) u v sb.in1 I1 ru rv (hD _ _ _ _ _ x1 (p i _ _ (List.getElem?_eq_getElem k1) (List.getElem?_eq_getElem k2)))) (fun r s2 q => ?_) fun _ _ x => x
    obtain ⟨hr, H2, I2, x2⟩ := q
    exact ⟨hr, H2, I2, x1.trans x2⟩
  · rw [List.size_toArray, List.size_toArray, ← l1, ← l2]
/-- of the same thing it tells True -/
def RflB (D : Eqb) : Prop := ∀ x b H, D x x b H → b = true
theorem rflB_tup (hR : RflB D) : RflB (DTupB D) := fun x r H d => by
  obtain ⟨a, b, xs, ys, bs, e1, e2, h1, h2, p, rfl⟩ := d
  rw [e1] at e2
  cases e2
  rw [h1] at h2
  cases h2
  rw [cmpB_all fun j hj => hR _ _ _ (p j _ _ (List.getElem?_eq_getElem (by omega)) (List.getElem?_eq_getElem (by omega)))]
  simp
theorem RcB.eqB (h : RcB X n D) (hR : RflB D) (hr : ∀ x y b H, D x y b H → ∃ a c, x = .ref a ∧ y = .ref c) : EqB X n D := by
  intro A pins s σ H x y b u v sb I rx ry d
  obtain ⟨a, c, rfl, rfl⟩ := hr _ _ _ _ d
  have hs : a = c → b = true := fun e => by subst e; exact hR _ _ _ d
  cases rx
  cases ry
  by_cases hac : a = c
  · subst hac
    rw [hs rfl]
    unfold eqBool
    refine wpAny_holding ?_
    rw [if_pos (by simp)]
    refine wpAny_bind (wpAny_rule (wpAny_pure ?_))
    exact ⟨rfl, H, I, Ext.rfl'⟩
  · refine eqBool_refG hac (wpAny_mono (h A pins s σ H (.ref a) (.ref c) b _ _ sb I rfl rfl d) (fun r s' q => ?_) fun _ _ x => x)
    obtain ⟨e, q⟩ := q
    exact ⟨b, e, rfl, q⟩
def rEqB (D : Eqb) : R2 := fun x y H Q => ∃ b, D x y b H ∧ ∀ H', Ext H H' → Q (.bl b) H'
theorem op_eqB (h : RcB X n D) (hr : Room n X.A) : OpR X (compareOp .Eq) (rEqB D) := by
  intro pins s σ H x y v u Q I rx ry hq
  obtain ⟨b, d, q⟩ := hq
  show wpAny (model X.prog X.w) X.A (richCompare .Eq v u) (EP X pins σ Q) X.xe s
  refine wpAny_mono (h X.A pins s σ H x y b v u ⟨hr, rfl⟩ I rx ry d) (fun r s' z => ?_) fun _ _ x => x
  obtain ⟨rfl, H', I', e⟩ := z
  exact ⟨.bl b, H', I', rfl, q H' e⟩
end
end Tk

set_option Elab.async false
set_option linter.all false
set_option maxRecDepth 100000
set_option maxHeartbeats 4000000
namespace Tk
open PySem PySem.Spec PyProof.Rows L2
section
variable {X : Cx} {CXx : CXT} {C f : Addr} {k : Nat} {fd : FuncData} {ps : List Str} {sp : Sp} {E : XK} {D : Eqb}
/-- == of two instances by their class's own __eq__, at any depth -/
theorem rcB_own (F : FnOk X.prog X.w X.K X.mg X.base CXx k f fd ps sp) (hb : Binds X.K fd ps []) (hx : Passes CXx X E)
    (hs : PySem.W.findIn X.K (.ref C) "__eq__" = some (some (.ref f))) (hf : PySem.W.isFn X.K (.ref f) = true)
    (hD : ∀ x y r H, D x y r H → ∃ a b dx dy fs gs, x = .ref a ∧ y = .ref b ∧ H a = some (.ins C dx fs) ∧ H b = some (.ins C dy gs) ∧ sp [.ref a, .ref b] H (fun v H' => v = .bl r ∧ Ext H H') E) : RcB X k D := by
  intro A pins s σ H x y r u v sb I rx ry d
  obtain ⟨a, b, dx, dy, fs, gs, rfl, rfl, ea, eb, h⟩ := hD _ _ _ _ d
  cases rx
  cases ry
  obtain ⟨od, J⟩ := inst_of I ea
  obtain ⟨od', J'⟩ := inst_of I eb
  have e0 : Env0 X.prog X.w X.K X.mg X.base A X.stack s H := by
    have e := I.env0
    exact ⟨by rw [sb.fr]; exact e.frames, e.mod, e.bs, e.bsz, e.funs, e.frf, e.hok, e.bare⟩
  have one : wpAny (model X.prog X.w) A (tryCompare (.ref a) "__eq__" (.ref b)) (fun z s' => ∃ v, z = some v ∧ v = .bool r ∧ ∃ H', Inv X pins σ H' s' ∧ Ext H H') X.xe s := by
    unfold tryCompare
    refine wpAny_bind (PySem.W.ifBound_K I.kIn J hs hf (wpAny_mono (runAt (vs := [.ref a, .ref b]) (dvs := []) F sb.room e0 hb .nil hx I (.cons rfl (.cons rfl .nil)) h) (fun z s' hv => ?_) fun _ _ e => e))
    obtain ⟨v', H', I', rv, rfl, q⟩ := hv
    cases rv
    exact wpAny_pure ⟨_, rfl, rfl, H', I', q⟩
  unfold richCompare
  simp only [oneThing_ref]
  refine wpAny_holding (wpAny_bind (wpAny_cRoomFor sb.room.units0 ?_))
  refine wpAny_bind (J.type.here (wpAny_bind (J'.type.here ?_)))
  split
  · rename_i q
    exact absurd q (by simp)
  · refine wpAny_bind (wpAny_pure ?_)
    simp only [Bool.false_eq_true, if_false]
    refine wpAny_bind (wpAny_mono one (fun z s' hz => ?_) fun _ _ e => e)
    obtain ⟨v, rfl, hq⟩ := hz
    exact wpAny_pure hq
end
end Tk

set_option Elab.async false
set_option linter.all false
set_option maxRecDepth 100000
set_option maxHeartbeats 4000000
set_option exponentiation.threshold 5000
namespace K
open PySem PySem.Spec PyProof.Rows L2 Tk Hd Mt
theorem cmp_list {α : Type} [DecidableEq α] (xs ys : List α) : cmpB (fun i => decide (xs[i]? = ys[i]?)) xs.length ys.length = decide (xs = ys) := by
  rw [Bool.eq_iff_iff, decide_eq_true_iff]
  unfold cmpB
  rw [Bool.and_eq_true, List.all_eq_true, beq_iff_eq]
  constructor
  · rintro ⟨h, hl⟩
    refine List.ext_getElem? fun i => ?_
    by_cases hi : i < xs.length
    · simpa using h i (List.mem_range.mpr (by omega))
    · rw [List.getElem?_eq_none (by omega), List.getElem?_eq_none (by omega)]
  · rintro rfl
    exact ⟨fun i _ => by simp, rfl⟩
section
variable {P : Program} {w : World} {K : PySem.W.Frag} {mg : Str → Option Value} {base : Heap}
theorem gr_ext {I H H' : Hp} (s : Same I H) (e : L2.Ext H H') : Gr [] I H I H' := ⟨Same.refl I, s.trans e, fun a o _ h => e a o h, fun a o h => ⟨o, e a o h⟩, fun a o h _ => h⟩
/-- two fractions as objects, and whether they are the same -/
def DRat (C : Addr) : Eqb := fun x y r H => ∃ a b dx dy p q, x = .ref a ∧ y = .ref b ∧ H a = some (.ins C dx (rf p)) ∧ H b = some (.ins C dy (rf q)) ∧ r = decide (p = q)
theorem rf_inj {p q : Rat} (h : rf p = rf q) : p = q := by
  have h1 := rf_num p
  have h2 := rf_den p
  rw [h] at h1 h2
  rw [rf_num] at h1
  rw [rf_den] at h2
  injection h1 with h1
  injection h2 with h2
  injection h1 with h1
  injection h2 with h2
  exact (eq_parts p q).mpr ⟨h1.symm, h2.symm⟩
theorem drat_mon {C : Addr} : MonB (DRat C) := fun x y r H H' e ⟨a, b, dx, dy, p, q, hx, hy, h1, h2, hr⟩ => ⟨a, b, dx, dy, p, q, hx, hy, e _ _ h1, e _ _ h2, hr⟩
theorem drat_rfl {C : Addr} : RflB (DRat C) := fun x r H ⟨a, b, dx, dy, p, q, hx, hy, h1, h2, hr⟩ => by
  rw [hx] at hy
  cases hy
  rw [h1] at h2
  injection h2 with h2
  injection h2 with _ _ h2
  rw [hr, rf_inj h2]; simp
theorem rat_eqB {X : Cx} (hK : X.K = K) (D : Dt K mg) (h : Has X.prog X.w X.K X.mg X.base 1 (He.ma K (CR K) "__eq__") ["self", "other"] [] (spEq (CR K))) : EqB X 1 (DRat (CR K)) := by
  subst hK
  obtain ⟨hk, fd, ds, hd, hb, F⟩ := h
  cases hd
  have hm := me_Ratio_eq (K := X.K) D
  refine (rcB_own (C := CR X.K) F hb passL hm.at_ hm.fn fun x y r H d => ?_).eqB drat_rfl fun x y r H d => ?_
  · obtain ⟨a, b, dx, dy, p, q, hx, hy, h1, h2, hr⟩ := d
    exact ⟨a, b, dx, dy, _, _, hx, hy, h1, h2, H, _, _, p, q, rfl, Same.refl H, ⟨a, dx, rfl, h1⟩, ⟨b, dy, rfl, h2⟩, by rw [hr], Ext.rfl'⟩
  · obtain ⟨a, b, dx, dy, p, q, hx, hy, _⟩ := d
    exact ⟨a, b, hx, hy⟩
theorem dtupB_of {α : Type} [DecidableEq α] {R : Rp α} {Dq : Eqb} {I H : Hp} (s : Same I H) (h : ∀ v u x y, R I v x → R I u y → Dq v u (decide (x = y)) H) : ∀ v u (xs ys : List α), iT R I v xs → iT R I u ys → DTupB Dq v u (decide (xs = ys)) H := by
  rintro v u xs ys ⟨a, vs, rfl, ha, a2⟩ ⟨b, us, rfl, hb, b2⟩
  refine ⟨a, b, vs, us, fun i => decide (xs[i]? = ys[i]?), rfl, rfl, s _ _ ha, s _ _ hb, fun i x y hx hy => ?_, ?_⟩
  · obtain ⟨p, hp, rp⟩ := a2.get hx
    obtain ⟨q, hq, rq⟩ := b2.get hy
    have := h _ _ _ _ rp rq
    show Dq x y (decide (xs[i]? = ys[i]?)) H
    rw [hp, hq, show decide (some p = some q) = decide (p = q) from decide_eq_decide.mpr (by simp)]
    exact this
  · rw [a2.len, b2.len, cmp_list]
theorem drat_of {C : Addr} {I H : Hp} (s : Same I H) : ∀ v u p q, iR C I v p → iR C I u q → DRat C v u (decide (p = q)) H := by
  rintro v u p q ⟨a, dx, rfl, ha⟩ ⟨b, dy, rfl, hb⟩
  exact ⟨a, b, dx, dy, p, q, rfl, rfl, s _ _ ha, s _ _ hb, rfl⟩
theorem dtup_refs {Dq : Eqb} : ∀ x y b H, DTupB Dq x y b H → ∃ a c, x = .ref a ∧ y = .ref c := fun x y b H ⟨a, c, _, _, _, hx, hy, _⟩ => ⟨a, c, hx, hy⟩
def spMEq (C C2 : Addr) : Sp := fun vs H Q _ => ∃ (I : Hp) (a b : V) (M M' : Ma), vs = [a, b] ∧ Same I H ∧ iM C C2 I a M ∧ iM C C2 I b M' ∧ ∀ H', Gr [] I H I H' → Q (.bl (decide (M = M'))) H'
theorem sc_meq : FnScope ["self", "other"] ["self", "other"] (defScope s_Machine_eq) := ⟨rfl, rfl, rfl, by decide +kernel, rfl, by decide +kernel, by decide +kernel⟩
theorem ok_meq (D : Dt K mg) : Has P w K mg base 8 (He.ma K (CM K) "__eq__") ["self", "other"] [] (spMEq (CR K) (CM K)) := by
  obtain ⟨fd, F⟩ := fd_Machine_eq D
  refine hasN F (F.bindsN fun _ _ _ _ _ _ us hl => match us, hl with | [_, _], _ => rfl) sc_meq (fun vs H Q E h => ?_) (fun cdv A outer s H vs Q E hr h => ?_)
  · obtain ⟨I, a, b, M, M', rfl, _⟩ := h; rfl
  · obtain ⟨I, va, vb, M, M', rfl, s0, ⟨a, dx, u1, u2, rfl, ha, p1, p2⟩, ⟨b, dy, w1, w2, rfl, hb, q1, q2⟩, k⟩ := h
    have ha' := s0 _ _ ha
    have hb' := s0 _ _ hb
    have e0 := rat_eqB (K := K) (X := (cxOf (L2.CX P w) P w K mg base ["self", "other"] "Machine.__eq__" (defScope s_Machine_eq) (He.ma K (CM K) "__eq__") cdv A outer s H E).nox) rfl D (ok_eq D)
    have r1 := rcB_tup drat_mon e0
    have r2 := r1.eqB (rflB_tup drat_rfl) dtup_refs
    have r3 := (rcB_tup (monB_tup drat_mon) r2).eqB (rflB_tup (rflB_tup drat_rfl)) dtup_refs
    have r4 := (rcB_tup (monB_tup (monB_tup drat_mon)) r3).eqB (rflB_tup (rflB_tup (rflB_tup drat_rfl))) dtup_refs
    have r5 := rcB_tup (monB_tup (monB_tup (monB_tup drat_mon))) r4
    refine ⟨_, (pss_one (ps_ret (pe_and (pe_callB (call_isiK K) rfl (free_isinstance D) (by decide +kernel) (pa_cons (pv 1) (pa_cons (pe_glob (v := .ref (He.ga K "Machine")) rfl (glo_Machine D) rfl) pa_nil))) (pe_and (pe_cmpR (op_eqB r1 (hr.mono (by decide))) (pe_fldK K (pv 0) rfl) (pe_fldK K (pv 1) rfl) (nomark _)) (pe_one (pe_cmpR (op_eqB r5 (hr.mono (by decide))) (pe_fldK K (pv 0) rfl) (pe_fldK K (pv 1) rfl) (nomark _))))))), ?_⟩
    refine ⟨_, rfl, _, _, _, _, true, rfl, .own _, (inst_Machine D).ty (cls_Machine D) hb', kit_self, _, rfl, iteT ?_⟩
    refine ⟨_, rfl, _, _, _, _, _, rfl, ha', cls_Machine D, na_Machine_start D, mf_start u1 u2, _, rfl, _, _, _, _, _, rfl, hb', cls_Machine D, na_Machine_start D, mf_start w1 w2, _, dtupB_of s0 (drat_of s0) _ _ _ _ p1 q1, fun H1 x1 => ?_⟩
    have e : decide (M = M') = (decide (M.1 = M'.1) && decide (M.2 = M'.2)) := by
      rw [← Bool.decide_and]; exact decide_eq_decide.mpr Prod.ext_iff
    rw [e] at k
    have s1 := (gr_ext s0 x1).ih
    refine ⟨_, rfl, ifB (fun c => ?_) (fun c => ?_)⟩
    · rw [c, Bool.true_and] at k
      refine ⟨_, rfl, _, _, _, _, _, rfl, s1 _ _ ha, cls_Machine D, na_Machine_moves D, mf_moves u1 u2, _, rfl, _, _, _, _, _, rfl, s1 _ _ hb, cls_Machine D, na_Machine_moves D, mf_moves w1 w2, _, dtupB_of s1 (dtupB_of s1 (dtupB_of s1 (dtupB_of s1 (drat_of s1)))) _ _ _ _ p2 q2, fun H2 x2 => ?_⟩
      exact k _ (gr_ext s0 (x1.trans x2))
    · rw [c, Bool.false_and] at k
      exact k _ (gr_ext s0 x1)
end
end K

set_option Elab.async false
set_option linter.all false
set_option maxRecDepth 100000
set_option maxHeartbeats 4000000
set_option exponentiation.threshold 5000
namespace Tk
open PySem PySem.Spec PyProof.Rows L2
theorem pe_methH0 {X : Cx} {k : Nat} {f C : Addr} {ps : List Str} {sp : Sp} {dvs : List V} {E : XK} {m : Str} {pos apos : Pos} {o : Expr} {ta : TE} {pl : Sem Bool} (he : PE X o ta) (c : Cls X.K C) (hm : Meth X.K C m f) (h : HasX X k f ps dvs sp) (hr : Room k X.A) (hx : Passes (L2.CX X.prog X.w) X E)
    (ht : eval (.Call (.Attribute o m apos) [] [] pos) X.env = (do
      let ov ← eval o X.env
      standAt apos.atName
      let (f, first) ← holding [ov] (getMethod ov m pl)
      callWith pos f first (backTo pos (starEach [] X.env)) (backToKw pos (keywordEach [] X.env))) := by rfl) :
    PE X (.Call (.Attribute o m apos) [] [] pos) (tMeth C m sp dvs E ta tNil) := by
  obtain ⟨_, fd, ds, hd, hb, F⟩ := h
  exact pe_meth0 (pl := pl) he c hm F hr hb hd hx ht
end Tk
namespace K
open PySem PySem.Spec PyProof.Rows L2 Tk Hd Mt
theorem mf_no (va vb : V) {m : Str} (h1 : ¬ m = "moves") (h2 : ¬ m = "start") : (mf va vb).lookup m = none := by
  unfold mf; rw [lookup_putF, if_neg h1, lookup_putF, if_neg h2]; rfl
section
variable {P : Program} {w : World} {K : PySem.W.Frag} {mg : Str → Option Value} {base : Heap}
def spNum (C C2 : Addr) (g : Ma → Nat) (c : Ma → Prop) : Sp := fun vs H Q _ => ∃ (I : Hp) (a : V) (M : Ma), vs = [a] ∧ Same I H ∧ iM C C2 I a M ∧ c M ∧ Q (.int (g M)) H
theorem sc_states : FnScope ["self"] ["self"] (defScope s_Machine_states) := ⟨rfl, rfl, rfl, by decide +kernel, rfl, by decide +kernel, by decide +kernel⟩
theorem sc_buttons : FnScope ["self"] ["self"] (defScope s_Machine_buttons) := ⟨rfl, rfl, rfl, by decide +kernel, rfl, by decide +kernel, by decide +kernel⟩
theorem sc_answers : FnScope ["self"] ["self"] (defScope s_Machine_answers) := ⟨rfl, rfl, rfl, by decide +kernel, rfl, by decide +kernel, by decide +kernel⟩
theorem ok_states (D : Dt K mg) : Has P w K mg base 1 (He.ma K (CM K) "states") ["self"] [] (spNum (CR K) (CM K) (fun M => M.1.length) fun _ => True) := by
  obtain ⟨fd, F⟩ := fd_Machine_states D
  refine hasN F (F.bindsN fun _ _ _ _ _ _ us hl => match us, hl with | [_], _ => rfl) sc_states (fun vs H Q E h => ?_) (fun cdv A outer s H vs Q E hr h => ?_)
  · obtain ⟨I, a, M, rfl, _⟩ := h; rfl
  · obtain ⟨I, va, M, rfl, s0, ⟨a, dx, u1, u2, rfl, ha, p1, p2⟩, _, k⟩ := h
    refine ⟨_, (pss_one (ps_ret (pe_callB (call_lenK K) rfl (free_len D) PySem.boot_len (pa_cons (pe_fldK K (pv 0) rfl) pa_nil)))), ?_⟩
    exact ⟨_, rfl, _, _, _, _, _, rfl, s0 _ _ ha, cls_Machine D, na_Machine_start D, mf_start u1 u2, _, M.1.length, rfl, len_of (iA.t p1) s0, k⟩
theorem ok_buttons (D : Dt K mg) : Has P w K mg base 1 (He.ma K (CM K) "buttons") ["self"] [] (spNum (CR K) (CM K) (fun M => M.2.length) fun _ => True) := by
  obtain ⟨fd, F⟩ := fd_Machine_buttons D
  refine hasN F (F.bindsN fun _ _ _ _ _ _ us hl => match us, hl with | [_], _ => rfl) sc_buttons (fun vs H Q E h => ?_) (fun cdv A outer s H vs Q E hr h => ?_)
  · obtain ⟨I, a, M, rfl, _⟩ := h; rfl
  · obtain ⟨I, va, M, rfl, s0, ⟨a, dx, u1, u2, rfl, ha, p1, p2⟩, _, k⟩ := h
    refine ⟨_, (pss_one (ps_ret (pe_callB (call_lenK K) rfl (free_len D) PySem.boot_len (pa_cons (pe_fldK K (pv 0) rfl) pa_nil)))), ?_⟩
    exact ⟨_, rfl, _, _, _, _, _, rfl, s0 _ _ ha, cls_Machine D, na_Machine_moves D, mf_moves u1 u2, _, M.2.length, rfl, len_of (iA.t p2) s0, k⟩
theorem ok_answers (D : Dt K mg) : Has P w K mg base 1 (He.ma K (CM K) "answers") ["self"] [] (spNum (CR K) (CM K) (fun M => (gl M.2 0).length) fun M => 0 < M.2.length) := by
  obtain ⟨fd, F⟩ := fd_Machine_answers D
  refine hasN F (F.bindsN fun _ _ _ _ _ _ us hl => match us, hl with | [_], _ => rfl) sc_answers (fun vs H Q E h => ?_) (fun cdv A outer s H vs Q E hr h => ?_)
  · obtain ⟨I, a, M, rfl, _⟩ := h; rfl
  · obtain ⟨I, va, M, rfl, s0, ⟨a, dx, u1, u2, rfl, ha, p1, p2⟩, c0, k⟩ := h
    obtain ⟨b, ws, rfl, hb, b2⟩ := id p2
    obtain ⟨u, hu, ru⟩ := b2.get' (gl_lt c0)
    refine ⟨_, (pss_one (ps_ret (pe_callB (call_lenK K) rfl (free_len D) PySem.boot_len (pa_cons (pe_ix (ix_tupK K) (pe_fldK K (pv 0) rfl) pe_int (fun _ _ => rfl)) pa_nil)))), ?_⟩
    exact ⟨_, rfl, _, _, _, _, _, rfl, s0 _ _ ha, cls_Machine D, na_Machine_moves D, mf_moves u1 _, _, _, _, _, rfl, rfl, SqT.of (s0 _ _ hb), at_of (j := 0) rfl hu, _, (gl M.2 0).length, rfl, len_of (R := iT (iT (iR (CR K)))) (iA.t ru) s0, k⟩
def spFit (C C2 : Addr) : Sp := fun vs H Q _ => ∃ (I : Hp) (a b : V) (M M' : Ma), vs = [a, b] ∧ Same I H ∧ iM C C2 I a M ∧ iM C C2 I b M' ∧ 0 < M.2.length ∧ 0 < M'.2.length ∧ Q (.bl (decide (M.2.length = M'.2.length) && decide ((gl M.2 0).length = (gl M'.2 0).length))) H
theorem sc_fit : FnScope ["one", "other"] ["one", "other"] (defScope s_fit) := ⟨rfl, rfl, rfl, by decide +kernel, rfl, by decide +kernel, by decide +kernel⟩
theorem ok_fit (D : Dt K mg) : Has P w K mg base 2 (He.ga K "fit") ["one", "other"] [] (spFit (CR K) (CM K)) := by
  obtain ⟨fd, F⟩ := fd_fit D
  have H_Machine_buttons := ok_buttons (P := P) (w := w) (base := base) D
  have H_Machine_answers := ok_answers (P := P) (w := w) (base := base) D
  refine hasN F (F.bindsN fun _ _ _ _ _ _ us hl => match us, hl with | [_, _], _ => rfl) sc_fit (fun vs H Q E h => ?_) (fun cdv A outer s H vs Q E hr h => ?_)
  · obtain ⟨I, a, b, M, M', rfl, _⟩ := h; rfl
  · obtain ⟨I, va, vb, M, M', rfl, s0, ra, rb, c0, c1, k⟩ := h
    obtain ⟨a, dx, u1, u2, rfl, ha, _, _⟩ := id ra
    obtain ⟨b, dy, w1, w2, rfl, hb, _, _⟩ := id rb
    refine ⟨_, (pss_one (ps_ret (pe_and (pe_cmpR op_eq (pe_methH0 (pv 0) (cls_Machine (K := K) D) (me_Machine_buttons (K := K) D) H_Machine_buttons (hr.mono (by decide)) passL) (pe_methH0 (pv 1) (cls_Machine (K := K) D) (me_Machine_buttons (K := K) D) H_Machine_buttons (hr.mono (by decide)) passL) (nomark _)) (pe_one (pe_cmpR op_eq (pe_methH0 (pv 0) (cls_Machine (K := K) D) (me_Machine_answers (K := K) D) H_Machine_answers (hr.mono (by decide)) passL) (pe_methH0 (pv 1) (cls_Machine (K := K) D) (me_Machine_answers (K := K) D) H_Machine_answers (hr.mono (by decide)) passL) (nomark _)))))), ?_⟩
    have ha' := s0 _ _ ha
    have hb' := s0 _ _ hb
    refine ⟨_, rfl, a, dx, _, rfl, ha', mf_no _ _ (by decide +kernel) (by decide +kernel), I, _, M, rfl, s0, ra, trivial, ?_⟩
    refine ⟨_, rfl, b, dy, _, rfl, hb', mf_no _ _ (by decide +kernel) (by decide +kernel), I, _, M', rfl, s0, rb, trivial, rfl, _, rfl, ?_⟩
    rw [dec_vi]
    refine ifB (fun c => ?_) (fun c => ?_)
    · rw [c, Bool.true_and] at k
      refine ⟨_, rfl, a, dx, _, rfl, ha', mf_no _ _ (by decide +kernel) (by decide +kernel), I, _, M, rfl, s0, ra, c0, ?_⟩
      refine ⟨_, rfl, b, dy, _, rfl, hb', mf_no _ _ (by decide +kernel) (by decide +kernel), I, _, M', rfl, s0, rb, c1, rfl, ?_⟩
      rw [dec_vi]
      exact k
    · rw [c, Bool.false_and] at k
      exact k
end
end K

set_option Elab.async false
set_option linter.all false
set_option maxRecDepth 100000
set_option maxHeartbeats 4000000
namespace Tk
open PySem PySem.Spec PyProof.Rows L2
section
variable {α β : Type} {K : PySem.W.Frag}
/-- a new list of what is made of each -/
theorem lc_map {J : It} {R : Rp α} {Sy : Rp β} [Mono R] [Mono Sy] (f : α → β) {vs : List V} {xs : List α} {I H1 : Hp} {g : TG} {tt : TT} {te : TE} {vz : List Nat} {σ : L2.St} {D : Addr} {Qd : Hp → Prop}
    (W : Wk J vs.length (gv vs) I) (a2 : All2 (R I) vs xs) (s0 : Same I H1) (hD : H1 D = none) (hn : xs.length < sizeLine)
    (step : ∀ (i : Nat) (x : α) (I' H' : Hp) (Nx : Hp → Prop) (Qk : VK), xs[i]? = some x → R I' (gv vs i) x → Same I I' → Same I' H' → (∀ I'' H'' y, Gr [] I' H' I'' H'' → Sy I'' y (f x) → Qk y H'') →
      g (gv vs i) (wipe σ vz) H' fun σ2 H2 => wipe σ2 vz = wipe σ vz ∧ tt σ2 H2 fun b H3 => if b = true then te σ2 H3 Qk else Nx H3)
    (hd : ∀ I' H', Gr [] I H1 I' H' → iL Sy I' (.ref D) (xs.map f) → Qd H') : LcR J g tt te vz σ H1 D Qd := by
  have hl := a2.len
  refine lc_wk [] Sy (fun i z => ∃ x, xs[i]? = some x ∧ z = f x) (fun _ _ => True) W s0 hD (by simp) (by rw [hl]; exact hn) stb_true trivial (fun i I' H' Nx Qk hi s1 s2 _ kk => ?_) (fun I' H' ys zs g1 hD' b2 hz rl _ => ?_)
  · obtain ⟨x, hx⟩ : ∃ x, xs[i]? = some x := ⟨xs[i]'(by omega), List.getElem?_eq_getElem (by omega)⟩
    exact step i x I' H' Nx Qk hx (up s1 (gv2 a2 hx)) s1 s2 fun I'' H'' y g2 sy => kk _ _ _ _ g2 trivial sy ⟨x, hx, rfl⟩
  · have e : zs = xs.map f := map_of (by rw [hz, hl]) rl
    subst e
    exact hd I' H' g1 ⟨D, ys, rfl, hD', b2⟩
theorem All2.cut {R : V → α → Prop} : ∀ {vs : List V} {xs : List α} (a n : Nat), All2 R vs xs → All2 R ((vs.drop a).take n) ((xs.drop a).take n)
  | _, _, a, n, .nil => by simp; exact .nil
  | v :: vs, x :: xs, 0, 0, .cons h t => by simp; exact .nil
  | v :: vs, x :: xs, 0, n + 1, .cons h t => by
    have := All2.cut 0 n t
    simp only [List.drop_zero] at this ⊢
    exact .cons h this
  | v :: vs, x :: xs, a + 1, n, .cons h t => by
    have := All2.cut a n t
    simpa using this
theorem cutV_nat {xs : List V} {a n : Nat} (h : a + n ≤ xs.length) : cutV xs (some (a : Int)) (some ((a : Int) + n)) = (xs.drop a).take n := by
  unfold cutV
  rw [show ((a : Int) + n) = ((a + n : Nat) : Int) from by omega, HT.sIx_nat, HT.sIx_nat]
  congr 1
  · omega
  · congr 1; omega
theorem slice_of {R : Rp α} [Mono R] {I H : Hp} {v : V} {xs : List α} {a n : Nat} {Q : VK} (h : iL R I v xs) (s : Same I H) (hn : a + n ≤ xs.length) (k : ∀ I' H' v', Gr [] I H I' H' → iL R I' v' ((xs.drop a).take n) → Q v' H') :
    rSlL K v (some (a : Int)) (some ((a : Int) + n)) H Q := by
  obtain ⟨p, vs, rfl, hp, a2⟩ := h
  refine ⟨p, vs, rfl, SqL.of (s _ _ hp), fun l hl => ?_⟩
  rw [cutV_nat (by rw [a2.len]; exact hn)]
  have g := Gr.new (ms := []) (o := .lst ((vs.drop a).take n)) s hl
  exact k _ _ _ g ⟨l, _, rfl, upd_same, (a2.cut a n).up g.ii⟩
end
end Tk
namespace Tk
open PySem PySem.Spec PyProof.Rows L2
theorem Gr.none {ms : List Addr} {I H I' H' : Hp} {a : Addr} (g : Gr ms I H I' H') (h : H' a = Option.none) : H a = Option.none := by
  cases e : H a with
  | none => rfl
  | some o => obtain ⟨o', e'⟩ := g.th a o e; rw [h] at e'; cases e'
end Tk
namespace Tk
open PySem PySem.Spec PyProof.Rows L2
section
variable {α β : Type} {K : PySem.W.Frag}
/-- over numbers, with tests; the list stays open -/
theorem lc_flt {lo : Int} {n : Nat} {I H1 : Hp} {g : TG} {tt : TT} {te : TE} {vz : List Nat} {σ : L2.St} {D : Addr} {Qd : Hp → Prop} (Sy : Rp β) [Mono Sy] (p : Nat → Bool) (f : Nat → β) (s0 : Same I H1) (hD : H1 D = none) (hn : n < sizeLine)
    (step : ∀ (i : Nat) (I' H' : Hp) (Nx : Hp → Prop) (Qk : VK), i < n → Same I I' → Same I' H' → (p i = true → ∀ I'' H'' y, Gr [] I' H' I'' H'' → Sy I'' y (f i) → Qk y H'') → (p i = false → Nx H') →
      g (.int (lo + i)) (wipe σ vz) H' fun σ2 H2 => wipe σ2 vz = wipe σ vz ∧ tt σ2 H2 fun b H3 => if b = true then te σ2 H3 Qk else Nx H3)
    (hd : ∀ I' H' ys, Gr [] I H1 I' H' → I' D = none → H' D = some (.lst ys) → All2 (Sy I') ys (((List.range n).filter p).map f) → Qd H') : LcR (Itr lo n) g tt te vz σ H1 D Qd := by
  let Mid : Nat → Hp → Prop := fun i H => ∃ I' ys, Gr [] I H1 I' H ∧ I' D = none ∧ H D = some (.lst ys) ∧ All2 (Sy I') ys (((List.range i).filter p).map f)
  refine ⟨fun i m H => m = n - i ∧ i ≤ n ∧ Mid i H, ⟨n, rfl, Nat.zero_le _, I, [], (Gr.tmp s0 hD), s0.free hD, upd_same, .nil⟩, ?_⟩
  rintro i m H ⟨rfl, hi, I', ys, gr, hI, hH, a2⟩
  by_cases hlt : i < n
  · refine .inr ⟨hlt, fun H' => i + 1 ≤ n ∧ Mid (i + 1) H', fun H' z => ⟨n - (i + 1), by omega, rfl, z.1, z.2⟩, fun x H' y => ?_⟩
    obtain ⟨rfl, rfl⟩ := y
    refine step i I' _ _ _ hlt gr.ii gr.ih (fun hp I'' H'' y g2 sy => ?_) (fun hp => ⟨hlt, I', ys, gr, hI, hH, ?_⟩)
    · have hD2 := g2.at hH (by simp)
      have hI2 := g2.out hI hH
      have ll : ys.length ≤ i := by
        rw [a2.len, List.length_map]
        exact Nat.le_trans (List.length_filter_le _ _) (by simp)
      refine ⟨ys, hD2, by omega, hlt, I'', ys ++ [y], ?_, hI2, upd_same, ?_⟩
      · have g3 := gr.trans g2
        exact ((g3.mono (ns := [D]) fun _ z => nomatch z).trans (Gr.mut g3.ih hI2 List.mem_cons_self)).drop hD
      · rw [List.range_succ, List.filter_append, List.filter_cons_of_pos hp, List.filter_nil, List.map_append]
        exact (a2.up g2.ii).snoc sy
    · rw [List.range_succ, List.filter_append, List.filter_cons_of_neg (by rw [hp]; exact Bool.false_ne_true), List.filter_nil, List.append_nil]
      exact a2
  · have e : i = n := by omega
    subst e
    exact .inl ⟨Nat.le_refl _, hd I' H ys gr hI hH a2⟩
theorem All2.unsnoc {R : V → α → Prop} : ∀ {xs : List α} {vs : List V} {x : α}, All2 R vs (xs ++ [x]) → ∃ us u, vs = us ++ [u] ∧ All2 R us xs ∧ R u x
  | [], _, x, .cons h .nil => ⟨[], _, rfl, .nil, h⟩
  | y :: r, _, x, .cons h t => by
    obtain ⟨us, u, rfl, t2, hu⟩ := All2.unsnoc t
    exact ⟨_ :: us, u, rfl, .cons h t2, hu⟩
end
end Tk
namespace Tk
open PySem PySem.Spec PyProof.Rows L2
theorem op_catAK {X : Cx} (K : PySem.W.Frag) (hK : X.K = K := by rfl) : OpR X (binaryOp .Add) (rCatA K) := hK ▸ op_catA
end Tk

set_option Elab.async false
set_option linter.all false
set_option maxRecDepth 100000
set_option maxHeartbeats 4000000
set_option exponentiation.threshold 5000
namespace K
open PySem PySem.Spec PyProof.Rows L2 Tk Hd Mt
def unit (n s : Nat) : List Rat := (List.range n).map fun k => if k = s then 1 else 0
theorem S_unit {n s : Nat} (h : s < n) : S n (fun k => if k = s then (1 : Rat) else 0) = 1 := by
  induction n with
  | zero => omega
  | succ n ih =>
    simp only [S]
    by_cases e : n = s
    · have z : S n (fun k => if k = s then (1 : Rat) else 0) = S n (fun _ => 0) := S_congr fun i hi => by rw [if_neg (by omega)]
      rw [z, S_zero, if_pos e]; grind
    · rw [ih (by omega), if_neg e]; grind
theorem unit_mem {n s : Nat} {q : Rat} (h : q ∈ unit n s) : q = 1 ∨ q = 0 := by
  obtain ⟨k, _, rfl⟩ := List.mem_map.mp h
  by_cases e : k = s
  · rw [if_pos e]; exact .inl rfl
  · rw [if_neg e]; exact .inr rfl
theorem unit_gd {n s : Nat} {q : Rat} (h : q ∈ unit n s) : Gd 1 1 q := by
  rcases unit_mem h with rfl | rfl
  · exact ⟨by decide, 1, by decide, (rt_same (by decide)).symm⟩
  · exact ⟨by decide, 0, by decide, by simp [rt]⟩
theorem unit_lots {n s : Nat} (h : s < n) : lots (unit n s) = true := by
  unfold lots
  rw [Bool.and_eq_true, decide_eq_true_iff, decide_eq_true_iff]
  refine ⟨fun q hq => (unit_gd hq).nonneg, ?_⟩
  unfold unit
  rw [tot_range, S_unit h]
structure FNone (st : List Rat) (mv : List (List Rows)) : Prop where
  a : 1 ≤ st.length ∧ st.length ≤ 12
  b : 1 ≤ mv.length ∧ mv.length ≤ 4
  c : 1 ≤ (gl mv 0).length ∧ (gl mv 0).length ≤ 4
  c2 : ∀ p ∈ mv, p.length = (gl mv 0).length
  d : ∀ p ∈ mv, ∀ r ∈ p, square r st.length = true
  e : lots st = true
  f : ∀ p ∈ mv, ∀ s, s < st.length → lots (lead p s) = true
theorem flt_none {st : List Rat} {mv : List (List Rows)} (h : flt st mv = none) : FNone st mv := by
  unfold flt at h
  split at h
  · cases h
  rename_i h1
  split at h
  · cases h
  rename_i h2
  split at h
  · cases h
  rename_i h3
  split at h
  · cases h
  rename_i h4
  split at h
  · cases h
  rename_i h5
  split at h
  · cases h
  rename_i h6
  have h31 : ¬ ((gl mv 0).length < 1 ∨ 4 < (gl mv 0).length) := fun z => h3 (.inl z)
  exact ⟨by omega, by omega, by omega, fun p hp => Classical.byContradiction fun z => h3 (.inr ⟨p, hp, z⟩), Classical.byContradiction h4, by simpa using h5, Classical.byContradiction h6⟩
theorem none_flt {st : List Rat} {mv : List (List Rows)} (h : FNone st mv) : flt st mv = none := by
  unfold flt
  rw [if_neg (by have := h.a; omega), if_neg (by have := h.b; omega), if_neg (fun z => z.elim (by have := h.c; omega) fun ⟨p, hp, q⟩ => q (h.c2 p hp)), if_neg (fun z => z h.d), if_neg (by rw [h.e]; simp), if_neg (fun z => z h.f)]
theorem none_unit {st : List Rat} {mv : List (List Rows)} (h : FNone st mv) {s : Nat} (hs : s < st.length) : FNone (unit st.length s) mv := by
  have l : (unit st.length s).length = st.length := by unfold unit; rw [List.length_map, List.length_range]
  exact ⟨by rw [l]; exact h.a, h.b, h.c, h.c2, by rw [l]; exact h.d, unit_lots hs, by rw [l]; exact h.f⟩
section
variable {P : Program} {w : World} {K : PySem.W.Frag} {mg : Str → Option Value} {base : Heap}
theorem iAt_of {α : Type} {R S : Rp α} {H : Hp} (h : ∀ v x, R H v x → S H v x) {v : V} {xs : List α} : iT R H v xs → iA S H v xs := by
  rintro ⟨a, vs, e, ha, a2⟩
  exact ⟨a, vs, e, .inr ha, a2.imp h⟩
/-- a machine made anew -/
theorem mach_new {I H I' H' : Hp} {x dx C C2 : Addr} {M : Ma} {va vb : V} (s : Same I H) (nx : H x = none) (nd : H dx = none) (ne : dx ≠ x)
    (g : Gr [x] (upd I dx (.own x)) (upd (upd H dx (.own x)) x (.ins C2 dx [])) I' H') (h : H' x = some (.ins C2 dx (mf va vb))) (r1 : iT (iR C) I' va M.1) (r2 : iMv C I' vb M.2) :
    Gr [] I H (upd I' x (.ins C2 dx (mf va vb))) H' ∧ iM C C2 (upd I' x (.ins C2 dx (mf va vb))) (.ref x) M := by
  have g0 : Gr [] I H (upd I dx (.own x)) (upd H dx (.own x)) := Gr.new s nd
  have hx0 : upd H dx (.own x) x = none := by rw [upd_ne (Ne.symm ne)]; exact nx
  have g1 : Gr [] (upd I dx (.own x)) (upd H dx (.own x)) (upd I dx (.own x)) (upd (upd H dx (.own x)) x (.ins C2 dx [])) := Gr.tmp g0.ih hx0
  have g2 := (g1.mono (ns := [x]) fun _ z => nomatch z).trans g
  have hI' : I' x = none := g.out (g0.ih.free hx0) upd_same
  exact ⟨g0.trans (g2.frz g0.ih hx0 h), x, dx, va, vb, rfl, upd_same, up (sNew hI') r1, up (sNew hI') r2⟩
def spBegun (C C2 : Addr) : Sp := fun vs H Q _ => ∃ (I : Hp) (a : V) (M : Ma) (s : Nat), vs = [a, .int s] ∧ Same I H ∧ iM C C2 I a M ∧ FNone M.1 M.2 ∧ FOk M.1 M.2 ∧ s < M.1.length ∧ Ret [] I H (iM C C2) (unit M.1.length s, M.2) Q
theorem sc_begun : FnScope ["machine", "state", "start", "at"] ["machine", "state"] (defScope s_begun) := ⟨rfl, rfl, rfl, by decide +kernel, rfl, by decide +kernel, by decide +kernel⟩
theorem ok_begun (D : Dt K mg) : Has P w K mg base 10 (He.ga K "begun") ["machine", "state"] [] (spBegun (CR K) (CM K)) := by
  obtain ⟨fd, F⟩ := fd_begun D
  have H_Machine_states := ok_states (P := P) (w := w) (base := base) D
  have H_Ratio_init := has_init1 (P := P) (w := w) (base := base) D
  have H_Machine_init := ok_minit (P := P) (w := w) (base := base) D
  refine hasN F (F.bindsN fun _ _ _ _ _ _ us hl => match us, hl with | [_, _], _ => rfl) sc_begun (fun vs H Q E h => ?_) (fun cdv A outer s H vs Q E hr h => ?_)
  · obtain ⟨I, a, M, s, rfl, _⟩ := h; rfl
  · obtain ⟨I, va, M, s, rfl, s0, ra, fn, fo, hs, k⟩ := h
    obtain ⟨a, dx, u1, u2, rfl, ha, p1, p2⟩ := id ra
    have ha' := s0 _ _ ha
    have hn := fn.a
    refine ⟨_, (pss_cons (ps_setLc (own := [("at", 3)]) (g := gName 3) (i := 2) rfl sc_begun.nd rfl rfl (sw_true rfl rfl rfl (by decide +kernel)) (pi_range1 rfl (free_range D) (pa_cons (pe_methH0 (pv 0) (cls_Machine (K := K) D) (me_Machine_states (K := K) D) H_Machine_states (hr.mono (by decide)) passL) pa_nil)) (blkOk_by (own := [("at", 3)]) (N := ["machine", "state", "start", "at"]) (by kernel_rfl)) (fun _ _ _ _ _ => (pg_name (i := 3) sc_begun.nd rfl (Or.inl rfl))) (fun _ _ _ _ _ => pts_nil) (fun _ _ _ _ _ => (pe_ifExp (pt_cmpR op_eq (pv 3) (pv 1) (nomark _)) (pe_makeH (mkr_Ratio (K := K) D) H_Ratio_init (hr.mono (by decide)) rfl (glo_Ratio D) passL (pa_cons pe_int pa_nil)) (pe_makeH (mkr_Ratio (K := K) D) H_Ratio_init (hr.mono (by decide)) rfl (glo_Ratio D) passL (pa_cons pe_int pa_nil)))))
      (pss_one (ps_ret (pe_makeH (mkr_Machine (K := K) D) H_Machine_init (hr.mono (by decide)) rfl (glo_Machine D) passL (pa_cons (pv 2) (pa_cons (pe_fldK K (pv 0) rfl) pa_nil)))))), ?_⟩
    (try dsimp only)
    refine seq_cut (fun σ' H1 => ∃ (I1 : Hp) (l : Addr), σ' = [some (.ref a), some (.int s), some (.ref l), none] ∧ Gr [] I H I1 H1 ∧ iL (iR (CR K)) I1 (.ref l) (unit M.1.length s)) (fun nx q => ?_) ?_
    · refine ⟨_, rfl, a, dx, _, rfl, ha', mf_no _ _ (by decide +kernel) (by decide +kernel), I, _, M, rfl, s0, ra, trivial, _, rfl, (by show -(2 ^ 62) ≤ (M.1.length : Int); omega), (by show (M.1.length : Int) < 2 ^ 62; omega), fun l hD => ?_⟩
      rw [Int.toNat_natCast]
      dsimp only
      refine lc_range1 (iR (CR K)) (fun k => if k = s then 1 else 0) s0 hD (lt_line (by show M.1.length ≤ 100000; omega)) (fun i I1 H1 Nx Qk hi s1 s2 kk => ?_) (fun I1 H1 g1 r1 => q _ _ ⟨I1, l, rfl, g1, r1⟩)
      refine ⟨rfl, _, rfl, _, rfl, rfl, _, rfl, ?_⟩
      rw [show decide (V.int (0 + (i : Int)) = V.int (s : Int)) = decide (i = s) from by rw [Int.zero_add, dec_vi]]
      by_cases e : i = s
      · rw [decide_eq_true e]
        rw [if_pos e] at kk
        refine iteT fun x dx nx nd ne => ⟨x, dx, _, _, rfl, upd_same, sm_of (by decide) (by decide), fun _ => ⟨rfl, ?_⟩, fun h => absurd h (by decide)⟩
        obtain ⟨g3, r3⟩ := rat_new (ms := []) (C := CR K) (q := rt 1 1) s2 nx nd ne
        exact kk _ _ _ g3 (by rw [← show rt 1 1 = 1 from rt_same (by decide)]; exact r3)
      · rw [decide_eq_false e]
        rw [if_neg e] at kk
        refine iteF fun x dx nx nd ne => ⟨x, dx, _, _, rfl, upd_same, sm_of (by decide) (by decide), fun _ => ⟨rfl, ?_⟩, fun h => absurd h (by decide)⟩
        obtain ⟨g3, r3⟩ := rat_new (ms := []) (C := CR K) (q := rt 0 1) s2 nx nd ne
        exact kk _ _ _ g3 (by rw [← show rt 0 1 = 0 from by simp [rt]]; exact r3)
    rintro σ' H1 ⟨I1, l, rfl, g1, r1⟩
    refine ⟨_, rfl, _, rfl, _, _, _, _, _, rfl, g1.ih _ _ (g1.ii _ _ ha), cls_Machine D, na_Machine_moves D, mf_moves u1 u2, fun x dx nx nd ne => ?_⟩
    have h1 : upd H1 dx (.own x) x = none := by rw [upd_ne (Ne.symm ne)]; exact nx
    have gd := Gr.new (ms := []) (o := .own x) g1.ih nd
    have fo2 : FOk (unit M.1.length s) M.2 := ⟨by unfold unit; rw [List.length_map, List.length_range]; omega, fo.z1, fo.z2, fo.z3, fits_gd (N := 1) (B := 1) (by decide) (fun q hq => unit_gd hq) (by unfold unit; rw [List.length_map, List.length_range]; exact Nat.le_trans (by omega : M.1.length * 1 ≤ 12) (by decide)) (by decide), fo.f1⟩
    have fn2 := none_flt (none_unit fn hs)
    refine ⟨upd I1 dx (.own x), x, dx, _, _, (unit M.1.length s, M.2), rfl, sUnder gd.ih (gd.ih.free h1), gd.ih.free h1, upd_same, iA.l (up gd.ii r1), iAt_of (fun _ _ => iAt_of fun _ _ => iAt_of fun _ _ => iA.t) (up gd.ii (up g1.ii p2)), fo2, fun _ I5 H5 va vb g5 h5 q1 q2 => ⟨rfl, ?_⟩, fun r hr => ?_⟩
    · obtain ⟨g6, r6⟩ := mach_new g1.ih nx nd ne g5 h5 q1 q2
      exact k _ _ _ (g1.trans g6) r6
    · have hr : flt (unit M.1.length s) M.2 = some r := hr
      rw [fn2] at hr
      cases hr
end
end K

set_option Elab.async false
set_option linter.all false
set_option maxRecDepth 100000
set_option maxHeartbeats 4000000
set_option exponentiation.threshold 5000
namespace K
open PySem PySem.Spec PyProof.Rows L2 Tk Hd Mt
theorem iQ_z {H : Hp} {v : V} {q : Rat} (h : iQ H v q) : iZ H v (q.num, (q.den : Int)) := h
theorem Fit.z {q : Rat} (h : Fit q) : Fz (q.num, (q.den : Int)) := ⟨h.1, h.2, den_pos q⟩
section
variable {P : Program} {w : World} {K : PySem.W.Frag} {mg : Str → Option Value} {base : Heap}
def spLSum : Sp := fun vs H Q _ => ∃ (I : Hp) (a : V) (qs : List Rat), vs = [a] ∧ Same I H ∧ iA iQ I a qs ∧ Fits qs ∧ Ret [] I H iQ (tot qs) Q
theorem sc_lsum : FnScope ["ratios", "result", "ratio"] ["ratios"] (defScope s__law_sum) := ⟨rfl, rfl, rfl, by decide +kernel, rfl, by decide +kernel, by decide +kernel⟩
theorem ok_lsum (D : Dt K mg) : Has P w K mg base 3 (He.ga K "_law_sum") ["ratios"] [] spLSum := by
  obtain ⟨fd, F⟩ := fd__law_sum D
  have H__law_plus := ok_plus (P := P) (w := w) (base := base) D
  refine hasN F (F.bindsN fun _ _ _ _ _ _ us hl => match us, hl with | [_], _ => rfl) sc_lsum (fun vs H Q E h => ?_) (fun cdv A outer s H vs Q E hr h => ?_)
  · obtain ⟨I, a, qs, rfl, _⟩ := h; rfl
  · obtain ⟨I, va, qs, rfl, s0, ⟨a, vs, rfl, ha, a2⟩, ft, k⟩ := h
    have hl := a2.len
    refine ⟨_, (pss_cons (ps_set (i := 1) sc_lsum.nd rfl (Or.inl rfl) (pe_tup (pa_cons pe_int (pa_cons pe_int pa_nil))))
      (pss_cons (ps_for PassesOwn.never rfl (pi_ltK K (pv 0)) (pg_name (i := 2) sc_lsum.nd rfl (Or.inl rfl))
      (pss_one (ps_set (i := 1) sc_lsum.nd rfl (Or.inl rfl) (pe_callH H__law_plus (hr.mono (by decide)) rfl (glo__law_plus D) passL (pa_cons (pv 1) (pa_cons (pv 2) pa_nil))))))
      (pss_one (ps_ret (pv 1))))), ?_⟩
    (try dsimp only)
    refine seq_cut (fun σ' H1 => ∃ (I1 : Hp) (fv : V), σ' = [some (.ref a), some fv, none] ∧ Gr [] I H I1 H1 ∧ iQ I1 fv (S 0 (gq qs))) (fun nx q => ?_) ?_
    · refine ⟨(by show 2 ≤ sizeLine; decide), fun t ht => ?_⟩
      exact q _ _ ⟨_, .ref t, rfl, Gr.new (o := .tup [.int 0, .int 1]) s0 ht, t, rfl, upd_same⟩
    rintro σ' H1 ⟨I1, fv0, rfl, g1, r1⟩
    (try dsimp only)
    refine ⟨_, rfl, lt_of (ha.imp (g1.ii _ _) (g1.ii _ _)) g1.ih fun J W => for_wk W
      (fun σ' H' => ∃ (I' : Hp) (fv : V) (v : Option V), σ' = [some (.ref a), some fv, v] ∧ Gr [] I H I' H' ∧ iQ I' fv (tot qs))
      (fun i σ' H' => ∃ (I' : Hp) (fv : V) (v : Option V), σ' = [some (.ref a), some fv, v] ∧ Gr [] I H I' H' ∧ Same I1 I' ∧ iQ I' fv (S i (gq qs)))
      (fun i σ' H' h => by obtain ⟨I', fv, v, _, gr, s, _⟩ := h; exact s.trans gr.ih)
      ⟨I1, fv0, none, rfl, g1, Same.refl _, r1⟩ (fun nx q i σ' H' hi h => ?_) (fun σ' H' h => ?_) ?_⟩
    · obtain ⟨I', fv, v, rfl, gr, s1, rf⟩ := h
      have hq := gq_lt (l := qs) (i := i) (by omega)
      have rq := up (g1.ii.trans s1) (gv2 a2 hq)
      refine ⟨_, rfl, _, rfl, I', _, _, _, _, rfl, gr.ih, iQ_z rf, iQ_z rq, (ft.2 i (by omega)).z, (ft.1 _ (List.mem_of_getElem? hq)).z, fun I2 H2 v2 g2 r2 => ?_⟩
      rw [rt_add] at r2
      exact ⟨I2, v2, _, rfl, gr.trans g2, s1.trans g2.ii, r2⟩
    · obtain ⟨I', fv, v, rfl, gr, s1, rf⟩ := h
      rw [hl] at rf
      exact ⟨I', fv, v, rfl, gr, rf⟩
    · rintro σ' H' ⟨I', fv, v, rfl, gr, rf⟩
      exact ⟨_, rfl, k _ _ _ gr rf⟩
end
end K

set_option Elab.async false
set_option linter.all false
set_option maxRecDepth 100000
set_option maxHeartbeats 4000000
set_option exponentiation.threshold 5000
namespace K
open PySem PySem.Spec PyProof.Rows L2 Tk Hd Mt
abbrev vn (ws : List Nat) : List V := ws.map fun n : Nat => V.int n
theorem rep_zero (c : Nat) : (List.replicate c [V.int 0]).flatten = vn (List.replicate c 0) := by
  induction c with
  | zero => rfl
  | succ c ih => rw [List.replicate_succ, List.flatten_cons, ih]; rfl
theorem isum (ws : List Nat) : (ws.map fun n : Nat => (n : Int)).sum = (ws.sum : Nat) := by
  induction ws with
  | nil => rfl
  | cons a r ih => rw [List.map_cons, List.sum_cons, ih, List.sum_cons]; omega
theorem all2_vn {H : Hp} : ∀ ws : List Nat, All2 (iN H) (vn ws) ws
  | [] => .nil
  | a :: r => .cons rfl (all2_vn r)
section
variable {P : Program} {w : World} {K : PySem.W.Frag} {mg : Str → Option Value} {base : Heap}
def spCells : Sp := fun vs H Q _ => ∃ (I : Hp) (p : Addr) (c f : Nat), vs = [.ref p, .int c, .int f] ∧ Same I H ∧ PoolOk I H p ∧ 0 < c ∧ c ≤ 100 ∧ 0 < f ∧ f ≤ 3 ∧
  ∀ I' H' v qs, Gr [p] I H I' H' → PoolOk I' H' p → iL iQ I' v qs → Cells c qs → Q v H'
theorem sc_cells : FnScope ["pool", "count", "few", "weights", "k", "place", "weight"] ["pool", "count", "few"] (defScope s__law_cells) := ⟨rfl, rfl, rfl, by decide +kernel, rfl, by decide +kernel, by decide +kernel⟩
theorem PoolOk.mutO {I H : Hp} {p d : Addr} {o : HO} (h : PoolOk I H p) (n : p ≠ d) (hI : I d = none) : PoolOk I (upd H d o) p := by
  obtain ⟨i, c, cells, pos, b, s, l, u, h1, h2, h3, h4⟩ := h
  exact ⟨i, c, cells, pos, b, s, l, u, h1, h2, h3, by rw [upd_ne n]; exact h4⟩
theorem PoolOk.frzO {I H : Hp} {p d : Addr} {o : HO} (h : PoolOk I H p) (n : p ≠ d) (hI : I d = none) : PoolOk (upd I d o) H p := by
  obtain ⟨i, c, cells, pos, b, s, l, u, h1, h2, h3, h4⟩ := h
  exact ⟨by rw [upd_ne n]; exact i, c, cells, pos, b, s, l, u, by rw [upd_ne (ne_of_none h1 hI)]; exact h1, h2, h3, h4⟩
theorem PoolOk.ne {I H : Hp} {p d : Addr} (h : PoolOk I H p) (n : H d = none) : p ≠ d := by
  obtain ⟨i, c, cells, pos, b, s, l, u, h1, h2, h3, h4⟩ := h
  exact ne_of_none h4 n
theorem ok_cells (D : Dt K mg) : Has P w K mg base 2 (He.ga K "_law_cells") ["pool", "count", "few"] [] spCells := by
  obtain ⟨fd, F⟩ := fd__law_cells D
  have H__law_draw := ok_draw (P := P) (w := w) (base := base) D
  have H__law_less := ok_ls (P := P) (w := w) (base := base) D
  refine hasN F (F.bindsN fun _ _ _ _ _ _ us hl => match us, hl with | [_, _, _], _ => rfl) sc_cells (fun vs H Q E h => ?_) (fun cdv A outer s H vs Q E hr h => ?_)
  · obtain ⟨I, p, c, f, rfl, _⟩ := h; rfl
  · obtain ⟨I, p, c, f, rfl, s0, po, c0, c1, f0, f1, k⟩ := h
    refine ⟨_, (pss_cons (ps_set (i := 3) sc_cells.nd rfl (Or.inr rfl) (pe_op op_rep (pe_lst (pa_cons pe_int pa_nil)) (pv 1)))
      (pss_cons (ps_for PassesOwn.never rfl (pi_range1 rfl (free_range D) (pa_cons (pe_op op_add pe_int (pe_callH H__law_draw (hr.mono (by decide)) rfl (glo__law_draw D) passL (pa_cons (pv 0) (pa_cons (pv 2) pa_nil)))) pa_nil)) (pg_name (i := 4) sc_cells.nd rfl (Or.inl rfl))
      (pss_cons (ps_set (i := 5) sc_cells.nd rfl (Or.inl rfl) (pe_callH H__law_draw (hr.mono (by decide)) rfl (glo__law_draw D) passL (pa_cons (pv 0) (pa_cons (pv 1) pa_nil))))
      (pss_one (ps_asg (pe_op op_add (pe_op op_add (pe_ix (ix_listK K) (pv 3) (pv 5) (fun _ _ => rfl)) pe_int) (pe_callH H__law_draw (hr.mono (by decide)) rfl (glo__law_draw D) passL (pa_cons (pv 0) (pa_cons pe_int pa_nil)))) (pg_sub (pv 3) (pv 5) set_list)))))
      (pss_one (ps_ret (pe_lc (own := [("weight", 6)]) (g := gName 6) rfl sc_cells.nd (pi_listK K (pv 3)) (blkOk_by (own := [("weight", 6)]) (N := ["pool", "count", "few", "weights", "k", "place", "weight"]) (by kernel_rfl)) (fun _ _ _ _ _ => (pg_name (i := 6) sc_cells.nd rfl (Or.inl rfl))) (fun _ _ _ _ _ => pts_nil) (fun _ _ _ _ _ => (pe_callH H__law_less (hr.mono (by decide)) rfl (glo__law_less D) passL (pa_cons (pv 6) (pa_cons (pe_callB (cr_sumK K rfl) rfl (free_sum D) (by decide +kernel) (pa_cons (pv 3) pa_nil)) pa_nil))))))))), ?_⟩
    (try dsimp only)
    refine seq_cut (fun σ' H1 => ∃ d, σ' = [some (.ref p), some (.int c), some (.int f), some (.ref d), none, none, none] ∧ Gr [] I H I H1 ∧ H d = none ∧ H1 d = some (.lst (vn (List.replicate c 0)))) (fun nx q => ?_) ?_
    · refine ⟨(by show 1 ≤ sizeLine; decide), fun l hl => ⟨_, rfl, l, c, _, rfl, rfl, upd_same, by omega, by omega, ?_, fun d hd => ?_⟩⟩
      · rw [Int.toNat_natCast]; exact Nat.le_of_lt (lt_line (by simp; omega))
      · rw [Int.toNat_natCast, rep_zero]
        have nld : d ≠ l := fun e => by rw [e, upd_same] at hd; cases hd
        exact q _ _ ⟨d, rfl, (Gr.tmp s0 hl).trans (Gr.tmp (sUnder s0 (s0.free hl)) hd), by rw [upd_ne nld] at hd; exact hd, upd_same⟩
    rintro σ' H1 ⟨d, rfl, g1, hd, h1⟩
    (try dsimp only)
    have npd := po.ne hd
    have hId := s0.free hd
    have po1 : PoolOk I H1 p := po.up g1 (by simp)
    refine ⟨_, rfl, _, rfl, I, p, f, rfl, g1.ih, po1, by omega, by omega, fun v H2 hv0 hv1 g2 po2 => ⟨_, _, rfl, rfl, 1 + v, rfl, by omega, by omega, ?_⟩⟩
    have h2 : H2 d = some (.lst (vn (List.replicate c 0))) := g2.at h1 (by simpa using npd.symm)
    obtain ⟨t, ht⟩ : ∃ t : Nat, t = (1 + v).toNat := ⟨_, rfl⟩
    rw [← ht]
    have t1 : 1 ≤ t ∧ t ≤ 3 := by omega
    refine for_wk (wk_range (I := I))
      (fun σ' H' => ∃ (v4 v5 : Option V) (ws : List Nat), σ' = [some (.ref p), some (.int c), some (.int f), some (.ref d), v4, v5, none] ∧ Gr [p] I H I H' ∧ PoolOk I H' p ∧ H' d = some (.lst (vn ws)) ∧ ws.length = c ∧ 1 ≤ ws.sum ∧ ws.sum ≤ 6 ∧ ws.countP (fun w => decide (w ≠ 0)) ≤ 3)
      (fun i σ' H' => ∃ (v4 v5 : Option V) (ws : List Nat), σ' = [some (.ref p), some (.int c), some (.int f), some (.ref d), v4, v5, none] ∧ Gr [p] I H I H' ∧ PoolOk I H' p ∧ H' d = some (.lst (vn ws)) ∧ ws.length = c ∧ i ≤ ws.sum ∧ ws.sum ≤ 2 * i ∧ ws.countP (fun w => decide (w ≠ 0)) ≤ i)
      (fun i σ' H' h => by obtain ⟨v4, v5, ws, _, gr, _⟩ := h; exact gr.ih)
      ⟨none, none, List.replicate c 0, rfl, (g1.mono fun _ z => nomatch z).trans g2, po2, h2, by simp, by simp, by simp, by simp⟩ (fun nx q i σ' H' hi h => ?_) (fun σ' H' h => ?_) ?_
    · obtain ⟨v4, v5, ws, rfl, gr, po3, h3, hl, w0, w1, wz⟩ := h
      refine ⟨_, rfl, _, rfl, I, p, c, rfl, gr.ih, po3, by omega, by omega, fun u H3 hu0 hu1 g3 po4 => ?_⟩
      obtain ⟨j, rfl⟩ := Int.eq_ofNat_of_zero_le hu0
      have hj : j < ws.length := by omega
      have h4 : H3 d = some (.lst (vn ws)) := g3.at h3 (by simpa using npd.symm)
      have hw : (vn ws)[j]? = some (.int (ws[j] : Nat)) := by rw [List.getElem?_map, List.getElem?_eq_getElem hj]; rfl
      refine ⟨_, rfl, _, rfl, _, _, _, _, rfl, rfl, SqL.of h4, at_of (j := j) rfl hw, _, _, rfl, rfl, _, rfl, I, p, 2, rfl, g3.ih, po4, by omega, by omega, fun u2 H4 hv0 hv1 g4 po5 => ⟨_, _, rfl, rfl, ?_⟩⟩
      obtain ⟨x, rfl⟩ := Int.eq_ofNat_of_zero_le hv0
      have h5 : H4 d = some (.lst (vn ws)) := g4.at h4 (by simpa using npd.symm)
      refine ⟨_, rfl, _, rfl, _, _, _, _, rfl, rfl, h5, (show ixN (vn ws).length (j : Int) = some j from ?_), ?_⟩
      · unfold ixN
        rw [if_pos (by omega), if_pos (by rw [List.length_map]; omega)]; rfl
      · have e : (vn ws).set j (.int (((ws[j] : Nat) : Int) + 1 + (x : Int))) = vn (ws.set j (ws[j] + 1 + x)) := by
          rw [vn, vn, List.map_set]; rfl
        have ss := sum_set (v := ws[j] + 1 + x) hj
        have zz := nz_set (v := ws[j] + 1 + x) hj
        have gg := (gr.trans g3).trans g4
        refine ⟨_, _, ws.set j (ws[j] + 1 + x), rfl, ((gg.mono (ns := [d, p]) fun _ z => List.mem_cons_of_mem _ z).trans (Gr.mut gg.ih hId List.mem_cons_self)).drop hd, po5.mutO npd hId, by rw [upd_same, ← e], by rw [List.length_set]; exact hl, by omega, by omega, by omega⟩
    · obtain ⟨v4, v5, ws, rfl, gr, po3, h3, hl, w0, w1, wz⟩ := h
      exact ⟨v4, v5, ws, rfl, gr, po3, h3, hl, by omega, by omega, by omega⟩
    · rintro σ' H' ⟨v4, v5, ws, rfl, gr, po3, h3, hl, w0, w1, wz⟩
      have g5 : Gr [p] I H (upd I d (.lst (vn ws))) H' := (gr.mono (ns := [d, p]) fun _ z => List.mem_cons_of_mem _ z).frz s0 hd h3
      have po6 : PoolOk (upd I d (.lst (vn ws))) H' p := po3.frzO npd hId
      have hW : (W : Nat) → True := fun _ => trivial
      refine ⟨_, rfl, d, rfl, ⟨_, SqL.of h3⟩, fun l hD => lc_wk (n := (vn ws).length) (xs := gv (vn ws)) [] iQ (fun i z => ∃ x, ws[i]? = some x ∧ z = rt (x : Nat) (ws.sum : Nat)) (fun _ _ => True) (wk_list (I := upd I d (.lst (vn ws))) upd_same) g5.ih hD (by simp) (lt_line (by simp; omega)) stb_true trivial (fun i I' H4 Nx Qk hi s1 s2 _ kk => ?_) (fun I' H4 ys zs g6 hD' b2 hz rl _ => ?_)⟩
      · have hi' : i < ws.length := by simpa using hi
        have hx : ws[i]? = some ws[i] := List.getElem?_eq_getElem hi'
        have ev : gv (vn ws) i = .int (ws[i] : Nat) := gv_of (by rw [List.getElem?_map, hx]; rfl)
        have hd4 : H4 d = some (.lst (vn ws)) := s2 _ _ (s1 _ _ upd_same)
        rw [ev]
        refine ⟨rfl, _, rfl, _, rfl, d, ws.map (fun n : Nat => (n : Int)), rfl, SqL.of (by rw [hd4, List.map_map]; rfl), ?_⟩
        rw [isum]
        exact ⟨I', _, _, rfl, s2, by omega, by have : (6 : Int) < 2 ^ 1999 := by decide
                                               omega, fun I5 H5 v5 g7 r7 => kk _ _ _ _ g7 trivial r7 ⟨_, hx, rfl⟩⟩
      · have e : zs = ws.map fun x : Nat => rt x (ws.sum : Nat) := map_of (by rw [hz]; simp) rl
        subst e
        exact k _ _ _ _ (g5.trans (g6.mono fun _ z => nomatch z)) (po6.up g6 (by simp)) ⟨l, ys, rfl, hD', b2⟩ (cells_of hl w0 w1 wz (by decide))
end
end K

set_option linter.all false
namespace Mt
structure BOk (n as : Nat) (p : List Rows) : Prop where
  l2 : p.length = as
  l3 : ∀ a, a < as → (gl p a).length = n
  l4 : ∀ a s, a < as → s < n → (gl (gl p a) s).length = n
  g1 : ∀ a s k, a < as → s < n → k < n → Gd 60 1 (gq (gl (gl p a) s) k)
  z : ∀ a s, a < as → s < n → nzl (gl (gl p a) s) ≤ 3
  s1 : ∀ s, s < n → S as (fun a => S n (gq (gl (gl p a) s))) = 1
theorem gl_range {α : Type} {n k : Nat} {f : Nat → List α} (h : k < n) : gl ((List.range n).map f) k = f k := gl_of (by rw [List.getElem?_map, List.getElem?_range h]; rfl)
theorem gl_map {α β : Type} {l : List (List α)} {k : Nat} {f : List α → List β} (h : k < l.length) : gl (l.map f) k = f (gl l k) := gl_of (by rw [List.getElem?_map, gl_lt h]; rfl)
def cuts (n as : Nat) (rows : Rows) : List Rows := (List.range as).map fun a => rows.map fun r => (r.drop (a * n)).take n
theorem blk_le {a as n : Nat} (h : a < as) : a * n + n ≤ as * n := by
  have := Nat.mul_le_mul_right n (show a + 1 ≤ as from h)
  rw [Nat.succ_mul] at this; exact this
theorem cuts_ok {n as : Nat} {rows : Rows} (hl : rows.length = n) (hc : ∀ r ∈ rows, Cells (as * n) r) : BOk n as (cuts n as rows) := by
  have row : ∀ s, s < n → Cells (as * n) (gl rows s) := fun s hs => hc _ (List.mem_of_getElem? (gl_lt (by omega)))
  have e1 : ∀ a, a < as → gl (cuts n as rows) a = rows.map fun r => (r.drop (a * n)).take n := fun a ha => gl_range ha
  have e2 : ∀ a s, a < as → s < n → gl (gl (cuts n as rows) a) s = ((gl rows s).drop (a * n)).take n := fun a s ha hs => by rw [e1 a ha, gl_map (by omega)]
  refine ⟨by unfold cuts; simp, fun a ha => by rw [e1 a ha, List.length_map, hl], fun a s ha hs => ?_, fun a s k ha hs hk => ?_, fun a s ha hs => ?_, fun s hs => ?_⟩
  · rw [e2 a s ha hs, List.length_take, List.length_drop, (row s hs).len]
    have := blk_le (n := n) ha
    omega
  · rw [e2 a s ha hs, cut_gq hk]
    refine (row s hs).gd _ (List.mem_of_getElem? (gq_lt ?_))
    rw [(row s hs).len]
    have := blk_le (n := n) ha
    omega
  · rw [e2 a s ha hs]
    exact Nat.le_trans (cut_nz _ _ _) (row s hs).nz
  · rw [← (row s hs).tot, ← cut_sum (row s hs).len]
    exact S_congr fun a ha => by rw [e2 a s ha hs]
theorem mok_of {n bs as : Nat} {st : List Rat} {ms : List (List Rows)} (n0 : 0 < n) (n1 : n ≤ 5) (b0 : 0 < bs) (b1 : bs ≤ 4) (a0 : 0 < as) (a1 : as ≤ 4) (hs : Cells n st) (hl : ms.length = bs) (hb : ∀ b, b < bs → BOk n as (gl ms b)) : MOk (st, ms) n bs as :=
  ⟨n0, n1, b0, b1, a0, a1, hs.len, hl, fun b h => (hb b h).l2, fun b a h h2 => (hb b h).l3 a h2, fun b a s h h2 h3 => (hb b h).l4 a s h2 h3, fun s h => hs.gd _ (List.mem_of_getElem? (gq_lt (by rw [hs.len]; exact h))),
    fun b a s k h h2 h3 h4 => (hb b h).g1 a s k h2 h3 h4, hs.tot, fun b s h h2 => (hb b h).s1 s h2, fun b a s h h2 h3 => (hb b h).z a s h2 h3⟩
theorem gl_snoc_lt {α : Type} {l : List (List α)} {x : List α} {i : Nat} (h : i < l.length) : gl (l ++ [x]) i = gl l i := gl_of (by rw [List.getElem?_append_left h]; exact gl_lt h)
theorem gl_snoc {α : Type} {l : List (List α)} {x : List α} : gl (l ++ [x]) l.length = x := gl_of (by simp)
end Mt

set_option Elab.async false
set_option linter.all false
set_option maxRecDepth 100000
set_option maxHeartbeats 4000000
set_option exponentiation.threshold 5000
namespace K
open PySem PySem.Spec PyProof.Rows L2 Tk Hd Mt
section
variable {P : Program} {w : World} {K : PySem.W.Frag} {mg : Str → Option Value} {base : Heap}
/-- what _law_machine draws -/
structure MG (M : Ma) (n bs as : Nat) : Prop where
  c : Cells n M.1
  l : M.2.length = bs
  b : ∀ b, b < bs → BOk n as (gl M.2 b)
/-- the law's own machines -/
def iLM : Rp Ma := fun H v M => ∃ a x y, v = .ref a ∧ H a = some (.tup [x, y]) ∧ iL iQ H x M.1 ∧ iL (iL (iL (iL iQ))) H y M.2
instance : Mono iLM := ⟨fun s ⟨a, x, y, e, h, p, q⟩ => ⟨a, x, y, e, s _ _ h, up s p, up s q⟩⟩
def spLM : Sp := fun vs H Q _ => ∃ (I : Hp) (p : Addr) (n bs as : Nat), vs = [.ref p, .int n, .int bs, .int as] ∧ Same I H ∧ PoolOk I H p ∧ (0 < n ∧ n ≤ 13) ∧ (0 < bs ∧ bs ≤ 5) ∧ (0 < as ∧ as ≤ 5) ∧
  ∀ I' H' v M, Gr [p] I H I' H' → PoolOk I' H' p → iLM I' v M → MG M n bs as → Q v H'
theorem sc_lmach : FnScope ["pool", "states", "buttons", "answers", "start", "moves", "button", "rows", "state", "row", "answer"] ["pool", "states", "buttons", "answers"] (defScope s__law_machine) := ⟨rfl, rfl, rfl, by decide +kernel, rfl, by decide +kernel, by decide +kernel⟩
theorem stb_pool {p l : Addr} (n : p ≠ l) : Stb (fun I H => PoolOk I H p) l := ⟨fun hI h => h.mutO n hI, fun hI h => h.frzO n hI⟩
theorem ok_lmach (D : Dt K mg) : Has P w K mg base 3 (He.ga K "_law_machine") ["pool", "states", "buttons", "answers"] [] spLM := by
  obtain ⟨fd, F⟩ := fd__law_machine D
  have H__law_cells := ok_cells (P := P) (w := w) (base := base) D
  refine hasN F (F.bindsN fun _ _ _ _ _ _ us hl => match us, hl with | [_, _, _, _], _ => rfl) sc_lmach (fun vs H Q E h => ?_) (fun cdv A outer s H vs Q E hr h => ?_)
  · obtain ⟨I, p, n, bs, as, rfl, _⟩ := h; rfl
  · obtain ⟨I, p, n, bs, as, rfl, s0, po, ⟨n0, n1⟩, ⟨b0, b1⟩, ⟨a0, a1⟩, k⟩ := h
    refine ⟨_, (pss_cons (ps_set (i := 4) sc_lmach.nd rfl (Or.inl rfl) (pe_callH H__law_cells (hr.mono (by decide)) rfl (glo__law_cells D) passL (pa_cons (pv 0) (pa_cons (pv 1) (pa_cons pe_int pa_nil)))))
      (pss_cons (ps_set (i := 5) sc_lmach.nd rfl (Or.inl rfl) (pe_lst pa_nil))
      (pss_cons (ps_for PassesOwn.never rfl (pi_range1 rfl (free_range D) (pa_cons (pv 2) pa_nil)) (pg_name (i := 6) sc_lmach.nd rfl (Or.inl rfl))
      (pss_cons (ps_set (i := 7) sc_lmach.nd rfl (Or.inr rfl) (pe_lc (own := [("state", 8)]) (g := gName 8) rfl sc_lmach.nd (pi_range1 rfl (free_range D) (pa_cons (pv 1) pa_nil)) (blkOk_by (own := [("state", 8)]) (N := ["pool", "states", "buttons", "answers", "start", "moves", "button", "rows", "state", "row", "answer"]) (by kernel_rfl)) (fun _ _ _ _ _ => (pg_name (i := 8) sc_lmach.nd rfl (Or.inl rfl))) (fun _ _ _ _ _ => pts_nil) (fun _ _ _ _ _ => (pe_callH H__law_cells (hr.mono (by decide)) rfl (glo__law_cells D) passL (pa_cons (pv 0) (pa_cons (pe_op op_mul (pv 3) (pv 1)) (pa_cons pe_int pa_nil)))))))
      (pss_one (ps_expr (pe_bm PySem.F.plainAttrs_list PySem.F.slot_list_append PySem.F.type_list_append mt_append (pv 5) (pa_cons (pe_lc (own := [("answer", 10)]) (g := gName 10) rfl sc_lmach.nd (pi_range1 rfl (free_range D) (pa_cons (pv 3) pa_nil)) (blkOk_by (own := [("answer", 10)]) (N := ["pool", "states", "buttons", "answers", "start", "moves", "button", "rows", "state", "row", "answer"]) (by kernel_rfl)) (fun _ _ _ _ _ => (pg_name (i := 10) sc_lmach.nd rfl (Or.inr rfl))) (fun _ _ _ _ _ => pts_nil) (fun _ _ _ _ _ => (pe_lc (own := [("row", 9)]) (g := gName 9) rfl sc_lmach.nd (pi_listK K (pv 7)) (blkOk_by (own := [("row", 9)]) (N := ["pool", "states", "buttons", "answers", "start", "moves", "button", "rows", "state", "row", "answer"]) (by kernel_rfl)) (fun _ _ _ _ _ => (pg_name (i := 9) sc_lmach.nd rfl (Or.inl rfl))) (fun _ _ _ _ _ => pts_nil) (fun _ _ _ _ _ => (pe_slice (sl_listK K) (pv 9) (po_some (pe_op op_mul (pv 10) (pv 1))) (po_some (pe_op op_add (pe_op op_mul (pv 10) (pv 1)) (pv 1)))))))) pa_nil))))))
      (pss_one (ps_ret (pe_tup (pa_cons (pv 4) (pa_cons (pv 5) pa_nil)))))))), ?_⟩
    have an : as * n ≤ 5 * 13 := Nat.mul_le_mul a1 n1
    have an0 : 0 < as * n := Nat.mul_pos a0 n0
    (try dsimp only)
    refine seq_cut (fun σ' H1 => ∃ (I1 : Hp) (sv : V) (st : List Rat), σ' = [some (.ref p), some (.int n), some (.int bs), some (.int as), some sv, none, none, none, none, none, none] ∧ Gr [p] I H I1 H1 ∧ PoolOk I1 H1 p ∧ iL iQ I1 sv st ∧ Cells n st) (fun nx q => ?_) ?_
    · refine ⟨_, rfl, _, rfl, I, p, n, 2, rfl, s0, po, n0, by omega, by decide, by decide, fun I1 H1 v qs g1 po1 r1 c1 => ?_⟩
      exact q _ _ ⟨I1, v, qs, rfl, g1, po1, r1, c1⟩
    rintro σ' H1 ⟨I1, sv, st, rfl, g1, po1, r1, cst⟩
    (try dsimp only)
    refine seq_cut (fun σ' H2 => ∃ L, σ' = [some (.ref p), some (.int n), some (.int bs), some (.int as), some sv, some (.ref L), none, none, none, none, none] ∧ H1 L = none ∧ H2 = upd H1 L (.lst [])) (fun nx q => ?_) ?_
    · exact ⟨(by show 0 ≤ sizeLine; decide), fun L hL => q _ _ ⟨L, rfl, hL, rfl⟩⟩
    rintro σ' H2 ⟨L, rfl, hL, rfl⟩
    (try dsimp only)
    have npL := po1.ne hL
    have hL0 := g1.none hL
    have hI1L := g1.ih.free hL
    have gL : Gr [p] I H I1 (upd H1 L (.lst [])) := g1.trans (Gr.tmp g1.ih hL)
    refine ⟨_, rfl, bs, rfl, by omega, by omega, ?_⟩
    rw [Int.toNat_natCast]
    refine for_wk (wk_range (I := I1))
      (fun σ' H' => ∃ (I' : Hp) (v6 v7 : Option V) (ys : List V) (ms : List (List Rows)), σ' = [some (.ref p), some (.int n), some (.int bs), some (.int as), some sv, some (.ref L), v6, v7, none, none, none] ∧ Gr [p] I H I' H' ∧ Same I1 I' ∧ PoolOk I' H' p ∧ I' L = none ∧ H' L = some (.lst ys) ∧ All2 (iL (iL (iL iQ)) I') ys ms ∧ ms.length = bs ∧ ∀ b, b < bs → BOk n as (gl ms b))
      (fun i σ' H' => ∃ (I' : Hp) (v6 v7 : Option V) (ys : List V) (ms : List (List Rows)), σ' = [some (.ref p), some (.int n), some (.int bs), some (.int as), some sv, some (.ref L), v6, v7, none, none, none] ∧ Gr [p] I H I' H' ∧ Same I1 I' ∧ PoolOk I' H' p ∧ I' L = none ∧ H' L = some (.lst ys) ∧ All2 (iL (iL (iL iQ)) I') ys ms ∧ ms.length = i ∧ ∀ b, b < i → BOk n as (gl ms b))
      (fun i σ' H' h => by obtain ⟨I', v6, v7, ys, ms, _, gr, s, _⟩ := h; exact s.trans gr.ih)
      ⟨I1, none, none, [], [], rfl, gL, Same.refl _, po1.mutO npL hI1L, hI1L, upd_same, .nil, rfl, fun b hb => absurd hb (by omega)⟩ (fun nx q i σ' H' hi h => ?_) (fun σ' H' h => h) ?_
    · obtain ⟨I', v6, v7, ys, ms, rfl, gr, s1, po2, hLI, hLH, a2, hl, ok⟩ := h
      (try dsimp only)
      refine seq_cut (fun σ' H2 => ∃ (I2 : Hp) (v6 : Option V) (lr : Addr) (rows : Rows), σ' = [some (.ref p), some (.int n), some (.int bs), some (.int as), some sv, some (.ref L), v6, some (.ref lr), none, none, none] ∧ Gr [p] I' H' I2 H2 ∧ PoolOk I2 H2 p ∧ iL (iL iQ) I2 (.ref lr) rows ∧ rows.length = n ∧ ∀ r ∈ rows, Cells (as * n) r) (fun nx q => ?_) ?_
      · refine ⟨_, rfl, n, rfl, by omega, by omega, fun l hD => ?_⟩
        rw [Int.toNat_natCast]
        have npl := po2.ne hD
        refine lc_wk [p] (iL iQ) (fun i z => Cells (as * n) z) (fun I H => PoolOk I H p) (wk_range (I := I')) gr.ih hD (by simpa using npl.symm) (lt_line (by omega)) (stb_pool npl) po2 (fun j I3 H3 Nx Qk hj s2 s3 pj kk => ?_) (fun I3 H3 ys zs g3 hD' b2 hz rl pj => ?_)
        · refine ⟨rfl, _, rfl, _, rfl, _, rfl, _, _, rfl, rfl, mulc (by omega) (by omega), I3, p, as * n, 3, by rw [Int.natCast_mul]; rfl, s3, pj, an0, by omega, by decide, by decide, fun I4 H4 v qs g4 po4 r4 c4 => kk _ _ _ _ g4 po4 r4 c4⟩
        · exact q _ _ ⟨I3, _, l, zs, rfl, g3, pj, ⟨l, ys, rfl, hD', b2⟩, hz, fun r hr => by
            obtain ⟨j, hj, e⟩ := List.getElem_of_mem hr
            rw [← e]; exact rl j _ (List.getElem?_eq_getElem hj)⟩
      rintro σ' H2 ⟨I2, v6, lr, rows, rfl, g2, po3, rr, hrl, hrc⟩
      (try dsimp only)
      have hLH2 : H2 L = some (.lst ys) := g2.at hLH (by simpa using npL.symm)
      have hLI2 := g2.out hLI hLH
      refine ⟨_, rfl, .inl ⟨rfl, _, SqL.of hLH2⟩, _, rfl, as, rfl, by omega, by omega, fun l hD => ?_⟩
      rw [Int.toNat_natCast]
      have nLl : L ≠ l := ne_of_none hLH2 hD
      refine lc_range1 (iL (iL iQ)) (fun a => rows.map fun r => (r.drop (a * n)).take n) g2.ih hD (lt_line (by omega)) (fun a I3 H3 Nx Qk ha s2 s3 kk => ?_) (fun I3 H3 g3 r3 => ?_)
      · obtain ⟨_, vs, er, hr, b2⟩ := up s2 rr
        cases er
        refine ⟨rfl, _, rfl, lr, rfl, ⟨_, SqL.of (s3 _ _ hr)⟩, fun l2 hD2 => lc_map (R := iL iQ) (Sy := iL iQ) (fun r => (r.drop (a * n)).take n) (wk_list hr) b2 s3 hD2 (lt_line (by omega)) (fun j r I4 H4 Nx4 Qk4 hj rj s4 s5 ke => ?_) (fun I4 H4 g4 r4 => kk _ _ _ g4 r4)⟩
        have e : (0 + (a : Int)) * (n : Int) = ((a * n : Nat) : Int) := by rw [Int.zero_add, Int.natCast_mul]
        have hlr := (hrc r (List.mem_of_getElem? hj)).len
        refine ⟨rfl, _, rfl, _, rfl, _, rfl, _, _, rfl, rfl, mulc (by omega) (by omega), _, rfl, _, rfl, _, rfl, _, _, rfl, rfl, mulc (by omega) (by omega), _, rfl, _, _, rfl, rfl, _, rfl, ?_⟩
        rw [e]
        exact slice_of rj s5 (by rw [hlr]; exact blk_le ha) ke
      · have hLH3 : H3 L = some (.lst ys) := g3.at hLH2 (by simp)
        have hLI3 := g3.out hLI2 hLH2
        refine ⟨L, ys, _, rfl, rfl, hLH3, lt_line (by rw [a2.len]; omega), ?_⟩
        have gg := (gr.trans g2).trans (g3.mono (ns := [p]) fun _ z => nomatch z)
        have po5 := po3.up g3 (by simp)
        refine ⟨I3, _, _, ys ++ [.ref l], ms ++ [cuts n as rows], rfl, ((gg.mono (ns := [L, p]) fun _ z => List.mem_cons_of_mem _ z).trans (Gr.mut gg.ih hLI3 List.mem_cons_self)).drop hL0, (s1.trans g2.ii).trans g3.ii, po5.mutO npL hLI3, hLI3, upd_same, ((a2.up g2.ii).up g3.ii).snoc r3, by rw [List.length_append, hl]; rfl, fun b hb => ?_⟩
        by_cases h : b < i
        · rw [gl_snoc_lt (by omega)]; exact ok b h
        · have e : b = ms.length := by omega
          rw [e, gl_snoc]
          exact cuts_ok hrl hrc
    · rintro σ' H' ⟨I', v6, v7, ys, ms, rfl, gr, s1, po2, hLI, hLH, a2, hl, ok⟩
      have g5 : Gr [p] I H (upd I' L (.lst ys)) H' := (gr.mono (ns := [L, p]) fun _ z => List.mem_cons_of_mem _ z).frz s0 hL0 hLH
      refine ⟨_, rfl, _, rfl, (by show 2 ≤ sizeLine; decide), fun t ht => ?_⟩
      have g6 := Gr.new (ms := []) (o := .tup [sv, .ref L]) g5.ih ht
      have po6 := (po2.frzO (o := .lst ys) npL hLI).up g6 (by simp)
      refine k _ _ _ (st, ms) (g5.trans (g6.mono fun _ z => nomatch z)) po6 ⟨t, _, _, rfl, upd_same, up ((s1.trans (sNew hLI)).trans g6.ii) r1, L, ys, rfl, g6.ii _ _ upd_same, ?_⟩ ⟨cst, hl, ok⟩
      exact (a2.up (sNew hLI)).up g6.ii
end
end K

set_option Elab.async false
set_option linter.all false
set_option maxRecDepth 100000
set_option maxHeartbeats 4000000
namespace Tk
open PySem PySem.Spec PyProof.Rows L2
section
variable {α : Type} {K : PySem.W.Frag}
/-- those of a list that a test keeps -/
theorem lc_keep {J : It} {R Sy : Rp α} [Mono R] [Mono Sy] (p : α → Bool) {vs : List V} {xs : List α} {I H1 : Hp} {g : TG} {tt : TT} {te : TE} {vz : List Nat} {σ : L2.St} {D : Addr} {Qd : Hp → Prop}
    (W : Wk J vs.length (gv vs) I) (a2 : All2 (R I) vs xs) (s0 : Same I H1) (hD : H1 D = none) (hn : xs.length < sizeLine)
    (step : ∀ (i : Nat) (x : α) (I' H' : Hp) (Nx : Hp → Prop) (Qk : VK), xs[i]? = some x → R I' (gv vs i) x → Same I I' → Same I' H' → (p x = true → ∀ I'' H'' y, Gr [] I' H' I'' H'' → Sy I'' y x → Qk y H'') → (p x = false → Nx H') →
      g (gv vs i) (wipe σ vz) H' fun σ2 H2 => wipe σ2 vz = wipe σ vz ∧ tt σ2 H2 fun b H3 => if b = true then te σ2 H3 Qk else Nx H3)
    (hd : ∀ I' H' ys, Gr [] I H1 I' H' → H' D = some (.lst ys) → All2 (Sy I') ys (xs.filter p) → Qd H') : LcR J g tt te vz σ H1 D Qd := by
  have hl := a2.len
  let Mid : Nat → Hp → Prop := fun i H => ∃ I' ys, Gr [] I H1 I' H ∧ I' D = none ∧ H D = some (.lst ys) ∧ All2 (Sy I') ys ((xs.take i).filter p)
  refine ⟨fun i m H => m = vs.length - i ∧ i ≤ vs.length ∧ Mid i H, ⟨vs.length, rfl, Nat.zero_le _, I, [], (Gr.tmp s0 hD), s0.free hD, upd_same, .nil⟩, ?_⟩
  rintro i m H ⟨rfl, hi, I', ys, gr, hI, hH, b2⟩
  have s : Same I H := gr.ii.trans gr.ih
  by_cases hlt : i < vs.length
  · have hx : xs[i]? = some (xs[i]'(by omega)) := List.getElem?_eq_getElem (by omega)
    generalize xs[i]'(by omega) = x at hx
    have et : xs.take (i + 1) = xs.take i ++ [x] := by rw [List.take_succ, hx]; rfl
    refine .inr ⟨W.go i H s hlt, fun H' => i + 1 ≤ vs.length ∧ Mid (i + 1) H', fun H' z => ⟨vs.length - (i + 1), by omega, rfl, z.1, z.2⟩, fun y H' hy => ?_⟩
    obtain ⟨rfl, rfl⟩ := W.yld i H y H' s hlt hy
    refine step i x I' _ _ _ hx (up gr.ii (gv2 a2 hx)) gr.ii gr.ih (fun hp I'' H'' y g2 sy => ?_) (fun hp => ⟨hlt, I', ys, gr, hI, hH, ?_⟩)
    · have hD2 := g2.at hH (by simp)
      have hI2 := g2.out hI hH
      have ll : ys.length ≤ i := by
        rw [b2.len]
        refine Nat.le_trans (List.length_filter_le _ _) ?_
        rw [List.length_take]; omega
      refine ⟨ys, hD2, by omega, hlt, I'', ys ++ [y], ?_, hI2, upd_same, ?_⟩
      · have g3 := gr.trans g2
        exact ((g3.mono (ns := [D]) fun _ z => nomatch z).trans (Gr.mut g3.ih hI2 List.mem_cons_self)).drop hD
      · rw [et, List.filter_append, List.filter_cons_of_pos hp, List.filter_nil]
        exact (b2.up g2.ii).snoc sy
    · rw [et, List.filter_append, List.filter_cons_of_neg (by rw [hp]; exact Bool.false_ne_true), List.filter_nil, List.append_nil]
      exact b2
  · have e : i = vs.length := by omega
    subst e
    refine .inl ⟨W.stop H s, hd I' H ys gr hH ?_⟩
    rw [List.take_of_length_le (by omega)] at b2
    exact b2
end
end Tk

set_option Elab.async false
set_option linter.all false
set_option maxRecDepth 100000
set_option maxHeartbeats 4000000
set_option exponentiation.threshold 5000
namespace K
open PySem PySem.Spec PyProof.Rows L2 Tk Hd Mt
theorem filter_nil_iff {l : List Rat} : ((l.filter fun q => decide (q.num < 0)).length = 0) ↔ ∀ q ∈ l, 0 ≤ q.num := by
  rw [List.length_eq_zero_iff, List.filter_eq_nil_iff]
  simp
theorem one_parts (q : Rat) : (q.num = 1 ∧ (q.den : Int) = 1) ↔ q = 1 := by
  rw [eq_parts]; rfl
section
variable {P : Program} {w : World} {K : PySem.W.Frag} {mg : Str → Option Value} {base : Heap}
def spLR : Sp := fun vs H Q _ => ∃ (I : Hp) (a : V) (qs : List Rat), vs = [a] ∧ Same I H ∧ iL iQ I a qs ∧ Fits qs ∧ qs.length ≤ 100000 ∧ ∀ I' H', Gr [] I H I' H' → Q (.bl (lots qs)) H'
theorem sc_lr : FnScope ["weights", "weight"] ["weights"] (defScope s__law_lots_right) := ⟨rfl, rfl, rfl, by decide +kernel, rfl, by decide +kernel, by decide +kernel⟩
theorem ok_lr (D : Dt K mg) : Has P w K mg base 4 (He.ga K "_law_lots_right") ["weights"] [] spLR := by
  obtain ⟨fd, F⟩ := fd__law_lots_right D
  have H__law_sum := ok_lsum (P := P) (w := w) (base := base) D
  refine hasN F (F.bindsN fun _ _ _ _ _ _ us hl => match us, hl with | [_], _ => rfl) sc_lr (fun vs H Q E h => ?_) (fun cdv A outer s H vs Q E hr h => ?_)
  · obtain ⟨I, a, qs, rfl, _⟩ := h; rfl
  · obtain ⟨I, va, qs, rfl, s0, ra, ft, hz, k⟩ := h
    obtain ⟨a, vs, rfl, ha, a2⟩ := id ra
    refine ⟨_, (pss_one (ps_ret (pe_and (pe_cmpR op_eq (pe_callB (call_lenK K) rfl (free_len D) PySem.boot_len (pa_cons (pe_lc (own := [("weight", 1)]) (g := gName 1) rfl sc_lr.nd (pi_listK K (pv 0)) (blkOk_by (own := [("weight", 1)]) (N := ["weights", "weight"]) (by kernel_rfl)) (fun _ _ _ _ _ => (pg_name (i := 1) sc_lr.nd rfl (Or.inl rfl))) (fun _ _ _ _ _ => (pts_one (pt_cmpR op_lt (pe_ix (ix_tupK K) (pv 1) pe_int (fun _ _ => rfl)) pe_int (nomark _)))) (fun _ _ _ _ _ => (pv 1))) pa_nil)) pe_int (nomark _)) (pe_one (pe_cmpR (op_eqDK K hr.units) (pe_callH H__law_sum (hr.mono (by decide)) rfl (glo__law_sum D) passL (pa_cons (pv 0) pa_nil)) (pe_tup (pa_cons pe_int (pa_cons pe_int pa_nil))) (nomark _)))))), ?_⟩
    refine ⟨_, rfl, a, rfl, ⟨_, SqL.of (s0 _ _ ha)⟩, fun l hD => lc_keep (R := iQ) (Sy := iQ) (fun q => decide (q.num < 0)) (wk_list ha) a2 s0 hD (lt_line hz) (fun i q I' H' Nx Qk hq rq s1 s2 k1 k0 => ?_) (fun I' H' ys g1 hH b2 => ?_)⟩
    · obtain ⟨c, ec, hc⟩ := id rq
      rw [ec]
      refine ⟨rfl, _, rfl, _, _, _, _, rfl, rfl, SqT.of (s2 _ _ hc), at_of (j := 0) rfl rfl, _, _, rfl, rfl, _, rfl, ?_⟩
      by_cases h0 : q.num < 0
      · refine ifT (decide_eq_true h0) ⟨_, rfl, ?_⟩
        exact k1 (decide_eq_true h0) _ _ _ (Gr.refl s2) ⟨c, rfl, hc⟩
      · refine ifF (decide_eq_false h0) ?_
        exact k0 (decide_eq_false h0)
    · refine ⟨_, ys.length, rfl, .inl ⟨_, SqL.of hH, rfl⟩, rfl, _, rfl, ?_⟩
      have e0 : decide (V.int (ys.length : Int) = V.int 0) = decide (∀ q ∈ qs, 0 ≤ q.num) := by
        rw [show (V.int 0) = V.int ((0 : Nat) : Int) from rfl, dec_vi, b2.len]
        exact decide_eq_decide.mpr filter_nil_iff
      rw [e0]
      unfold lots at k
      refine ifB (fun c => ?_) (fun c => ?_)
      · rw [c] at k
        simp only [Bool.true_and] at k
        refine ⟨_, rfl, I', _, qs, rfl, g1.ih, iA.l (up g1.ii ra), ft, fun I2 H2 tv g2 r2 => ?_⟩
        refine ⟨(by show 2 ≤ sizeLine; decide), fun t ht => ?_⟩
        obtain ⟨b, rfl, hb⟩ := id r2
        have g3 := Gr.tmp (ms := []) (o := .tup [.int 1, .int 1]) g2.ih ht
        have sh : ∀ i j : Int, SeqAt.shaped (.tuple [.int i, .int j]) = true := fun i j => by
          unfold SeqAt.shaped; simp [PyData.canLay0, PyData.canLayAll0, PyData.depth, PyData.depthAll]
        refine ⟨_, _, .tup (SqT.of (g3.ih _ _ hb)) (.cons (.int _) (.cons (.int _) .nil)), .tup (SqT.of upd_same) (.cons (.int 1) (.cons (.int 1) .nil)), sh _ _, sh _ _, ?_⟩
        have z := k _ _ ((g1.trans g2).trans g3)
        have ee : PyData.eqv (.tuple [.int (tot qs).num, .int ((tot qs).den : Int)]) (.tuple [.int 1, .int 1]) = decide (tot qs = 1) := by
          rw [Bool.eq_iff_iff, decide_eq_true_iff, ← one_parts]
          simp [PyData.eqv, PyData.eqvAll]
        rw [ee]
        exact z
      · rw [c] at k
        exact k _ _ g1
end
end K

set_option Elab.async false
set_option linter.all false
set_option maxRecDepth 100000
set_option maxHeartbeats 4000000
set_option exponentiation.threshold 5000
namespace K
open PySem PySem.Spec PyProof.Rows L2 Tk Hd Mt
section
variable {P : Program} {w : World} {K : PySem.W.Frag} {mg : Str → Option Value} {base : Heap}
def spBad : Sp := fun vs H Q _ => ∃ (I : Hp) (a b : V) (st : List Rat) (mv : List (List Rows)), vs = [a, b] ∧ Same I H ∧ iL iQ I a st ∧ iL (iL (iL (iL iQ))) I b mv ∧ FOk st mv ∧ ∀ I' H', Gr [] I H I' H' → Q (oV (flt st mv)) H'
theorem sc_bad : FnScope ["start", "moves", "size", "answers", "rows", "row", "state", "weights"] ["start", "moves"] (defScope s__law_bad) := ⟨rfl, rfl, rfl, by decide +kernel, rfl, by decide +kernel, by decide +kernel⟩
theorem as_range (l : List Rat) : (List.range l.length).map (gq l) = l := by
  refine List.ext_getElem? fun i => ?_
  by_cases hi : i < l.length
  · rw [List.getElem?_map, List.getElem?_range hi, gq_lt hi]; rfl
  · rw [List.getElem?_eq_none (by simp; omega), List.getElem?_eq_none (by omega)]
theorem ok_bad (D : Dt K mg) : Has P w K mg base 5 (He.ga K "_law_bad") ["start", "moves"] [] spBad := by
  obtain ⟨fd, F⟩ := fd__law_bad D
  have H__law_lots_right := ok_lr (P := P) (w := w) (base := base) D
  refine hasN F (F.bindsN fun _ _ _ _ _ _ us hl => match us, hl with | [_, _], _ => rfl) sc_bad (fun vs H Q E h => ?_) (fun cdv A outer s H vs Q E hr h => ?_)
  · obtain ⟨I, a, b, st, mv, rfl, _⟩ := h; rfl
  · obtain ⟨I, va, vb, st, mv, rfl, s0, ra, rb, ok, k⟩ := h
    obtain ⟨a, vs, rfl, ha, a2⟩ := id ra
    obtain ⟨b, ws, rfl, hb, b2⟩ := id rb
    have hla := a2.len
    have hlb := b2.len
    have z0 := ok.z0
    have z1 := ok.z1
    refine ⟨_, (pss_cons (ps_set (i := 2) sc_bad.nd rfl (Or.inr rfl) (pe_callB (call_lenK K) rfl (free_len D) PySem.boot_len (pa_cons (pv 0) pa_nil)))
      (pss_cons (ps_if (pt_not (pt_chain op_lt op_lt pe_int (pv 2) pe_int))
      (pss_one (ps_ret pe_str))
      pss_nil)
      (pss_cons (ps_if (pt_not (pt_chain op_lt op_lt pe_int (pe_callB (call_lenK K) rfl (free_len D) PySem.boot_len (pa_cons (pv 1) pa_nil)) pe_int))
      (pss_one (ps_ret pe_str))
      pss_nil)
      (pss_cons (ps_for PassesOwn.never rfl (pi_listK K (pv 1)) (pg_name (i := 3) sc_bad.nd rfl (Or.inl rfl))
      (pss_one (ps_if (PW.pt (pw_or (pt_cmpR op_ne (pe_callB (call_lenK K) rfl (free_len D) PySem.boot_len (pa_cons (pv 3) pa_nil)) (pe_callB (call_lenK K) rfl (free_len D) PySem.boot_len (pa_cons (pe_ix (ix_listK K) (pv 1) pe_int (fun _ _ => rfl)) pa_nil)) (nomark _)) (pw_or1 (pt_not (pt_chain op_lt op_lt pe_int (pe_callB (call_lenK K) rfl (free_len D) PySem.boot_len (pa_cons (pv 3) pa_nil)) pe_int)))))
      (pss_one (ps_ret pe_str))
      pss_nil)))
      (pss_cons (ps_for PassesOwn.never rfl (pi_listK K (pv 1)) (pg_name (i := 3) sc_bad.nd rfl (Or.inl rfl))
      (pss_one (ps_for PassesOwn.never rfl (pi_listK K (pv 3)) (pg_name (i := 4) sc_bad.nd rfl (Or.inl rfl))
      (pss_one (ps_if (PW.pt (pw_or (pt_cmpR op_ne (pe_callB (call_lenK K) rfl (free_len D) PySem.boot_len (pa_cons (pv 4) pa_nil)) (pv 2) (nomark _)) (pw_or1 (pt_cmpR op_gt (pe_callB (call_lenK K) rfl (free_len D) PySem.boot_len (pa_cons (pe_lc (own := [("row", 5)]) (g := gName 5) rfl sc_bad.nd (pi_listK K (pv 4)) (blkOk_by (own := [("row", 5)]) (N := ["start", "moves", "size", "answers", "rows", "row", "state", "weights"]) (by kernel_rfl)) (fun _ _ _ _ _ => (pg_name (i := 5) sc_bad.nd rfl (Or.inl rfl))) (fun _ _ _ _ _ => (pts_one (pt_cmpR op_ne (pe_callB (call_lenK K) rfl (free_len D) PySem.boot_len (pa_cons (pv 5) pa_nil)) (pv 2) (nomark _)))) (fun _ _ _ _ _ => (pv 5))) pa_nil)) pe_int (nomark _)))))
      (pss_one (ps_ret pe_str))
      pss_nil)))))
      (pss_cons (ps_if (pt_not (pt_val (pe_callH H__law_lots_right (hr.mono (by decide)) rfl (glo__law_lots_right D) passL (pa_cons (pv 0) pa_nil))))
      (pss_one (ps_ret pe_str))
      pss_nil)
      (pss_cons (ps_for PassesOwn.never rfl (pi_listK K (pv 1)) (pg_name (i := 3) sc_bad.nd rfl (Or.inl rfl))
      (pss_one (ps_for PassesOwn.never rfl (pi_range1 rfl (free_range D) (pa_cons (pv 2) pa_nil)) (pg_name (i := 6) sc_bad.nd rfl (Or.inl rfl))
      (pss_cons (ps_set (i := 7) sc_bad.nd rfl (Or.inl rfl) (pe_lst pa_nil))
      (pss_cons (ps_for PassesOwn.never rfl (pi_listK K (pv 3)) (pg_name (i := 4) sc_bad.nd rfl (Or.inl rfl))
      (pss_one (ps_set (i := 7) sc_bad.nd rfl (Or.inl rfl) (pe_op op_cat (pv 7) (pe_ix (ix_listK K) (pv 4) (pv 6) (fun _ _ => rfl))))))
      (pss_one (ps_if (pt_not (pt_val (pe_callH H__law_lots_right (hr.mono (by decide)) rfl (glo__law_lots_right D) passL (pa_cons (pv 7) pa_nil))))
      (pss_one (ps_ret pe_str))
      pss_nil)))))))
      (pss_one (ps_ret pe_non))))))))), ?_⟩
    refine ⟨_, rfl, _, vs.length, rfl, .inl ⟨_, SqL.of (s0 _ _ ha), rfl⟩, ?_⟩
    (try dsimp only)
    refine ⟨_, rfl, _, _, rfl, rfl, _, rfl, ?_⟩
    by_cases c1 : st.length < 1 ∨ 12 < st.length
    · have z := k _ _ (Gr.refl s0)
      rw [show flt st mv = some "states" from if_pos c1] at z
      by_cases h0 : (0 : Int) < (vs.length : Int)
      · refine ifT (decide_eq_true h0) ?_
        refine ⟨_, _, rfl, rfl, _, rfl, ?_⟩
        rw [decide_eq_false (show ¬ ((vs.length : Int) < 13) by omega)]
        exact ifT rfl z
      · refine ifF (decide_eq_false h0) ?_
        exact ⟨_, rfl, ifT rfl z⟩
    refine ifT (decide_eq_true (show (0 : Int) < (vs.length : Int) by omega)) ?_
    refine ⟨_, _, rfl, rfl, _, rfl, ?_⟩
    rw [decide_eq_true (show ((vs.length : Int) < 13) by omega)]
    refine ifF rfl ?_
    refine ⟨_, rfl, _, ws.length, rfl, .inl ⟨_, SqL.of (s0 _ _ hb), rfl⟩, _, _, rfl, rfl, _, rfl, ?_⟩
    by_cases c2 : mv.length < 1 ∨ 4 < mv.length
    · have z := k _ _ (Gr.refl s0)
      rw [show flt st mv = some "buttons" from (if_neg c1).trans (if_pos c2)] at z
      by_cases h0 : (0 : Int) < (ws.length : Int)
      · refine ifT (decide_eq_true h0) ?_
        refine ⟨_, _, rfl, rfl, _, rfl, ?_⟩
        rw [decide_eq_false (show ¬ ((ws.length : Int) < 5) by omega)]
        exact ifT rfl z
      · refine ifF (decide_eq_false h0) ?_
        exact ⟨_, rfl, ifT rfl z⟩
    refine ifT (decide_eq_true (show (0 : Int) < (ws.length : Int) by omega)) ?_
    refine ⟨_, _, rfl, rfl, _, rfl, ?_⟩
    rw [decide_eq_true (show ((ws.length : Int) < 5) by omega)]
    refine ifF rfl ?_
    obtain ⟨u0, hu0, c, cs, rfl, hc, d2⟩ := id (b2.get' (gl_lt (l := mv) (i := 0) (by omega)))
    have hlc := d2.len
    unfold tNext
    (try dsimp only)
    refine seq_cut (fun σ' H' => H' = H ∧ ∃ v3, σ' = [some (.ref a), some (.ref b), some (.int (vs.length : Int)), v3, none, none, none, none] ∧ ∀ i, i < mv.length → (gl mv i).length = (gl mv 0).length ∧ 1 ≤ (gl mv i).length ∧ (gl mv i).length ≤ 4) (fun nx q => ?_) ?_
    · refine ⟨_, rfl, b, rfl, ⟨_, SqL.of (s0 _ _ hb)⟩, ?_⟩
      refine for_wk (wk_list hb)
        (fun σ' H' => H' = H ∧ ∃ v3, σ' = [some (.ref a), some (.ref b), some (.int (vs.length : Int)), v3, none, none, none, none] ∧ ∀ i, i < mv.length → (gl mv i).length = (gl mv 0).length ∧ 1 ≤ (gl mv i).length ∧ (gl mv i).length ≤ 4)
        (fun i σ' H' => H' = H ∧ ∃ v3, σ' = [some (.ref a), some (.ref b), some (.int (vs.length : Int)), v3, none, none, none, none] ∧ ∀ j, j < i → (gl mv j).length = (gl mv 0).length ∧ 1 ≤ (gl mv j).length ∧ (gl mv j).length ≤ 4)
        (fun i σ' H' h => by obtain ⟨rfl, _⟩ := h; exact s0)
        ⟨rfl, none, rfl, fun j hj => absurd hj (by omega)⟩ (fun nx2 q2 i σ' H' hi h => ?_) (fun σ' H' h => by rw [hlb] at h; exact h) (fun σ' H' h => q σ' H' h)
      obtain ⟨rfl, v3, rfl, hj⟩ := h
      have hp := gl_lt (l := mv) (i := i) (by omega)
      obtain ⟨e, es, ee, he, e2⟩ := gv2 b2 hp
      have hle := e2.len
      rw [ee]
      refine ⟨_, rfl, _, es.length, rfl, .inl ⟨_, SqL.of (s0 _ _ he), rfl⟩, _, rfl, _, _, _, _, rfl, rfl, SqL.of (s0 _ _ hb), at_of (j := 0) rfl hu0, _, cs.length, rfl, .inl ⟨_, SqL.of (s0 _ _ hc), rfl⟩, rfl, _, rfl, ?_⟩
      rw [dec_vi]
      have bad : ¬ ((gl mv i).length = (gl mv 0).length ∧ 1 ≤ (gl mv i).length ∧ (gl mv i).length ≤ 4) → Q (.str "answers") H' := fun hb' => by
        have z := k _ _ (Gr.refl s0)
        rw [show flt st mv = some "answers" from (if_neg c1).trans ((if_neg c2).trans (if_pos ?_))] at z
        · exact z
        · by_cases hq : (gl mv i).length = (gl mv 0).length
          · exact .inl (by omega)
          · exact .inr ⟨_, List.mem_of_getElem? hp, hq⟩
      by_cases h1 : es.length = cs.length
      · refine ifF (by simpa using h1) ?_
        refine ⟨_, rfl, _, es.length, rfl, .inl ⟨_, SqL.of (s0 _ _ he), rfl⟩, _, _, rfl, rfl, _, rfl, ?_⟩
        by_cases h2 : (0 : Int) < (es.length : Int)
        · refine ifT (decide_eq_true h2) ?_
          refine ⟨_, _, rfl, rfl, _, rfl, ?_⟩
          by_cases h3 : (es.length : Int) < 5
          · rw [decide_eq_true h3]
            refine ifF rfl ⟨rfl, _, rfl, fun j hj' => ?_⟩
            by_cases hji : j < i
            · exact hj j hji
            · have : j = i := by omega
              rw [this]; omega
          · rw [decide_eq_false h3]
            exact ifT rfl (bad (by omega))
        · refine ifF (decide_eq_false h2) ⟨_, rfl, ifT rfl (bad (by omega))⟩
      · refine ifT (by simpa using h1) (bad (by omega))
    rintro σ' H' ⟨rfl, v3, rfl, al⟩
    (try dsimp only)
    have c34 : ¬ (((gl mv 0).length < 1 ∨ 4 < (gl mv 0).length) ∨ ∃ p ∈ mv, p.length ≠ (gl mv 0).length) := by
      rintro (h | ⟨p, hp, h⟩)
      · have := al 0 (by omega); omega
      · obtain ⟨i, hi, rfl⟩ := mem_gl hp
        exact h (al i hi).1
    have bad : ¬ (∀ p ∈ mv, ∀ r ∈ p, square r st.length = true) → ∀ I' H2, Gr [] I H' I' H2 → Q (.str "rows") H2 := fun c5 I' H2 g => by
      have z := k _ _ g
      rw [show flt st mv = some "rows" from (if_neg c1).trans ((if_neg c2).trans ((if_neg c34).trans (if_pos c5)))] at z
      exact z
    refine seq_cut (fun σ' H2 => ∃ (I' : Hp) (v3 v4 : Option V), σ' = [some (.ref a), some (.ref b), some (.int (vs.length : Int)), v3, v4, none, none, none] ∧ Gr [] I H' I' H2 ∧ ∀ p ∈ mv, ∀ r ∈ p, square r st.length = true) (fun nx q => ?_) ?_
    · refine ⟨_, rfl, b, rfl, ⟨_, SqL.of (s0 _ _ hb)⟩, ?_⟩
      refine for_wk (wk_list hb)
        (fun σ' H2 => ∃ (I' : Hp) (v3 v4 : Option V), σ' = [some (.ref a), some (.ref b), some (.int (vs.length : Int)), v3, v4, none, none, none] ∧ Gr [] I H' I' H2 ∧ ∀ p ∈ mv, ∀ r ∈ p, square r st.length = true)
        (fun i σ' H2 => ∃ (I' : Hp) (v3 v4 : Option V), σ' = [some (.ref a), some (.ref b), some (.int (vs.length : Int)), v3, v4, none, none, none] ∧ Gr [] I H' I' H2 ∧ ∀ j, j < i → ∀ r ∈ gl mv j, square r st.length = true)
        (fun i σ' H2 h => by obtain ⟨I', v3, v4, _, gr, _⟩ := h; exact gr.ii.trans gr.ih)
        ⟨I, _, none, rfl, Gr.refl s0, fun j hj => absurd hj (by omega)⟩ (fun nx2 q2 i σ' H2 hi h => ?_) (fun σ' H2 h => ?_) (fun σ' H2 h => q σ' H2 h)
      · obtain ⟨I', v3, v4, rfl, gr, hj⟩ := h
        have hp := gl_lt (l := mv) (i := i) (by omega)
        obtain ⟨e, es, ee, he, e2⟩ := up gr.ii (gv2 b2 hp)
        have hle := e2.len
        rw [ee]
        refine ⟨_, rfl, e, rfl, ⟨_, SqL.of (gr.ih _ _ he)⟩, ?_⟩
        refine for_wk (wk_list he)
          (fun σ' H2 => ∃ (I' : Hp) (v4 : Option V), σ' = [some (.ref a), some (.ref b), some (.int (vs.length : Int)), some (.ref e), v4, none, none, none] ∧ Gr [] I H' I' H2 ∧ ∀ r ∈ gl mv i, square r st.length = true)
          (fun j σ' H3 => ∃ (I2 : Hp) (v4 : Option V), σ' = [some (.ref a), some (.ref b), some (.int (vs.length : Int)), some (.ref e), v4, none, none, none] ∧ Gr [] I H' I2 H3 ∧ Same I' I2 ∧ ∀ x, x < j → square (gl (gl mv i) x) st.length = true)
          (fun j σ' H3 h => by obtain ⟨I2, v4, _, gr2, s2, _⟩ := h; exact s2.trans gr2.ih)
          ⟨I', v4, rfl, gr, Same.refl _, fun x hx => absurd hx (by omega)⟩ (fun nx3 q3 j σ' H3 hjj h => ?_) (fun σ' H3 h => ?_) (fun σ' H3 h => ?_)
        · obtain ⟨I2, v4', rfl, gr2, s2, hx⟩ := h
          have hq := gl_lt (l := gl mv i) (i := j) (by omega)
          obtain ⟨f, fs, ef, hf, f2⟩ := up s2 (gv2 e2 hq)
          have hlf := f2.len
          rw [ef]
          have nsq : square (gl (gl mv i) j) st.length = false → ¬ (∀ p ∈ mv, ∀ r ∈ p, square r st.length = true) := fun hz hall => by
            rw [hall _ (List.mem_of_getElem? hp) _ (List.mem_of_getElem? hq)] at hz; cases hz
          refine ⟨_, rfl, _, fs.length, rfl, .inl ⟨_, SqL.of (gr2.ih _ _ hf), rfl⟩, _, rfl, rfl, _, rfl, ?_⟩
          rw [dec_vi]
          by_cases h1 : fs.length = vs.length
          · refine ifF (by simpa using h1) ?_
            have lim := ok.z3 _ (List.mem_of_getElem? hp) _ (List.mem_of_getElem? hq)
            refine ⟨_, rfl, f, rfl, ⟨_, SqL.of (gr2.ih _ _ hf)⟩, fun l hD => lc_keep (R := iL iQ) (Sy := iL iQ) (fun row => decide (row.length ≠ st.length)) (wk_list hf) f2 gr2.ih hD (lt_line (by omega)) (fun x row I3 H4 Nx Qk hrow rr s3 s4 k1 k0 => ?_) (fun I3 H4 ys g3 hH d3 => ?_)⟩
            · obtain ⟨w1, ws1, ew, hw1, w2⟩ := id rr
              have lw := w2.len
              rw [ew]
              refine ⟨rfl, _, rfl, _, ws1.length, rfl, .inl ⟨_, SqL.of (s4 _ _ hw1), rfl⟩, _, rfl, rfl, _, rfl, ?_⟩
              rw [dec_vi]
              by_cases h2 : ws1.length = vs.length
              · refine ifF (by simpa using h2) ?_
                exact k0 (decide_eq_false (by omega))
              · refine ifT (by simpa using h2) ⟨_, rfl, ?_⟩
                exact k1 (decide_eq_true (by omega)) _ _ _ (Gr.refl s4) ⟨w1, ws1, rfl, hw1, w2⟩
            · have ly := d3.len
              refine ⟨_, ys.length, rfl, .inl ⟨_, SqL.of hH, rfl⟩, _, _, rfl, rfl, _, rfl, ?_⟩
              by_cases h3 : (ys.length : Int) > 0
              · refine ifT (decide_eq_true h3) (bad (nsq ?_) _ _ (gr2.trans g3))
                refine Bool.eq_false_iff.mpr fun hsq => ?_
                have hz := (sq_len hsq).2
                have : ((gl (gl mv i) j).filter fun row => decide (row.length ≠ st.length)) = [] := by
                  rw [List.filter_eq_nil_iff]
                  intro row hrow
                  simpa using hz row hrow
                rw [this, List.length_nil] at ly
                omega
              · refine ifF (decide_eq_false h3) ⟨I3, _, rfl, gr2.trans g3, s2.trans g3.ii, fun x hxj => ?_⟩
                by_cases hxx : x < j
                · exact hx x hxx
                · have : x = j := by omega
                  rw [this]
                  have e0 : ((gl (gl mv i) j).filter fun row => decide (row.length ≠ st.length)) = [] := List.eq_nil_of_length_eq_zero (by omega)
                  unfold square
                  rw [Bool.and_eq_true, decide_eq_true_iff, decide_eq_true_iff]
                  refine ⟨by omega, fun row hrow => ?_⟩
                  have := List.filter_eq_nil_iff.mp e0 row hrow
                  simpa using this
          · refine ifT (by simpa using h1) (bad (nsq ?_) _ _ gr2)
            unfold square
            rw [decide_eq_false (by omega), Bool.false_and]
        · obtain ⟨I2, v4', rfl, gr2, s2, hx⟩ := h
          refine ⟨I2, v4', rfl, gr2, fun r hr => ?_⟩
          obtain ⟨x, hxl, rfl⟩ := mem_gl hr
          exact hx x (by omega)
        · obtain ⟨I2, v4', rfl, gr2, hr⟩ := h
          refine ⟨I2, _, v4', rfl, gr2, fun j hj' r hrr => ?_⟩
          by_cases hji : j < i
          · exact hj j hji r hrr
          · have : j = i := by omega
            subst this
            exact hr r hrr
      · obtain ⟨I', v3, v4, rfl, gr, hj⟩ := h
        refine ⟨I', v3, v4, rfl, gr, fun p hp r hr => ?_⟩
        obtain ⟨j, hjl, rfl⟩ := mem_gl hp
        exact hj j (by omega) r hr
    rintro σ' H2 ⟨I1, v3, v4, rfl, g1, c5⟩
    clear bad
    (try dsimp only)
    refine ⟨_, rfl, I1, _, st, rfl, g1.ih, up g1.ii ra, ok.f0, by omega, fun I2 H3 g2 => ⟨_, rfl, ?_⟩⟩
    cases c6 : lots st with
    | false =>
      have z := k _ _ (g1.trans g2)
      rw [show flt st mv = some "start" from (if_neg c1).trans ((if_neg c2).trans ((if_neg c34).trans ((if_neg (fun h => h c5)).trans (if_pos c6))))] at z
      exact ifT rfl z
    | true =>
      have n6 : ¬ lots st = false := by rw [c6]; simp
      refine ifF rfl ?_
      have g12 := g1.trans g2
      have bad : ¬ (∀ p ∈ mv, ∀ s, s < st.length → lots (lead p s) = true) → ∀ I' H2, Gr [] I H' I' H2 → Q (.str "moves") H2 := fun c7 I' H2 g => by
        have z := k _ _ g
        rw [show flt st mv = some "moves" from (if_neg c1).trans ((if_neg c2).trans ((if_neg c34).trans ((if_neg (fun h => h c5)).trans ((if_neg n6).trans (if_pos c7)))))] at z
        exact z
      have sq : ∀ i x, i < mv.length → x < (gl mv i).length → (gl (gl mv i) x).length = st.length ∧ ∀ y ∈ gl (gl mv i) x, y.length = st.length := fun i x hi hx => sq_len (c5 _ (List.mem_of_getElem? (gl_lt hi)) _ (List.mem_of_getElem? (gl_lt hx)))
      (try dsimp only)
      refine seq_cut (fun σ' H2 => ∃ (I' : Hp) (v3 v4 v6 v7 : Option V), σ' = [some (.ref a), some (.ref b), some (.int (vs.length : Int)), v3, v4, none, v6, v7] ∧ Gr [] I H' I' H2 ∧ ∀ p ∈ mv, ∀ s, s < st.length → lots (lead p s) = true) (fun nx q => ?_) ?_
      · refine ⟨_, rfl, b, rfl, ⟨_, SqL.of (g12.ih _ _ (g12.ii _ _ hb))⟩, ?_⟩
        refine for_wk (wk_list (g12.ii _ _ hb))
          (fun σ' H2 => ∃ (I' : Hp) (v3 v4 v6 v7 : Option V), σ' = [some (.ref a), some (.ref b), some (.int (vs.length : Int)), v3, v4, none, v6, v7] ∧ Gr [] I H' I' H2 ∧ ∀ p ∈ mv, ∀ s, s < st.length → lots (lead p s) = true)
          (fun i σ' H2 => ∃ (I' : Hp) (v3 v4 v6 v7 : Option V), σ' = [some (.ref a), some (.ref b), some (.int (vs.length : Int)), v3, v4, none, v6, v7] ∧ Gr [] I H' I' H2 ∧ Same I2 I' ∧ ∀ j, j < i → ∀ s, s < st.length → lots (lead (gl mv j) s) = true)
          (fun i σ' H2 h => by obtain ⟨I', v3, v4, v6, v7, _, gr, s2, _⟩ := h; exact s2.trans gr.ih)
          ⟨I2, _, _, none, none, rfl, g12, Same.refl _, fun j hj => absurd hj (by omega)⟩ (fun nx2 q2 i σ' H2 hi h => ?_) (fun σ' H2 h => ?_) (fun σ' H2 h => q σ' H2 h)
        · obtain ⟨I', v3, v4, v6, v7, rfl, gr, si, hj⟩ := h
          have hi' : i < mv.length := by omega
          have hp := gl_lt (l := mv) (i := i) hi'
          obtain ⟨e, es, ee, he, e2⟩ := up gr.ii (gv2 b2 hp)
          have hle := e2.len
          rw [ee]
          refine ⟨_, rfl, vs.length, rfl, by omega, by omega, ?_⟩
          rw [Int.toNat_natCast]
          refine for_wk (wk_range (I := I'))
            (fun σ' H2 => ∃ (I' : Hp) (v4 v6 v7 : Option V), σ' = [some (.ref a), some (.ref b), some (.int (vs.length : Int)), some (.ref e), v4, none, v6, v7] ∧ Gr [] I H' I' H2 ∧ Same I2 I' ∧ ∀ s, s < st.length → lots (lead (gl mv i) s) = true)
            (fun j σ' H3 => ∃ (I3 : Hp) (v4 v6 v7 : Option V), σ' = [some (.ref a), some (.ref b), some (.int (vs.length : Int)), some (.ref e), v4, none, v6, v7] ∧ Gr [] I H' I3 H3 ∧ Same I' I3 ∧ ∀ s, s < j → lots (lead (gl mv i) s) = true)
            (fun j σ' H3 h => by obtain ⟨I3, v4, v6, v7, _, gr2, s2, _⟩ := h; exact s2.trans gr2.ih)
            ⟨I', v4, v6, v7, rfl, gr, Same.refl _, fun x hx => absurd hx (by omega)⟩ (fun nx3 q3 j σ' H3 hjj h => ?_) (fun σ' H3 h => ?_) (fun σ' H3 h => ?_)
          · obtain ⟨I3, v4, v6, v7, rfl, gr2, s2, hx⟩ := h
            have hjn : j < st.length := by omega
            have he3 := s2 _ _ he
            have e23 := e2.up s2
            (try dsimp only)
            refine seq_cut (fun σ' H4 => ∃ L, σ' = [some (.ref a), some (.ref b), some (.int (vs.length : Int)), some (.ref e), v4, none, some (.int (0 + (j : Int))), some (.ref L)] ∧ H3 L = none ∧ H4 = upd H3 L (.lst [])) (fun nx q => ?_) ?_
            · exact ⟨(by show 0 ≤ sizeLine; decide), fun L hL => q _ _ ⟨L, rfl, hL, rfl⟩⟩
            rintro σ' H4 ⟨L, rfl, hL, rfl⟩
            (try dsimp only)
            have hL0 := gr2.none hL
            have gl2 := gr2.trans (Gr.tmp (o := .lst []) gr2.ih hL)
            refine seq_cut (fun σ' H4 => ∃ (I4 : Hp) (L : Addr) (v4 : Option V) (ys : List V), σ' = [some (.ref a), some (.ref b), some (.int (vs.length : Int)), some (.ref e), v4, none, some (.int (0 + (j : Int))), some (.ref L)] ∧ Gr [] I H' I4 H4 ∧ Same I3 I4 ∧ H' L = none ∧ I4 L = none ∧ H4 L = some (.lst ys) ∧ All2 (iQ I4) ys (lead (gl mv i) j)) (fun nx q => ?_) ?_
            · refine ⟨_, rfl, e, rfl, ⟨_, SqL.of (gl2.ih _ _ he3)⟩, ?_⟩
              refine for_wk (wk_list he3)
                (fun σ' H4 => ∃ (I4 : Hp) (L : Addr) (v4 : Option V) (ys : List V), σ' = [some (.ref a), some (.ref b), some (.int (vs.length : Int)), some (.ref e), v4, none, some (.int (0 + (j : Int))), some (.ref L)] ∧ Gr [] I H' I4 H4 ∧ Same I3 I4 ∧ H' L = none ∧ I4 L = none ∧ H4 L = some (.lst ys) ∧ All2 (iQ I4) ys (lead (gl mv i) j))
                (fun x σ' H4 => ∃ (I4 : Hp) (L : Addr) (v4 : Option V) (ys : List V), σ' = [some (.ref a), some (.ref b), some (.int (vs.length : Int)), some (.ref e), v4, none, some (.int (0 + (j : Int))), some (.ref L)] ∧ Gr [] I H' I4 H4 ∧ Same I3 I4 ∧ H' L = none ∧ I4 L = none ∧ H4 L = some (.lst ys) ∧ All2 (iQ I4) ys (flat (fun x => (gl (gl (gl mv i) x) j).length) (fun x y => gq (gl (gl (gl mv i) x) j) y) x))
                (fun x σ' H4 h => by obtain ⟨I4, L, v4, ys, _, gr3, s3, _⟩ := h; exact s3.trans gr3.ih)
                ⟨I3, L, v4, [], rfl, gl2, Same.refl _, hL0, gr2.ih.free hL, upd_same, by simp [flat]; exact .nil⟩ (fun nx4 q4 x σ' H4 hxx h => ?_) (fun σ' H4 h => by rw [hle] at h; exact h) (fun σ' H4 h => q σ' H4 h)
              obtain ⟨I4, L, v4, ys, rfl, gr3, s3, hL0, hL4, hLH, d2⟩ := h
              have hxl : x < (gl mv i).length := by omega
              obtain ⟨f, fs, ef, hf, f2⟩ := up s3 (gv2 e23 (gl_lt hxl))
              obtain ⟨u, hu, r, rs, rfl, hrr, r2⟩ := f2.get' (gl_lt (l := gl (gl mv i) x) (i := j) (by rw [(sq i x hi' hxl).1]; exact hjn))
              rw [ef]
              have ll := d2.len
              have lr := r2.len
              have lj : ∀ y, y < (gl mv i).length → (gl (gl (gl mv i) y) j).length = st.length := fun y hy => (sq i y hi' hy).2 _ (List.mem_of_getElem? (gl_lt (by rw [(sq i y hi' hy).1]; exact hjn)))
              have fl := flat_len (fun x => (gl (gl (gl mv i) x) j).length) (fun x y => gq (gl (gl (gl mv i) x) j) y) st.length x (fun y hy => lj y (by omega))
              have ub : x * st.length ≤ 4 * 12 := Nat.mul_le_mul (by have := al i hi'; omega) (by omega)
              have lrr := lj x hxl
              refine ⟨_, rfl, _, rfl, _, rfl, _, _, _, _, rfl, rfl, SqL.of (gr3.ih _ _ hf), at_of (j := j) (by omega) hu, L, r, ys, rs, rfl, rfl, hLH, gr3.ih _ _ hrr, Nat.le_of_lt (lt_line (by omega)), fun p hp' => ?_⟩
              refine ⟨I4, p, _, ys ++ rs, rfl, gr3.trans (Gr.tmp gr3.ih hp'), s3, gr3.none hp', gr3.ih.free hp', upd_same, ?_⟩
              rw [flat_succ]
              refine d2.append ?_
              rw [as_range]
              exact r2
            rintro σ' H4 ⟨I4, L, v4, ys, rfl, gr3, s3, hL0, hL4, hLH, d2⟩
            (try dsimp only)
            have g5 : Gr [] I H' (upd I4 L (.lst ys)) H4 := (gr3.mono (ns := [L]) fun _ z => nomatch z).frz s0 hL0 hLH
            have ld : (lead (gl mv i) j).length ≤ 100000 := by
              have lj : ∀ y, y < (gl mv i).length → (gl (gl (gl mv i) y) j).length = st.length := fun y hy => (sq i y hi' hy).2 _ (List.mem_of_getElem? (gl_lt (by rw [(sq i y hi' hy).1]; exact hjn)))
              unfold lead
              rw [flat_len _ _ st.length _ lj]
              have : (gl mv i).length * st.length ≤ 4 * 12 := Nat.mul_le_mul (by have := al i hi'; omega) (by omega)
              omega
            refine ⟨_, rfl, _, _, lead (gl mv i) j, rfl, g5.ih, ⟨L, ys, rfl, upd_same, d2.up (sNew hL4)⟩, ok.f1 _ (List.mem_of_getElem? hp) j, ld, fun I5 H5 g6 => ⟨_, rfl, ?_⟩⟩
            cases c8 : lots (lead (gl mv i) j) with
            | false =>
              refine ifT rfl (bad (fun hall => ?_) _ _ (g5.trans g6))
              rw [hall _ (List.mem_of_getElem? hp) j hjn] at c8
              cases c8
            | true =>
              refine ifF rfl ⟨I5, v4, _, _, rfl, g5.trans g6, ((s2.trans s3).trans (sNew hL4)).trans g6.ii, fun s hs => ?_⟩
              by_cases hsj : s < j
              · exact hx s hsj
              · have : s = j := by omega
                rw [this]; exact c8
          · obtain ⟨I3, v4, v6, v7, rfl, gr2, s2, hx⟩ := h
            exact ⟨I3, v4, v6, v7, rfl, gr2, si.trans s2, fun s hs => hx s (by omega)⟩
          · obtain ⟨I3, v4, v6, v7, rfl, gr2, s2, hx⟩ := h
            refine ⟨I3, _, v4, v6, v7, rfl, gr2, s2, fun j hj' s hs => ?_⟩
            by_cases hji : j < i
            · exact hj j hji s hs
            · have : j = i := by omega
              subst this
              exact hx s hs
        · obtain ⟨I', v3, v4, v6, v7, rfl, gr, si, hj⟩ := h
          refine ⟨I', v3, v4, v6, v7, rfl, gr, fun p hp s hs => ?_⟩
          obtain ⟨j, hjl, rfl⟩ := mem_gl hp
          exact hj j (by omega) s hs
      · rintro σ' H4 ⟨I', v3, v4, v6, v7, rfl, gr, c7⟩
        have z := k _ _ gr
        rw [show flt st mv = none from (if_neg c1).trans ((if_neg c2).trans ((if_neg c34).trans ((if_neg (fun h => h c5)).trans ((if_neg n6).trans (if_neg (fun h => h c7))))))] at z
        exact z
end
end K

set_option Elab.async false
set_option linter.all false
set_option maxRecDepth 100000
set_option maxHeartbeats 4000000
set_option exponentiation.threshold 5000
namespace K
open PySem PySem.Spec PyProof.Rows L2 Tk Hd Mt
section
variable {P : Program} {w : World} {K : PySem.W.Frag} {mg : Str → Option Value} {base : Heap}
def spData (C C2 : Addr) : Sp := fun vs H Q _ => ∃ (I : Hp) (a : V) (M : Ma), vs = [a] ∧ Same I H ∧ iM C C2 I a M ∧ FNone M.1 M.2 ∧ Ret [] I H iLM M Q
theorem sc_data : FnScope ["machine", "moves", "answers", "part", "line", "rows"] ["machine"] (defScope s__law_data) := ⟨rfl, rfl, rfl, by decide +kernel, rfl, by decide +kernel, by decide +kernel⟩
theorem ok_data (D : Dt K mg) : Has P w K mg base 1 (He.ga K "_law_data") ["machine"] [] (spData (CR K) (CM K)) := by
  obtain ⟨fd, F⟩ := fd__law_data D
  refine hasN F (F.bindsN fun _ _ _ _ _ _ us hl => match us, hl with | [_], _ => rfl) sc_data (fun vs H Q E h => ?_) (fun cdv A outer s H vs Q E hr h => ?_)
  · obtain ⟨I, a, M, rfl, _⟩ := h; rfl
  · obtain ⟨I, va, M, rfl, s0, ⟨a, dx, u1, u2, rfl, ha, p1, p2⟩, fn, k⟩ := h
    obtain ⟨b, ws, rfl, hb, b2⟩ := id p2
    obtain ⟨c, cs, rfl, hc, c2⟩ := id p1
    have hlb := b2.len
    have hlc := c2.len
    have fa := fn.a
    have fb := fn.b
    have fc := fn.c
    refine ⟨_, (pss_cons (ps_set (i := 1) sc_data.nd rfl (Or.inl rfl) (pe_lst pa_nil))
      (pss_cons (ps_for PassesOwn.never rfl (pi_tupK K (pe_fldK K (pv 0) rfl)) (pg_name (i := 2) sc_data.nd rfl (Or.inl rfl))
      (pss_one (ps_expr (pe_bm PySem.F.plainAttrs_list PySem.F.slot_list_append PySem.F.type_list_append mt_append (pv 1) (pa_cons (pe_lc (own := [("rows", 5)]) (g := gName 5) rfl sc_data.nd (pi_tupK K (pv 2)) (blkOk_by (own := [("rows", 5)]) (N := ["machine", "moves", "answers", "part", "line", "rows"]) (by kernel_rfl)) (fun _ _ _ _ _ => (pg_name (i := 5) sc_data.nd rfl (Or.inl rfl))) (fun _ _ _ _ _ => pts_nil) (fun _ _ _ _ _ => (pe_lc (own := [("line", 4)]) (g := gName 4) rfl sc_data.nd (pi_tupK K (pv 5)) (blkOk_by (own := [("line", 4)]) (N := ["machine", "moves", "answers", "part", "line", "rows"]) (by kernel_rfl)) (fun _ _ _ _ _ => (pg_name (i := 4) sc_data.nd rfl (Or.inl rfl))) (fun _ _ _ _ _ => pts_nil) (fun _ _ _ _ _ => (pe_lc (own := [("part", 3)]) (g := gName 3) rfl sc_data.nd (pi_tupK K (pv 4)) (blkOk_by (own := [("part", 3)]) (N := ["machine", "moves", "answers", "part", "line", "rows"]) (by kernel_rfl)) (fun _ _ _ _ _ => (pg_name (i := 3) sc_data.nd rfl (Or.inl rfl))) (fun _ _ _ _ _ => pts_nil) (fun _ _ _ _ _ => (pe_tup (pa_cons (pe_fldK K (pv 3) rfl) (pa_cons (pe_fldK K (pv 3) rfl) pa_nil))))))))) pa_nil)))))
      (pss_one (ps_ret (pe_tup (pa_cons (pe_lc (own := [("part", 3)]) (g := gName 3) rfl sc_data.nd (pi_tupK K (pe_fldK K (pv 0) rfl)) (blkOk_by (own := [("part", 3)]) (N := ["machine", "moves", "answers", "part", "line", "rows"]) (by kernel_rfl)) (fun _ _ _ _ _ => (pg_name (i := 3) sc_data.nd rfl (Or.inl rfl))) (fun _ _ _ _ _ => pts_nil) (fun _ _ _ _ _ => (pe_tup (pa_cons (pe_fldK K (pv 3) rfl) (pa_cons (pe_fldK K (pv 3) rfl) pa_nil))))) (pa_cons (pv 1) pa_nil))))))), ?_⟩
    (try dsimp only)
    refine seq_cut (fun σ' H1 => ∃ L, σ' = [some (.ref a), some (.ref L), none, none, none, none] ∧ H L = none ∧ H1 = upd H L (.lst [])) (fun nx q => ?_) ?_
    · exact ⟨(by show 0 ≤ sizeLine; decide), fun L hL => q _ _ ⟨L, rfl, hL, rfl⟩⟩
    rintro σ' H1 ⟨L, rfl, hL0, rfl⟩
    (try dsimp only)
    have gL := Gr.tmp (ms := []) (o := .lst []) s0 hL0
    refine seq_cut (fun σ' H2 => ∃ (I' : Hp) (v2 : Option V) (ys : List V), σ' = [some (.ref a), some (.ref L), v2, none, none, none] ∧ Gr [] I H I' H2 ∧ I' L = none ∧ H2 L = some (.lst ys) ∧ All2 (iL (iL (iL iQ)) I') ys M.2) (fun nx q => ?_) ?_
    · refine ⟨_, rfl, _, _, _, _, _, rfl, gL.ih _ _ ha, cls_Machine D, na_Machine_moves D, mf_moves _ _, b, rfl, ⟨_, SqT.of (gL.ih _ _ hb)⟩, ?_⟩
      refine for_wk (wk_tup hb)
        (fun σ' H2 => ∃ (I' : Hp) (v2 : Option V) (ys : List V), σ' = [some (.ref a), some (.ref L), v2, none, none, none] ∧ Gr [] I H I' H2 ∧ I' L = none ∧ H2 L = some (.lst ys) ∧ All2 (iL (iL (iL iQ)) I') ys M.2)
        (fun i σ' H2 => ∃ (I' : Hp) (v2 : Option V) (ys : List V), σ' = [some (.ref a), some (.ref L), v2, none, none, none] ∧ Gr [] I H I' H2 ∧ I' L = none ∧ H2 L = some (.lst ys) ∧ All2 (iL (iL (iL iQ)) I') ys (M.2.take i))
        (fun i σ' H2 h => by obtain ⟨I', v2, ys, _, gr, _⟩ := h; exact gr.ii.trans gr.ih)
        ⟨I, none, [], rfl, gL, s0.free hL0, upd_same, by simp; exact .nil⟩ (fun nx2 q2 i σ' H2 hi h => ?_) (fun σ' H2 h => ?_) (fun σ' H2 h => q σ' H2 h)
      · obtain ⟨I', v2, ys, rfl, gr, hLI, hLH, d2⟩ := h
        have hp := gl_lt (l := M.2) (i := i) (by omega)
        obtain ⟨e, es, ee, he, e2⟩ := up gr.ii (gv2 b2 hp)
        have hle := e2.len
        have hl3 := fn.c2 _ (List.mem_of_getElem? hp)
        have ll := d2.len
        rw [ee]
        refine ⟨_, rfl, .inl ⟨rfl, _, SqL.of hLH⟩, _, rfl, e, rfl, ⟨_, SqT.of (gr.ih _ _ he)⟩, fun l hD => lc_id (R := iT (iT (iR (CR K)))) (Sy := iL (iL iQ)) (wk_tup he) e2 gr.ih hD (lt_line (by omega)) (fun j r I2 H3 Nx Qk hr rr s2 k2 => ?_) (fun I2 H3 g2 r2 => ?_)⟩
        · obtain ⟨f, fs, ef, hf, f2⟩ := id rr
          have hsq := sq_len (fn.d _ (List.mem_of_getElem? hp) _ (List.mem_of_getElem? hr))
          rw [ef]
          refine ⟨rfl, _, rfl, f, rfl, ⟨_, SqT.of (s2 _ _ hf)⟩, fun l2 hD2 => lc_id (R := iT (iR (CR K))) (Sy := iL iQ) (wk_tup hf) f2 s2 hD2 (lt_line (by omega)) (fun m row I3 H4 Nx3 Qk3 hm rm s3 k3 => ?_) (fun I3 H4 g3 r3 => k2 _ _ _ g3 r3)⟩
          obtain ⟨g, gs, eg, hg, g2⟩ := id rm
          have hrow := hsq.2 _ (List.mem_of_getElem? hm)
          rw [eg]
          refine ⟨rfl, _, rfl, g, rfl, ⟨_, SqT.of (s3 _ _ hg)⟩, fun l3 hD3 => lc_id (R := iR (CR K)) (Sy := iQ) (wk_tup hg) g2 s3 hD3 (lt_line (by omega)) (fun y x I4 H5 Nx4 Qk4 hy rx s4 k4 => ?_) (fun I4 H5 g4 r4 => k3 _ _ _ g4 r4)⟩
          obtain ⟨o, dy, eo, ho⟩ := rx
          rw [eo]
          have ho' := s4 _ _ ho
          refine ⟨rfl, _, rfl, _, _, _, _, _, rfl, ho', cls_Ratio D, na_Ratio_num D, rf_num x, _, rfl, _, _, _, _, _, rfl, ho', cls_Ratio D, na_Ratio_den D, rf_den x, (by show 2 ≤ sizeLine; decide), fun t ht => ?_⟩
          exact k4 _ _ _ (Gr.new (o := .tup [.int x.num, .int x.den]) s4 ht) ⟨t, rfl, upd_same⟩
        · have hLH3 : H3 L = some (.lst ys) := g2.at hLH (by simp)
          have hLI3 := g2.out hLI hLH
          refine ⟨L, ys, _, rfl, rfl, hLH3, lt_line (by rw [ll, List.length_take]; omega), ?_⟩
          have gg := gr.trans g2
          refine ⟨I2, _, ys ++ [.ref l], rfl, ((gg.mono (ns := [L]) fun _ z => nomatch z).trans (Gr.mut gg.ih hLI3 List.mem_cons_self)).drop hL0, hLI3, upd_same, ?_⟩
          rw [List.take_succ, hp]
          exact (d2.up g2.ii).snoc r2
      · rw [hlb, List.take_length] at h
        exact h
    rintro σ' H2 ⟨I', v2, ys, rfl, gr, hLI, hLH, d2⟩
    have g5 : Gr [] I H (upd I' L (.lst ys)) H2 := (gr.mono (ns := [L]) fun _ z => nomatch z).frz s0 hL0 hLH
    have hc5 := g5.ii _ _ hc
    refine ⟨_, rfl, _, _, _, _, _, rfl, g5.ih _ _ (g5.ii _ _ ha), cls_Machine D, na_Machine_start D, mf_start _ _, c, rfl, ⟨_, SqT.of (g5.ih _ _ hc5)⟩, fun l hD => lc_id (R := iR (CR K)) (Sy := iQ) (wk_tup hc5) (c2.up g5.ii) g5.ih hD (lt_line (by omega)) (fun y x I4 H5 Nx4 Qk4 hy rx s4 k4 => ?_) (fun I4 H5 g4 r4 => ?_)⟩
    · obtain ⟨o, dy, eo, ho⟩ := rx
      rw [eo]
      have ho' := s4 _ _ ho
      refine ⟨rfl, _, rfl, _, _, _, _, _, rfl, ho', cls_Ratio D, na_Ratio_num D, rf_num x, _, rfl, _, _, _, _, _, rfl, ho', cls_Ratio D, na_Ratio_den D, rf_den x, (by show 2 ≤ sizeLine; decide), fun t ht => ?_⟩
      exact k4 _ _ _ (Gr.new (o := .tup [.int x.num, .int x.den]) s4 ht) ⟨t, rfl, upd_same⟩
    · refine ⟨_, rfl, (by show 2 ≤ sizeLine; decide), fun t ht => ?_⟩
      have g6 := Gr.new (ms := []) (o := .tup [.ref l, .ref L]) g4.ih ht
      exact k _ _ _ ((g5.trans g4).trans g6) ⟨t, _, _, rfl, upd_same, up g6.ii r4, L, ys, rfl, g6.ii _ _ (g4.ii _ _ upd_same), ((d2.up (sNew hLI)).up g4.ii).up g6.ii⟩
end
end K

set_option Elab.async false
set_option linter.all false
set_option maxRecDepth 100000
set_option maxHeartbeats 4000000
set_option exponentiation.threshold 5000
namespace K
open PySem PySem.Spec PyProof.Rows L2 Tk Hd Mt
section
variable {P : Program} {w : World} {K : PySem.W.Frag} {mg : Str → Option Value} {base : Heap}
theorem mem_flat {β : Type} {ks : Nat → Nat} {f : Nat → Nat → β} {n i j : Nat} (hi : i < n) (hj : j < ks i) : f i j ∈ flat ks f n := by
  unfold flat
  exact List.mem_flatMap.mpr ⟨i, List.mem_range.mpr hi, List.mem_map.mpr ⟨j, List.mem_range.mpr hj, rfl⟩⟩
theorem fit_sm {q : Rat} (h : Fit q) : Sm (q.den : Int) := by
  have h2 : (q.den : Int).natAbs < 2 ^ 900 := h.2
  exact Nat.lt_trans h2 (by decide)
def spMade (C C2 : Addr) : Sp := fun vs H Q _ => ∃ (I : Hp) (v : V) (M : Ma) (_ : Unit), vs = [v] ∧ Same I H ∧ iLM I v M ∧ FNone M.1 M.2 ∧ FOk M.1 M.2 ∧ Ret [] I H (iM C C2) M Q
theorem sc_lmade : FnScope ["machine", "start", "moves", "made", "num", "den", "line", "rows", "answers"] ["machine"] (defScope s__law_made) := ⟨rfl, rfl, rfl, by decide +kernel, rfl, by decide +kernel, by decide +kernel⟩
theorem iA_of {α : Type} {R S : Rp α} {H : Hp} (h : ∀ v x, R H v x → S H v x) {v : V} {xs : List α} : iL R H v xs → iA S H v xs := by
  rintro ⟨a, vs, e, ha, a2⟩
  exact ⟨a, vs, e, .inl ha, a2.imp h⟩
theorem ok_lmade (D : Dt K mg) : Has P w K mg base 10 (He.ga K "_law_made") ["machine"] [] (spMade (CR K) (CM K)) := by
  obtain ⟨fd, F⟩ := fd__law_made D
  have H_Ratio_init := has_init (P := P) (w := w) (base := base) D
  have H_Machine_init := ok_minit (P := P) (w := w) (base := base) D
  refine hasN F (F.bindsN fun _ _ _ _ _ _ us hl => match us, hl with | [_], _ => rfl) sc_lmade (fun vs H Q E h => ?_) (fun cdv A outer s H vs Q E hr h => ?_)
  · obtain ⟨I, v, M, _, rfl, _⟩ := h; rfl
  · obtain ⟨I, vm, M, _, rfl, s0, ⟨a, x, y, rfl, ha, rx, ry⟩, fn, fo, k⟩ := h
    obtain ⟨ax, xs, rfl, hx, x2⟩ := id rx
    obtain ⟨ay, ys, rfl, hy, y2⟩ := id ry
    have fa := fn.a
    have fb := fn.b
    have fc := fn.c
    refine ⟨_, (pss_cons (ps_asg (pv 0) (pg_tupK K rfl (pgs_cons (pg_name (i := 1) sc_lmade.nd rfl (Or.inl rfl)) (pgs_cons (pg_name (i := 2) sc_lmade.nd rfl (Or.inl rfl)) pgs_nil))))
      (pss_cons (ps_setLc (own := [("answers", 8)]) (g := gName 8) (i := 3) rfl sc_lmade.nd rfl rfl (sw_true rfl rfl rfl (by decide +kernel)) (pi_listK K (pv 2)) (blkOk_by (own := [("answers", 8)]) (N := ["machine", "start", "moves", "made", "num", "den", "line", "rows", "answers"]) (by kernel_rfl)) (fun _ _ _ _ _ => (pg_name (i := 8) sc_lmade.nd rfl (Or.inl rfl))) (fun _ _ _ _ _ => pts_nil) (fun _ _ _ _ _ => (pe_lc (own := [("rows", 7)]) (g := gName 7) rfl sc_lmade.nd (pi_listK K (pv 8)) (blkOk_by (own := [("rows", 7)]) (N := ["machine", "start", "moves", "made", "num", "den", "line", "rows", "answers"]) (by kernel_rfl)) (fun _ _ _ _ _ => (pg_name (i := 7) sc_lmade.nd rfl (Or.inl rfl))) (fun _ _ _ _ _ => pts_nil) (fun _ _ _ _ _ => (pe_lc (own := [("line", 6)]) (g := gName 6) rfl sc_lmade.nd (pi_listK K (pv 7)) (blkOk_by (own := [("line", 6)]) (N := ["machine", "start", "moves", "made", "num", "den", "line", "rows", "answers"]) (by kernel_rfl)) (fun _ _ _ _ _ => (pg_name (i := 6) sc_lmade.nd rfl (Or.inl rfl))) (fun _ _ _ _ _ => pts_nil) (fun _ _ _ _ _ => (pe_lc (own := [("num", 4), ("den", 5)]) (g := gTup K 2 (gCons (gName 4) (gCons (gName 5) gNil))) rfl sc_lmade.nd (pi_listK K (pv 6)) (blkOk_by (own := [("num", 4), ("den", 5)]) (N := ["machine", "start", "moves", "made", "num", "den", "line", "rows", "answers"]) (by kernel_rfl)) (fun _ _ _ _ _ => (pg_tupK K rfl (pgs_cons (pg_name (i := 4) sc_lmade.nd rfl (Or.inl rfl)) (pgs_cons (pg_name (i := 5) sc_lmade.nd rfl (Or.inl rfl)) pgs_nil)))) (fun _ _ _ _ _ => pts_nil) (fun _ _ _ _ _ => (pe_makeH (mkr_Ratio (K := K) D) H_Ratio_init (hr.mono (by decide)) rfl (glo_Ratio D) passL (pa_cons (pv 4) (pa_cons (pv 5) pa_nil)))))))))))
      (pss_one (ps_ret (pe_makeH (mkr_Machine (K := K) D) H_Machine_init (hr.mono (by decide)) rfl (glo_Machine D) passL (pa_cons (pe_lc (own := [("num", 4), ("den", 5)]) (g := gTup K 2 (gCons (gName 4) (gCons (gName 5) gNil))) rfl sc_lmade.nd (pi_listK K (pv 1)) (blkOk_by (own := [("num", 4), ("den", 5)]) (N := ["machine", "start", "moves", "made", "num", "den", "line", "rows", "answers"]) (by kernel_rfl)) (fun _ _ _ _ _ => (pg_tupK K rfl (pgs_cons (pg_name (i := 4) sc_lmade.nd rfl (Or.inl rfl)) (pgs_cons (pg_name (i := 5) sc_lmade.nd rfl (Or.inl rfl)) pgs_nil)))) (fun _ _ _ _ _ => pts_nil) (fun _ _ _ _ _ => (pe_makeH (mkr_Ratio (K := K) D) H_Ratio_init (hr.mono (by decide)) rfl (glo_Ratio D) passL (pa_cons (pv 4) (pa_cons (pv 5) pa_nil))))) (pa_cons (pv 3) pa_nil))))))), ?_⟩
    refine ⟨_, rfl, a, _, rfl, SqT.of (s0 _ _ ha), rfl, _, _, rfl, _, _, rfl, rfl, ?_⟩
    (try dsimp only)
    refine seq_cut (fun σ' H1 => ∃ (I1 : Hp) (mv : V), σ' = [some (.ref a), some (.ref ax), some (.ref ay), some mv, none, none, none, none, none] ∧ Gr [] I H I1 H1 ∧ iL (iL (iL (iL (iR (CR K))))) I1 mv M.2) (fun nx q => ?_) ?_
    · refine ⟨_, rfl, ay, rfl, ⟨_, SqL.of (s0 _ _ hy)⟩, fun l hD => lc_id (R := iL (iL (iL iQ))) (Sy := iL (iL (iL (iR (CR K))))) (wk_list hy) y2 s0 hD (lt_line (by omega)) (fun i p I1 H1 Nx1 Qk1 hi rp s1 k1 => ?_) (fun I1 H1 g1 r1 => q _ _ ⟨I1, _, rfl, g1, r1⟩)⟩
      obtain ⟨b, hb, rfl⟩ := mem_gl (List.mem_of_getElem? hi)
      obtain ⟨c, zs, ec, hc, c2⟩ := id rp
      have l2 := fn.c2 _ (List.mem_of_getElem? hi)
      rw [ec]
      refine ⟨rfl, _, rfl, c, rfl, ⟨_, SqL.of (s1 _ _ hc)⟩, fun l hD => lc_id (R := iL (iL iQ)) (Sy := iL (iL (iR (CR K)))) (wk_list hc) c2 s1 hD (lt_line (by omega)) (fun j p I2 H2 Nx2 Qk2 hj rp s2 k2 => ?_) (fun I2 H2 g2 r2 => k1 _ _ _ g2 r2)⟩
      obtain ⟨e, he, rfl⟩ := mem_gl (List.mem_of_getElem? hj)
      obtain ⟨d, ws, ed, hd, d2⟩ := id rp
      have hqq := hj
      have l30 := sq_len (fn.d _ (List.mem_of_getElem? hi) _ (List.mem_of_getElem? hj))
      rw [ed]
      refine ⟨rfl, _, rfl, d, rfl, ⟨_, SqL.of (s2 _ _ hd)⟩, fun l hD => lc_id (R := iL iQ) (Sy := iL (iR (CR K))) (wk_list hd) d2 s2 hD (lt_line (by omega)) (fun u p I3 H3 Nx3 Qk3 hu rp s3 k3 => ?_) (fun I3 H3 g3 r3 => k2 _ _ _ g3 r3)⟩
      obtain ⟨f, hf, rfl⟩ := mem_gl (List.mem_of_getElem? hu)
      obtain ⟨t, vs, et, ht, t2⟩ := id rp
      have l4 := l30.2 _ (List.mem_of_getElem? hu)
      rw [et]
      refine ⟨rfl, _, rfl, t, rfl, ⟨_, SqL.of (s3 _ _ ht)⟩, fun l hD => lc_id (R := iQ) (Sy := iR (CR K)) (wk_list ht) t2 s3 hD (lt_line (by omega)) (fun m q I4 H4 Nx4 Qk4 hm rq s4 k4 => ?_) (fun I4 H4 g4 r4 => k3 _ _ _ g4 r4)⟩
      obtain ⟨m', hm', rfl⟩ := mem_gq (List.mem_of_getElem? hm)
      obtain ⟨o, eo, ho⟩ := rq
      have gd : Fit (gq (gl (gl (gl M.2 b) e) f) m') := (fo.f1 _ (List.mem_of_getElem? hi) f).1 _ (mem_flat (ks := fun a => (gl (gl (gl M.2 b) a) f).length) (f := fun a j => gq (gl (gl (gl M.2 b) a) f) j) he hm')
      generalize gq (gl (gl (gl M.2 b) e) f) m' = q at gd k4 ho hm
      rw [eo]
      refine ⟨o, _, rfl, SqT.of (s4 _ _ ho), rfl, _, _, rfl, _, _, rfl, rfl, rfl, _, rfl, _, rfl, fun x dx nx nd ne => ⟨x, dx, _, _, rfl, upd_same, fit_sm gd, fun _ => ⟨rfl, ?_⟩, fun h => absurd h (Int.not_le.mpr (den_pos _))⟩⟩
      obtain ⟨gn, rn⟩ := rat_new (ms := []) (C := CR K) (q := rt q.num q.den) s4 nx nd ne
      rw [rt_self] at gn rn
      have z := k4 _ _ _ gn rn
      rw [rt_self]
      exact z
    rintro σ' H1 ⟨I1, mv, rfl, g1, r1⟩
    have hx1 := g1.ii _ _ hx
    refine ⟨_, rfl, ax, rfl, ⟨_, SqL.of (g1.ih _ _ hx1)⟩, fun l hD => lc_id (R := iQ) (Sy := iR (CR K)) (wk_list hx1) (x2.up g1.ii) g1.ih hD (lt_line (by omega)) (fun m q I4 H4 Nx4 Qk4 hm rq s4 k4 => ?_) (fun I4 H4 g4 r4 => ?_)⟩
    · obtain ⟨m', hm', rfl⟩ := mem_gq (List.mem_of_getElem? hm)
      obtain ⟨o, eo, ho⟩ := rq
      have gd := fo.f0.1 _ (List.mem_of_getElem? hm)
      rw [eo]
      refine ⟨o, _, rfl, SqT.of (s4 _ _ ho), rfl, _, _, rfl, _, _, rfl, rfl, rfl, _, rfl, _, rfl, fun x dx nx nd ne => ⟨x, dx, _, _, rfl, upd_same, fit_sm gd, fun _ => ⟨rfl, ?_⟩, fun h => absurd h (Int.not_le.mpr (den_pos _))⟩⟩
      obtain ⟨gn, rn⟩ := rat_new (ms := []) (C := CR K) (q := rt (gq M.1 m').num (gq M.1 m').den) s4 nx nd ne
      rw [rt_self] at gn rn
      have z := k4 _ _ _ gn rn
      rw [rt_self]
      exact z
    · refine ⟨_, rfl, fun x dx nx nd ne => ?_⟩
      have h1 : upd H4 dx (.own x) x = none := by rw [upd_ne (Ne.symm ne)]; exact nx
      have gd := Gr.new (ms := []) (o := .own x) g4.ih nd
      refine ⟨upd I4 dx (.own x), x, dx, _, _, M, rfl, sUnder gd.ih (gd.ih.free h1), gd.ih.free h1, upd_same, iA.l (up gd.ii r4), iA_of (fun _ _ => iA_of fun _ _ => iA_of fun _ _ => iA.l) (up gd.ii (up g4.ii r1)), fo, fun _ I5 H5 va vb g5 h5 p1 p2 => ⟨rfl, ?_⟩, fun r hr => ?_⟩
      · obtain ⟨g6, r6⟩ := mach_new g4.ih nx nd ne g5 h5 p1 p2
        exact k _ _ _ ((g1.trans g4).trans g6) r6
      · rw [none_flt fn] at hr
        cases hr
end
end K

set_option Elab.async false
set_option linter.all false
set_option maxRecDepth 100000
set_option maxHeartbeats 4000000
set_option exponentiation.threshold 5000
namespace Tk
open PySem PySem.Spec PyProof.Rows L2
theorem slice_by {α : Type} {K : PySem.W.Frag} {R : Rp α} [Mono R] {I H : Hp} {v : V} {xs : List α} {lo hi : Option Int} {a n : Nat} {Q : VK} (h : iL R I v xs) (s : Same I H) (e : ∀ vs : List V, vs.length = xs.length → cutV vs lo hi = (vs.drop a).take n) (k : ∀ I' H' v', Gr [] I H I' H' → iL R I' v' ((xs.drop a).take n) → Q v' H') :
    rSlL K v lo hi H Q := by
  obtain ⟨p, vs, rfl, hp, a2⟩ := h
  refine ⟨p, vs, rfl, SqL.of (s _ _ hp), fun l hl => ?_⟩
  rw [e vs a2.len]
  have g := Gr.new (ms := []) (o := .lst ((vs.drop a).take n)) s hl
  exact k _ _ _ g ⟨l, _, rfl, upd_same, (a2.cut a n).up g.ii⟩
theorem cut_to {vs : List V} {k : Nat} (h : k ≤ vs.length) : cutV vs none (some (k : Int)) = (vs.drop 0).take k := by
  unfold cutV
  rw [HT.sIx_none, HT.sIx_nat]
  congr 1
  omega
theorem cut_from (vs : List V) (k : Nat) : cutV vs (some (k : Int)) none = (vs.drop k).take vs.length := by
  unfold cutV
  rw [HT.sIx_none, HT.sIx_nat, List.take_of_length_le (by simp), List.take_of_length_le (by simp)]
  by_cases h : k ≤ vs.length
  · rw [Nat.min_eq_left h]
  · rw [List.drop_of_length_le (by omega), List.drop_of_length_le (by omega)]
end Tk
namespace K
open PySem PySem.Spec PyProof.Rows L2 Tk Hd Mt
section
variable {P : Program} {w : World} {K : PySem.W.Frag} {mg : Str → Option Value} {base : Heap}
/-- one left out, or one doubled, or one more at the front of the rest -/
def Res {α : Type} (xs ys : List α) : Prop := ∃ k, k ≤ xs.length ∧ (ys = xs.take k ++ xs.drop (k + 1) ∨ ys = xs.take k ++ xs.drop (k - 1))
def spRes : Sp := fun vs H Q _ => ∃ (α : Type) (R : Rp α) (_ : Mono R) (I : Hp) (p : Addr) (v : V) (xs : List α), vs = [.ref p, v] ∧ Same I H ∧ PoolOk I H p ∧ iL R I v xs ∧ xs.length ≤ 1000 ∧
  ∀ I' H' v' ys, Gr [p] I H I' H' → PoolOk I' H' p → iL R I' v' ys → Res xs ys → Q v' H'
theorem sc_res : FnScope ["pool", "rows", "place"] ["pool", "rows"] (defScope s__law_resized) := ⟨rfl, rfl, rfl, by decide +kernel, rfl, by decide +kernel, by decide +kernel⟩
theorem ok_res (D : Dt K mg) : Has P w K mg base 2 (He.ga K "_law_resized") ["pool", "rows"] [] spRes := by
  obtain ⟨fd, F⟩ := fd__law_resized D
  have H__law_draw := ok_draw (P := P) (w := w) (base := base) D
  refine hasN F (F.bindsN fun _ _ _ _ _ _ us hl => match us, hl with | [_, _], _ => rfl) sc_res (fun vs H Q E h => ?_) (fun cdv A outer s H vs Q E hr h => ?_)
  · obtain ⟨α, R, m, I, p, v, xs, rfl, _⟩ := h; rfl
  · obtain ⟨α, R, m, I, p, v, xs, rfl, s0, po, rv, hz, k⟩ := h
    refine ⟨_, (pss_cons (ps_set (i := 2) sc_res.nd rfl (Or.inl rfl) (pe_callH H__law_draw (hr.mono (by decide)) rfl (glo__law_draw D) passL (pa_cons (pv 0) (pa_cons (pe_op op_add (pe_callB (call_lenK K) rfl (free_len D) PySem.boot_len (pa_cons (pv 1) pa_nil)) pe_int) pa_nil))))
      (pss_one (ps_ret (pe_ix (ix_tupK K) (pe_tup (pa_cons (pe_op op_cat (pe_slice (sl_listK K) (pv 1) po_none (po_some (pv 2))) (pe_slice (sl_listK K) (pv 1) (po_some (pe_op op_add (pv 2) pe_int)) po_none)) (pa_cons (pe_op op_cat (pe_slice (sl_listK K) (pv 1) po_none (po_some (pv 2))) (pe_slice (sl_listK K) (pv 1) (po_some (pe_callB (call_max2 rfl) rfl (free_max D) (by decide +kernel) (pa_cons pe_int (pa_cons (pe_op op_sub (pv 2) pe_int) pa_nil)))) po_none)) pa_nil))) (pe_callH H__law_draw (hr.mono (by decide)) rfl (glo__law_draw D) passL (pa_cons (pv 0) (pa_cons pe_int pa_nil))) (fun _ _ => rfl))))), ?_⟩
    refine ⟨_, rfl, _, rfl, _, xs.length, rfl, len_of (iA.l rv) s0, _, _, rfl, rfl, I, p, _, rfl, s0, po, by omega, by omega, fun w H1 c0 c1 g1 po1 => ?_⟩
    obtain ⟨j, rfl⟩ := Int.eq_ofNat_of_zero_le c0
    have hj : j ≤ xs.length := by omega
    have rv1 := up g1.ii rv
    -- one left out
    refine ⟨_, rfl, _, rfl, _, rfl, slice_by (a := 0) (n := j) rv1 g1.ih (fun vs e => cut_to (by omega)) fun I2 H2 v2 g2 r2 => ?_⟩
    refine ⟨_, rfl, _, rfl, _, _, rfl, rfl, _, rfl, ?_⟩
    (try unfold tNoPart)
    (try dsimp only)
    refine slice_by (a := j + 1) (n := xs.length) (up g2.ii rv1) g2.ih (fun vs e => by rw [← e]; exact cut_from vs (j + 1)) fun I3 H3 v3 g3 r3 => ?_
    obtain ⟨l2, ys2, rfl, h2, b2⟩ := up g3.ii r2
    obtain ⟨l3, ys3, rfl, h3, b3⟩ := id r3
    have n2 := b2.len
    have n3 := b3.len
    rw [List.length_take, List.length_drop] at n2 n3
    refine ⟨l2, l3, ys2, ys3, rfl, rfl, g3.ih _ _ h2, g3.ih _ _ h3, Nat.le_of_lt (lt_line (by omega)), fun q1 hq1 => ?_⟩
    have g4 := Gr.new (ms := []) (o := .lst (ys2 ++ ys3)) g3.ih hq1
    have rv4 := up g4.ii (up g3.ii (up g2.ii rv1))
    -- one doubled
    refine ⟨_, rfl, _, rfl, _, rfl, slice_by (a := 0) (n := j) rv4 g4.ih (fun vs e => cut_to (by omega)) fun I5 H5 v5 g5 r5 => ?_⟩
    refine ⟨_, rfl, _, rfl, _, _, rfl, rfl, _, _, rfl, _, rfl, ?_⟩
    (try unfold tNoPart)
    (try dsimp only)
    refine slice_by (a := j - 1) (n := xs.length) (up g5.ii rv4) g5.ih (fun vs e => ?_) fun I6 H6 v6 g6 r6 => ?_
    · rw [show (if (j : Int) - 1 > 0 then (j : Int) - 1 else 0) = ((j - 1 : Nat) : Int) from by split <;> omega, ← e]
      exact cut_from vs (j - 1)
    obtain ⟨l5, ys5, rfl, h5, b5⟩ := up g6.ii r5
    obtain ⟨l6, ys6, rfl, h6, b6⟩ := id r6
    have n5 := b5.len
    have n6 := b6.len
    rw [List.length_take, List.length_drop] at n5 n6
    refine ⟨l5, l6, ys5, ys6, rfl, rfl, g6.ih _ _ h5, g6.ih _ _ h6, Nat.le_of_lt (lt_line (by omega)), fun q2 hq2 => ⟨(by show 2 ≤ sizeLine; decide), fun t ht => ?_⟩⟩
    have g7 := Gr.new (ms := []) (o := .lst (ys5 ++ ys6)) g6.ih hq2
    have g8 := Gr.new (ms := []) (o := .tup [.ref q1, .ref q2]) g7.ih ht
    have gg := ((((g2.trans g3).trans g4).trans g5).trans g6).trans (g7.trans g8)
    have po8 := po1.up gg (by simp)
    refine ⟨_, rfl, _, p, 2, rfl, g8.ih, po8, by decide, by decide, fun w2 H9 d0 d1 g9 po9 => ?_⟩
    have ht9 := g9.ih _ _ (show upd _ t _ t = _ from upd_same)
    have gall := (g1.trans (gg.mono fun _ z => nomatch z)).trans g9
    have hw : w2 = 0 ∨ w2 = 1 := by omega
    rcases hw with rfl | rfl
    · refine ⟨_, _, _, _, rfl, rfl, SqT.of ht9, at_of (j := 0) rfl rfl, k _ _ _ (xs.take j ++ xs.drop (j + 1)) gall po9 ⟨q1, _, rfl, g8.ii _ _ (g7.ii _ _ (g6.ii _ _ (g5.ii _ _ upd_same))), ?_⟩ ⟨j, hj, .inl rfl⟩⟩
      have e3 : (xs.drop (j + 1)).take xs.length = xs.drop (j + 1) := List.take_of_length_le (by rw [List.length_drop]; omega)
      rw [e3] at b3
      rw [List.drop_zero] at b2
      exact ((((b2.append b3).up g4.ii).up g5.ii).up g6.ii).up (g7.trans g8).ii
    · refine ⟨_, _, _, _, rfl, rfl, SqT.of ht9, at_of (j := 1) rfl rfl, k _ _ _ (xs.take j ++ xs.drop (j - 1)) gall po9 ⟨q2, _, rfl, g8.ii _ _ upd_same, ?_⟩ ⟨j, hj, .inr rfl⟩⟩
      have e3 : (xs.drop (j - 1)).take xs.length = xs.drop (j - 1) := List.take_of_length_le (by simp)
      rw [e3] at b6
      rw [List.drop_zero] at b5
      exact (b5.append b6).up (g7.trans g8).ii
end
end K

set_option Elab.async false
set_option linter.all false
set_option maxRecDepth 100000
set_option maxHeartbeats 4000000
set_option exponentiation.threshold 5000
namespace Mt
/-- a number of N-ths of any sign, at most B in size -/
def Gz (N B : Nat) (q : Rat) : Prop := 0 < N ∧ ∃ a : Int, a.natAbs ≤ B * N ∧ q = rt a N
theorem Gd.z {N B : Nat} {q : Rat} (h : Gd N B q) : Gz N B q := by
  obtain ⟨n, a, ha, rfl⟩ := h
  exact ⟨n, a, by omega, rfl⟩
theorem Gz.zero {N : Nat} (h : 0 < N) : Gz N 0 0 := (Gd.zero h).z
theorem Gz.add {N B C : Nat} {p q : Rat} (h : Gz N B p) (k : Gz N C q) : Gz N (B + C) (p + q) := by
  obtain ⟨n, a, ha, rfl⟩ := h
  obtain ⟨_, b, hb, rfl⟩ := k
  exact ⟨n, a + b, by rw [Nat.add_mul]; omega, by rw [rt_addN _ _ (by omega)]⟩
theorem rt_negN (a : Int) (n : Int) : - rt a n = rt (-a) n := by
  unfold rt; rw [Rat.neg_divInt]
theorem Gz.sub {N B C : Nat} {p q : Rat} (h : Gz N B p) (k : Gz N C q) : Gz N (B + C) (p - q) := by
  obtain ⟨n, b, hb, rfl⟩ := k
  rw [Rat.sub_eq_add_neg, rt_negN]
  exact h.add ⟨n, -b, by omega, rfl⟩
theorem Gz.mono {N B C : Nat} {q : Rat} (h : Gz N B q) (l : B ≤ C) : Gz N C q := by
  obtain ⟨n, a, ha, rfl⟩ := h
  exact ⟨n, a, Nat.le_trans ha (Nat.mul_le_mul_right _ l), rfl⟩
theorem Gz.size {N B : Nat} {q : Rat} (h : Gz N B q) : q.num.natAbs ≤ B * N ∧ q.den ≤ N := by
  obtain ⟨n, a, ha, rfl⟩ := h
  have e1 := rt_num (n := a) (d := (N : Int)) (by omega)
  have e2 := rt_den (n := a) (d := (N : Int)) (by omega)
  have l1 : (a / gz a N).natAbs ≤ a.natAbs := Int.natAbs_ediv_le_natAbs _ _
  have l2 : (N : Int) / gz a N ≤ N := Int.ediv_le_self _ (by omega)
  rw [← e1] at l1
  rw [← e2] at l2
  omega
theorem S_gz {N B n : Nat} {f : Nat → Rat} (hN : 0 < N) (h : ∀ i, i < n → Gz N B (f i)) : Gz N (n * B) (S n f) := by
  induction n with
  | zero => simp only [S, Nat.zero_mul]; exact Gz.zero hN
  | succ n ih => simp only [S]; rw [Nat.succ_mul]; exact (ih fun i hi => h i (by omega)).add (h n (by omega))
end Mt
namespace K
open PySem PySem.Spec PyProof.Rows L2 Tk Hd Mt
theorem fit_gz {N B : Nat} {q : Rat} (h : Gz N B q) (hb : B ≤ 2 ^ 400) (hn : N ≤ 2 ^ 400) : Fit q := by
  obtain ⟨h1, h2⟩ := h.size
  have h3 : B * N ≤ 2 ^ 400 * 2 ^ 400 := Nat.mul_le_mul hb hn
  have h4 : (2 : Nat) ^ 400 * 2 ^ 400 < 2 ^ 900 := by decide
  have h5 : (2 : Nat) ^ 400 < 2 ^ 900 := by decide
  exact ⟨by omega, by omega⟩
theorem fits_gz {N B : Nat} {qs : List Rat} (hN : 0 < N) (h : ∀ q ∈ qs, Gz N B q) (hb : qs.length * B ≤ 2 ^ 400) (hn : N ≤ 2 ^ 400) : Fits qs := by
  refine ⟨fun q hq => fit_gz (h q hq) ?_ hn, fun i hi => fit_gz (S_gz hN fun j hj => h _ (List.mem_of_getElem? (gq_lt (by omega)))) ?_ hn⟩
  · cases qs with
    | nil => cases hq
    | cons a r => rw [List.length_cons, Nat.succ_mul] at hb; omega
  · exact Nat.le_trans (Nat.mul_le_mul_right _ hi) hb
theorem flat_len_le {β : Type} (ks : Nat → Nat) (f : Nat → Nat → β) (m : Nat) : ∀ n, (∀ i, i < n → ks i ≤ m) → (flat ks f n).length ≤ n * m
  | 0, _ => by simp [flat]
  | n + 1, h => by
    have := flat_len_le ks f m n (fun i hi => h i (by omega))
    have h2 := h n (by omega)
    rw [flat_succ, List.length_append, List.length_map, List.length_range, Nat.succ_mul]
    omega
/-- weights on the way through changes: c changes done -/
structure GOk (c : Nat) (st : List Rat) (mv : List (List Rows)) : Prop where
  z0 : st.length ≤ 13 + c
  z1 : mv.length ≤ 5 + c
  z2 : ∀ p ∈ mv, p.length ≤ 5 + c
  z3 : ∀ p ∈ mv, ∀ r ∈ p, r.length ≤ 13 + c
  z4 : ∀ p ∈ mv, ∀ r ∈ p, ∀ x ∈ r, x.length ≤ 13 + c
  g0 : ∀ q ∈ st, Gz 420 (1 + 2 * c) q
  g1 : ∀ p ∈ mv, ∀ r ∈ p, ∀ x ∈ r, ∀ q ∈ x, Gz 420 (1 + 2 * c) q
theorem GOk.mono {c d : Nat} {st : List Rat} {mv : List (List Rows)} (h : GOk c st mv) (l : c ≤ d) : GOk d st mv :=
  ⟨by have := h.z0; omega, by have := h.z1; omega, fun p hp => by have := h.z2 p hp; omega, fun p hp r hr => by have := h.z3 p hp r hr; omega, fun p hp r hr x hx => by have := h.z4 p hp r hr x hx; omega,
    fun q hq => (h.g0 q hq).mono (by omega), fun p hp r hr x hx q hq => (h.g1 p hp r hr x hx q hq).mono (by omega)⟩
theorem lead_mem {p : List Rows} {s : Nat} {q : Rat} (h : q ∈ lead p s) : ∃ r ∈ p, ∃ x ∈ r, q ∈ x := by
  obtain ⟨i, j, hi, hj, rfl⟩ := flat_mem h
  have hr := gl_lt (l := p) (i := i) hi
  by_cases hs : s < (gl p i).length
  · exact ⟨_, List.mem_of_getElem? hr, _, List.mem_of_getElem? (gl_lt hs), List.mem_of_getElem? (gq_lt hj)⟩
  · have : gl (gl p i) s = [] := by
      show (gl p i).getD s [] = []
      rw [List.getD_eq_getElem?_getD, List.getElem?_eq_none (by omega)]; rfl
    rw [this] at hj
    cases hj
theorem GOk.f {c : Nat} {st : List Rat} {mv : List (List Rows)} (h : GOk c st mv) (hc : c ≤ 2) : FOk st mv := by
  have big : (1000 : Nat) ≤ 2 ^ 400 := by decide
  have n420 : (420 : Nat) ≤ 2 ^ 400 := by decide
  refine ⟨by have := h.z0; omega, by have := h.z1; omega, fun p hp => by have := h.z2 p hp; omega, fun p hp r hr => by have := h.z3 p hp r hr; omega, ?_, fun p hp s => ?_⟩
  · refine fits_gz (by decide) h.g0 (Nat.le_trans (?_ : _ ≤ 1000) big) n420
    have : st.length * (1 + 2 * c) ≤ 15 * 5 := Nat.mul_le_mul (by have := h.z0; omega) (by omega)
    omega
  · refine fits_gz (N := 420) (B := 1 + 2 * c) (by decide) (fun q hq => ?_) (Nat.le_trans (?_ : _ ≤ 1000) big) n420
    · obtain ⟨r, hr, x, hx, hqx⟩ := lead_mem hq
      exact h.g1 p hp r hr x hx q hqx
    · have l : (lead p s).length ≤ p.length * 15 := flat_len_le _ _ 15 _ fun i hi => by
        by_cases hs : s < (gl p i).length
        · have := h.z4 p hp _ (List.mem_of_getElem? (gl_lt hi)) _ (List.mem_of_getElem? (gl_lt hs)); omega
        · have : gl (gl p i) s = [] := by
            show (gl p i).getD s [] = []
            rw [List.getD_eq_getElem?_getD, List.getElem?_eq_none (by omega)]; rfl
          rw [this]; simp
      have hp2 := h.z2 p hp
      have : (lead p s).length * (1 + 2 * c) ≤ 105 * 5 := Nat.mul_le_mul (by omega) (by omega)
      omega
theorem gz420 {q : Rat} (h : Gd 60 1 q) : Gz 420 1 q := (h.scale (M := 7) (by decide)).z
theorem _root_.Mt.BOk.mem {n as : Nat} {p : List Rows} (h : BOk n as p) {r : Rows} (hr : r ∈ p) : r.length = n ∧ ∀ x ∈ r, x.length = n ∧ ∀ q ∈ x, Gd 60 1 q := by
  obtain ⟨a, ha, rfl⟩ := mem_gl hr
  rw [h.l2] at ha
  refine ⟨h.l3 a ha, fun x hx => ?_⟩
  obtain ⟨s, hs, rfl⟩ := mem_gl hx
  rw [h.l3 a ha] at hs
  refine ⟨h.l4 a s ha hs, fun q hq => ?_⟩
  obtain ⟨k, hk, rfl⟩ := mem_gq hq
  rw [h.l4 a s ha hs] at hk
  exact h.g1 a s k ha hs hk
theorem MG.mem {M : Ma} {n bs as : Nat} (h : MG M n bs as) {p : List Rows} (hp : p ∈ M.2) : BOk n as p := by
  obtain ⟨b, hb, rfl⟩ := mem_gl hp
  exact h.b b (by rw [h.l] at hb; exact hb)
theorem MG.g {M : Ma} {n bs as : Nat} (h : MG M n bs as) (hn : n ≤ 13) (hb : bs ≤ 5) (ha : as ≤ 5) : GOk 0 M.1 M.2 := by
  refine ⟨by rw [h.c.len]; exact hn, by rw [h.l]; exact hb, fun p hp => by rw [(h.mem hp).l2]; exact ha, fun p hp r hr => by rw [((h.mem hp).mem hr).1]; exact hn, fun p hp r hr x hx => by rw [(((h.mem hp).mem hr).2 x hx).1]; exact hn,
    fun q hq => gz420 (h.c.gd q hq), fun p hp r hr x hx q hq => gz420 ((((h.mem hp).mem hr).2 x hx).2 q hq)⟩
theorem _root_.Mt.BOk.lead {n as : Nat} {p : List Rows} (h : BOk n as p) {s : Nat} (hs : s < n) : lots (lead p s) = true := by
  unfold lots
  rw [Bool.and_eq_true, decide_eq_true_iff, decide_eq_true_iff]
  refine ⟨fun q hq => ?_, ?_⟩
  · obtain ⟨r, hr, x, hx, hqx⟩ := lead_mem hq
    exact (((h.mem hr).2 x hx).2 q hqx).nonneg
  · unfold K.lead
    rw [tot_flat, ← h.s1 s hs, h.l2]
    refine S_congr fun a ha => ?_
    show S (gl (gl p a) s).length (fun j => gq (gl (gl p a) s) j) = _
    rw [h.l4 a s ha hs]
theorem MG.n {M : Ma} {n bs as : Nat} (h : MG M n bs as) (n0 : 0 < n) (hn : n ≤ 12) (b0 : 0 < bs) (hb : bs ≤ 4) (a0 : 0 < as) (ha : as ≤ 4) : FNone M.1 M.2 := by
  have l0 : (gl M.2 0).length = as := (h.b 0 b0).l2
  refine ⟨by rw [h.c.len]; omega, by rw [h.l]; omega, by rw [l0]; omega, fun p hp => by rw [l0]; exact (h.mem hp).l2, fun p hp r hr => ?_, ?_, fun p hp s hs => (h.mem hp).lead (by rw [← h.c.len]; exact hs)⟩
  · unfold square
    rw [Bool.and_eq_true, decide_eq_true_iff, decide_eq_true_iff, h.c.len]
    exact ⟨((h.mem hp).mem hr).1, fun x hx => (((h.mem hp).mem hr).2 x hx).1⟩
  · unfold lots
    rw [Bool.and_eq_true, decide_eq_true_iff, decide_eq_true_iff]
    exact ⟨fun q hq => (h.c.gd q hq).nonneg, h.c.tot⟩
/-! changes -/
theorem Res.mem {α : Type} {xs ys : List α} (h : Res xs ys) {y : α} (hy : y ∈ ys) : y ∈ xs := by
  obtain ⟨k, hk, rfl | rfl⟩ := h
  · rcases List.mem_append.mp hy with h | h
    · exact List.mem_of_mem_take h
    · exact List.mem_of_mem_drop h
  · rcases List.mem_append.mp hy with h | h
    · exact List.mem_of_mem_take h
    · exact List.mem_of_mem_drop h
theorem Res.len {α : Type} {xs ys : List α} (h : Res xs ys) : ys.length ≤ xs.length + 1 := by
  obtain ⟨k, hk, rfl | rfl⟩ := h <;> rw [List.length_append, List.length_take, List.length_drop] <;> omega
end K

set_option Elab.async false
set_option linter.all false
set_option maxRecDepth 100000
set_option maxHeartbeats 4000000
set_option exponentiation.threshold 5000
namespace K
open PySem PySem.Spec PyProof.Rows L2 Tk Hd Mt
theorem rt_subr (p q : Rat) : rt (p.num * q.den - q.num * p.den) (p.den * q.den) = p - q := by
  have := rt_add p (-q)
  rw [Rat.sub_eq_add_neg, ← this]
  congr 1
  rw [Rat.neg_num, Rat.neg_den]; grind
theorem mem_set_gz {N B C : Nat} {qs : List Rat} {j : Nat} {q : Rat} (h : ∀ x ∈ qs, Gz N B x) (hq : Gz N C q) (l : B ≤ C) : ∀ x ∈ qs.set j q, Gz N C x := fun x hx => by
  rcases List.mem_or_eq_of_mem_set hx with h1 | rfl
  · exact (h x h1).mono l
  · exact hq
section
variable {P : Program} {w : World} {K : PySem.W.Frag} {mg : Str → Option Value} {base : Heap}
def spShift : Sp := fun vs H Q _ => ∃ (I : Hp) (p : Addr) (v : V) (qs : List Rat) (B : Nat), vs = [.ref p, v] ∧ Same I H ∧ PoolOk I H p ∧ iL iQ I v qs ∧ qs.length ≤ 1000 ∧ (∀ q ∈ qs, Gz 420 B q) ∧ B ≤ 100 ∧
  ∀ I' H' v' qs', Gr [p] I H I' H' → PoolOk I' H' p → iL iQ I' v' qs' → qs'.length = qs.length → (∀ q ∈ qs', Gz 420 (B + 2) q) → Q v' H'
theorem sc_shift : FnScope ["pool", "row", "at", "other", "part"] ["pool", "row"] (defScope s__law_shifted) := ⟨rfl, rfl, rfl, by decide +kernel, rfl, by decide +kernel, by decide +kernel⟩
theorem ok_shift (D : Dt K mg) : Has P w K mg base 3 (He.ga K "_law_shifted") ["pool", "row"] [] spShift := by
  obtain ⟨fd, F⟩ := fd__law_shifted D
  have H__law_draw := ok_draw (P := P) (w := w) (base := base) D
  have H__law_plus := ok_plus (P := P) (w := w) (base := base) D
  have H__law_minus := ok_minus (P := P) (w := w) (base := base) D
  refine hasN F (F.bindsN fun _ _ _ _ _ _ us hl => match us, hl with | [_, _], _ => rfl) sc_shift (fun vs H Q E h => ?_) (fun cdv A outer s H vs Q E hr h => ?_)
  · obtain ⟨I, p, v, qs, B, rfl, _⟩ := h; rfl
  · obtain ⟨I, p, va, qs, B, rfl, s0, po, ra, hz, hg, hB, k⟩ := h
    obtain ⟨a, vs, rfl, ha, a2⟩ := id ra
    have hla := a2.len
    have n420 : (420 : Nat) ≤ 2 ^ 400 := by decide
    have b400 : (1000 : Nat) ≤ 2 ^ 400 := by decide
    refine ⟨_, (pss_cons (ps_if (pt_cmpR op_eq (pe_callB (call_lenK K) rfl (free_len D) PySem.boot_len (pa_cons (pv 1) pa_nil)) pe_int (nomark _))
      (pss_one (ps_ret (pv 1)))
      pss_nil)
      (pss_cons (ps_set (i := 1) sc_shift.nd rfl (Or.inl rfl) (pe_callTy (call_list_ofK K) rfl (free_list D) (by decide +kernel) (pa_cons (pv 1) pa_nil)))
      (pss_cons (ps_set (i := 2) sc_shift.nd rfl (Or.inl rfl) (pe_callH H__law_draw (hr.mono (by decide)) rfl (glo__law_draw D) passL (pa_cons (pv 0) (pa_cons (pe_callB (call_lenK K) rfl (free_len D) PySem.boot_len (pa_cons (pv 1) pa_nil)) pa_nil))))
      (pss_cons (ps_set (i := 3) sc_shift.nd rfl (Or.inl rfl) (pe_callH H__law_draw (hr.mono (by decide)) rfl (glo__law_draw D) passL (pa_cons (pv 0) (pa_cons (pe_callB (call_lenK K) rfl (free_len D) PySem.boot_len (pa_cons (pv 1) pa_nil)) pa_nil))))
      (pss_cons (ps_set (i := 4) sc_shift.nd rfl (Or.inl rfl) (pe_ix (ix_tupK K) (pe_tup (pa_cons (pe_tup (pa_cons pe_int (pa_cons pe_int pa_nil))) (pa_cons (pe_tup (pa_cons pe_int (pa_cons pe_int pa_nil))) (pa_cons (pe_tup (pa_cons (pe_un un_neg pe_int) (pa_cons pe_int pa_nil))) pa_nil)))) (pe_callH H__law_draw (hr.mono (by decide)) rfl (glo__law_draw D) passL (pa_cons (pv 0) (pa_cons pe_int pa_nil))) (fun _ _ => rfl)))
      (pss_cons (ps_asg (pe_callH H__law_plus (hr.mono (by decide)) rfl (glo__law_plus D) passL (pa_cons (pe_ix (ix_listK K) (pv 1) (pv 2) (fun _ _ => rfl)) (pa_cons (pv 4) pa_nil))) (pg_sub (pv 1) (pv 2) set_list))
      (pss_cons (ps_if (pt_cmpR op_eq (pe_callH H__law_draw (hr.mono (by decide)) rfl (glo__law_draw D) passL (pa_cons (pv 0) (pa_cons pe_int pa_nil))) pe_int (nomark _))
      (pss_one (ps_asg (pe_callH H__law_minus (hr.mono (by decide)) rfl (glo__law_minus D) passL (pa_cons (pe_ix (ix_listK K) (pv 1) (pv 3) (fun _ _ => rfl)) (pa_cons (pv 4) pa_nil))) (pg_sub (pv 1) (pv 3) set_list)))
      pss_nil)
      (pss_one (ps_ret (pv 1)))))))))), ?_⟩
    refine ⟨_, rfl, _, vs.length, rfl, .inl ⟨_, SqL.of (s0 _ _ ha), rfl⟩, rfl, _, rfl, ?_⟩
    rw [show (V.int 0) = V.int ((0 : Nat) : Int) from rfl, dec_vi]
    by_cases h0 : vs.length = 0
    · refine ifT (decide_eq_true h0) ⟨_, rfl, ?_⟩
      exact k I H _ qs (Gr.refl s0) po ra rfl fun q hq => (hg q hq).mono (by omega)
    refine ifF (decide_eq_false h0) ?_
    unfold tNext
    (try dsimp only)
    refine seq_cut (fun σ' H1 => ∃ l, σ' = [some (.ref p), some (.ref l), none, none, none] ∧ H l = none ∧ H1 = upd H l (.lst vs)) (fun nx q => ?_) ?_
    · exact ⟨_, rfl, a, vs, rfl, .inl (SqL.of (s0 _ _ ha)), fun l hl => q _ _ ⟨l, rfl, hl, rfl⟩⟩
    rintro σ' H1 ⟨l, rfl, hl, rfl⟩
    have g0 := Gr.tmp (ms := [p]) (o := .lst vs) s0 hl
    have hIl := s0.free hl
    have npl := po.ne hl
    have po0 : PoolOk I (upd H l (.lst vs)) p := po.mutO npl hIl
    (try dsimp only)
    refine seq_cut (fun σ' H1 => ∃ j : Nat, σ' = [some (.ref p), some (.ref l), some (.int j), none, none] ∧ j < vs.length ∧ Gr [p] I H I H1 ∧ PoolOk I H1 p ∧ H1 l = some (.lst vs)) (fun nx q => ?_) ?_
    · refine ⟨_, rfl, _, rfl, _, vs.length, rfl, .inl ⟨_, SqL.of upd_same, rfl⟩, I, p, vs.length, rfl, g0.ih, po0, by omega, by omega, fun w H1 c0 c1 g1 po1 => ?_⟩
      obtain ⟨j, rfl⟩ := Int.eq_ofNat_of_zero_le c0
      exact q _ _ ⟨j, rfl, by omega, g0.trans g1, po1, g1.at upd_same (by simpa using npl.symm)⟩
    clear g0 po0
    rintro σ' H1 ⟨j, rfl, hj, g0, po0, h1⟩
    (try dsimp only)
    refine seq_cut (fun σ' H1 => ∃ m : Nat, σ' = [some (.ref p), some (.ref l), some (.int j), some (.int m), none] ∧ m < vs.length ∧ Gr [p] I H I H1 ∧ PoolOk I H1 p ∧ H1 l = some (.lst vs)) (fun nx q => ?_) ?_
    · refine ⟨_, rfl, _, rfl, _, vs.length, rfl, .inl ⟨_, SqL.of h1, rfl⟩, I, p, vs.length, rfl, g0.ih, po0, by omega, by omega, fun w H1 c0 c1 g1 po1 => ?_⟩
      obtain ⟨m, rfl⟩ := Int.eq_ofNat_of_zero_le c0
      exact q _ _ ⟨m, rfl, by omega, g0.trans g1, po1, g1.at h1 (by simpa using npl.symm)⟩
    clear g0 po0 h1 H1
    rintro σ' H1 ⟨m, rfl, hm, g0, po0, h1⟩
    (try dsimp only)
    refine seq_cut (fun σ' H1 => ∃ (I1 : Hp) (t : Addr) (p1 : Rat), σ' = [some (.ref p), some (.ref l), some (.int j), some (.int m), some (.ref t)] ∧ Gr [p] I H I1 H1 ∧ PoolOk I1 H1 p ∧ I1 l = none ∧ H1 l = some (.lst vs) ∧ iQ I1 (.ref t) p1 ∧ Gz 420 1 p1) (fun nx q => ?_) ?_
    · refine ⟨(by show 2 ≤ sizeLine; decide), fun t1 ht1 => ⟨(by show 2 ≤ sizeLine; decide), fun t2 ht2 => ⟨_, rfl, (by show 2 ≤ sizeLine; decide), fun t3 ht3 => ⟨(by show 3 ≤ sizeLine; decide), fun t ht => ?_⟩⟩⟩⟩
      have g1 := Gr.new (ms := [p]) (o := .tup [.int 1, .int 1]) g0.ih ht1
      have g2 := Gr.new (ms := [p]) (o := .tup [.int 1, .int 7]) g1.ih ht2
      have g3 := Gr.new (ms := [p]) (o := .tup [.int (-1), .int 3]) g2.ih ht3
      have g4 := Gr.new (ms := [p]) (o := .tup [.ref t1, .ref t2, .ref t3]) g3.ih ht
      have n1 := ne_of_none h1 ht1
      have gA := ((g1.trans g2).trans g3).trans g4
      have npp : ∀ {x : Addr}, H1 x = none → p ≠ x := fun {x} hx => po0.ne hx
      have po4 : PoolOk _ _ p := po0.up (ms := []) (((Gr.new (ms := []) (o := .tup [.int 1, .int 1]) g0.ih ht1).trans (Gr.new (ms := []) (o := .tup [.int 1, .int 7]) g1.ih ht2)).trans ((Gr.new (ms := []) (o := .tup [.int (-1), .int 3]) g2.ih ht3).trans (Gr.new (ms := []) (o := .tup [.ref t1, .ref t2, .ref t3]) g3.ih ht))) (by simp)
      refine ⟨_, rfl, _, p, 3, rfl, g4.ih, po4, by decide, by decide, fun w H9 c0 c1 g9 po9 => ?_⟩
      have gB := gA.trans g9
      have gC := g0.trans gB
      have hl9 : H9 l = some (.lst vs) := gB.at h1 (by simpa using npl.symm)
      have hIl9 := gB.out hIl h1
      have ht9 := g9.ih _ _ (show upd _ t _ t = _ from upd_same)
      have hw : w = 0 ∨ w = 1 ∨ w = 2 := by omega
      rcases hw with rfl | rfl | rfl
      · refine ⟨_, _, _, _, rfl, rfl, SqT.of ht9, at_of (j := 0) rfl rfl, q _ _ ⟨_, t1, 1, rfl, gC, po9, hIl9, hl9, ⟨t1, rfl, ?_⟩, ⟨by decide, 420, by decide, (rt_same (by decide)).symm⟩⟩⟩
        exact g4.ii _ _ (g3.ii _ _ (g2.ii _ _ upd_same))
      · refine ⟨_, _, _, _, rfl, rfl, SqT.of ht9, at_of (j := 1) rfl rfl, q _ _ ⟨_, t2, rt 1 7, rfl, gC, po9, hIl9, hl9, ⟨t2, rfl, ?_⟩, ⟨by decide, 60, by decide, by decide +kernel⟩⟩⟩
        rw [show (rt 1 7).num = 1 from by decide +kernel, show (((rt 1 7).den : Nat) : Int) = 7 from by decide +kernel]
        exact g4.ii _ _ (g3.ii _ _ upd_same)
      · refine ⟨_, _, _, _, rfl, rfl, SqT.of ht9, at_of (j := 2) rfl rfl, q _ _ ⟨_, t3, rt (-1) 3, rfl, gC, po9, hIl9, hl9, ⟨t3, rfl, ?_⟩, ⟨by decide, -140, by decide, by decide +kernel⟩⟩⟩
        rw [show (rt (-1) 3).num = -1 from by decide +kernel, show (((rt (-1) 3).den : Nat) : Int) = 3 from by decide +kernel]
        exact g4.ii _ _ upd_same
    clear g0 po0 h1 H1
    rintro σ' H1 ⟨I1, t, p1, rfl, g1, po1, hI1, h1, rp, gp⟩
    have fp := (fit_gz gp (by omega) n420).z
    (try dsimp only)
    -- one shifted
    refine seq_cut (fun σ' H1 => ∃ (I1 : Hp) (ws : List V) (rs : List Rat), σ' = [some (.ref p), some (.ref l), some (.int j), some (.int m), some (.ref t)] ∧ Gr [p] I H I1 H1 ∧ PoolOk I1 H1 p ∧ I1 l = none ∧ H1 l = some (.lst ws) ∧ All2 (iQ I1) ws rs ∧ rs.length = qs.length ∧ (∀ q ∈ rs, Gz 420 (B + 1) q) ∧ iQ I1 (.ref t) p1) (fun nx q => ?_) ?_
    · have hq := gq_lt (l := qs) (i := j) (by omega)
      obtain ⟨u, hu, ru⟩ := (a2.up g1.ii).get' hq
      have gq1 := hg _ (List.mem_of_getElem? hq)
      refine ⟨_, rfl, _, rfl, _, _, _, _, rfl, rfl, SqL.of h1, at_of (j := j) rfl hu, _, rfl, I1, _, _, _, _, rfl, g1.ih, iQ_z ru, iQ_z rp, (fit_gz gq1 (by omega) n420).z, fp, fun I2 H2 v2 g2 r2 => ?_⟩
      rw [rt_add] at r2
      have h2 : H2 l = some (.lst vs) := g2.at h1 (by simp)
      have hI2 := g2.out hI1 h1
      refine ⟨_, rfl, _, rfl, _, _, _, _, rfl, rfl, h2, (show ixN vs.length (j : Int) = some j from ?_), ?_⟩
      · unfold ixN
        rw [if_pos (by omega), if_pos (by omega)]; rfl
      · have g12 := g1.trans (g2.nil (ms := [p]))
        refine q _ _ ⟨I2, vs.set j v2, qs.set j (gq qs j + p1), rfl, ((g12.mono (ns := [l, p]) fun _ z => List.mem_cons_of_mem _ z).trans (Gr.mut g12.ih hI2 List.mem_cons_self)).drop hl, (po1.up g2 (by simp)).mutO npl hI2, hI2, upd_same, (((a2.up g1.ii).up g2.ii).set j r2), by rw [List.length_set], mem_set_gz hg (gq1.add gp) (by omega), up g2.ii rp⟩
    clear g1 po1 hI1 h1 rp H1 I1
    rintro σ' H1 ⟨I1, ws, rs, rfl, g1, po1, hI1, h1, a3, hls, hgs, rp⟩
    (try dsimp only)
    refine seq_cut (fun σ' H1 => ∃ (I1 : Hp) (ws : List V) (rs : List Rat), σ' = [some (.ref p), some (.ref l), some (.int j), some (.int m), some (.ref t)] ∧ Gr [p] I H I1 H1 ∧ PoolOk I1 H1 p ∧ I1 l = none ∧ H1 l = some (.lst ws) ∧ All2 (iQ I1) ws rs ∧ rs.length = qs.length ∧ (∀ q ∈ rs, Gz 420 (B + 2) q)) (fun nx q => ?_) ?_
    · refine ⟨_, rfl, I1, p, 2, rfl, g1.ih, po1, by decide, by decide, fun w H2 c0 c1 g2 po2 => ⟨rfl, _, rfl, ?_⟩⟩
      have h2 : H2 l = some (.lst ws) := g2.at h1 (by simpa using npl.symm)
      have hlw := a3.len
      refine ifB (fun _ => ?_) (fun _ => ?_)
      · have hq := gq_lt (l := rs) (i := m) (by omega)
        obtain ⟨u, hu, ru⟩ := a3.get' hq
        have gq1 := hgs _ (List.mem_of_getElem? hq)
        refine ⟨_, rfl, _, rfl, _, _, _, _, rfl, rfl, SqL.of h2, at_of (j := m) rfl hu, _, rfl, I1, _, _, _, _, rfl, g2.ih, iQ_z ru, iQ_z rp, (fit_gz gq1 (by omega) n420).z, fp, fun I3 H3 v3 g3 r3 => ?_⟩
        rw [rt_subr] at r3
        have h3 : H3 l = some (.lst ws) := g3.at h2 (by simp)
        have hI3 := g3.out hI1 h2
        refine ⟨_, rfl, _, rfl, _, _, _, _, rfl, rfl, h3, (show ixN ws.length (m : Int) = some m from ?_), ?_⟩
        · unfold ixN
          rw [if_pos (by omega), if_pos (by omega)]; rfl
        · have g12 := (g1.trans g2).trans (g3.nil (ms := [p]))
          refine q _ _ ⟨I3, ws.set m v3, rs.set m (gq rs m - p1), rfl, ((g12.mono (ns := [l, p]) fun _ z => List.mem_cons_of_mem _ z).trans (Gr.mut g12.ih hI3 List.mem_cons_self)).drop hl, (po2.up g3 (by simp)).mutO npl hI3, hI3, upd_same, ((a3.up g3.ii).set m r3), by rw [List.length_set]; exact hls, mem_set_gz hgs (gq1.sub gp) (by omega)⟩
      · exact q _ _ ⟨I1, ws, rs, rfl, g1.trans g2, po2, hI1, h2, a3, hls, fun q hq => (hgs q hq).mono (by omega)⟩
    clear g1 po1 hI1 h1 a3 hls hgs rp H1 I1
    rintro σ' H1 ⟨I1, ws, rs, rfl, g1, po1, hI1, h1, a3, hls, hgs⟩
    refine ⟨_, rfl, ?_⟩
    have g5 : Gr [p] I H (upd I1 l (.lst ws)) H1 := (g1.mono (ns := [l, p]) fun _ z => List.mem_cons_of_mem _ z).frz s0 hl h1
    exact k _ _ _ rs g5 (po1.frzO npl hI1) ⟨l, ws, rfl, upd_same, a3.up (sNew hI1)⟩ hls hgs
end
end K

set_option Elab.async false
set_option linter.all false
set_option maxRecDepth 100000
set_option maxHeartbeats 4000000
set_option exponentiation.threshold 5000
namespace Tk
open PySem PySem.Spec PyProof.Rows L2
/-- one of a list replaced: xs[:s] + [x] + xs[s + 1:] -/
theorem splice_ok {α : Type} {K : PySem.W.Frag} {R : Rp α} [Mono R] {I H : Hp} {v u : V} {xs : List α} {x : α} {s i j k : Nat} {σ : L2.St} {Q : VK}
    (hi : σ[i]? = some (some v)) (hj : σ[j]? = some (some (.int s))) (hk : σ[k]? = some (some u)) (s0 : Same I H) (r : iL R I v xs) (ru : R I u x) (hs : s < xs.length) (hz : xs.length ≤ 1000)
    (kk : ∀ I' H' v', Gr [] I H I' H' → iL R I' v' (xs.take s ++ [x] ++ xs.drop (s + 1)) → Q v' H') :
    tOp rCat (tOp rCat (L2.tSl (rSlL K) (tVar i) tNoPart (tPart (tVar j))) (tLst (tCons (tVar k) tNil))) (L2.tSl (rSlL K) (tVar i) (tPart (tOp (rI0 fun i j => .int (i + j)) (tVar j) (tC (.int 1)))) tNoPart) σ H Q := by
  refine ⟨_, hi, _, hj, _, rfl, slice_by (a := 0) (n := s) r s0 (fun vs e => cut_to (by omega)) fun I2 H2 v2 g2 r2 => ?_⟩
  refine ⟨_, hk, (by show 1 ≤ sizeLine; decide), fun L hL => ?_⟩
  have g3 := Gr.new (ms := []) (o := .lst [u]) g2.ih hL
  obtain ⟨l2, ys2, rfl, h2, b2⟩ := up g3.ii r2
  have n2 := b2.len
  rw [List.length_take, List.length_drop] at n2
  refine ⟨l2, L, ys2, [u], rfl, rfl, g3.ih _ _ h2, upd_same, Nat.le_of_lt (Nat.lt_of_le_of_lt (by simp; omega : ys2.length + [u].length ≤ 100000) (by decide)), fun q1 hq1 => ?_⟩
  have g4 := Gr.new (ms := []) (o := .lst (ys2 ++ [u])) g3.ih hq1
  have gg := (g2.trans g3).trans g4
  refine ⟨_, hi, _, hj, _, _, rfl, rfl, _, rfl, ?_⟩
  (try unfold tNoPart)
  (try dsimp only)
  refine slice_by (a := s + 1) (n := xs.length) (up gg.ii r) gg.ih (fun vs e => by rw [← e]; exact cut_from vs (s + 1)) fun I5 H5 v5 g5 r5 => ?_
  obtain ⟨l5, ys5, rfl, h5, b5⟩ := id r5
  have n5 := b5.len
  rw [List.length_take, List.length_drop] at n5
  refine ⟨q1, l5, _, ys5, rfl, rfl, g5.ih _ _ (g5.ii _ _ upd_same), g5.ih _ _ h5, Nat.le_of_lt (Nat.lt_of_le_of_lt (by rw [List.length_append]; simp; omega : (ys2 ++ [u]).length + ys5.length ≤ 100000) (by decide)), fun q2 hq2 => ?_⟩
  have g6 := Gr.new (ms := []) (o := .lst ((ys2 ++ [u]) ++ ys5)) g5.ih hq2
  refine kk _ _ _ ((gg.trans g5).trans g6) ⟨q2, _, rfl, upd_same, ?_⟩
  have e3 : (xs.drop (s + 1)).take xs.length = xs.drop (s + 1) := List.take_of_length_le (by rw [List.length_drop]; omega)
  rw [e3] at b5
  rw [List.drop_zero] at b2
  have one : All2 (R I) [u] [x] := .cons ru .nil
  exact ((((b2.up g4.ii).append (one.up gg.ii)).up g5.ii).append b5).up g6.ii
theorem mem_splice {α : Type} {xs : List α} {x y : α} {s : Nat} (h : y ∈ xs.take s ++ [x] ++ xs.drop (s + 1)) : y ∈ xs ∨ y = x := by
  rcases List.mem_append.mp h with h | h
  · rcases List.mem_append.mp h with h | h
    · exact .inl (List.mem_of_mem_take h)
    · exact .inr (List.mem_singleton.mp h)
  · exact .inl (List.mem_of_mem_drop h)
theorem len_splice {α : Type} {xs : List α} {x : α} {s : Nat} (h : s < xs.length) : (xs.take s ++ [x] ++ xs.drop (s + 1)).length = xs.length := by
  rw [List.length_append, List.length_append, List.length_take, List.length_drop, List.length_singleton]; omega
end Tk
namespace K
open PySem PySem.Spec PyProof.Rows L2 Tk Hd Mt
def RG (c : Nat) (r : Rows) : Prop := r.length ≤ 13 + c ∧ ∀ x ∈ r, x.length ≤ 13 + c ∧ ∀ q ∈ x, Gz 420 (1 + 2 * c) q
def PG (c : Nat) (p : List Rows) : Prop := p.length ≤ 5 + c ∧ ∀ r ∈ p, RG c r
theorem RG.up {c : Nat} {r : Rows} (h : RG c r) : RG (c + 1) r := ⟨by have := h.1; omega, fun x hx => ⟨by have := (h.2 x hx).1; omega, fun q hq => ((h.2 x hx).2 q hq).mono (by omega)⟩⟩
theorem PG.up {c : Nat} {p : List Rows} (h : PG c p) : PG (c + 1) p := ⟨by have := h.1; omega, fun r hr => (h.2 r hr).up⟩
theorem GOk.pg {c : Nat} {st : List Rat} {mv : List (List Rows)} (h : GOk c st mv) {p : List Rows} (hp : p ∈ mv) : PG c p :=
  ⟨h.z2 p hp, fun r hr => ⟨h.z3 p hp r hr, fun x hx => ⟨h.z4 p hp r hr x hx, h.g1 p hp r hr x hx⟩⟩⟩
theorem GOk.mk' {c : Nat} {st : List Rat} {mv : List (List Rows)} (h0 : st.length ≤ 13 + c) (h1 : mv.length ≤ 5 + c) (h2 : ∀ q ∈ st, Gz 420 (1 + 2 * c) q) (h3 : ∀ p ∈ mv, PG c p) : GOk c st mv :=
  ⟨h0, h1, fun p hp => (h3 p hp).1, fun p hp r hr => ((h3 p hp).2 r hr).1, fun p hp r hr x hx => (((h3 p hp).2 r hr).2 x hx).1, h2, fun p hp r hr x hx => (((h3 p hp).2 r hr).2 x hx).2⟩
section
variable {P : Program} {w : World} {K : PySem.W.Frag} {mg : Str → Option Value} {base : Heap}
def spSpoilt : Sp := fun vs H Q _ => ∃ (I : Hp) (p : Addr) (a b : V) (st : List Rat) (mv : List (List Rows)) (c : Nat), vs = [.ref p, a, b] ∧ Same I H ∧ PoolOk I H p ∧ iL iQ I a st ∧ iL (iL (iL (iL iQ))) I b mv ∧ GOk c st mv ∧ c ≤ 1 ∧
  ∀ I' H' v' M', Gr [p] I H I' H' → PoolOk I' H' p → iLM I' v' M' → GOk (c + 1) M'.1 M'.2 → Q v' H'
theorem sc_spoilt : FnScope ["pool", "start", "moves", "way", "button", "answers", "answer", "rows", "state", "line"] ["pool", "start", "moves"] (defScope s__law_spoilt) := ⟨rfl, rfl, rfl, by decide +kernel, rfl, by decide +kernel, by decide +kernel⟩
theorem ok_spoilt (D : Dt K mg) : Has P w K mg base 4 (He.ga K "_law_spoilt") ["pool", "start", "moves"] [] spSpoilt := by
  obtain ⟨fd, F⟩ := fd__law_spoilt D
  have H__law_draw := ok_draw (P := P) (w := w) (base := base) D
  have H__law_shifted := ok_shift (P := P) (w := w) (base := base) D
  have H__law_resized := ok_res (P := P) (w := w) (base := base) D
  refine hasN F (F.bindsN fun _ _ _ _ _ _ us hl => match us, hl with | [_, _, _], _ => rfl) sc_spoilt (fun vs H Q E h => ?_) (fun cdv A outer s H vs Q E hr h => ?_)
  · obtain ⟨I, p, a, b, st, mv, c, rfl, _⟩ := h; rfl
  · obtain ⟨I, p, va, vb, st, mv, c, rfl, s0, po, ra, rb, ok, hc, k⟩ := h
    have z0 := ok.z0
    have z1 := ok.z1
    have fin : ∀ {I2 H2 : Hp} {t : Addr} {x y : V} {st' : List Rat} {mv' : List (List Rows)}, Gr [p] I H I2 H2 → PoolOk I2 H2 p → H2 t = none → iL iQ I2 x st' → iL (iL (iL (iL iQ))) I2 y mv' → GOk (c + 1) st' mv' → Q (.ref t) (upd H2 t (.tup [x, y])) := fun {I2 H2 t x y st' mv'} g po ht r1 r2 ok2 => by
      have g6 := Gr.new (ms := []) (o := .tup [x, y]) g.ih ht
      exact k _ _ _ (st', mv') (g.trans g6.nil) (po.up g6 (by simp)) ⟨t, x, y, rfl, upd_same, up g6.ii r1, up g6.ii r2⟩ ok2
    refine ⟨_, (pss_cons (ps_set (i := 3) sc_spoilt.nd rfl (Or.inl rfl) (pe_callH H__law_draw (hr.mono (by decide)) rfl (glo__law_draw D) passL (pa_cons (pv 0) (pa_cons pe_int pa_nil))))
      (pss_cons (ps_if (pt_cmpR op_eq (pv 3) pe_int (nomark _))
      (pss_one (ps_ret (pe_tup (pa_cons (pe_callH H__law_shifted (hr.mono (by decide)) rfl (glo__law_shifted D) passL (pa_cons (pv 0) (pa_cons (pv 1) pa_nil))) (pa_cons (pv 2) pa_nil)))))
      pss_nil)
      (pss_cons (ps_if (pt_cmpR op_eq (pv 3) pe_int (nomark _))
      (pss_one (ps_ret (pe_tup (pa_cons (pe_callH H__law_resized (hr.mono (by decide)) rfl (glo__law_resized D) passL (pa_cons (pv 0) (pa_cons (pv 1) pa_nil))) (pa_cons (pv 2) pa_nil)))))
      pss_nil)
      (pss_cons (ps_if (PW.pt (pw_or (pt_cmpR op_eq (pv 3) pe_int (nomark _)) (pw_or1 (pt_cmpR op_eq (pe_callB (call_lenK K) rfl (free_len D) PySem.boot_len (pa_cons (pv 2) pa_nil)) pe_int (nomark _)))))
      (pss_one (ps_ret (pe_tup (pa_cons (pv 1) (pa_cons (pe_callH H__law_resized (hr.mono (by decide)) rfl (glo__law_resized D) passL (pa_cons (pv 0) (pa_cons (pv 2) pa_nil))) pa_nil)))))
      pss_nil)
      (pss_cons (ps_set (i := 4) sc_spoilt.nd rfl (Or.inl rfl) (pe_callH H__law_draw (hr.mono (by decide)) rfl (glo__law_draw D) passL (pa_cons (pv 0) (pa_cons (pe_callB (call_lenK K) rfl (free_len D) PySem.boot_len (pa_cons (pv 2) pa_nil)) pa_nil))))
      (pss_cons (ps_set (i := 5) sc_spoilt.nd rfl (Or.inl rfl) (pe_ix (ix_listK K) (pv 2) (pv 4) (fun _ _ => rfl)))
      (pss_cons (ps_if (PW.pt (pw_or (pt_cmpR op_eq (pv 3) pe_int (nomark _)) (pw_or1 (pt_cmpR op_eq (pe_callB (call_lenK K) rfl (free_len D) PySem.boot_len (pa_cons (pv 5) pa_nil)) pe_int (nomark _)))))
      (pss_one (ps_set (i := 5) sc_spoilt.nd rfl (Or.inl rfl) (pe_callH H__law_resized (hr.mono (by decide)) rfl (glo__law_resized D) passL (pa_cons (pv 0) (pa_cons (pv 5) pa_nil)))))
      (pss_cons (ps_set (i := 6) sc_spoilt.nd rfl (Or.inl rfl) (pe_callH H__law_draw (hr.mono (by decide)) rfl (glo__law_draw D) passL (pa_cons (pv 0) (pa_cons (pe_callB (call_lenK K) rfl (free_len D) PySem.boot_len (pa_cons (pv 5) pa_nil)) pa_nil))))
      (pss_cons (ps_set (i := 7) sc_spoilt.nd rfl (Or.inl rfl) (pe_ix (ix_listK K) (pv 5) (pv 6) (fun _ _ => rfl)))
      (pss_cons (ps_if (PW.pt (pw_or (pt_cmpR op_eq (pv 3) pe_int (nomark _)) (pw_or1 (pt_cmpR op_eq (pe_callB (call_lenK K) rfl (free_len D) PySem.boot_len (pa_cons (pv 7) pa_nil)) pe_int (nomark _)))))
      (pss_one (ps_set (i := 7) sc_spoilt.nd rfl (Or.inl rfl) (pe_callH H__law_resized (hr.mono (by decide)) rfl (glo__law_resized D) passL (pa_cons (pv 0) (pa_cons (pv 7) pa_nil)))))
      (pss_cons (ps_set (i := 8) sc_spoilt.nd rfl (Or.inl rfl) (pe_callH H__law_draw (hr.mono (by decide)) rfl (glo__law_draw D) passL (pa_cons (pv 0) (pa_cons (pe_callB (call_lenK K) rfl (free_len D) PySem.boot_len (pa_cons (pv 7) pa_nil)) pa_nil))))
      (pss_cons (ps_set (i := 9) sc_spoilt.nd rfl (Or.inl rfl) (pe_ix (ix_tupK K) (pe_tup (pa_cons (pe_callH H__law_shifted (hr.mono (by decide)) rfl (glo__law_shifted D) passL (pa_cons (pv 0) (pa_cons (pe_ix (ix_listK K) (pv 7) (pv 8) (fun _ _ => rfl)) pa_nil))) (pa_cons (pe_callH H__law_resized (hr.mono (by decide)) rfl (glo__law_resized D) passL (pa_cons (pv 0) (pa_cons (pe_ix (ix_listK K) (pv 7) (pv 8) (fun _ _ => rfl)) pa_nil))) pa_nil))) (pe_callTy call_int1 rfl (free_int D) (by decide +kernel) (pa_cons (pe_cmpR op_eq (pv 3) pe_int (nomark _)) pa_nil)) (fun _ _ => rfl)))
      (pss_one (ps_set (i := 7) sc_spoilt.nd rfl (Or.inl rfl) (pe_op op_cat (pe_op op_cat (pe_slice (sl_listK K) (pv 7) po_none (po_some (pv 8))) (pe_lst (pa_cons (pv 9) pa_nil))) (pe_slice (sl_listK K) (pv 7) (po_some (pe_op op_add (pv 8) pe_int)) po_none)))))))
      (pss_one (ps_set (i := 5) sc_spoilt.nd rfl (Or.inl rfl) (pe_op op_cat (pe_op op_cat (pe_slice (sl_listK K) (pv 5) po_none (po_some (pv 6))) (pe_lst (pa_cons (pv 7) pa_nil))) (pe_slice (sl_listK K) (pv 5) (po_some (pe_op op_add (pv 6) pe_int)) po_none))))))))
      (pss_one (ps_ret (pe_tup (pa_cons (pv 1) (pa_cons (pe_op op_cat (pe_op op_cat (pe_slice (sl_listK K) (pv 2) po_none (po_some (pv 4))) (pe_lst (pa_cons (pv 5) pa_nil))) (pe_slice (sl_listK K) (pv 2) (po_some (pe_op op_add (pv 4) pe_int)) po_none)) pa_nil)))))))))))), ?_⟩
    (try dsimp only)
    refine seq_cut (fun σ' H1 => ∃ w : Nat, σ' = [some (.ref p), some va, some vb, some (.int w), none, none, none, none, none, none] ∧ Gr [p] I H I H1 ∧ PoolOk I H1 p) (fun nx q => ?_) ?_
    · refine ⟨_, rfl, I, p, 8, rfl, s0, po, by decide, by decide, fun w H1 c0 c1 g1 po1 => ?_⟩
      obtain ⟨j, rfl⟩ := Int.eq_ofNat_of_zero_le c0
      exact q _ _ ⟨j, rfl, g1, po1⟩
    rintro σ' H1 ⟨w, rfl, g1, po1⟩
    refine ⟨_, rfl, rfl, _, rfl, ifB (fun _ => ?_) (fun _ => ?_)⟩
    · refine ⟨_, rfl, _, rfl, I, p, va, st, 1 + 2 * c, rfl, g1.ih, po1, ra, by omega, ok.g0, by omega, fun I2 H2 v2 qs2 g2 po2 r2 l2 gz2 => ⟨_, rfl, (by show 2 ≤ sizeLine; decide), fun t ht => ?_⟩⟩
      exact fin (g1.trans g2) po2 ht r2 (up g2.ii rb) (.mk' (by omega) (by omega) gz2 fun p hp => (ok.pg hp).up)
    refine ⟨_, rfl, rfl, _, rfl, ifB (fun _ => ?_) (fun _ => ?_)⟩
    · refine ⟨_, rfl, _, rfl, _, iQ, inferInstance, I, p, va, st, rfl, g1.ih, po1, ra, by omega, fun I2 H2 v2 qs2 g2 po2 r2 l2 => ⟨_, rfl, (by show 2 ≤ sizeLine; decide), fun t ht => ?_⟩⟩
      exact fin (g1.trans g2) po2 ht r2 (up g2.ii rb) (.mk' (by have := l2.len; omega) (by omega) (fun q hq => (ok.g0 q (l2.mem hq)).mono (by omega)) fun p hp => (ok.pg hp).up)
    have lb := len_of (K := K) (iA.l rb) g1.ih
    refine ⟨_, rfl, rfl, _, rfl, ifB (fun _ => ?th) (fun _ => ⟨_, rfl, _, mv.length, rfl, lb, rfl, _, rfl, ifB (fun _ => ?th2) (fun h0 => ?_)⟩)⟩
    case th | th2 =>
      refine ⟨_, rfl, _, rfl, _, rfl, _, iL (iL (iL iQ)), inferInstance, I, p, vb, mv, rfl, g1.ih, po1, rb, by omega, fun I2 H2 v2 mv2 g2 po2 r2 l2 => ⟨(by show 2 ≤ sizeLine; decide), fun t ht => ?_⟩⟩
      exact fin (g1.trans g2) po2 ht (up g2.ii ra) r2 (.mk' (by omega) (by have := l2.len; omega) (fun q hq => (ok.g0 q hq).mono (by omega)) fun p hp => (ok.pg (l2.mem hp)).up)
    rw [show (V.int 0) = V.int ((0 : Nat) : Int) from rfl, dec_vi, decide_eq_false_iff_not] at h0
    (try unfold tNext)
    (try dsimp only)
    refine seq_cut (fun σ' H1 => ∃ bt : Nat, σ' = [some (.ref p), some va, some vb, some (.int w), some (.int bt), none, none, none, none, none] ∧ bt < mv.length ∧ Gr [p] I H I H1 ∧ PoolOk I H1 p) (fun nx q => ?_) ?_
    · refine ⟨_, rfl, _, rfl, _, mv.length, rfl, lb, I, p, mv.length, rfl, g1.ih, po1, by omega, by omega, fun w H1 c0 c1 g2 po2 => ?_⟩
      obtain ⟨j, rfl⟩ := Int.eq_ofNat_of_zero_le c0
      exact q _ _ ⟨j, rfl, by omega, g1.trans g2, po2⟩
    clear lb g1 po1 H1
    rintro σ' H1 ⟨bt, rfl, hbt, g1, po1⟩
    (try dsimp only)
    have hp := gl_lt (l := mv) (i := bt) hbt
    have okp := ok.pg (List.mem_of_getElem? hp)
    generalize gl mv bt = pr at hp okp
    refine seq_cut (fun σ' H1 => ∃ v5 : V, σ' = [some (.ref p), some va, some vb, some (.int w), some (.int bt), some v5, none, none, none, none] ∧ Gr [p] I H I H1 ∧ PoolOk I H1 p ∧ iL (iL (iL iQ)) I v5 pr) (fun nx q => ?_) ?_
    · obtain ⟨b, ws, rfl, hb, b2⟩ := id rb
      obtain ⟨u, hu, ru⟩ := b2.get' hp
      exact ⟨_, rfl, _, rfl, _, _, _, _, rfl, rfl, SqL.of (g1.ih _ _ hb), at_of (j := bt) rfl hu, q _ _ ⟨u, rfl, g1, po1, ru⟩⟩
    clear g1 po1 H1
    rintro σ' H1 ⟨v5, rfl, g1, po1, r5⟩
    (try dsimp only)
    refine seq_cut (fun σ' H1 => ∃ (I1 : Hp) (v5 : V) (pr' : List Rows) (v6 v7 v8 v9 : Option V), σ' = [some (.ref p), some va, some vb, some (.int w), some (.int bt), some v5, v6, v7, v8, v9] ∧ Gr [p] I H I1 H1 ∧ PoolOk I1 H1 p ∧ iL (iL (iL iQ)) I1 v5 pr' ∧ PG (c + 1) pr') (fun nx q => ?_) ?_
    · have l5 := len_of (K := K) (iA.l r5) g1.ih
      have zp := okp.1
      refine ⟨_, rfl, rfl, _, rfl, ifB (fun _ => ?th) (fun _ => ⟨_, rfl, _, pr.length, rfl, l5, rfl, _, rfl, ifB (fun _ => ?th2) (fun h0 => ?_)⟩)⟩
      case th | th2 =>
        refine ⟨_, rfl, _, rfl, _, iL (iL iQ), inferInstance, I, p, v5, pr, rfl, g1.ih, po1, r5, by omega, fun I2 H2 v2 pr2 g2 po2 r2 l2 => ?_⟩
        exact q _ _ ⟨I2, v2, pr2, none, none, none, none, rfl, g1.trans g2, po2, r2, by have := l2.len; omega, fun r hr => (okp.2 r (l2.mem hr)).up⟩
      rw [show (V.int 0) = V.int ((0 : Nat) : Int) from rfl, dec_vi, decide_eq_false_iff_not] at h0
      (try dsimp only)
      refine seq_cut (fun σ' H1 => ∃ an : Nat, σ' = [some (.ref p), some va, some vb, some (.int w), some (.int bt), some v5, some (.int an), none, none, none] ∧ an < pr.length ∧ Gr [p] I H I H1 ∧ PoolOk I H1 p) (fun nx q => ?_) ?_
      · refine ⟨_, rfl, _, rfl, _, pr.length, rfl, l5, I, p, pr.length, rfl, g1.ih, po1, by omega, by omega, fun w H1 c0 c1 g2 po2 => ?_⟩
        obtain ⟨j, rfl⟩ := Int.eq_ofNat_of_zero_le c0
        exact q _ _ ⟨j, rfl, by omega, g1.trans g2, po2⟩
      clear l5 g1 po1 H1
      rintro σ' H1 ⟨an, rfl, han, g1, po1⟩
      (try dsimp only)
      have hr := gl_lt (l := pr) (i := an) han
      have okr := okp.2 _ (List.mem_of_getElem? hr)
      generalize gl pr an = rr at hr okr
      refine seq_cut (fun σ' H1 => ∃ v7 : V, σ' = [some (.ref p), some va, some vb, some (.int w), some (.int bt), some v5, some (.int an), some v7, none, none] ∧ Gr [p] I H I H1 ∧ PoolOk I H1 p ∧ iL (iL iQ) I v7 rr) (fun nx q => ?_) ?_
      · obtain ⟨b, ws, rfl, hb, b2⟩ := id r5
        obtain ⟨u, hu, ru⟩ := b2.get' hr
        exact ⟨_, rfl, _, rfl, _, _, _, _, rfl, rfl, SqL.of (g1.ih _ _ hb), at_of (j := an) rfl hu, q _ _ ⟨u, rfl, g1, po1, ru⟩⟩
      clear g1 po1 H1
      rintro σ' H1 ⟨v7, rfl, g1, po1, r7⟩
      (try dsimp only)
      refine seq_cut (fun σ' H1 => ∃ (I1 : Hp) (v7 : V) (rr' : Rows) (v8 v9 : Option V), σ' = [some (.ref p), some va, some vb, some (.int w), some (.int bt), some v5, some (.int an), some v7, v8, v9] ∧ Gr [p] I H I1 H1 ∧ PoolOk I1 H1 p ∧ iL (iL iQ) I1 v7 rr' ∧ RG (c + 1) rr') (fun nx q => ?_) ?_
      · have l7 := len_of (K := K) (iA.l r7) g1.ih
        have zr := okr.1
        refine ⟨_, rfl, rfl, _, rfl, ifB (fun _ => ?th) (fun _ => ⟨_, rfl, _, rr.length, rfl, l7, rfl, _, rfl, ifB (fun _ => ?th2) (fun h0 => ?_)⟩)⟩
        case th | th2 =>
          refine ⟨_, rfl, _, rfl, _, iL iQ, inferInstance, I, p, v7, rr, rfl, g1.ih, po1, r7, by omega, fun I2 H2 v2 rr2 g2 po2 r2 l2 => ?_⟩
          exact q _ _ ⟨I2, v2, rr2, none, none, rfl, g1.trans g2, po2, r2, by have := l2.len; omega, fun x hx => (okr.up).2 x (l2.mem hx)⟩
        rw [show (V.int 0) = V.int ((0 : Nat) : Int) from rfl, dec_vi, decide_eq_false_iff_not] at h0
        (try dsimp only)
        refine seq_cut (fun σ' H1 => ∃ sn : Nat, σ' = [some (.ref p), some va, some vb, some (.int w), some (.int bt), some v5, some (.int an), some v7, some (.int sn), none] ∧ sn < rr.length ∧ Gr [p] I H I H1 ∧ PoolOk I H1 p) (fun nx q => ?_) ?_
        · refine ⟨_, rfl, _, rfl, _, rr.length, rfl, l7, I, p, rr.length, rfl, g1.ih, po1, by omega, by omega, fun w H1 c0 c1 g2 po2 => ?_⟩
          obtain ⟨j, rfl⟩ := Int.eq_ofNat_of_zero_le c0
          exact q _ _ ⟨j, rfl, by omega, g1.trans g2, po2⟩
        clear l7 g1 po1 H1
        rintro σ' H1 ⟨sn, rfl, hsn, g1, po1⟩
        (try dsimp only)
        have hx := gl_lt (l := rr) (i := sn) hsn
        have okx := okr.2 _ (List.mem_of_getElem? hx)
        generalize gl rr sn = xx at hx okx
        refine seq_cut (fun σ' H1 => ∃ (I1 : Hp) (v9 : V) (x' : List Rat), σ' = [some (.ref p), some va, some vb, some (.int w), some (.int bt), some v5, some (.int an), some v7, some (.int sn), some v9] ∧ Gr [p] I H I1 H1 ∧ PoolOk I1 H1 p ∧ iL iQ I1 v9 x' ∧ x'.length ≤ 13 + (c + 1) ∧ (∀ q ∈ x', Gz 420 (1 + 2 * (c + 1)) q)) (fun nx q => ?_) ?_
        · obtain ⟨b, ws, rfl, hb, b2⟩ := id r7
          obtain ⟨u, hu, ru⟩ := b2.get' hx
          have zx := okx.1
          refine ⟨_, rfl, _, rfl, _, rfl, _, _, _, _, rfl, rfl, SqL.of (g1.ih _ _ hb), at_of (j := sn) rfl hu, I, p, u, xx, 1 + 2 * c, rfl, g1.ih, po1, ru, by omega, okx.2, by omega, fun I2 H2 v2 x2 g2 po2 r2 l2 gz2 => ?_⟩
          refine ⟨_, rfl, _, rfl, _, rfl, _, _, _, _, rfl, rfl, SqL.of (g2.ih _ _ (g2.ii _ _ hb)), at_of (j := sn) rfl hu, _, iQ, inferInstance, I2, p, u, xx, rfl, g2.ih, po2, up g2.ii ru, by omega, fun I3 H3 v3 x3 g3 po3 r3 l3 => ⟨(by show 2 ≤ sizeLine; decide), fun t ht => ?_⟩⟩
          have g4 := Gr.new (ms := []) (o := .tup [v2, v3]) g3.ih ht
          have gg := ((g1.trans g2).trans g3).trans g4.nil
          refine ⟨_, rfl, rfl, .inr ⟨_, rfl, ?_⟩⟩
          by_cases hw : decide (V.int (w : Int) = V.int 5) = true
          · rw [hw]
            exact ⟨_, _, _, _, rfl, rfl, SqT.of upd_same, at_of (j := 1) rfl rfl, q _ _ ⟨_, v3, x3, rfl, gg, po3.up g4 (by simp), up g4.ii r3, by have := l3.len; omega, fun q hq => (okx.2 q (l3.mem hq)).mono (by omega)⟩⟩
          · rw [Bool.eq_false_iff.mpr hw]
            exact ⟨_, _, _, _, rfl, rfl, SqT.of upd_same, at_of (j := 0) rfl rfl, q _ _ ⟨_, v2, x2, rfl, gg, po3.up g4 (by simp), up g4.ii (up g3.ii r2), by omega, gz2⟩⟩
        clear g1 po1 H1
        rintro σ' H1 ⟨I1, v9, x', rfl, g1, po1, r9, l9, gz9⟩
        refine splice_ok (R := iL iQ) rfl rfl rfl g1.ih (up g1.ii r7) r9 hsn (by omega) fun I2 H2 v2 g2 r2 => ?_
        refine q _ _ ⟨I2, v2, _, _, _, rfl, g1.trans g2.nil, po1.up g2 (by simp), r2, by rw [len_splice hsn]; omega, fun x hx => ?_⟩
        rcases mem_splice hx with h | rfl
        · exact okr.up.2 x h
        · exact ⟨l9, gz9⟩
      clear g1 po1 r7 H1
      rintro σ' H1 ⟨I1, v7, rr', v8, v9, rfl, g1, po1, r7, ok7⟩
      refine splice_ok (R := iL (iL iQ)) rfl rfl rfl g1.ih (up g1.ii r5) r7 han (by omega) fun I2 H2 v2 g2 r2 => ?_
      refine q _ _ ⟨I2, v2, _, _, _, _, _, rfl, g1.trans g2.nil, po1.up g2 (by simp), r2, by rw [len_splice han]; omega, fun r hr => ?_⟩
      rcases mem_splice hr with h | rfl
      · exact (okp.2 r h).up
      · exact ok7
    clear g1 po1 r5 H1
    rintro σ' H1 ⟨I1, v5, pr', v6, v7, v8, v9, rfl, g1, po1, r5, ok5⟩
    refine ⟨_, rfl, splice_ok (R := iL (iL (iL iQ))) rfl rfl rfl g1.ih (up g1.ii rb) r5 hbt (by omega) fun I2 H2 v2 g2 r2 => ⟨(by show 2 ≤ sizeLine; decide), fun t ht => ?_⟩⟩
    refine fin (g1.trans g2.nil) (po1.up g2 (by simp)) ht (up (g1.ii.trans g2.ii) ra) r2 (.mk' (by omega) (by rw [len_splice hbt]; omega) (fun q hq => (ok.g0 q hq).mono (by omega)) fun p hp => ?_)
    rcases mem_splice hp with h | rfl
    · exact (ok.pg h).up
    · exact ok5
end
end K

set_option Elab.async false
set_option linter.all false
set_option maxRecDepth 100000
set_option maxHeartbeats 4000000
/-! Lists of lists made anew, whose every list is known by its address: they may be changed later. -/
namespace Tk
open PySem PySem.Spec PyProof.Rows L2
abbrev Oo (α : Type) := Hp → Hp → V → α × List Addr → Prop
class Ow {α : Type} (O : Oo α) : Prop where
  fr : ∀ {I I' H H' : Hp} {v : V} {p : α × List Addr}, Same I I' → (∀ a ∈ p.2, H' a = H a) → O I H v p → O I' H' v p
  so : ∀ {I H : Hp} {v : V} {p : α × List Addr}, O I H v p → ∀ a ∈ p.2, ∃ vs, H a = some (.lst vs)
section
variable {α β : Type}
def o0 (R : Rp α) : Oo α := fun I H v p => R I v p.1 ∧ p.2 = []
def oL (O : Oo α) : Oo (List α) := fun I H v p => ∃ a vs zs, v = .ref a ∧ H a = some (.lst vs) ∧ All2 (O I H) vs zs ∧ p.1 = zs.map Prod.fst ∧ p.2 = a :: (zs.map Prod.snd).flatten
instance {R : Rp α} [m : Mono R] : Ow (o0 R) := ⟨fun s _ ⟨h, e⟩ => ⟨m.up s h, e⟩, fun ⟨_, e⟩ a h => by rw [e] at h; cases h⟩
theorem All2.memL {R : V → α → Prop} : ∀ {vs : List V} {xs : List α} {x : α}, All2 R vs xs → x ∈ xs → ∃ v ∈ vs, R v x
  | _, _, _, .nil, h => by cases h
  | _, _, x, .cons a t, h => by
    rcases List.mem_cons.mp h with rfl | h
    · exact ⟨_, List.mem_cons_self, a⟩
    · obtain ⟨v, hv, r⟩ := t.memL h
      exact ⟨v, List.mem_cons_of_mem _ hv, r⟩
theorem All2.impM {R S : V → α → Prop} : ∀ {vs : List V} {xs : List α}, (∀ v x, x ∈ xs → R v x → S v x) → All2 R vs xs → All2 S vs xs
  | _, _, _, .nil => .nil
  | _, _, h, .cons a t => .cons (h _ _ List.mem_cons_self a) (t.impM fun v x hx => h v x (List.mem_cons_of_mem _ hx))
theorem mem_fl {zs : List (α × List Addr)} {z : α × List Addr} {a : Addr} (h : z ∈ zs) (k : a ∈ z.2) : a ∈ (zs.map Prod.snd).flatten :=
  List.mem_flatten.mpr ⟨z.2, List.mem_map.mpr ⟨z, h, rfl⟩, k⟩
theorem fl_mem {zs : List (α × List Addr)} {a : Addr} (h : a ∈ (zs.map Prod.snd).flatten) : ∃ z ∈ zs, a ∈ z.2 := by
  obtain ⟨l, hl, h⟩ := List.mem_flatten.mp h
  obtain ⟨z, hz, rfl⟩ := List.mem_map.mp hl
  exact ⟨z, hz, h⟩
instance {O : Oo α} [w : Ow O] : Ow (oL O) := ⟨fun {I I' H H' v p} s h ⟨a, vs, zs, e, ha, a2, e1, e2⟩ => by
    have ha' : a ∈ p.2 := by rw [e2]; exact List.mem_cons_self
    exact ⟨a, vs, zs, e, by rw [h a ha']; exact ha, a2.impM fun v z hz r => w.fr s (fun b hb => h b (by rw [e2]; exact List.mem_cons_of_mem _ (mem_fl hz hb))) r, e1, e2⟩,
  fun {I H v p} ⟨a, vs, zs, e, ha, a2, e1, e2⟩ b hb => by
    rw [e2] at hb
    rcases List.mem_cons.mp hb with rfl | hb
    · exact ⟨_, ha⟩
    · obtain ⟨z, hz, hbz⟩ := fl_mem hb
      obtain ⟨v, _, r⟩ := a2.memL hz
      exact w.so r b hbz⟩
theorem Ow.up {O : Oo α} [w : Ow O] {I I' : Hp} {v : V} {p : α × List Addr} (s : Same I I') (h : O I I v p) : O I' I' v p :=
  w.fr s (fun a ha => by obtain ⟨o, e⟩ := w.so h a ha; rw [e, s _ _ e]) h
noncomputable def strip (S : Addr → Prop) (I : Hp) : Hp := by classical exact fun a => if S a then none else I a
theorem strip_in {S : Addr → Prop} {I : Hp} {a : Addr} (h : S a) : strip S I a = none := by unfold strip; rw [if_pos h]
theorem strip_out {S : Addr → Prop} {I : Hp} {a : Addr} (h : ¬ S a) : strip S I a = I a := by unfold strip; rw [if_neg h]
theorem strip_sub {S : Addr → Prop} {I : Hp} : Same (strip S I) I := fun a o e => by
  by_cases h : S a
  · rw [strip_in h] at e; cases e
  · rw [strip_out h] at e; exact e
/-- one of the parts changed, within what it owns and what is new -/
theorem all2_set {O : Oo α} [w : Ow O] {I H H' : Hp} : ∀ {vs : List V} {zs : List (α × List Addr)} {i : Nat} {u : V} {z z' : α × List Addr}, All2 (O I H) vs zs → (zs.map Prod.snd).flatten.Nodup → vs[i]? = some u → zs[i]? = some z → O I H' u z' → (∀ a o, a ∉ z.2 → H a = some o → H' a = H a) → All2 (O I H') vs (zs.set i z')
  | _, _, i, _, _, _, .nil, _, h, _, _, _ => by simp at h
  | v :: vs, y :: zs, 0, u, z, z', .cons r t, nd, h1, h2, ro, fr => by
    simp at h1 h2
    subst h1 h2
    rw [List.map_cons, List.flatten_cons, List.nodup_append] at nd
    refine .cons ro (t.impM fun v x hx r => w.fr (Same.refl I) (fun a ha => ?_) r)
    obtain ⟨ws, e⟩ := w.so r a ha
    exact fr a _ (fun hz => nd.2.2 a hz a (mem_fl hx ha) rfl) e
  | v :: vs, y :: zs, i + 1, u, z, z', .cons r t, nd, h1, h2, ro, fr => by
    simp at h1 h2
    rw [List.map_cons, List.flatten_cons, List.nodup_append] at nd
    refine .cons (w.fr (Same.refl I) (fun a ha => ?_) r) (all2_set t nd.2.1 h1 h2 ro fr)
    obtain ⟨ws, e⟩ := w.so r a ha
    exact fr a _ (fun hz => nd.2.2 a ha a (mem_fl (List.mem_of_getElem? h2) hz) rfl) e
/-- its addresses then -/
structure New (H : Hp) (S S' : List Addr) : Prop where
  nd : S'.Nodup
  so : ∀ a ∈ S', a ∈ S ∨ H a = none
theorem new_set {H : Hp} : ∀ {zs : List (α × List Addr)} {i : Nat} {z z' : α × List Addr}, (zs.map Prod.snd).flatten.Nodup → (∀ a ∈ (zs.map Prod.snd).flatten, ∃ o, H a = some o) → zs[i]? = some z → New H z.2 z'.2 → New H (zs.map Prod.snd).flatten ((zs.set i z').map Prod.snd).flatten
  | [], i, z, z', _, _, h, _ => by simp at h
  | y :: zs, 0, z, z', nd, so, h, n => by
    simp at h
    subst h
    rw [List.map_cons, List.flatten_cons, List.nodup_append] at nd
    rw [List.set_cons_zero, List.map_cons, List.flatten_cons, List.map_cons, List.flatten_cons]
    have so2 : ∀ a ∈ (zs.map Prod.snd).flatten, ∃ o, H a = some o := fun a ha => so a (by rw [List.map_cons, List.flatten_cons]; exact List.mem_append_right _ ha)
    refine ⟨List.nodup_append.mpr ⟨n.nd, nd.2.1, fun a ha b hb e => ?_⟩, fun a ha => ?_⟩
    · subst e
      rcases n.so a ha with h | h
      · exact nd.2.2 a h a hb rfl
      · obtain ⟨o, e⟩ := so2 a hb
        rw [h] at e; cases e
    · rcases List.mem_append.mp ha with h | h
      · exact (n.so a h).imp (List.mem_append_left _) id
      · exact .inl (List.mem_append_right _ h)
  | y :: zs, i + 1, z, z', nd, so, h, n => by
    rw [List.map_cons, List.flatten_cons, List.nodup_append] at nd
    rw [List.set_cons_succ, List.map_cons, List.flatten_cons, List.map_cons, List.flatten_cons]
    have so2 : ∀ a ∈ (zs.map Prod.snd).flatten, ∃ o, H a = some o := fun a ha => so a (by rw [List.map_cons, List.flatten_cons]; exact List.mem_append_right _ ha)
    have so1 : ∀ a ∈ y.2, ∃ o, H a = some o := fun a ha => so a (by rw [List.map_cons, List.flatten_cons]; exact List.mem_append_left _ ha)
    have r := new_set nd.2.1 so2 (i := i) (z := z) (by simpa using h) n
    refine ⟨List.nodup_append.mpr ⟨nd.1, r.nd, fun a ha b hb e => ?_⟩, fun a ha => ?_⟩
    · subst e
      rcases r.so a hb with h | h
      · exact nd.2.2 a ha a h rfl
      · obtain ⟨o, e⟩ := so1 a ha
        rw [h] at e; cases e
    · rcases List.mem_append.mp ha with h | h
      · exact .inl (List.mem_append_left _ h)
      · exact (r.so a h).imp (List.mem_append_right _) id
theorem new_cons {H : Hp} {a : Addr} {S S' : List Addr} (nd : (a :: S).Nodup) {o : HO} (ha : H a = some o) (n : New H S S') : New H (a :: S) (a :: S') := by
  have nd := List.nodup_cons.mp nd
  refine ⟨List.nodup_cons.mpr ⟨fun h => ?_, n.nd⟩, fun b hb => ?_⟩
  · rcases n.so a h with h | h
    · exact nd.1 h
    · rw [h] at ha; cases ha
  · rcases List.mem_cons.mp hb with rfl | hb
    · exact .inl List.mem_cons_self
    · exact (n.so b hb).imp (List.mem_cons_of_mem _) id
theorem map_set' {γ : Type} {g : α → γ} : ∀ {l : List α} {i : Nat} {x : α}, (l.set i x).map g = (l.map g).set i (g x)
  | [], _, _ => rfl
  | a :: r, 0, x => rfl
  | a :: r, i + 1, x => by rw [List.set_cons_succ, List.map_cons, List.map_cons, List.set_cons_succ, map_set']
/-- a part changed -/
theorem oL_set {O : Oo α} [w : Ow O] {I H H' : Hp} {a : Addr} {vs : List V} {zs : List (α × List Addr)} {i : Nat} {u : V} {z z' : α × List Addr} (ha : H a = some (.lst vs)) (a2 : All2 (O I H) vs zs) (nd : (a :: (zs.map Prod.snd).flatten).Nodup)
    (h1 : vs[i]? = some u) (h2 : zs[i]? = some z) (ro : O I H' u z') (n : New H z.2 z'.2) (fr : ∀ a o, a ∉ z.2 → H a = some o → H' a = H a) :
    oL O I H' (.ref a) ((zs.map Prod.fst).set i z'.1, a :: ((zs.set i z').map Prod.snd).flatten) ∧ New H (a :: (zs.map Prod.snd).flatten) (a :: ((zs.set i z').map Prod.snd).flatten) := by
  have nd' := List.nodup_cons.mp nd
  have na : a ∉ z.2 := fun h => nd'.1 (mem_fl (List.mem_of_getElem? h2) h)
  refine ⟨⟨a, vs, zs.set i z', rfl, by rw [fr a _ na ha]; exact ha, all2_set a2 nd'.2 h1 h2 ro fr, map_set'.symm, rfl⟩, new_cons nd ha (new_set nd'.2 (fun b hb => ?_) h2 n)⟩
  obtain ⟨z, hz, hb⟩ := fl_mem hb
  obtain ⟨v, _, r⟩ := a2.memL hz
  obtain ⟨ws, e⟩ := w.so r b hb
  exact ⟨_, e⟩
/-- an element put in its place: u', a list of its own -/
theorem oL_put {O : Oo α} [w : Ow O] {I H H' : Hp} {a : Addr} {vs : List V} {zs : List (α × List Addr)} {i : Nat} {u' : V} {z z' : α × List Addr} (ha : H a = some (.lst vs)) (a2 : All2 (O I H) vs zs) (nd : (a :: (zs.map Prod.snd).flatten).Nodup)
    (h2 : zs[i]? = some z) (ha' : H' a = some (.lst (vs.set i u'))) (ro : O I H' u' z') (n : New H z.2 z'.2) (fr : ∀ b o, b ≠ a → H b = some o → H' b = H b) :
    oL O I H' (.ref a) ((zs.map Prod.fst).set i z'.1, a :: ((zs.set i z').map Prod.snd).flatten) ∧ New H (a :: (zs.map Prod.snd).flatten) (a :: ((zs.set i z').map Prod.snd).flatten) := by
  have nd' := List.nodup_cons.mp nd
  refine ⟨⟨a, _, zs.set i z', rfl, ha', (a2.impM fun v x hx r => w.fr (Same.refl I) (fun b hb => ?_) r).set i ro, map_set'.symm, rfl⟩, new_cons nd ha (new_set nd'.2 (fun b hb => ?_) h2 n)⟩
  · obtain ⟨ws, e⟩ := w.so r b hb
    exact fr b _ (fun q => nd'.1 (q ▸ mem_fl hx hb)) e
  · obtain ⟨z, hz, hb⟩ := fl_mem hb
    obtain ⟨v, _, r⟩ := a2.memL hz
    obtain ⟨ws, e⟩ := w.so r b hb
    exact ⟨_, e⟩
theorem oL_leaf {R : Rp α} {I H : Hp} {a : Addr} {vs : List V} {xs : List α} (ha : H a = some (.lst vs)) (a2 : All2 (R I) vs xs) : oL (o0 R) I H (.ref a) (xs, [a]) := by
  have e : ∀ l : List α, (l.map fun x => (x, ([] : List Addr))).map Prod.snd = l.map fun _ => [] := fun l => by rw [List.map_map]; rfl
  have e2 : ∀ l : List α, (l.map fun _ => ([] : List Addr)).flatten = [] := fun l => by induction l with
    | nil => rfl
    | cons a r ih => rw [List.map_cons, List.flatten_cons, ih]; rfl
  refine ⟨a, vs, xs.map fun x => (x, []), rfl, ha, ?_, by rw [List.map_map]; exact (List.map_id xs).symm, by rw [e, e2]⟩
  clear ha
  induction a2 with
  | nil => exact .nil
  | cons h t ih => exact .cons ⟨h, rfl⟩ ih
/-- kinds in which no list stands -/
class NoL (R : Rp α) : Prop where
  up : ∀ {I I' : Hp} {v : V} {x : α}, (∀ a o, I a = some o → (∀ vs, o ≠ .lst vs) → I' a = some o) → R I v x → R I' v x
instance {R : Rp α} [m : NoL R] : NoL (iT R) := ⟨fun s ⟨a, vs, e, h, t⟩ => ⟨a, vs, e, s _ _ h (fun _ z => nomatch z), t.mono fun _ _ => m.up s⟩⟩
class OwN (O : Oo α) : Prop where
  up : ∀ {I I' H : Hp} {v : V} {p : α × List Addr}, (∀ a o, I a = some o → (∀ vs, o ≠ .lst vs) → I' a = some o) → O I H v p → O I' H v p
instance {R : Rp α} [m : NoL R] : OwN (o0 R) := ⟨fun s ⟨h, e⟩ => ⟨m.up s h, e⟩⟩
instance {O : Oo α} [m : OwN O] : OwN (oL O) := ⟨fun s ⟨a, vs, zs, e, ha, a2, e1, e2⟩ => ⟨a, vs, zs, e, ha, a2.mono fun _ _ => m.up s, e1, e2⟩⟩
/-- owned lists that stay: plain ones -/
class Fz' (O : Oo α) (R : Rp α) : Prop where
  to : ∀ {I : Hp} {v : V} {p : α × List Addr}, O I I v p → R I v p.1
instance {R : Rp α} : Fz' (o0 R) R := ⟨fun h => h.1⟩
theorem All2.fst {R : V → α → Prop} {T : V → α × List Addr → Prop} (h : ∀ v p, T v p → R v p.1) : ∀ {vs : List V} {zs : List (α × List Addr)}, All2 T vs zs → All2 R vs (zs.map Prod.fst)
  | _, _, .nil => .nil
  | _, _, .cons a t => .cons (h _ _ a) (t.fst h)
instance {O : Oo α} {R : Rp α} [m : Fz' O R] : Fz' (oL O) (iL R) := ⟨fun {I v p} ⟨a, vs, zs, e, ha, a2, e1, e2⟩ => ⟨a, vs, e, ha, by rw [e1]; exact a2.fst fun _ _ h => m.to h⟩⟩
/-- without its lists -/
theorem strip_nol {S : Addr → Prop} {I : Hp} (h : ∀ a, S a → ∃ vs, I a = some (.lst vs)) : ∀ a o, I a = some o → (∀ vs, o ≠ .lst vs) → strip S I a = some o := fun a o e n => by
  have : ¬ S a := fun s => by obtain ⟨vs, z⟩ := h a s; rw [z] at e; exact n vs (Option.some.inj e).symm
  rw [strip_out this]; exact e
/-- what was made and is known by its addresses is taken out of the part that stays, or put in -/
theorem gr_strip {ms : List Addr} {I H I' H' : Hp} (g : Gr ms I H I' H') (S : Addr → Prop) (f : ∀ a, S a → H a = none) (s : Same I H) : Gr ms I H (strip S I') H' :=
  ⟨fun a o e => by
    have : ¬ S a := fun h => by have := s a o e; rw [f a h] at this; cases this
    rw [strip_out this]; exact g.ii a o e, strip_sub.trans g.ih, g.hh, g.th, fun a o e1 e2 => by
    have : ¬ S a := fun h => by rw [f a h] at e2; cases e2
    rw [strip_out this]; exact g.nw a o e1 e2⟩
def put (S : List Addr) (I H : Hp) : Hp := fun a => if a ∈ S then H a else I a
theorem put_in {S : List Addr} {I H : Hp} {a : Addr} (h : a ∈ S) : put S I H a = H a := by unfold put; rw [if_pos h]
theorem put_out {S : List Addr} {I H : Hp} {a : Addr} (h : a ∉ S) : put S I H a = I a := by unfold put; rw [if_neg h]
theorem gr_put {ms S : List Addr} {I H I' H' : Hp} (g : Gr (S ++ ms) I H I' H') (s : Same I H) (f : ∀ a ∈ S, H a = none) : Gr ms I H (put S I' H') H' := by
  have n : ∀ a o, H a = some o → a ∉ S := fun a o e h => by rw [f a h] at e; cases e
  exact ⟨fun a o e => by rw [put_out (n a o (s a o e))]; exact g.ii a o e, fun a o e => by
      by_cases h : a ∈ S
      · rw [put_in h] at e; exact e
      · rw [put_out h] at e; exact g.ih a o e,
    fun a o h e => g.hh a o (fun z => (List.mem_append.mp z).elim (n a o e) h) e, g.th, fun a o e1 e2 => by rw [put_out (n a o e2)]; exact g.nw a o e1 e2⟩
theorem put_ii {S : List Addr} {I H : Hp} (s : Same I H) : Same I (put S I H) := fun a o e => by
  by_cases h : a ∈ S
  · rw [put_in h]; exact s a o e
  · rw [put_out h]; exact e
theorem lc_own {J : It} {R : Rp α} {O : Oo β} [Mono R] [w : Ow O] (f : α → β) {vs : List V} {xs : List α} {I H1 : Hp} {g : TG} {tt : TT} {te : TE} {vz : List Nat} {σ : L2.St} {D : Addr} {Qd : Hp → Prop}
    (W : Wk J vs.length (gv vs) I) (a2 : All2 (R I) vs xs) (s0 : Same I H1) (hD : H1 D = none) (hn : xs.length < sizeLine)
    (step : ∀ (i : Nat) (x : α) (I' H' : Hp) (Nx : Hp → Prop) (Qk : VK), xs[i]? = some x → R I' (gv vs i) x → Same I I' → Same I' H' → (∀ I'' H'' y S, Gr [] I' H' I'' H'' → O I'' I'' y (f x, S) → S.Nodup → (∀ a ∈ S, H' a = none) → Qk y H'') →
      g (gv vs i) (wipe σ vz) H' fun σ2 H2 => wipe σ2 vz = wipe σ vz ∧ tt σ2 H2 fun b H3 => if b = true then te σ2 H3 Qk else Nx H3)
    (hd : ∀ I' H' S, Gr [] I H1 I' H' → oL O I' I' (.ref D) (xs.map f, S) → S.Nodup → (∀ a ∈ S, H1 a = none) → Qd H') : LcR J g tt te vz σ H1 D Qd := by
  have hl := a2.len
  let Mid : Nat → Hp → Prop := fun i H => ∃ I' ys zs, Gr [] I H1 I' H ∧ I' D = none ∧ H D = some (.lst ys) ∧ All2 (O I' I') ys zs ∧ zs.map Prod.fst = (xs.take i).map f ∧ (zs.map Prod.snd).flatten.Nodup ∧ ∀ a ∈ (zs.map Prod.snd).flatten, H1 a = none ∧ a ≠ D
  refine ⟨fun i m H => m = vs.length - i ∧ i ≤ vs.length ∧ Mid i H, ⟨vs.length, rfl, Nat.zero_le _, I, [], [], Gr.tmp s0 hD, s0.free hD, upd_same, .nil, rfl, by simp, fun a h => by simp at h⟩, ?_⟩
  rintro i m H ⟨rfl, hi, I', ys, zs, gr, hI, hH, b2, e1, nd, fr⟩
  have s : Same I H := gr.ii.trans gr.ih
  by_cases hlt : i < vs.length
  · have hx : xs[i]? = some (xs[i]'(by omega)) := List.getElem?_eq_getElem (by omega)
    generalize xs[i]'(by omega) = x at hx
    have et : xs.take (i + 1) = xs.take i ++ [x] := by rw [List.take_succ, hx]; rfl
    refine .inr ⟨W.go i H s hlt, fun H' => i + 1 ≤ vs.length ∧ Mid (i + 1) H', fun H' z => ⟨vs.length - (i + 1), by omega, rfl, z.1, z.2⟩, fun y H' hy => ?_⟩
    obtain ⟨rfl, rfl⟩ := W.yld i H y H' s hlt hy
    refine step i x I' _ _ _ hx (up gr.ii (gv2 a2 hx)) gr.ii gr.ih (fun I'' H'' y S g2 sy ndS frS => ?_)
    have hD2 := g2.at hH (by simp)
    have hI2 := g2.out hI hH
    have lz : zs.length = i := by
      have := congrArg List.length e1
      rw [List.length_map, List.length_map, List.length_take] at this
      omega
    refine ⟨ys, hD2, by rw [b2.len]; omega, hlt, I'', ys ++ [y], zs ++ [(f x, S)], ?_, hI2, upd_same, (b2.mono fun _ _ => Ow.up g2.ii).snoc sy, ?_, ?_, ?_⟩
    · have g3 := gr.trans g2
      exact ((g3.mono (ns := [D]) fun _ z => nomatch z).trans (Gr.mut g3.ih hI2 List.mem_cons_self)).drop hD
    · rw [List.map_append, e1, et, List.map_append]; rfl
    · rw [List.map_append, List.flatten_append, List.nodup_append]
      refine ⟨nd, by simpa using ndS, fun a ha b hb => ?_⟩
      have hb : b ∈ S := by simpa using hb
      obtain ⟨z, hz, haz⟩ := fl_mem ha
      obtain ⟨v, _, r⟩ := b2.memL hz
      obtain ⟨o, eo⟩ := w.so r a haz
      have h1 := gr.ih _ _ eo
      have h2 := frS b hb
      exact fun e => by rw [e, h2] at h1; cases h1
    · intro a ha
      rw [List.map_append, List.flatten_append] at ha
      rcases List.mem_append.mp ha with ha | ha
      · exact fr a ha
      · have ha : a ∈ S := by simpa using ha
        have h2 := frS a ha
        exact ⟨gr.none h2, fun e => by rw [e, hH] at h2; cases h2⟩
  · have e : i = vs.length := by omega
    subst e
    refine .inl ⟨W.stop H s, ?_⟩
    have gz := (gr.mono (ns := [D]) (fun _ z => nomatch z)).frz s0 hD hH
    refine hd _ H (D :: (zs.map Prod.snd).flatten) gz ⟨D, ys, zs, rfl, upd_same, b2.mono fun _ _ => Ow.up (sNew hI), ?_, rfl⟩ (List.nodup_cons.mpr ⟨fun h => (fr D h).2 rfl, nd⟩) (fun a ha => ?_)
    · rw [e1, List.take_of_length_le (by omega)]
    · rcases List.mem_cons.mp ha with rfl | ha
      · exact hD
      · exact (fr a ha).1
end
end Tk

set_option Elab.async false
set_option linter.all false
set_option maxRecDepth 100000
set_option maxHeartbeats 4000000
set_option exponentiation.threshold 5000
namespace K
open PySem PySem.Spec PyProof.Rows L2 Tk Hd Mt
theorem gl_set {α : Type} {l : List (List α)} {i j : Nat} {x : List α} (h : i < l.length) : gl (l.set i x) j = if j = i then x else gl l j := by
  by_cases e : j = i
  · subst e; rw [if_pos rfl]; exact gl_of (List.getElem?_set_self h)
  · rw [if_neg e]; unfold gl; rw [List.getD_eq_getElem?_getD, List.getD_eq_getElem?_getD, List.getElem?_set_ne (Ne.symm e)]
theorem gl_none {α : Type} {l : List (List α)} {i : Nat} (h : l.length ≤ i) : gl l i = [] := by
  show l.getD i [] = []
  rw [List.getD_eq_getElem?_getD, List.getElem?_eq_none h]; rfl
/-- some rows of a state on a button are others -/
structure Chg (M : Ma) (b s : Nat) (cut : Nat → List Rat) (i : Nat) (mv : List (List Rows)) : Prop where
  l1 : mv.length = M.2.length
  l2 : ∀ b', (gl mv b').length = (gl M.2 b').length
  l3 : ∀ b' a', (gl (gl mv b') a').length = (gl (gl M.2 b') a').length
  e : ∀ b' a' s', gl (gl (gl mv b') a') s' = if b' = b ∧ s' = s ∧ a' < i then cut a' else gl (gl (gl M.2 b') a') s'
theorem Chg.zero {M : Ma} {b s : Nat} {cut : Nat → List Rat} : Chg M b s cut 0 M.2 := ⟨rfl, fun _ => rfl, fun _ _ => rfl, fun b' a' s' => by rw [if_neg (by omega)]⟩
theorem Chg.succ {M : Ma} {b s i : Nat} {cut : Nat → List Rat} {mv : List (List Rows)} (h : Chg M b s cut i mv) (hb : b < M.2.length) (hi : i < (gl M.2 b).length) (hs : s < (gl (gl M.2 b) i).length) :
    Chg M b s cut (i + 1) (mv.set b ((gl mv b).set i ((gl (gl mv b) i).set s (cut i)))) := by
  have hb' : b < mv.length := by rw [h.l1]; exact hb
  have hi' : i < (gl mv b).length := by rw [h.l2]; exact hi
  have hs' : s < (gl (gl mv b) i).length := by rw [h.l3]; exact hs
  refine ⟨by rw [List.length_set]; exact h.l1, fun b' => ?_, fun b' a' => ?_, fun b' a' s' => ?_⟩
  · rw [gl_set hb']
    by_cases e : b' = b
    · subst e; rw [if_pos rfl, List.length_set]; exact h.l2 b'
    · rw [if_neg e]; exact h.l2 b'
  · rw [gl_set hb']
    by_cases e : b' = b
    · subst e
      rw [if_pos rfl, gl_set hi']
      by_cases e : a' = i
      · subst e; rw [if_pos rfl, List.length_set]; exact h.l3 b' a'
      · rw [if_neg e]; exact h.l3 b' a'
    · rw [if_neg e]; exact h.l3 b' a'
  · rw [gl_set hb']
    by_cases e : b' = b
    · subst e
      rw [if_pos rfl, gl_set hi']
      by_cases e : a' = i
      · subst e
        rw [if_pos rfl, gl_set hs']
        by_cases e : s' = s
        · subst e
          rw [if_pos rfl, if_pos (by omega)]
        · rw [if_neg e, h.e, if_neg (by omega), if_neg (by omega)]
      · rw [if_neg e, h.e]
        by_cases z : b' = b' ∧ s' = s ∧ a' < i
        · rw [if_pos z, if_pos (by omega)]
        · rw [if_neg z, if_neg (by omega)]
    · rw [if_neg e, h.e, if_neg (by omega), if_neg (by omega)]
theorem lead_congr {p p' : List Rows} {s : Nat} (hl : p.length = p'.length) (h : ∀ a, gl (gl p a) s = gl (gl p' a) s) : lead p s = lead p' s := by
  unfold lead
  rw [hl]
  congr 1
  · funext a; rw [h a]
  · funext a j; rw [h a]
theorem Chg.none {M : Ma} {b s : Nat} {qs : List Rat} {mv : List (List Rows)} (h : Chg M b s (fun a => (qs.drop (a * M.1.length)).take M.1.length) (gl M.2 0).length mv) (fn : FNone M.1 M.2) (hs : s < M.1.length) (c : Cells ((gl M.2 0).length * M.1.length) qs) : FNone M.1 mv := by
  have ln : ∀ b', b' < M.2.length → (gl M.2 b').length = (gl M.2 0).length := fun b' hb => fn.c2 _ (List.mem_of_getElem? (gl_lt hb))
  have l0 := ln
  have cl : ∀ a, a < (gl M.2 0).length → ((qs.drop (a * M.1.length)).take M.1.length).length = M.1.length := fun a ha => by
    rw [List.length_take, List.length_drop, c.len]
    have := blk_le (n := M.1.length) ha
    omega
  have sq : ∀ b' a', b' < M.2.length → a' < (gl M.2 0).length → (gl (gl M.2 b') a').length = M.1.length ∧ ∀ x ∈ gl (gl M.2 b') a', x.length = M.1.length := fun b' a' hb ha => sq_len (fn.d _ (List.mem_of_getElem? (gl_lt hb)) _ (List.mem_of_getElem? (gl_lt (by rw [ln b' hb]; exact ha))))
  have m0 : (gl mv 0).length = (gl M.2 0).length := h.l2 0
  refine ⟨fn.a, by rw [h.l1]; exact fn.b, by rw [m0]; exact fn.c, fun p hp => ?_, fun p hp r hr => ?_, fn.e, fun p hp s' hs' => ?_⟩
  · obtain ⟨b', hb', rfl⟩ := mem_gl hp
    rw [h.l1] at hb'
    rw [h.l2, m0]; exact ln b' hb'
  · obtain ⟨b', hb', rfl⟩ := mem_gl hp
    obtain ⟨a', ha', rfl⟩ := mem_gl hr
    rw [h.l1] at hb'
    rw [h.l2, ln b' hb'] at ha'
    obtain ⟨q1, q2⟩ := sq b' a' hb' ha'
    unfold square
    rw [Bool.and_eq_true, decide_eq_true_iff, decide_eq_true_iff]
    refine ⟨by rw [h.l3]; exact q1, fun x hx => ?_⟩
    obtain ⟨s', hs', rfl⟩ := mem_gl hx
    rw [h.l3, q1] at hs'
    rw [h.e]
    by_cases z : b' = b ∧ s' = s ∧ a' < (gl M.2 0).length
    · rw [if_pos z]; exact cl a' ha'
    · rw [if_neg z]; exact q2 _ (List.mem_of_getElem? (gl_lt (by omega)))
  · obtain ⟨b', hb', rfl⟩ := mem_gl hp
    rw [h.l1] at hb'
    have old := fn.f _ (List.mem_of_getElem? (gl_lt hb')) s' hs'
    by_cases z : b' = b ∧ s' = s
    · have row : ∀ a, a < (gl M.2 0).length → gl (gl (gl mv b') a) s' = (qs.drop (a * M.1.length)).take M.1.length := fun a ha => by rw [h.e, if_pos ⟨z.1, z.2, ha⟩]
      unfold lots
      rw [Bool.and_eq_true, decide_eq_true_iff, decide_eq_true_iff]
      refine ⟨fun q hq => ?_, ?_⟩
      · obtain ⟨i, j, hi, hj, rfl⟩ := flat_mem hq
        rw [h.l2, ln b' hb'] at hi
        have hm : gq (gl (gl (gl mv b') i) s') j ∈ gl (gl (gl mv b') i) s' := List.mem_of_getElem? (gq_lt hj)
        rw [row i hi] at hm
        rw [row i hi]
        exact (c.gd _ (List.mem_of_mem_drop (List.mem_of_mem_take hm))).nonneg
      · unfold lead
        rw [tot_flat, ← c.tot, ← cut_sum c.len, h.l2, ln b' hb']
        refine S_congr fun a ha => ?_
        show S (gl (gl (gl mv b') a) s').length (fun j => gq (gl (gl (gl mv b') a) s') j) = _
        rw [row a ha, cl a ha]
    · rw [lead_congr (p' := gl M.2 b') (h.l2 b') fun a => by rw [h.e, if_neg (by omega)]]
      exact old
theorem Chg.g {M : Ma} {b s : Nat} {qs : List Rat} {mv : List (List Rows)} (h : Chg M b s (fun a => (qs.drop (a * M.1.length)).take M.1.length) (gl M.2 0).length mv) (fn : FNone M.1 M.2) (fn' : FNone M.1 mv) (ok : GOk 2 M.1 M.2) (c : Cells ((gl M.2 0).length * M.1.length) qs) : GOk 2 M.1 mv := by
  have na := fn.a
  have nb := fn.b
  have nc := fn'.c
  have sq : ∀ p ∈ mv, ∀ r ∈ p, _ := fun p hp r hr => sq_len (fn'.d p hp r hr)
  refine ⟨ok.z0, by have := fn'.b; omega, fun p hp => by have := fn'.c2 p hp; omega, fun p hp r hr => by have := (sq p hp r hr).1; omega, fun p hp r hr x hx => by have := (sq p hp r hr).2 x hx; omega, ok.g0, fun p hp r hr x hx q hq => ?_⟩
  obtain ⟨b', hb', rfl⟩ := mem_gl hp
  obtain ⟨a', ha', rfl⟩ := mem_gl hr
  obtain ⟨s', hs', rfl⟩ := mem_gl hx
  rw [h.l3] at hs'
  rw [h.l2] at ha'
  rw [h.l1] at hb'
  rw [h.e] at hq
  by_cases z : b' = b ∧ s' = s ∧ a' < (gl M.2 0).length
  · rw [if_pos z] at hq
    exact (gz420 (c.gd _ (List.mem_of_mem_drop (List.mem_of_mem_take hq)))).mono (by decide)
  · rw [if_neg z] at hq
    exact ok.g1 _ (List.mem_of_getElem? (gl_lt hb')) _ (List.mem_of_getElem? (gl_lt ha')) _ (List.mem_of_getElem? (gl_lt hs')) q hq
theorem PoolOk.sub {I I' H : Hp} {p : Addr} (h : PoolOk I H p) (s : Same I I') (n : I' p = none) : PoolOk I' H p := by
  obtain ⟨i, c, cells, pos, b, sd, l, u, h1, h2, h3, h4⟩ := h
  exact ⟨n, c, cells, pos, b, sd, l, u, s _ _ h1, h2, h3, h4⟩
theorem nd_of {α : Type} {zs : List (α × List Addr)} {z : α × List Addr} (nd : (zs.map Prod.snd).flatten.Nodup) (h : z ∈ zs) : z.2.Nodup :=
  List.Nodup.sublist (List.sublist_flatten_of_mem (List.mem_map.mpr ⟨z, h, rfl⟩)) nd
instance : NoL iQ := ⟨fun s ⟨a, e, h⟩ => ⟨a, e, s _ _ h (fun _ z => nomatch z)⟩⟩
instance {C : Addr} : NoL (iR C) := ⟨fun s ⟨a, dx, e, h⟩ => ⟨a, dx, e, s _ _ h (fun _ z => nomatch z)⟩⟩
instance {C C2 : Addr} : NoL (iM C C2) := ⟨fun s ⟨a, dx, va, vb, e, h, r1, r2⟩ => ⟨a, dx, va, vb, e, s _ _ h (fun _ z => nomatch z), NoL.up s r1, NoL.up s r2⟩⟩
section
variable {P : Program} {w : World} {K : PySem.W.Frag} {mg : Str → Option Value} {base : Heap}
abbrev O4 : Oo (List (List Rows)) := oL (oL (oL (oL (o0 iQ))))
def spChanged : Sp := fun vs H Q _ => ∃ (I : Hp) (p : Addr) (v : V) (M : Ma), vs = [.ref p, v] ∧ Same I H ∧ PoolOk I H p ∧ iLM I v M ∧ FNone M.1 M.2 ∧ GOk 2 M.1 M.2 ∧
  ∀ I' H' v' M', Gr [p] I H I' H' → PoolOk I' H' p → iLM I' v' M' → FNone M'.1 M'.2 → GOk 2 M'.1 M'.2 → Q v' H'
theorem sc_changed : FnScope ["pool", "machine", "start", "moves", "button", "state", "cells", "found", "line", "rows", "answers", "answer"] ["pool", "machine"] (defScope s__law_changed) := ⟨rfl, rfl, rfl, by decide +kernel, rfl, by decide +kernel, by decide +kernel⟩
theorem ok_changed (D : Dt K mg) : Has P w K mg base 3 (He.ga K "_law_changed") ["pool", "machine"] [] spChanged := by
  obtain ⟨fd, F⟩ := fd__law_changed D
  have H__law_draw := ok_draw (P := P) (w := w) (base := base) D
  have H__law_cells := ok_cells (P := P) (w := w) (base := base) D
  refine hasN F (F.bindsN fun _ _ _ _ _ _ us hl => match us, hl with | [_, _], _ => rfl) sc_changed (fun vs H Q E h => ?_) (fun cdv A outer s H vs Q E hr h => ?_)
  · obtain ⟨I, p, v, M, rfl, _⟩ := h; rfl
  · obtain ⟨I, p, vm, M, rfl, s0, po, rm, fn, ok, k⟩ := h
    obtain ⟨am, xm, ym, rfl, hm, rx, ry⟩ := id rm
    have na := fn.a
    have nb := fn.b
    have nc := fn.c
    refine ⟨_, (pss_cons (ps_asg (pv 1) (pg_tupK K rfl (pgs_cons (pg_name (i := 2) sc_changed.nd rfl (Or.inl rfl)) (pgs_cons (pg_name (i := 3) sc_changed.nd rfl (Or.inl rfl)) pgs_nil))))
      (pss_cons (ps_set (i := 4) sc_changed.nd rfl (Or.inl rfl) (pe_callH H__law_draw (hr.mono (by decide)) rfl (glo__law_draw D) passL (pa_cons (pv 0) (pa_cons (pe_callB (call_lenK K) rfl (free_len D) PySem.boot_len (pa_cons (pv 3) pa_nil)) pa_nil))))
      (pss_cons (ps_set (i := 5) sc_changed.nd rfl (Or.inl rfl) (pe_callH H__law_draw (hr.mono (by decide)) rfl (glo__law_draw D) passL (pa_cons (pv 0) (pa_cons (pe_callB (call_lenK K) rfl (free_len D) PySem.boot_len (pa_cons (pv 2) pa_nil)) pa_nil))))
      (pss_cons (ps_set (i := 6) sc_changed.nd rfl (Or.inl rfl) (pe_callH H__law_cells (hr.mono (by decide)) rfl (glo__law_cells D) passL (pa_cons (pv 0) (pa_cons (pe_op op_mul (pe_callB (call_lenK K) rfl (free_len D) PySem.boot_len (pa_cons (pe_ix (ix_listK K) (pv 3) pe_int (fun _ _ => rfl)) pa_nil)) (pe_callB (call_lenK K) rfl (free_len D) PySem.boot_len (pa_cons (pv 2) pa_nil))) (pa_cons pe_int pa_nil)))))
      (pss_cons (ps_setLc (own := [("answers", 10)]) (g := gName 10) (i := 7) rfl sc_changed.nd rfl rfl (sw_true rfl rfl rfl (by decide +kernel)) (pi_listK K (pv 3)) (blkOk_by (own := [("answers", 10)]) (N := ["pool", "machine", "start", "moves", "button", "state", "cells", "found", "line", "rows", "answers", "answer"]) (by kernel_rfl)) (fun _ _ _ _ _ => (pg_name (i := 10) sc_changed.nd rfl (Or.inl rfl))) (fun _ _ _ _ _ => pts_nil) (fun _ _ _ _ _ => (pe_lc (own := [("rows", 9)]) (g := gName 9) rfl sc_changed.nd (pi_listK K (pv 10)) (blkOk_by (own := [("rows", 9)]) (N := ["pool", "machine", "start", "moves", "button", "state", "cells", "found", "line", "rows", "answers", "answer"]) (by kernel_rfl)) (fun _ _ _ _ _ => (pg_name (i := 9) sc_changed.nd rfl (Or.inl rfl))) (fun _ _ _ _ _ => pts_nil) (fun _ _ _ _ _ => (pe_lc (own := [("line", 8)]) (g := gName 8) rfl sc_changed.nd (pi_listK K (pv 9)) (blkOk_by (own := [("line", 8)]) (N := ["pool", "machine", "start", "moves", "button", "state", "cells", "found", "line", "rows", "answers", "answer"]) (by kernel_rfl)) (fun _ _ _ _ _ => (pg_name (i := 8) sc_changed.nd rfl (Or.inl rfl))) (fun _ _ _ _ _ => pts_nil) (fun _ _ _ _ _ => (pe_callTy (call_list_ofK K) rfl (free_list D) (by decide +kernel) (pa_cons (pv 8) pa_nil))))))))
      (pss_cons (ps_for PassesOwn.never rfl (pi_range1 rfl (free_range D) (pa_cons (pe_callB (call_lenK K) rfl (free_len D) PySem.boot_len (pa_cons (pe_ix (ix_listK K) (pv 3) pe_int (fun _ _ => rfl)) pa_nil)) pa_nil)) (pg_name (i := 11) sc_changed.nd rfl (Or.inl rfl))
      (pss_cons (ps_set (i := 9) sc_changed.nd rfl (Or.inl rfl) (pe_ix (ix_listK K) (pe_ix (ix_listK K) (pv 7) (pv 4) (fun _ _ => rfl)) (pv 11) (fun _ _ => rfl)))
      (pss_one (ps_asg (pe_slice (sl_listK K) (pv 6) (po_some (pe_op op_mul (pv 11) (pe_callB (call_lenK K) rfl (free_len D) PySem.boot_len (pa_cons (pv 2) pa_nil)))) (po_some (pe_op op_add (pe_op op_mul (pv 11) (pe_callB (call_lenK K) rfl (free_len D) PySem.boot_len (pa_cons (pv 2) pa_nil))) (pe_callB (call_lenK K) rfl (free_len D) PySem.boot_len (pa_cons (pv 2) pa_nil))))) (pg_sub (pv 9) (pv 5) set_list)))))
      (pss_one (ps_ret (pe_tup (pa_cons (pv 2) (pa_cons (pv 7) pa_nil))))))))))), ?_⟩
    refine ⟨_, rfl, am, _, rfl, SqT.of (s0 _ _ hm), rfl, _, _, rfl, _, _, rfl, rfl, ?_⟩
    (try dsimp only)
    refine seq_cut (fun σ' H1 => ∃ bt : Nat, σ' = [some (.ref p), some (.ref am), some xm, some ym, some (.int bt), none, none, none, none, none, none, none] ∧ bt < M.2.length ∧ Gr [p] I H I H1 ∧ PoolOk I H1 p) (fun nx q => ?_) ?_
    · refine ⟨_, rfl, _, rfl, _, M.2.length, rfl, len_of (iA.l ry) s0, I, p, M.2.length, rfl, s0, po, by omega, by omega, fun w H1 c0 c1 g2 po2 => ?_⟩
      obtain ⟨j, rfl⟩ := Int.eq_ofNat_of_zero_le c0
      exact q _ _ ⟨j, rfl, by omega, g2, po2⟩
    rintro σ' H1 ⟨bt, rfl, hbt, g1, po1⟩
    (try dsimp only)
    refine seq_cut (fun σ' H1 => ∃ sn : Nat, σ' = [some (.ref p), some (.ref am), some xm, some ym, some (.int bt), some (.int sn), none, none, none, none, none, none] ∧ sn < M.1.length ∧ Gr [p] I H I H1 ∧ PoolOk I H1 p) (fun nx q => ?_) ?_
    · refine ⟨_, rfl, _, rfl, _, M.1.length, rfl, len_of (iA.l rx) g1.ih, I, p, M.1.length, rfl, g1.ih, po1, by omega, by omega, fun w H1 c0 c1 g2 po2 => ?_⟩
      obtain ⟨j, rfl⟩ := Int.eq_ofNat_of_zero_le c0
      exact q _ _ ⟨j, rfl, by omega, g1.trans g2, po2⟩
    clear g1 po1 H1
    rintro σ' H1 ⟨sn, rfl, hsn, g1, po1⟩
    obtain ⟨ay, mys, rfl, hy, y2⟩ := id ry
    obtain ⟨u0, hu0, ru0⟩ := y2.get' (gl_lt (l := M.2) (i := 0) (by omega))
    have anb : (gl M.2 0).length * M.1.length ≤ 4 * 12 := Nat.mul_le_mul nc.2 na.2
    have an0 : 0 < (gl M.2 0).length * M.1.length := Nat.mul_pos nc.1 na.1
    (try dsimp only)
    refine seq_cut (fun σ' H1 => ∃ (I1 : Hp) (vc : V) (qs : List Rat), σ' = [some (.ref p), some (.ref am), some xm, some (.ref ay), some (.int bt), some (.int sn), some vc, none, none, none, none, none] ∧ Gr [p] I H I1 H1 ∧ PoolOk I1 H1 p ∧ iL iQ I1 vc qs ∧ Cells ((gl M.2 0).length * M.1.length) qs) (fun nx q => ?_) ?_
    · refine ⟨_, rfl, _, rfl, _, _, _, _, rfl, rfl, SqL.of (g1.ih _ _ hy), at_of (j := 0) rfl hu0, _, (gl M.2 0).length, rfl, len_of (iA.l ru0) g1.ih, _, rfl, _, M.1.length, rfl, len_of (iA.l rx) g1.ih, _, _, rfl, rfl, mulc (by omega) (by omega), I, p, (gl M.2 0).length * M.1.length, 3, by rw [Int.natCast_mul]; rfl, g1.ih, po1, an0, by omega, by decide, by decide, fun I2 H2 v2 qs g2 po2 r2 c2 => ?_⟩
      exact q _ _ ⟨I2, v2, qs, rfl, g1.trans g2, po2, r2, c2⟩
    clear g1 po1 H1
    rintro σ' H1 ⟨I1, vc, qs, rfl, g1, po1, rc, cq⟩
    (try dsimp only)
    refine seq_cut (fun σ' H2 => ∃ (Is : Hp) (L : Addr) (S : List Addr), σ' = [some (.ref p), some (.ref am), some xm, some (.ref ay), some (.int bt), some (.int sn), some vc, some (.ref L), none, none, none, none] ∧ Gr [p] I H Is H2 ∧ PoolOk Is H2 p ∧ iL iQ Is vc qs ∧ O4 Is H2 (.ref L) (M.2, S) ∧ S.Nodup ∧ (∀ a ∈ S, H a = none ∧ Is a = none)) (fun nx q => ?_) ?_
    · have hy1 := g1.ii _ _ hy
      refine ⟨_, rfl, ay, rfl, ⟨_, SqL.of (g1.ih _ _ hy1)⟩, fun l hD => lc_own (R := iL (iL (iL iQ))) (O := oL (oL (oL (o0 iQ)))) id (wk_list hy1) (y2.up g1.ii) g1.ih hD (lt_line (by omega)) (fun i pp I2 H2 Nx2 Qk2 hi rp _ s2 k2 => ?_) (fun I2 H2 S g2 o2 nd fr => ?_)⟩
      · obtain ⟨c, zs, ec, hc, c2⟩ := id rp
        have l2 := fn.c2 _ (List.mem_of_getElem? hi)
        rw [ec]
        refine ⟨rfl, _, rfl, c, rfl, ⟨_, SqL.of (s2 _ _ hc)⟩, fun l hD => lc_own (R := iL (iL iQ)) (O := oL (oL (o0 iQ))) id (wk_list hc) c2 s2 hD (lt_line (by omega)) (fun j r I3 H3 Nx3 Qk3 hj rr _ s3 k3 => ?_) (fun I3 H3 S g3 o3 nd fr => k2 _ _ _ S g3 (by rw [List.map_id] at o3; exact o3) nd fr)⟩
        obtain ⟨d, ws, ed, hd, d2⟩ := id rr
        have l30 := sq_len (fn.d _ (List.mem_of_getElem? hi) _ (List.mem_of_getElem? hj))
        rw [ed]
        refine ⟨rfl, _, rfl, d, rfl, ⟨_, SqL.of (s3 _ _ hd)⟩, fun l hD => lc_own (R := iL iQ) (O := oL (o0 iQ)) id (wk_list hd) d2 s3 hD (lt_line (by omega)) (fun u x I4 H4 Nx4 Qk4 hu rx _ s4 k4 => ?_) (fun I4 H4 S g4 o4 nd fr => k3 _ _ _ S g4 (by rw [List.map_id] at o4; exact o4) nd fr)⟩
        obtain ⟨t, vs, et, ht, t2⟩ := id rx
        rw [et]
        refine ⟨rfl, _, rfl, t, vs, rfl, .inl (SqL.of (s4 _ _ ht)), fun l hl => ?_⟩
        have g5 := Gr.new (ms := []) (o := .lst vs) s4 hl
        exact k4 _ _ _ [l] g5 (oL_leaf upd_same (t2.up g5.ii)) (by simp) (fun a ha => by rw [List.mem_singleton.mp ha]; exact hl)
      · rw [List.map_id] at o2
        have gs := gr_strip g2 (fun a => a ∈ S) fr g1.ih
        refine q _ _ ⟨_, l, S, rfl, g1.trans gs.nil, po1.up gs (by simp), up gs.ii rc, ?_, nd, fun a ha => ⟨g1.none (fr a ha), strip_in ha⟩⟩
        have so := Ow.so o2
        refine Ow.fr (Same.refl _) (fun a ha => ?_) (OwN.up (strip_nol so) o2)
        obtain ⟨ws, e⟩ := so a ha
        show H2 a = I2 a
        rw [e, g2.ih _ _ e]
    clear g1 po1 rc H1 I1
    rintro σ' H1 ⟨I1, L, S, rfl, g1, po1, rc, o4, nd, fr⟩
    (try dsimp only)
    refine seq_cut (fun σ' H2 => ∃ (v9 v11 : Option V) (mv : List (List Rows)) (S : List Addr), σ' = [some (.ref p), some (.ref am), some xm, some (.ref ay), some (.int bt), some (.int sn), some vc, some (.ref L), none, v9, none, v11] ∧ Gr [p] I H I1 H2 ∧ PoolOk I1 H2 p ∧ O4 I1 H2 (.ref L) (mv, S) ∧ S.Nodup ∧ (∀ a ∈ S, H a = none ∧ I1 a = none) ∧ Chg M bt sn (fun a => (qs.drop (a * M.1.length)).take M.1.length) (gl M.2 0).length mv) (fun nx q => ?_) ?_
    · have hy1 := g1.ii _ _ hy
      refine ⟨_, rfl, _, _, _, _, rfl, rfl, SqL.of (g1.ih _ _ hy1), at_of (j := 0) rfl hu0, _, (gl M.2 0).length, rfl, len_of (iA.l (up g1.ii ru0)) g1.ih, _, rfl, by omega, by omega, ?_⟩
      rw [Int.toNat_natCast]
      refine for_wk (wk_range (I := I1))
        (fun σ' H2 => ∃ (v9 v11 : Option V) (mv : List (List Rows)) (S : List Addr), σ' = [some (.ref p), some (.ref am), some xm, some (.ref ay), some (.int bt), some (.int sn), some vc, some (.ref L), none, v9, none, v11] ∧ Gr [p] I H I1 H2 ∧ PoolOk I1 H2 p ∧ O4 I1 H2 (.ref L) (mv, S) ∧ S.Nodup ∧ (∀ a ∈ S, H a = none ∧ I1 a = none) ∧ Chg M bt sn (fun a => (qs.drop (a * M.1.length)).take M.1.length) (gl M.2 0).length mv)
        (fun i σ' H2 => ∃ (v9 v11 : Option V) (mv : List (List Rows)) (S : List Addr), σ' = [some (.ref p), some (.ref am), some xm, some (.ref ay), some (.int bt), some (.int sn), some vc, some (.ref L), none, v9, none, v11] ∧ Gr [p] I H I1 H2 ∧ PoolOk I1 H2 p ∧ O4 I1 H2 (.ref L) (mv, S) ∧ S.Nodup ∧ (∀ a ∈ S, H a = none ∧ I1 a = none) ∧ Chg M bt sn (fun a => (qs.drop (a * M.1.length)).take M.1.length) i mv)
        (fun i σ' H2 h => by obtain ⟨v9, v11, mv, S, _, gr, _⟩ := h; exact gr.ih)
        ⟨none, none, M.2, S, rfl, g1, po1, o4, nd, fr, Chg.zero⟩ (fun nx2 q2 i σ' H2 hi h => ?_) (fun σ' H2 h => h) (fun σ' H2 h => q σ' H2 h)
      clear o4 nd fr S
      obtain ⟨v9, v11, mv, S, rfl, gr, po2, o4, nd, fr, ch⟩ := h
      have lab : (gl M.2 bt).length = (gl M.2 0).length := fn.c2 _ (List.mem_of_getElem? (gl_lt hbt))
      have lsq := (sq_len (fn.d _ (List.mem_of_getElem? (gl_lt hbt)) _ (List.mem_of_getElem? (gl_lt (l := gl M.2 bt) (i := i) (by omega))))).1
      have chs := ch.succ hbt (by omega) (by omega)
      have e1 := ch.l1
      have e2 := ch.l2 bt
      have e3 := ch.l3 bt i
      obtain ⟨L', vsL, zsL, eL, hL, aL, pL, qL⟩ := o4
      cases eL
      dsimp only at pL qL
      obtain ⟨zb, hzb, ezb⟩ : ∃ z, zsL[bt]? = some z ∧ z.1 = gl mv bt := by
        have hb' := gl_lt (l := mv) (i := bt) (by omega)
        rw [pL, List.getElem?_map] at hb'
        cases e : zsL[bt]? with
        | none => rw [e] at hb'; cases hb'
        | some z => rw [e] at hb'; exact ⟨z, rfl, by rw [← pL] at hb'; exact Option.some.inj hb'⟩
      obtain ⟨ub, hub, ob⟩ := aL.get' hzb
      obtain ⟨B, vsB, zsB, rfl, hB, aB, pB, qB⟩ := ob
      obtain ⟨zr, hzr, ezr⟩ : ∃ z, zsB[i]? = some z ∧ z.1 = gl (gl mv bt) i := by
        have hb' := gl_lt (l := gl mv bt) (i := i) (by omega)
        rw [← ezb, pB, List.getElem?_map] at hb'
        cases e : zsB[i]? with
        | none => rw [e] at hb'; cases hb'
        | some z => rw [e] at hb'; exact ⟨z, rfl, by rw [← pB, ezb] at hb'; exact Option.some.inj hb'⟩
      obtain ⟨ur, hur, orr⟩ := aB.get' hzr
      obtain ⟨R, vsR, zsR, rfl, hR, aR, pR, qR⟩ := orr
      have lR : vsR.length = M.1.length := by
        have := congrArg List.length pR
        rw [ezr, List.length_map, e3, lsq] at this
        rw [aR.len, ← this]
      obtain ⟨zl, hzl⟩ : ∃ z, zsR[sn]? = some z := ⟨_, List.getElem?_eq_getElem (by rw [← aR.len, lR]; exact hsn)⟩
      (try dsimp only)
      refine seq_cut (fun σ' H3 => H3 = H2 ∧ σ' = [some (.ref p), some (.ref am), some xm, some (.ref ay), some (.int bt), some (.int sn), some vc, some (.ref L), none, some (.ref R), none, some (.int (0 + (i : Int)))]) (fun nx q => ?_) ?_
      · exact ⟨_, rfl, _, rfl, _, _, _, _, rfl, rfl, SqL.of hL, at_of (j := bt) rfl hub, _, rfl, _, _, _, _, rfl, rfl, SqL.of hB, at_of (j := i) (by omega) hur, q _ _ ⟨rfl, rfl⟩⟩
      rintro σ' H3 ⟨rfl, rfl⟩
      obtain ⟨c, cs, rfl, hc, c2⟩ := id rc
      have lx := len_of (K := K) (iA.l (up g1.ii rx)) gr.ih
      have e : (0 + (i : Int)) * ((M.1.length : Nat) : Int) = ((i * M.1.length : Nat) : Int) := by rw [Int.zero_add, Int.natCast_mul]
      refine ⟨_, rfl, _, rfl, _, rfl, _, M.1.length, rfl, lx, _, _, rfl, rfl, mulc (by omega) (by omega), _, rfl, _, rfl, _, rfl, _, M.1.length, rfl, lx, _, _, rfl, rfl, mulc (by omega) (by omega), _, rfl, _, M.1.length, rfl, lx, _, _, rfl, rfl, _, rfl, ?_⟩
      rw [e]
      have hi' : i < (gl M.2 0).length := hi
      refine ⟨c, cs, rfl, SqL.of (gr.ih _ _ hc), fun l hl => ?_⟩
      rw [cutV_nat (by rw [c2.len, cq.len]; exact blk_le hi')]
      have nlR : R ≠ l := ne_of_none hR hl
      refine ⟨_, rfl, _, rfl, R, vsR, (sn : Int), sn, rfl, rfl, by rw [upd_ne nlR]; exact hR, (show ixN vsR.length (sn : Int) = some sn from ?_), ?_⟩
      · unfold ixN
        rw [if_pos (by omega), if_pos (by omega)]; rfl
      have RS : R ∈ S := by rw [qL]; exact List.mem_cons_of_mem _ (mem_fl (List.mem_of_getElem? hzb) (by rw [qB]; exact List.mem_cons_of_mem _ (mem_fl (List.mem_of_getElem? hzr) (by rw [qR]; exact List.mem_cons_self))))
      obtain ⟨fR, iRn⟩ := fr R RS
      have gl1 := gr.trans (Gr.tmp (ms := [p]) (o := .lst ((cs.drop (i * M.1.length)).take M.1.length)) gr.ih hl)
      have gl2 := ((gl1.mono (ns := [R, p]) fun _ z => List.mem_cons_of_mem _ z).trans (Gr.mut (o := .lst (vsR.set sn (.ref l))) gl1.ih iRn List.mem_cons_self)).drop fR
      have same : ∀ b o, b ≠ R → H3 b = some o → upd (upd H3 l (.lst ((cs.drop (i * M.1.length)).take M.1.length))) R (.lst (vsR.set sn (.ref l))) b = H3 b := fun b o n e => by
        rw [upd_ne n, upd_ne (ne_of_none e hl)]
      have ol : oL (o0 iQ) I1 (upd (upd H3 l (.lst ((cs.drop (i * M.1.length)).take M.1.length))) R (.lst (vsR.set sn (.ref l)))) (.ref l) ((qs.drop (i * M.1.length)).take M.1.length, [l]) :=
        oL_leaf (by rw [upd_ne (Ne.symm nlR)]; exact upd_same) (c2.cut _ _)
      have ndL : (L :: (zsL.map Prod.snd).flatten).Nodup := by rw [← qL]; exact nd
      have ndB : (B :: (zsB.map Prod.snd).flatten).Nodup := by rw [← qB]; exact nd_of (List.nodup_cons.mp ndL).2 (List.mem_of_getElem? hzb)
      have ndR : (R :: (zsR.map Prod.snd).flatten).Nodup := by rw [← qR]; exact nd_of (List.nodup_cons.mp ndB).2 (List.mem_of_getElem? hzr)
      obtain ⟨oR, nR⟩ := oL_put hR aR ndR hzl upd_same ol (z := zl) (z' := ((qs.drop (i * M.1.length)).take M.1.length, [l])) ⟨by simp, fun a ha => .inr (by rw [List.mem_singleton.mp ha]; exact hl)⟩ same
      obtain ⟨oB, nB⟩ := oL_set hB aB ndB hur hzr oR (by rw [qR]; exact nR) (fun a o n e => same a o (fun z => n (by rw [qR, z]; exact List.mem_cons_self)) e)
      obtain ⟨oL', nL⟩ := oL_set hL aL ndL hub hzb oB (by rw [qB]; exact nB) (fun a o n e => same a o (fun z => n (by rw [qB, z]; exact List.mem_cons_of_mem _ (mem_fl (List.mem_of_getElem? hzr) (by rw [qR]; exact List.mem_cons_self)))) e)
      refine ⟨_, _, _, _, rfl, gl2, (po2.mutO (po2.ne hl) (gr.ih.free hl)).mutO (po.ne fR) iRn, oL', nL.nd, fun a ha => ?_, ?_⟩
      · rcases nL.so a ha with h | h
        · exact fr a (by rw [qL]; exact h)
        · exact ⟨gr.none h, gr.ih.free h⟩
      · dsimp only
        rw [← pL, ← pB, ← pR, ezb, ezr]
        exact chs
    clear g1 po1 o4 nd fr S H1
    rintro σ' H1 ⟨v9, v11, mv, S, rfl, g1, po1, o4, nd, fr, ch⟩
    have gp := gr_put (S := S) (ms := [p]) (g1.mono fun _ z => List.mem_append_right _ z) s0 fun a ha => (fr a ha).1
    have pS : p ∉ S := fun h => po.ne (fr p h).1 rfl
    have ii := put_ii (S := S) g1.ih
    have o5 : O4 (put S I1 H1) (put S I1 H1) (.ref L) (mv, S) := Ow.fr ii (fun a (ha : a ∈ S) => put_in ha) o4
    have r4 : iL (iL (iL (iL iQ))) (put S I1 H1) (.ref L) mv := Fz'.to (O := O4) o5
    refine ⟨_, rfl, _, rfl, (by show 2 ≤ sizeLine; decide), fun t ht => ?_⟩
    have g6 := Gr.new (ms := []) (o := .tup [xm, .ref L]) gp.ih ht
    have fn' := ch.none fn hsn cq
    exact k _ _ _ (M.1, mv) (gp.trans g6.nil) ((po1.sub ii (by rw [put_out pS]; exact po1.1)).up g6 (by simp)) ⟨t, _, _, rfl, upd_same, up g6.ii (up gp.ii rx), up g6.ii r4⟩ fn' (ch.g fn fn' ok cq)
end
end K

set_option Elab.async false
set_option linter.all false
set_option maxRecDepth 100000
set_option maxHeartbeats 4000000
set_option exponentiation.threshold 5000
namespace Tk
open PySem PySem.Spec PyProof.Rows L2
theorem pe_never {X : Cx} {e : Expr} : PE X e (fun _ _ _ => False) := ⟨fun _ _ _ _ _ _ h => h.elim⟩
end Tk
namespace K
open PySem PySem.Spec PyProof.Rows L2 Tk Hd Mt
/-- tuples, so deep -/
def TT : Nat → Hp → V → Prop
  | 0, H, v => ∃ a vs, v = .ref a ∧ H a = some (.tup vs)
  | n + 1, H, v => ∃ a vs, v = .ref a ∧ H a = some (.tup vs) ∧ vs.length ≤ 1000 ∧ ∀ u ∈ vs, TT n H u
theorem TT.up : ∀ {n : Nat} {H H' : Hp} {v : V}, Same H H' → TT n H v → TT n H' v
  | 0, _, _, _, s, ⟨a, vs, e, h⟩ => ⟨a, vs, e, s _ _ h⟩
  | n + 1, _, _, _, s, ⟨a, vs, e, h, l, k⟩ => ⟨a, vs, e, s _ _ h, l, fun u hu => (k u hu).up s⟩
theorem TT.tup {n : Nat} {H : Hp} {v : V} (h : TT n H v) : ∃ a vs, v = .ref a ∧ H a = some (.tup vs) := by
  cases n with
  | zero => exact h
  | succ n => obtain ⟨a, vs, e, h, _⟩ := h; exact ⟨a, vs, e, h⟩
theorem inV_none : ∀ zs : List Bool, (∀ z ∈ zs, z = true) → inV (.bl false) (zs.map V.bl) = false ∧ (zs.map V.bl).all flatV = true
  | [], _ => ⟨rfl, rfl⟩
  | z :: r, h => by
    obtain ⟨h1, h2⟩ := inV_none r fun z hz => h z (List.mem_cons_of_mem _ hz)
    have e := h z List.mem_cons_self
    subst e
    refine ⟨?_, ?_⟩
    · rw [List.map_cons, inV, List.any_cons, Bool.or_eq_false_iff]
      exact ⟨rfl, h1⟩
    · rw [List.map_cons, List.all_cons, h2]; rfl
theorem all2_each {α : Type} {R : V → α → Prop} : ∀ {vs : List V} {xs : List α} {u : V}, All2 R vs xs → u ∈ vs → ∃ x ∈ xs, R u x
  | _, _, _, .nil, h => by cases h
  | _, _, u, .cons a t, h => by
    rcases List.mem_cons.mp h with rfl | h
    · exact ⟨_, List.mem_cons_self, a⟩
    · obtain ⟨x, hx, r⟩ := all2_each t h
      exact ⟨x, List.mem_cons_of_mem _ hx, r⟩
theorem tt_T {α : Type} {R : Rp α} {n : Nat} {H : Hp} {v : V} {xs : List α} (h : iT R H v xs) (l : xs.length ≤ 1000) (k : ∀ u x, x ∈ xs → R H u x → TT n H u) : TT (n + 1) H v := by
  obtain ⟨a, vs, e, ha, a2⟩ := h
  refine ⟨a, vs, e, ha, by rw [a2.len]; exact l, fun u hu => ?_⟩
  obtain ⟨x, hx, r⟩ := all2_each a2 hu
  exact k u x hx r
theorem tt_mv {C : Addr} {H : Hp} {v : V} {st : List Rat} {mv : List (List Rows)} (h : iMv C H v mv) (fn : FNone st mv) : TT 3 H v := by
  have na := fn.a
  have nb := fn.b
  have nc := fn.c
  refine tt_T h (by omega) fun u p hp r => tt_T r (by have := fn.c2 p hp; omega) fun u2 x hx r2 => ?_
  obtain ⟨q1, q2⟩ := sq_len (fn.d p hp x hx)
  refine tt_T r2 (by omega) fun u3 y hy r3 => ?_
  obtain ⟨a, vs, e, ha, _⟩ := r3
  exact ⟨a, vs, e, ha⟩
section
variable {P : Program} {w : World} {K : PySem.W.Frag} {mg : Str → Option Value} {base : Heap}
def spTup (n : Nat) : Sp := fun vs H Q _ => ∃ (I : Hp) (v : V), vs = [v, .int n] ∧ Same I H ∧ TT n I v ∧ ∀ I' H', Gr [] I H I' H' → Q (.bl true) H'
theorem sc_tuples : FnScope ["rows", "deep", "row"] ["rows", "deep"] (defScope s__law_tuples) := ⟨rfl, rfl, rfl, by decide +kernel, rfl, by decide +kernel, by decide +kernel⟩
theorem ok_tup0 (D : Dt K mg) : Has P w K mg base 1 (He.ga K "_law_tuples") ["rows", "deep"] [] (spTup 0) := by
  obtain ⟨fd, F⟩ := fd__law_tuples D
  refine hasN F (F.bindsN fun _ _ _ _ _ _ us hl => match us, hl with | [_, _], _ => rfl) sc_tuples (fun vs H Q E h => ?_) (fun cdv A outer s H vs Q E hr h => ?_)
  · obtain ⟨I, v, rfl, _⟩ := h; rfl
  · obtain ⟨I, v, rfl, s0, ⟨a, vs, rfl, ha⟩, k⟩ := h
    refine ⟨_, (pss_cons (ps_if (pt_not (pt_val (pe_callB (call_isiK K) rfl (free_isinstance D) (by decide +kernel) (pa_cons (pv 0) (pa_cons (pe_bltn (v := .ty "tuple") rfl (free_tuple D) (by decide +kernel) rfl) pa_nil)))))
      (pss_one (ps_ret pe_bl))
      pss_nil)
      (pss_one (ps_ret (pe_or (pe_cmpR op_eq (pv 1) pe_int (nomark _)) pe_never)))), ?_⟩
    refine ⟨_, rfl, _, _, _, _, true, rfl, .ty "tuple", .base (.tup (s0 _ _ ha)), rfl, _, rfl, ifF rfl ?_⟩
    exact ⟨_, rfl, rfl, _, rfl, ifT rfl (k _ _ (Gr.refl s0))⟩
theorem ok_tupS (D : Dt K mg) (n : Nat) (H__law_tuples : Has P w K mg base (n + 1) (He.ga K "_law_tuples") ["rows", "deep"] [] (spTup n)) : Has P w K mg base (n + 1 + 1) (He.ga K "_law_tuples") ["rows", "deep"] [] (spTup (n + 1)) := by
  obtain ⟨fd, F⟩ := fd__law_tuples D
  refine hasN F (F.bindsN fun _ _ _ _ _ _ us hl => match us, hl with | [_, _], _ => rfl) sc_tuples (fun vs H Q E h => ?_) (fun cdv A outer s H vs Q E hr h => ?_)
  · obtain ⟨I, v, rfl, _⟩ := h; rfl
  · obtain ⟨I, v, rfl, s0, ⟨a, vs, rfl, ha, hl, hu⟩, k⟩ := h
    refine ⟨_, (pss_cons (ps_if (pt_not (pt_val (pe_callB (call_isiK K) rfl (free_isinstance D) (by decide +kernel) (pa_cons (pv 0) (pa_cons (pe_bltn (v := .ty "tuple") rfl (free_tuple D) (by decide +kernel) rfl) pa_nil)))))
      (pss_one (ps_ret pe_bl))
      pss_nil)
      (pss_one (ps_ret (pe_or (pe_cmpR op_eq (pv 1) pe_int (nomark _)) (pe_one (pe_cmpR op_notIn_seq pe_bl (pe_lc (own := [("row", 2)]) (g := gName 2) rfl sc_tuples.nd (pi_tupK K (pv 0)) (blkOk_by (own := [("row", 2)]) (N := ["rows", "deep", "row"]) (by kernel_rfl)) (fun _ _ _ _ _ => (pg_name (i := 2) sc_tuples.nd rfl (Or.inl rfl))) (fun _ _ _ _ _ => pts_nil) (fun _ _ _ _ _ => (pe_callH H__law_tuples hr rfl (glo__law_tuples D) passL (pa_cons (pv 2) (pa_cons (pe_op op_sub (pv 1) pe_int) pa_nil))))) rfl)))))), ?_⟩
    refine ⟨_, rfl, _, _, _, _, true, rfl, .ty "tuple", .base (.tup (s0 _ _ ha)), rfl, _, rfl, ifF rfl ?_⟩
    refine ⟨_, rfl, rfl, _, rfl, ?_⟩
    rw [show (V.int 0) = V.int ((0 : Nat) : Int) from rfl, dec_vi]
    refine ifF (decide_eq_false (by omega)) ?_
    refine ⟨_, rfl, a, rfl, ⟨_, SqT.of (s0 _ _ ha)⟩, fun l hD => lc_wk [] iB (fun _ b => b = true) (fun _ _ => True) (wk_tup ha) s0 hD (by simp) (lt_line (by omega)) stb_true trivial (fun i I' H' Nx Qk hi s1 s2 _ kk => ?_) (fun I' H' ys zs g1 hD' b2 hn rl _ => ?_)⟩
    · have hm : gv vs i ∈ vs := List.mem_of_getElem? (gv_at hi)
      refine ⟨rfl, _, rfl, _, rfl, _, _, rfl, rfl, I', _, ?_, s2, (hu _ hm).up s1, fun I2 H2 g2 => kk _ _ _ _ g2 trivial rfl rfl⟩
      show [gv vs i, V.int (((n + 1 : Nat) : Int) - 1)] = _
      rw [show (((n + 1 : Nat) : Int) - 1) = (n : Int) from by omega]
    · have hz : ∀ z ∈ zs, z = true := fun z hz => by
        obtain ⟨i, hi, e⟩ := List.getElem_of_mem hz
        exact rl i z (by rw [List.getElem?_eq_getElem hi, e])
      obtain ⟨h1, h2⟩ := inV_none zs hz
      refine ⟨_, _, rfl, .inl (SqL.of (g1.ih _ _ hD')), rfl, by rw [bls_of b2]; exact h2, ?_⟩
      rw [bls_of b2, h1]
      exact k _ _ g1
theorem ok_tuples (D : Dt K mg) : ∀ n, Has P w K mg base (n + 1) (He.ga K "_law_tuples") ["rows", "deep"] [] (spTup n)
  | 0 => ok_tup0 D
  | n + 1 => ok_tupS D n (ok_tuples D n)
end
end K

set_option Elab.async false
set_option linter.all false
set_option maxRecDepth 100000
set_option maxHeartbeats 4000000
set_option exponentiation.threshold 5000
namespace K
open PySem PySem.Spec PyProof.Rows L2 Tk Hd Mt
/-! the data that the law compares -/
def dQ (q : Rat) : PyData := .tuple [.int q.num, .int q.den]
abbrev dRow (l : List Rat) : PyData := .list (l.map dQ)
abbrev dRows (l : Rows) : PyData := .list (l.map dRow)
abbrev dPart (l : List Rows) : PyData := .list (l.map dRows)
abbrev dMv (l : List (List Rows)) : PyData := .list (l.map dPart)
abbrev dMa (M : Ma) : PyData := .tuple [dRow M.1, dMv M.2]
theorem eqv_list {α : Type} [DecidableEq α] {f : α → PyData} (h : ∀ x y, PyData.eqv (f x) (f y) = decide (x = y)) : ∀ xs ys : List α, PyData.eqvAll (xs.map f) (ys.map f) = decide (xs = ys)
  | [], [] => by simp [PyData.eqvAll]
  | [], y :: s => by simp [PyData.eqvAll]
  | x :: r, [] => by simp [PyData.eqvAll]
  | x :: r, y :: s => by
    rw [List.map_cons, List.map_cons, PyData.eqvAll, h, eqv_list h r s, ← Bool.decide_and]
    exact decide_eq_decide.mpr (by simp)
theorem eqv_l {α : Type} [DecidableEq α] {f : α → PyData} (h : ∀ x y, PyData.eqv (f x) (f y) = decide (x = y)) (xs ys : List α) : PyData.eqv (.list (xs.map f)) (.list (ys.map f)) = decide (xs = ys) := by
  rw [PyData.eqv]; exact eqv_list h xs ys
theorem eqv_q (p q : Rat) : PyData.eqv (dQ p) (dQ q) = decide (p = q) := by
  rw [Bool.eq_iff_iff, decide_eq_true_iff, eq_parts]
  simp [dQ, PyData.eqv, PyData.eqvAll]
theorem eqv_row (a b : List Rat) : PyData.eqv (dRow a) (dRow b) = decide (a = b) := eqv_l eqv_q a b
theorem eqv_mv (a b : List (List Rows)) : PyData.eqv (dMv a) (dMv b) = decide (a = b) := eqv_l (eqv_l (eqv_l (eqv_l eqv_q))) a b
theorem eqv_ma (A B : Ma) : PyData.eqv (dMa A) (dMa B) = decide (A = B) := by
  show PyData.eqv (.tuple _) (.tuple _) = _
  rw [PyData.eqv, PyData.eqvAll, PyData.eqvAll, PyData.eqvAll, eqv_row, eqv_mv, Bool.and_true, ← Bool.decide_and]
  exact decide_eq_decide.mpr ⟨fun ⟨h1, h2⟩ => Prod.ext h1 h2, fun h => by rw [h]; exact ⟨rfl, rfl⟩⟩
structure Shp (n : Nat) (d : PyData) : Prop where
  l : PyData.canLay0 d = true
  d : PyData.depth d ≤ n
theorem Shp.all {α : Type} {n : Nat} {f : α → PyData} (h : ∀ x, Shp n (f x)) : ∀ xs : List α, PyData.canLayAll0 (xs.map f) = true ∧ PyData.depthAll (xs.map f) ≤ n
  | [] => by simp [PyData.canLayAll0, PyData.depthAll]
  | x :: r => by
    obtain ⟨h1, h2⟩ := Shp.all h r
    have := h x
    simp [PyData.canLayAll0, PyData.depthAll, h1, this.l]
    exact Nat.max_le.mpr ⟨this.d, h2⟩
theorem Shp.list {α : Type} {n : Nat} {f : α → PyData} (h : ∀ x, Shp n (f x)) (xs : List α) : Shp (n + 1) (.list (xs.map f)) := by
  obtain ⟨h1, h2⟩ := Shp.all h xs
  exact ⟨h1, by show PyData.depthAll _ + 1 ≤ n + 1; omega⟩
theorem shp_q (q : Rat) : Shp 1 (dQ q) := ⟨by simp [dQ, PyData.canLay0, PyData.canLayAll0], by simp [dQ, PyData.depth, PyData.depthAll]⟩
theorem shp_row (l : List Rat) : Shp 2 (dRow l) := Shp.list shp_q l
theorem shp_mv (l : List (List Rows)) : Shp 5 (dMv l) := Shp.list (Shp.list (Shp.list (Shp.list shp_q))) l
theorem shp_ma (M : Ma) : Shp 6 (dMa M) := by
  have a := shp_row M.1
  have b := shp_mv M.2
  refine ⟨?_, ?_⟩
  · show PyData.canLay0 (.tuple _) = true
    rw [PyData.canLay0, PyData.canLayAll0, PyData.canLayAll0, PyData.canLayAll0, a.l, b.l]; rfl
  · show PyData.depth (.tuple _) ≤ 6
    rw [PyData.depth, PyData.depthAll, PyData.depthAll, PyData.depthAll]
    have := a.d
    have := b.d
    omega
theorem Shp.shaped {n : Nat} {d : PyData} (h : Shp n d) (k : n ≤ 64) : SeqAt.shaped d = true := by
  unfold SeqAt.shaped
  rw [Bool.and_eq_true, decide_eq_true_iff]
  exact ⟨h.l, Nat.le_trans h.d k⟩
section
variable {K : PySem.W.Frag} {I H : Hp}
theorem dp_q (s : Same I H) {v : V} {q : Rat} (h : iQ I v q) : Dp K H v (dQ q) := by
  obtain ⟨a, rfl, ha⟩ := h
  exact .tup (SqT.of (s _ _ ha)) (.cons (.int _) (.cons (.int _) .nil))
theorem dp_all {α : Type} {R : Rp α} {f : α → PyData} (h : ∀ v x, R I v x → Dp K H v (f x)) : ∀ {vs : List V} {xs : List α}, All2 (R I) vs xs → DpAll K H vs (xs.map f)
  | _, _, .nil => .nil
  | _, _, .cons a t => .cons (h _ _ a) (dp_all h t)
theorem dp_l {α : Type} {R : Rp α} {f : α → PyData} (s : Same I H) (h : ∀ v x, R I v x → Dp K H v (f x)) {v : V} {xs : List α} (r : iL R I v xs) : Dp K H v (.list (xs.map f)) := by
  obtain ⟨a, vs, rfl, ha, a2⟩ := r
  exact .lst (SqL.of (s _ _ ha)) (dp_all h a2)
theorem dp_row (s : Same I H) {v : V} {l : List Rat} (r : iL iQ I v l) : Dp K H v (dRow l) := dp_l s (fun _ _ h => dp_q s h) r
theorem dp_mv (s : Same I H) {v : V} {l : List (List Rows)} (r : iL (iL (iL (iL iQ))) I v l) : Dp K H v (dMv l) := dp_l s (fun _ _ h => dp_l s (fun _ _ h => dp_l s (fun _ _ h => dp_l s (fun _ _ h => dp_q s h) h) h) h) r
theorem dp_ma (s : Same I H) {v : V} {M : Ma} (r : iLM I v M) : Dp K H v (dMa M) := by
  obtain ⟨a, x, y, rfl, ha, r1, r2⟩ := r
  exact .tup (SqT.of (s _ _ ha)) (.cons (dp_row s r1) (.cons (dp_mv s r2) .nil))
/-- two machines' data, not the same? -/
theorem ne_ma (s : Same I H) {x y : V} {A B : Ma} {Q : VK} (r1 : iLM I x A) (r2 : iLM I y B) (k : Q (.bl (!decide (A = B))) H) : rNeD K x y H Q :=
  ⟨_, _, dp_ma s r1, dp_ma s r2, (shp_ma A).shaped (by decide), (shp_ma B).shaped (by decide), by rw [eqv_ma]; exact k⟩
theorem eq_ma (s : Same I H) {x y : V} {A B : Ma} {Q : VK} (r1 : iLM I x A) (r2 : iLM I y B) (k : Q (.bl (decide (A = B))) H) : rEqD K x y H Q :=
  ⟨_, _, dp_ma s r1, dp_ma s r2, (shp_ma A).shaped (by decide), (shp_ma B).shaped (by decide), by rw [eqv_ma]; exact k⟩
theorem ne_mv (s : Same I H) {x y : V} {A B : List (List Rows)} {Q : VK} (r1 : iL (iL (iL (iL iQ))) I x A) (r2 : iL (iL (iL (iL iQ))) I y B) (k : Q (.bl (!decide (A = B))) H) : rNeD K x y H Q :=
  ⟨_, _, dp_mv s r1, dp_mv s r2, (shp_mv A).shaped (by decide), (shp_mv B).shaped (by decide), by rw [eqv_mv]; exact k⟩
theorem eq_row (s : Same I H) {x y : V} {A B : List Rat} {Q : VK} (r1 : iL iQ I x A) (r2 : iL iQ I y B) (k : Q (.bl (decide (A = B))) H) : rEqD K x y H Q :=
  ⟨_, _, dp_row s r1, dp_row s r2, (shp_row A).shaped (by decide), (shp_row B).shaped (by decide), by rw [eqv_row]; exact k⟩
end
theorem unit_num (b : Bool) : (if b then (1 : Rat) else 0).num = (if b then 1 else 0) ∧ ((if b then (1 : Rat) else 0).den : Int) = 1 := by cases b <;> exact ⟨rfl, rfl⟩
/-- drawn with a heap of less: the same with one of more -/
theorem gr_over {ms : List Addr} {I0 I H H' : Hp} (g : Gr ms I0 H I0 H') (s : Same I H) (n : ∀ m ∈ ms, I m = none) : Gr ms I H I H' :=
  ⟨Same.refl I, fun a o e => g.hh a o (fun z => by rw [n a z] at e; cases e) (s a o e), g.hh, g.th, fun _ _ e _ => e⟩
end K

set_option Elab.async false
set_option linter.all false
set_option maxRecDepth 100000
set_option maxHeartbeats 4000000
/-! Errors with an own __init__ whose context is None; C(..) in a try that lets them out; own defs called in the suite. -/
namespace Tk
open PySem PySem.Spec PyProof.Rows L2
section
variable {X : Cx} {CXx : CXT} {k : Nat} {f C : Addr} {fd : FuncData} {fld : Str} {ps : List Str} {sp : Sp} {dvs : List V} {E : L2.St → XK} {x : Str} {p pos : Pos} {e : Expr} {es : List Expr} {ta : TA}
theorem pmk_oexN (T : OexF X.K C f fld) (h : HasX X k f ps dvs sp) (hr : Room (k + 1) X.A) (hg : Gl X x) (hm : X.mg x = some (.ref C)) (ha : PA X (e :: es) ta)
    (hdb : (x == ("__debug__" : Str)) = false := by decide) (he : starEach (e :: es) X.env = (false, eval e X.env) :: starEach es X.env := by rfl) (hpl : (backTo pos (starEach es X.env)).any (·.1) = false := by rfl) :
    L2N.PMk X (.Call (.Name x p) (e :: es) [] pos) (tMkO C sp dvs ta) := by
  obtain ⟨_, gd, ds, hd, hb, G⟩ := h
  obtain ⟨c1, c2, c3, c4, c5, c6, c7, c8, c9, c10, m0, m1, m2, m3, m5, hC, hve⟩ := T.T.cls
  intro pins s0 σ H Q I0 wish
  refine wpAny_Call_Name_kw (ld_glob I0 hg hm (PySem.W.callWith_K (h₀ := X.base) I0.ok.mod.kin T.T.kC (thn (ha.run pos pins s0 σ H _ I0 wish) ?_) he hpl) hdb)
  rintro us ⟨h0, gn, dw, tt, oo⟩ ⟨ws, Ha, J0, rws, hsize, q0⟩
  refine ⟨J0.kIn, ?_⟩
  let a := h0.objs.size + 1
  have le : h0.objs.size ≤ a := Nat.le_succ _
  have fresh : Ha a = none := J0.hok.fresh le
  have q1 := q0 a fresh
  let h1 := (h0.push (PySem.W.kdv_tup us)).push (PySem.HandSPX.excO C h0.objs.size)
  have stays : ∀ b o, h0.get? b = some o → h1.get? b = some o := fun b o z => Heap.get?_push_of_some _ (Heap.get?_push_of_some _ z)
  have at_a : h1.get? a = some (PySem.HandSPX.excO C h0.objs.size) := by
    show ((h0.push (PySem.W.kdv_tup us)).push (PySem.HandSPX.excO C h0.objs.size)).get? (h0.objs.size + 1) = _
    heap_get
  have J1 : Inv X pins σ (upd Ha a (exo a C none)) ⟨h1, gn, dw, tt, oo⟩ := J0.laid (t' := tt) (a := a) (o := exo a C none) (h' := h1) stays le (exo_ok at_a)
  have rr : Vals (V.ref a :: (ws ++ dvs)) (Value.ref a :: (us ++ ds)) := .cons rfl (rws.append hd)
  have ll : (Value.ref a :: us ++ ds).length = ps.length := (show (Value.ref a :: (us ++ ds)).length = _ from (G.len _ _ _ _ q1 ▸ rr.length.symm : _))
  have small : us.length ≤ sizeLine := by
    have z := Paired.length rws
    rw [sizeLine_eq] at *
    omega
  have body := G.run _ X.stack _ _ ⟨Value.ref a :: us, []⟩ (Value.ref a :: (us ++ ds)) _ _ (fun _ _ _ => False) (hr.make C us []) (J1.env0.make C us []) (hb _ (Value.ref a :: us) J1.kIn ll) rr q1
  refine wpAny_call (PySem.HandSPX.call_own F.excBase_ValueError (fun Y => PySem.HandSPX.refsVE_contains Y c5 hve) (J0.kIn _ _ hC) (PySem.W.looks_findIn J0.kIn T.iC) (fun self => PySem.W.bind_fn J0.kIn self T.tI) small (codeAny_mono body ?_))
  intro res s2 got
  cases res with
  | error er => exact (cx_none got).elim
  | ok fl =>
    cases fl with
    | ret u =>
      obtain ⟨h2, g2, d2, t2, o2⟩ := s2
      obtain ⟨v, Hb, eo, bare, un, ok2, rv, ev, d, fs, e1, e2, e3, q2⟩ := got
      subst ev
      obtain ⟨t0, hI, J2, kI, nI, there, nHa⟩ := mk_end0 (d2 := d2) (t2 := t2) J0 le stays un ok2 eo bare e1 e2 e3
      exact ⟨rv, a, _, _, ⟨hI, g2, d2, t2, o2⟩, _, .ref C, some d, rfl, J2, kI, nI, there, ⟨rfl, rfl, fun vs z => by cases z; rfl⟩, rfl, rfl, nHa, rfl, bare, raises_own T.T.exC T.T.tyC, q2⟩
    | next => exact got.elim
    | brk => exact got.elim
    | cont => exact got.elim
/-- C(e, ..) in a try, whatever errors' kind -/
theorem pe_makeSN {ds : List Value} (M : Mk X.K C f) (G : FnOk X.prog X.w X.K X.mg X.base CXx k f fd ps sp) (hb : Binds X.K fd ps ds) (hd : Vals dvs ds) (hr : Room (k + 1) X.A) (hg : Gl X x) (hm : X.mg x = some (.ref C)) (hx : ∀ σ, PassesAt CXx X σ (E σ)) (ha : PA X (e :: es) ta)
    (hdb : (x == ("__debug__" : Str)) = false := by decide) (he : starEach (e :: es) X.env = (false, eval e X.env) :: starEach es X.env := by rfl) (hpl : (backTo pos (starEach es X.env)).any (·.1) = false := by rfl) :
    PE X (.Call (.Name x p) (e :: es) [] pos) (tMakeS C sp dvs E ta) := by
  constructor
  intro pins s σ H Q I hq0
  refine wpAny_Call_Name_kw (ld_glob I hg hm (PySem.W.callWith_K (h₀ := X.base) I.ok.mod.kin M.kp (thn (ha.run pos pins s σ H _ I hq0) ?_) he hpl) hdb)
  rintro us s1 ⟨vs, H1, I1, r, q⟩
  refine ⟨I1.kIn, ?_⟩
  have q' := q (s1.heap.objs.size + 1) s1.heap.objs.size (I1.hok.fresh (Nat.le_succ _)) (I1.hok.fresh (Nat.le_refl _)) (Nat.ne_of_lt (Nat.lt_succ_self _))
  have I2 := Inv.made (C := C) I1
  have rr : Vals (V.ref (s1.heap.objs.size + 1) :: (vs ++ dvs)) (Value.ref (s1.heap.objs.size + 1) :: us ++ ds) := .cons rfl (r.append hd)
  have hl := rr.length.symm.trans (G.len _ _ _ _ q')
  have go := G.run _ X.stack _ _ ⟨Value.ref (s1.heap.objs.size + 1) :: us, []⟩ _ _ _ _ (hr.make C us []) (I2.env0.make C us []) (hb _ _ I2.kIn hl) rr q'
  refine wpAny_call (make_map (f := f) I1.kIn M.makes M.init (beq_iff_eq.mp M.fn) (codeAny_mono go ?_))
  intro res s' z
  cases res with
  | error err => exact hx σ pins _ _ err s' I2 z
  | ok fl => cases fl with
    | ret u =>
      obtain ⟨v, H', I3, rv, ev, q3⟩ := I2.after z
      subst ev
      exact ⟨rv, V.ref (s1.heap.objs.size + 1), H', I3, rfl, q3⟩
    | _ => exact False.elim z
theorem hot_suite {a : Addr} {oe : Obj} {cls : Value} {d : Option Addr} {pn : List (Addr × Obj)} (hz : L2N.Zn cls d oe) (hf : ∃ vs, oe.data = .fields vs) : L2H.HotC (X.suite a ((a, oe) :: pn)) := by
  obtain ⟨vs, h⟩ := hf
  exact ⟨(a, oe), ⟨rfl, vs, h, hz.2.2 vs h⟩, List.mem_cons_self⟩
end
section
variable {P : Program} {w : World} {K : PySem.W.Frag} {mg : Str → Option Value} {base : Heap} {x qual : Str} {st : Stmt} {f : Addr} {fd : FuncData} {N ps : List Str} {k : Nat} {sp : Sp}
/-- such a def, as it is called within an except suite -/
theorem fnHot (F : FnQ K x qual st [] f fd) (S : FnScope N ps (defScope st)) (len : ∀ vs H Q E, sp vs H Q E → vs.length = ps.length)
    (hbody : ∀ (cdv : Value) (A : Around) (outer : List Env) (s : Shared) (H : Hp) (vs : List V) (Q : VK) (E : XK) (p : Addr × Obj), L2H.RoomH k (A.deeper (envOfC qual (defScope st) s.heap.objs.size f cdv)) → sp vs H Q E →
      ∃ t, PSs (L2H.cxH (L2.CX P w) P w K mg base N qual (defScope st) f cdv A outer s H E p) (defBody st) t ∧ t { nx := fun _ H' => Q .non H', rt := Q } (start N vs) H) :
    L2H.FnH P w K mg base (L2.CX P w) (k + 1) f fd ps sp := by
  obtain ⟨oc, od, dV, kV, doc, pm, an, cdv, ct, osl, rfl, lk, hcd, _, _⟩ := F.ex
  exact L2H.fn_ofH lk hcd S len fun A outer s H vs Q E p _ hr hsp => hbody cdv A outer s H vs Q E p hr hsp
end
end Tk

set_option Elab.async false
set_option linter.all false
set_option maxRecDepth 100000
set_option maxHeartbeats 4000000
set_option exponentiation.threshold 5000
namespace K
open PySem PySem.Spec PyProof.Rows L2 Tk Hd Mt
section
variable {P : Program} {w : World} {K : PySem.W.Frag} {mg : Str → Option Value} {base : Heap}
theorem ok_minitN (D : Dt K mg) : ∃ fd : FuncData, L2.Binds K fd ["self", "start", "moves"] [] ∧ FnOk P w K mg base (L2N.CX P w) 8 (He.ma K (CM K) "__init__") fd ["self", "start", "moves"] (spMInit (CR K) (CM K) (CBM K)) := by
  obtain ⟨fd, F⟩ := fd_Machine_init D
  have H__table := ok_table (P := P) (w := w) (base := base) D
  have H__fault := ok_fault (P := P) (w := w) (base := base) D
  have H_BM := ok_bm (P := P) (w := w) (base := base) D
  refine ⟨fd, (F.bindsN fun _ _ _ _ _ _ us hl => match us, hl with | [_, _, _], _ => rfl), F.ok sc_minit (fun vs H Q E h => ?_) (fun cdv A outer s H vs Q E hr h => ?_)⟩
  · obtain ⟨I, x, dx, a, b, M, rfl, _⟩ := h; rfl
  · obtain ⟨I, x, dx, va, vb, M, rfl, s0, hI, hx, ra, rb, ok, k, kE⟩ := h
    obtain ⟨b, ws, rfl, hb, b2⟩ := id rb
    have hlb := b2.len
    have z1 := ok.z1
    refine ⟨_, (pss_cons (ps_fld (pv 0) (pe_callTy (call_tuple_ofK K) rfl (free_tuple D) (by decide +kernel) (pa_cons (pv 1) pa_nil)) rfl)
      (pss_cons (ps_fld (pv 0) (pe_callTy (call_tuple_ofK K) rfl (free_tuple D) (by decide +kernel) (pa_cons (pe_lc (own := [("parts", 4)]) (g := gName 4) rfl sc_minit.nd (pi_ltK K (pv 2)) (blkOk_by (own := [("parts", 4)]) (N := ["self", "start", "moves", "rows", "parts", "why"]) (by kernel_rfl)) (fun _ _ _ _ _ => (pg_name (i := 4) sc_minit.nd rfl (Or.inl rfl))) (fun _ _ _ _ _ => pts_nil) (fun _ _ _ _ _ => (pe_callTy (call_tuple_ofK K) rfl (free_tuple D) (by decide +kernel) (pa_cons (pe_lc (own := [("rows", 3)]) (g := gName 3) rfl sc_minit.nd (pi_ltK K (pv 4)) (blkOk_by (own := [("rows", 3)]) (N := ["self", "start", "moves", "rows", "parts", "why"]) (by kernel_rfl)) (fun _ _ _ _ _ => (pg_name (i := 3) sc_minit.nd rfl (Or.inl rfl))) (fun _ _ _ _ _ => pts_nil) (fun _ _ _ _ _ => (pe_callH H__table (hr.mono (by decide)) rfl (glo__table D) passL (pa_cons (pv 3) pa_nil)))) pa_nil)))) pa_nil)) rfl)
      (pss_cons (ps_set (i := 5) sc_minit.nd rfl (Or.inl rfl) (pe_callH H__fault (hr.mono (by decide)) rfl (glo__fault D) passL (pa_cons (pe_fldK K (pv 0) rfl) (pa_cons (pe_fldK K (pv 0) rfl) pa_nil))))
      (pss_one (ps_if (pt_cmpR op_notN (pv 5) pe_non (nomark _))
      (pss_one (L2N.ps_raise rfl (L2N.takes_of rfl rfl rfl rfl) (pmk_oexN (oex_BadMachine (K := K) D) H_BM (hr.mono (by decide)) rfl (glo_BadMachine D) (pa_cons (pv 5) pa_nil))))
      pss_nil))))), ?_⟩
    (try dsimp only)
    refine seq_cut (fun σ' H1 => ∃ (I1 : Hp) (v1 : V), σ' = [some (.ref x), some va, some (.ref b), none, none, none] ∧ Gr [x] I H I1 H1 ∧ H1 x = some (.ins (CM K) dx (putF "start" v1 [])) ∧ iT (iR (CR K)) I1 v1 M.1) (fun nx q => ?_) ?_
    · refine ⟨_, rfl, tup_of ra s0 fun I1 H1 v1 g1 r1 => ?_⟩
      have h1 := g1.at hx (by simp)
      refine ⟨_, rfl, x, _, dx, _, rfl, h1, cls_Machine D, na_Machine_start D, (by show 0 < 1000; decide), ?_⟩
      exact q _ _ ⟨I1, v1, rfl, (g1.mono (ns := [x]) fun _ z => nomatch z).trans (Gr.mut g1.ih (g1.out hI hx) List.mem_cons_self), upd_same, r1⟩
    rintro σ' H1 ⟨I1, v1, rfl, g1, h1, r1⟩
    (try dsimp only)
    refine seq_cut (fun σ' H1 => ∃ (I1 : Hp) (v1 v2 : V), σ' = [some (.ref x), some va, some (.ref b), none, none, none] ∧ Gr [x] I H I1 H1 ∧ H1 x = some (.ins (CM K) dx (mf v1 v2)) ∧ iT (iR (CR K)) I1 v1 M.1 ∧ iMv (CR K) I1 v2 M.2) (fun nx q => ?_) ?_
    · have b2' := b2.up g1.ii
      refine ⟨_, rfl, lt_of (hb.imp (g1.ii _ _) (g1.ii _ _)) g1.ih fun J W l hD => lc_id (R := iA (iA (iA (iR (CR K))))) (Sy := iT (iT (iT (iR (CR K))))) W b2' g1.ih hD (lt_line (by omega)) (fun i y I' H' Nx Qk hy ry sx kk => ?_) (fun I2 H2 g2 r2 => ?_)⟩
      · obtain ⟨c, xs, ec, hc, c2⟩ := id ry
        have ly := ok.z2 _ (List.mem_of_getElem? hy)
        rw [ec]
        refine ⟨rfl, _, rfl, lt_of hc sx fun J W l hD => lc_id (R := iA (iA (iR (CR K)))) (Sy := iT (iT (iR (CR K)))) W c2 sx hD (lt_line (by omega)) (fun j z I3 H3 Nx3 Qk3 hz rz sz ke => ?_) (fun I3 H3 g3 r3 => ?_)⟩
        · have lz := ok.z3 _ (List.mem_of_getElem? hy) _ (List.mem_of_getElem? hz)
          refine ⟨rfl, _, rfl, I3, _, _, rfl, sz, rz, ?_, ke⟩
          omega
        · exact tup_of (iA.l r3) g3.ih fun I4 H4 v4 g4 r4 => kk _ _ _ (g3.trans g4) r4
      · refine tup_of (iA.l r2) g2.ih fun I3 H3 v3 g3 r3 => ?_
        have g4 := g2.trans g3
        have hI1 := g1.out hI hx
        have h3 := g4.at h1 (by simp)
        refine ⟨_, rfl, x, _, dx, _, rfl, h3, cls_Machine D, na_Machine_moves D, (by show 1 < 1000; decide), ?_⟩
        exact q _ _ ⟨I3, v1, v3, rfl, (g1.trans (g4.mono (ns := [x]) fun _ z => nomatch z)).trans (Gr.mut g4.ih (g4.out hI1 h1) List.mem_cons_self), upd_same, up g4.ii r1, r3⟩
    clear g1 h1 r1
    rintro σ' H1 ⟨I1, v1, v2, rfl, g1, h1, r1, r2⟩
    (try dsimp only)
    refine ⟨_, rfl, _, _, _, _, _, rfl, h1, cls_Machine D, na_Machine_start D, mf_start v1 v2, _, rfl, _, _, _, _, _, rfl, h1, cls_Machine D, na_Machine_moves D, mf_moves v1 v2, I1, _, _, M.1, M.2, rfl, g1.ih, r1, r2, ok, fun I2 H2 g2 => ?_⟩
    have g12 := g1.trans (g2.mono (ns := [x]) fun _ z => nomatch z)
    cases hf : flt M.1 M.2 with
    | none =>
      refine ⟨_, rfl, rfl, _, rfl, ifF rfl ?_⟩
      exact k hf I2 H2 v1 v2 g12 (g2.at h1 (by simp)) (up g2.ii r1) (up g2.ii r2)
    | some r =>
      refine ⟨_, rfl, rfl, _, rfl, ifT rfl ?_⟩
      refine ⟨_, rfl, (by show 1 ≤ 1000; decide), fun e he => ⟨e, _, rfl, upd_same, fun d hd ne => ⟨rfl, d, [("what", .str r)], upd_same, by rw [upd_ne ne]; exact upd_same, by rw [upd_ne ne] at hd; exact hd, ?_⟩⟩⟩
      have hd2 : H2 d = none := by rw [upd_ne ne] at hd; exact hd
      have e1 := xd_heap (H := H2) (u := exd d [("what", .str r)]) (v := exo e (CBM K) (some d)) (o := exo e (CBM K) none) (fs := [("what", .str r)]) he ne
      have z := kE r hf I2 (upd H2 d (.xd [("what", .str r)])) d (g12.trans (Gr.tmp g12.ih hd2)) upd_same
      rw [← e1] at z
      exact z
def spSameS : Sp := fun vs H Q _ => ∃ x y : Str, vs = [.str x, .str y] ∧ Q (.bl (decide (x = y))) H
theorem ok_sameHot (D : Dt K mg) : ∃ fd : FuncData, PySem.W.keepIn K (.ref (He.ga K "_law_same")) = true ∧ L2.Binds K fd ["actual", "due"] [] ∧ L2H.FnH P w K mg base (L2.CX P w) 1 (He.ga K "_law_same") fd ["actual", "due"] spSameS := by
  obtain ⟨fd, F⟩ := fd__law_same D
  refine ⟨fd, F.kp, F.bindsN fun _ _ _ _ _ _ us hl => match us, hl with | [_, _], _ => rfl, fnHot F sc_same (fun vs H Q E h => ?_) (fun cdv A outer s H vs Q E p hr h => ?_)⟩
  · obtain ⟨x, y, rfl, _⟩ := h; rfl
  · obtain ⟨x, y, rfl, k⟩ := h
    refine ⟨_, (pss_cons (ps_if (PW.pt (pw_or (pt_val (pe_callB call_isi rfl (free_isinstance D) (by decide +kernel) (pa_cons (pv 1) (pa_cons (pe_bltn (v := .ty "tuple") rfl (free_tuple D) (by decide +kernel) rfl) pa_nil)))) (pw_or1 (pt_val (pe_callB call_isi rfl (free_isinstance D) (by decide +kernel) (pa_cons (pv 1) (pa_cons (pe_bltn (v := .ty "list") rfl (free_list D) (by decide +kernel) rfl) pa_nil))))))) pss_never pss_nil)
      (pss_cons (ps_if (PW.pt (pw_or (pt_cmpR op_isN (pv 1) pe_non (nomark _)) (pw_or1 (pt_val (pe_callB call_isi rfl (free_isinstance D) (by decide +kernel) (pa_cons (pv 1) (pa_cons (pe_bltn (v := .ty "bool") rfl (free_bool D) (by decide +kernel) rfl) pa_nil)))))))
      (pss_one (ps_ret (pe_and (pe_cmpR op_eq (pe_cmpR op_isN (pv 0) pe_non (nomark _)) (pe_cmpR op_isN (pv 1) pe_non (nomark _)) (nomark _)) (pe_and (pe_or (pe_cmpR op_isN (pv 1) pe_non (nomark _)) (pe_one (pe_callB call_isi rfl (free_isinstance D) (by decide +kernel) (pa_cons (pv 0) (pa_cons (pe_bltn (v := .ty "bool") rfl (free_bool D) (by decide +kernel) rfl) pa_nil))))) (pe_one (pe_cmpR op_eq (pv 0) (pv 1) (nomark _)))))))
      pss_nil)
      (pss_cons (ps_if (pt_val (pe_callB call_isi rfl (free_isinstance D) (by decide +kernel) (pa_cons (pv 1) (pa_cons (pe_bltn (v := .ty "int") rfl (free_int D) (by decide +kernel) rfl) pa_nil))))
      (pss_one (ps_ret (pe_and (pe_callB call_isi rfl (free_isinstance D) (by decide +kernel) (pa_cons (pv 0) (pa_cons (pe_bltn (v := .ty "int") rfl (free_int D) (by decide +kernel) rfl) pa_nil))) (pe_and (pe_not (pe_callB call_isi rfl (free_isinstance D) (by decide +kernel) (pa_cons (pv 0) (pa_cons (pe_bltn (v := .ty "bool") rfl (free_bool D) (by decide +kernel) rfl) pa_nil)))) (pe_one (pe_cmpR op_eq (pv 0) (pv 1) (nomark _)))))))
      pss_nil)
      (pss_one (ps_ret (pe_and (pe_callB call_isi rfl (free_isinstance D) (by decide +kernel) (pa_cons (pv 0) (pa_cons (pe_bltn (v := .ty "str") rfl (free_str D) (by decide +kernel) rfl) pa_nil))) (pe_one (pe_cmpR op_eq (pv 0) (pv 1) (nomark _))))))))), ?_⟩
    have cv : ∀ T : String, ClsV (.ty T) (.type T) := fun T => .ty T
    have ty : ∀ z : Str, TyX K H (.str z) (.type "str") := fun z => .base (.str z)
    refine ⟨_, rfl, _, _, _, _, false, rfl, cv _, ty _, rfl, _, rfl, ifF rfl ?_⟩
    refine ⟨_, rfl, _, _, _, _, false, rfl, cv _, ty _, rfl, _, rfl, ifF rfl ?_⟩
    refine ⟨_, rfl, rfl, _, rfl, ifF rfl ?_⟩
    refine ⟨_, rfl, _, _, _, _, false, rfl, cv _, ty _, rfl, _, rfl, ifF rfl ?_⟩
    refine ⟨_, rfl, _, _, _, _, false, rfl, cv _, ty _, rfl, _, rfl, ifF rfl ?_⟩
    refine ⟨_, rfl, _, _, _, _, true, rfl, cv _, ty _, rfl, _, rfl, iteT ?_⟩
    refine ⟨_, rfl, _, rfl, rfl, ?_⟩
    have e : decide (V.str x = V.str y) = decide (x = y) := decide_eq_decide.mpr ⟨fun h => by injection h, fun h => by rw [h]⟩
    rw [e]
    exact k
end
end K

set_option Elab.async false
set_option linter.all false
set_option maxRecDepth 100000
set_option maxHeartbeats 4000000
set_option exponentiation.threshold 5000
namespace K
open PySem PySem.Spec PyProof.Rows L2 Tk Hd Mt
theorem atI_first {xs : List V} (h : xs ≠ []) : ∃ v ∈ xs, atI xs 0 = some v := by
  cases xs with
  | nil => exact absurd rfl h
  | cons a r => exact ⟨a, List.mem_cons_self, at_of (j := 0) rfl rfl⟩
theorem atI_last {xs : List V} (h : xs ≠ []) : ∃ v ∈ xs, atI xs (-1) = some v := by
  have l : 0 < xs.length := List.length_pos_iff.mpr h
  have e : xs[xs.length - 1]? = some (xs[xs.length - 1]'(by omega)) := List.getElem?_eq_getElem (by omega)
  refine ⟨_, List.mem_of_getElem? e, ?_⟩
  unfold atI ixN
  rw [if_neg (by omega), if_pos (by omega), show ((-1 : Int) + (xs.length : Int)).toNat = xs.length - 1 from by omega]
  exact e
/-- lists so deep, not empty, that may be changed -/
def Lv (N : Addr → Prop) (H : Hp) : Nat → V → Prop
  | 0, v => ∃ a o, v = .ref a ∧ H a = some o ∧ ∀ vs, o ≠ .lst vs
  | n + 1, v => ∃ a vs, v = .ref a ∧ N a ∧ H a = some (.lst vs) ∧ vs ≠ [] ∧ vs.length ≤ 1000 ∧ ∀ u ∈ vs, Lv N H n u
theorem lv_inj {N : Addr → Prop} {H : Hp} : ∀ {i j : Nat} {v : V}, Lv N H i v → Lv N H j v → i = j
  | 0, 0, _, _, _ => rfl
  | 0, j + 1, _, ⟨a, o, e, h, n⟩, ⟨b, vs, e2, _, h2, _⟩ => by
    rw [e] at e2
    cases e2
    rw [h] at h2
    exact absurd (Option.some.inj h2) (n vs)
  | i + 1, 0, _, ⟨b, vs, e2, _, h2, _⟩, ⟨a, o, e, h, n⟩ => by
    rw [e] at e2
    cases e2
    rw [h] at h2
    exact absurd (Option.some.inj h2) (n vs)
  | i + 1, j + 1, v, ⟨a, vs, e, _, h, n, _, k⟩, ⟨b, ws, e2, _, h2, _, _, k2⟩ => by
    rw [e] at e2
    cases e2
    rw [h] at h2
    cases h2
    obtain ⟨u, hu, _⟩ := atI_first n
    rw [lv_inj (k u hu) (k2 u hu)]
theorem lv_ne {N : Addr → Prop} {H : Hp} {i j : Nat} {a b : Addr} (h1 : Lv N H i (.ref a)) (h2 : Lv N H j (.ref b)) (n : i ≠ j) : a ≠ b := fun e => n (lv_inj h1 (e ▸ h2))
/-- the way to its first and its last part -/
theorem lv_path {N : Addr → Prop} {H : Hp} {n : Nat} {a : Addr} (h : Lv N H (n + 1) (.ref a)) : ∃ vs, N a ∧ H a = some (.lst vs) ∧ vs ≠ [] ∧ vs.length ≤ 1000 ∧ (∃ u, atI vs 0 = some u ∧ Lv N H n u) ∧ ∃ u, atI vs (-1) = some u ∧ Lv N H n u := by
  obtain ⟨b, vs, e, hn, hh, ne, l, k⟩ := h
  cases e
  obtain ⟨u, hu, e1⟩ := atI_first ne
  obtain ⟨w, hw, e2⟩ := atI_last ne
  exact ⟨vs, hn, hh, ne, l, ⟨u, e1, k u hu⟩, w, e2, k w hw⟩
theorem lv_ref {N : Addr → Prop} {H : Hp} {n : Nat} {v : V} (h : Lv N H (n + 1) v) : ∃ a, v = .ref a := by
  obtain ⟨a, _, e, _⟩ := h; exact ⟨a, e⟩
theorem lv_oL {α : Type} {O : Oo α} {N : Addr → Prop} {I H : Hp} {n : Nat} {v : V} {p : List α × List Addr} (h : oL O I H v p) (hN : ∀ a ∈ p.2, N a) (h0 : p.1 ≠ []) (hl : p.1.length ≤ 1000) (step : ∀ u (z : α × List Addr), z.1 ∈ p.1 → (∀ a ∈ z.2, N a) → O I H u z → Lv N H n u) : Lv N H (n + 1) v := by
  obtain ⟨a, vs, zs, e, ha, a2, e1, e2⟩ := h
  have ll : vs.length = p.1.length := by rw [a2.len, e1, List.length_map]
  refine ⟨a, vs, e, hN a (by rw [e2]; exact List.mem_cons_self), ha, fun z => h0 (List.eq_nil_of_length_eq_zero (by rw [← ll, z]; rfl)), by omega, fun u hu => ?_⟩
  obtain ⟨z, hz, r⟩ := all2_each a2 hu
  exact step u z (by rw [e1]; exact List.mem_map.mpr ⟨z, hz, rfl⟩) (fun b hb => hN b (by rw [e2]; exact List.mem_cons_of_mem _ (mem_fl hz hb))) r
abbrev O5 (C : Addr) : Oo (List (List Rows)) := oL (oL (oL (oL (o0 (iR C)))))
theorem lv_made {C : Addr} {N : Addr → Prop} {I H : Hp} {v : V} {st : List Rat} {mv : List (List Rows)} {S : List Addr} (s : Same I H) (h : O5 C I H v (mv, S)) (hN : ∀ a ∈ S, N a) (fn : FNone st mv) : Lv N H 4 v := by
  have na := fn.a
  have nb := fn.b
  have nc := fn.c
  have ne : ∀ {α : Type} {l : List α}, 1 ≤ l.length → l ≠ [] := fun h z => by rw [z] at h; exact absurd h (by simp)
  refine lv_oL h hN (ne nb.1) (by show mv.length ≤ 1000; omega) fun u z hz hN2 h2 => ?_
  have l2 := fn.c2 _ hz
  refine lv_oL h2 hN2 (ne (by omega)) (by omega) fun u3 z3 hz3 hN3 h3 => ?_
  obtain ⟨q1, q2⟩ := sq_len (fn.d _ hz _ hz3)
  refine lv_oL h3 hN3 (ne (by omega)) (by omega) fun u4 z4 hz4 hN4 h4 => ?_
  have l4 := q2 _ hz4
  refine lv_oL h4 hN4 (ne (by omega)) (by omega) fun u5 z5 hz5 hN5 h5 => ?_
  obtain ⟨⟨a, dx, e, ha⟩, _⟩ := h5
  exact ⟨a, _, e, s _ _ ha, fun vs z => nomatch z⟩
theorem gmut {ms : List Addr} {I0 H0 I H : Hp} {m : Addr} {o : HO} (g : Gr ms I0 H0 I H) (n0 : H0 m = none) (nI : I m = none) : Gr ms I0 H0 I (upd H m o) :=
  ((g.mono (ns := m :: ms) fun _ z => List.mem_cons_of_mem _ z).trans (Gr.mut g.ih nI List.mem_cons_self)).drop n0
theorem cut_back (vs : List V) : cutV vs none (some (-1)) = (vs.drop 0).take (vs.length - 1) := by
  unfold cutV
  rw [HT.sIx_none]
  have e : HT.sIx vs.length vs.length (some (-1)) = vs.length - 1 := by
    show (if (-1 : Int) < 0 then ((-1 : Int) + (vs.length : Int)).toNat else min (-1 : Int).toNat vs.length) = _
    rw [if_pos (by decide)]; omega
  rw [e]
  congr 1
theorem GOk.sub {c : Nat} {st : List Rat} {mv rows : List (List Rows)} (h : GOk c st mv) (l : rows.length ≤ 5 + c) (k : ∀ p ∈ rows, ∃ p0 ∈ mv, p.length ≤ p0.length ∧ ∀ r ∈ p, r ∈ p0) : GOk c st rows :=
  GOk.mk' h.z0 l h.g0 (fun p hp => by
    obtain ⟨p0, h0, l0, s0⟩ := k p hp
    have g := h.pg h0
    exact ⟨by have := g.1; omega, fun r hr => g.2 r (s0 r hr)⟩)
/-- the law's things behind the changes -/
structure Ls (C C2 p : Addr) (v3 v4 v15 : V) (st : List Rat) (mv : List (List Rows)) (I H : Hp) : Prop where
  s : Same I H
  po : PoolOk I H p
  r3 : iL iQ I v3 st
  r4 : iL (iL (iL (iL iQ))) I v4 mv
  r15 : iM C C2 I v15 (st, mv)
section
variable {C C2 p : Addr} {v3 v4 v15 : V} {st : List Rat} {mv : List (List Rows)} {I H I' H' : Hp}
theorem Ls.up (h : Ls C C2 p v3 v4 v15 st mv I H) (g : Gr [] I H I' H') : Ls C C2 p v3 v4 v15 st mv I' H' :=
  ⟨g.ih, h.po.up g (by simp), Tk.up g.ii h.r3, Tk.up g.ii h.r4, Tk.up g.ii h.r15⟩
theorem Ls.dr (h : Ls C C2 p v3 v4 v15 st mv I H) (g : Gr [p] I H I' H') (po : PoolOk I' H' p) : Ls C C2 p v3 v4 v15 st mv I' H' :=
  ⟨g.ih, po, Tk.up g.ii h.r3, Tk.up g.ii h.r4, Tk.up g.ii h.r15⟩
theorem Ls.lm (h : Ls C C2 p v3 v4 v15 st mv I H) {t : Addr} (ht : H t = none) : Gr [] I H (upd I t (.tup [v3, v4])) (upd H t (.tup [v3, v4])) ∧ iLM (upd I t (.tup [v3, v4])) (.ref t) (st, mv) :=
  have g := Gr.new (ms := []) (o := .tup [v3, v4]) h.s ht
  ⟨g, t, v3, v4, rfl, upd_same, Tk.up g.ii h.r3, Tk.up g.ii h.r4⟩
end
theorem dec_unit (b : Bool) : (if b then (1 : Int) else 0) = (if b then (1 : Rat) else 0).num ∧ (1 : Int) = ((if b then (1 : Rat) else 0).den : Int) := by cases b <;> exact ⟨rfl, rfl⟩
theorem eqd_bl (a b : Bool) : eqd (.bl a) (.bl b) = decide (a = b) := by cases a <;> cases b <;> rfl
theorem eq_two {K : PySem.W.Frag} {H : Hp} {l1 l2 : Addr} {a b c d : Int} {Q : VK} (h1 : H l1 = some (.lst [.int a, .int b])) (h2 : H l2 = some (.lst [.int c, .int d])) (k : Q (.bl (decide (a = c) && decide (b = d))) H) : rEqD K (.ref l1) (.ref l2) H Q :=
  ⟨.list [.int a, .int b], .list [.int c, .int d], .lst (SqL.of h1) (.cons (.int _) (.cons (.int _) .nil)), .lst (SqL.of h2) (.cons (.int _) (.cons (.int _) .nil)), by simp [SeqAt.shaped, PyData.canLay0, PyData.canLayAll0, PyData.depth, PyData.depthAll], by simp [SeqAt.shaped, PyData.canLay0, PyData.canLayAll0, PyData.depth, PyData.depthAll], by
    rw [show PyData.eqv (.list [.int a, .int b]) (.list [.int c, .int d]) = (decide (a = c) && decide (b = d)) from by simp [PyData.eqv, PyData.eqvAll]; rfl]; exact k⟩
theorem two_dec (a b c d : Nat) : (decide (a = c) && decide (b = d)) = (decide ((a : Int) = (c : Int)) && decide ((b : Int) = (d : Int))) := by
  rw [Bool.eq_iff_iff]; simp; omega
end K

set_option Elab.async false
set_option linter.all false
set_option maxRecDepth 100000
set_option maxHeartbeats 8000000
set_option exponentiation.threshold 5000
namespace K
open PySem PySem.Spec PyProof.Rows L2 Tk Hd Mt
theorem PoolOk.hh {I0 I I' H H' : Hp} {p : Addr} (h : PoolOk I0 H p) (g : Gr [] I H I' H') : PoolOk I0 H' p := by
  obtain ⟨i, c, cells, pos, b, sd, l, u, h1, h2, h3, h4⟩ := h
  exact ⟨i, c, cells, pos, b, sd, l, u, h1, h2, h3, g.at h4 (by simp)⟩
theorem PoolOk.inn {I H : Hp} {p : Addr} (h : PoolOk I H p) : I p = none ∧ ∃ o, H p = some o := by
  obtain ⟨i, c, cells, pos, b, sd, l, u, h1, h2, h3, h4⟩ := h
  exact ⟨i, _, h4⟩
theorem takesN0 {X : Cx} : L2N.Takes X (fun _ _ _ _ => False) := fun _ _ x => by
  obtain ⟨a, B, sI, pins, σ, H, cls, d, h1, h2, h3, h4, h5, h6, h7, h8, z⟩ := x
  exact z.elim
theorem kit4m {K : PySem.W.Frag} {mg : Str → Option Value} (D : Dt K mg) : PySem.W.kitAny K (.ref (CBM K)) [.ref (He.ga K "BadPaper"), .ref (He.ga K "BadRatio"), .ref (He.ga K "BadText"), .ref (He.ga K "TooLarge")] = some false := by
  simp only [PySem.W.kitAny, kit_BadMachine_BadRatio D, kit_BadMachine_BadPaper D, kit_BadMachine_BadText D, kit_BadMachine_TooLarge D]
section
variable {P : Program} {w : World} {K : PySem.W.Frag} {mg : Str → Option Value} {base : Heap}
abbrev iMl (C : Addr) : Rp (List (List Rows)) := iL (iL (iL (iL (iR C))))
abbrev iMa (C : Addr) : Rp (List (List Rows)) := iA (iA (iA (iA (iR C))))
abbrev iQM : Rp (List (List Rows)) := iL (iL (iL (iL iQ)))
abbrev Nlaw : List Str := ["script", "pool", "sizes", "start", "moves", "turn", "made", "num", "den", "line", "rows", "answers", "passed", "whole", "due", "machine", "e", "state", "own", "k", "other", "more"]
def spLaw (K : PySem.W.Frag) : Sp := fun vs H Q _ => ∃ (a : Addr) (ns : List Int), vs = [.ref a] ∧ SqL K H a (ns.map V.int) ∧ ns.length ≤ 63 ∧ ∀ H', Q (.bl true) H'
theorem sc_law : FnScope Nlaw ["script"] (defScope s_law) := ⟨rfl, rfl, rfl, by decide +kernel, rfl, by decide +kernel, by decide +kernel⟩
theorem ok_law (D : Dt K mg) {fd : FuncData} (F : FnP K "law" "law" s_law [] (He.ga K "law") fd) : FnOk P w K mg base (L2.CX P w) 12 (He.ga K "law") fd ["script"] (spLaw K) := by
  have H__law_pool := ok_pool (P := P) (w := w) (base := base) D
  have H__law_draw := ok_draw (P := P) (w := w) (base := base) D
  have H__law_machine := ok_lmach (P := P) (w := w) (base := base) D
  have H__law_spoilt := ok_spoilt (P := P) (w := w) (base := base) D
  have H_Ratio_init := has_init (P := P) (w := w) (base := base) D
  have H_Ratio_init1 := has_init1 (P := P) (w := w) (base := base) D
  have H__law_bad := ok_bad (P := P) (w := w) (base := base) D
  have H_Machine_init := ok_minit (P := P) (w := w) (base := base) D
  have H__law_data := ok_data (P := P) (w := w) (base := base) D
  have H__law_tuples := ok_tuples (P := P) (w := w) (base := base) D 3
  have H__law_same := ok_same (P := P) (w := w) (base := base) D 1
  have H_Machine_answers := ok_answers (P := P) (w := w) (base := base) D
  have H_Machine_buttons := ok_buttons (P := P) (w := w) (base := base) D
  have H_Machine_states := ok_states (P := P) (w := w) (base := base) D
  have H_begun := ok_begun (P := P) (w := w) (base := base) D
  have H__law_changed := ok_changed (P := P) (w := w) (base := base) D
  have H_Machine_eq := ok_meq (P := P) (w := w) (base := base) D
  have H__law_made := ok_lmade (P := P) (w := w) (base := base) D
  have H_fit := ok_fit (P := P) (w := w) (base := base) D
  obtain ⟨fdN, bN, H_MachineN⟩ := ok_minitN (P := P) (w := w) (base := base) D
  obtain ⟨fdH, kH, bH, H_sameH⟩ := ok_sameHot (P := P) (w := w) (base := base) D
  refine fnN F sc_law (fun vs H Q E h => ?_) (fun cdv A outer s H vs Q E hr h => ?_)
  · obtain ⟨a, ns, rfl, _⟩ := h; rfl
  · obtain ⟨a, ns, rfl, hS, hlen, k⟩ := h
    refine ⟨_, (pss_cons (ps_set (i := 1) sc_law.nd rfl (Or.inl rfl) (pe_callH H__law_pool (hr.mono (by decide)) rfl (glo__law_pool D) passL (pa_cons (pv 0) (pa_cons pe_int pa_nil))))
      (pss_cons (ps_set (i := 2) sc_law.nd rfl (Or.inl rfl) (pe_tup (pa_cons (pe_op op_add pe_int (pe_callH H__law_draw (hr.mono (by decide)) rfl (glo__law_draw D) passL (pa_cons (pv 1) (pa_cons pe_int pa_nil)))) (pa_cons (pe_op op_add pe_int (pe_callH H__law_draw (hr.mono (by decide)) rfl (glo__law_draw D) passL (pa_cons (pv 1) (pa_cons pe_int pa_nil)))) (pa_cons (pe_op op_add pe_int (pe_callH H__law_draw (hr.mono (by decide)) rfl (glo__law_draw D) passL (pa_cons (pv 1) (pa_cons pe_int pa_nil)))) pa_nil)))))
      (pss_cons (ps_if (pt_cmpR op_eq (pe_callH H__law_draw (hr.mono (by decide)) rfl (glo__law_draw D) passL (pa_cons (pv 1) (pa_cons pe_int pa_nil))) pe_int (nomark _))
      (pss_one (ps_set (i := 2) sc_law.nd rfl (Or.inl rfl) (pe_ix (ix_tupK K) (pe_tup (pa_cons (pe_tup (pa_cons pe_int (pa_cons pe_int (pa_cons pe_int pa_nil)))) (pa_cons (pe_tup (pa_cons pe_int (pa_cons pe_int (pa_cons pe_int pa_nil)))) (pa_cons (pe_tup (pa_cons pe_int (pa_cons pe_int (pa_cons pe_int pa_nil)))) (pa_cons (pe_tup (pa_cons pe_int (pa_cons pe_int (pa_cons pe_int pa_nil)))) (pa_cons (pe_tup (pa_cons pe_int (pa_cons pe_int (pa_cons pe_int pa_nil)))) (pa_cons (pe_tup (pa_cons pe_int (pa_cons pe_int (pa_cons pe_int pa_nil)))) (pa_cons (pe_tup (pa_cons pe_int (pa_cons pe_int (pa_cons pe_int pa_nil)))) (pa_cons (pe_tup (pa_cons pe_int (pa_cons pe_int (pa_cons pe_int pa_nil)))) pa_nil))))))))) (pe_callH H__law_draw (hr.mono (by decide)) rfl (glo__law_draw D) passL (pa_cons (pv 1) (pa_cons pe_int pa_nil))) (fun _ _ => rfl))))
      pss_nil)
      (pss_cons (ps_asg (pe_callH H__law_machine (hr.mono (by decide)) rfl (glo__law_machine D) passL (pa_cons (pv 1) (pa_cons (pe_ix (ix_tupK K) (pv 2) pe_int (fun _ _ => rfl)) (pa_cons (pe_ix (ix_tupK K) (pv 2) pe_int (fun _ _ => rfl)) (pa_cons (pe_ix (ix_tupK K) (pv 2) pe_int (fun _ _ => rfl)) pa_nil))))) (pg_tupK K rfl (pgs_cons (pg_name (i := 3) sc_law.nd rfl (Or.inl rfl)) (pgs_cons (pg_name (i := 4) sc_law.nd rfl (Or.inl rfl)) pgs_nil))))
      (pss_cons (ps_for PassesOwn.never rfl (pi_range1 rfl (free_range D) (pa_cons (pe_callH H__law_draw (hr.mono (by decide)) rfl (glo__law_draw D) passL (pa_cons (pv 1) (pa_cons pe_int pa_nil))) pa_nil)) (pg_name (i := 5) sc_law.nd rfl (Or.inl rfl))
      (pss_one (ps_asg (pe_callH H__law_spoilt (hr.mono (by decide)) rfl (glo__law_spoilt D) passL (pa_cons (pv 1) (pa_cons (pv 3) (pa_cons (pv 4) pa_nil)))) (pg_tupK K rfl (pgs_cons (pg_name (i := 3) sc_law.nd rfl (Or.inl rfl)) (pgs_cons (pg_name (i := 4) sc_law.nd rfl (Or.inl rfl)) pgs_nil))))))
      (pss_cons (ps_setLc (own := [("answers", 11)]) (g := gName 11) (i := 6) rfl sc_law.nd rfl rfl (sw_true rfl rfl rfl (by decide +kernel)) (pi_listK K (pv 4)) (blkOk_by (own := [("answers", 11)]) (N := Nlaw) (by kernel_rfl)) (fun _ _ _ _ _ => (pg_name (i := 11) sc_law.nd rfl (Or.inl rfl))) (fun _ _ _ _ _ => pts_nil) (fun _ _ _ _ _ => (pe_lc (own := [("rows", 10)]) (g := gName 10) rfl sc_law.nd (pi_listK K (pv 11)) (blkOk_by (own := [("rows", 10)]) (N := Nlaw) (by kernel_rfl)) (fun _ _ _ _ _ => (pg_name (i := 10) sc_law.nd rfl (Or.inl rfl))) (fun _ _ _ _ _ => pts_nil) (fun _ _ _ _ _ => (pe_lc (own := [("line", 9)]) (g := gName 9) rfl sc_law.nd (pi_listK K (pv 10)) (blkOk_by (own := [("line", 9)]) (N := Nlaw) (by kernel_rfl)) (fun _ _ _ _ _ => (pg_name (i := 9) sc_law.nd rfl (Or.inl rfl))) (fun _ _ _ _ _ => pts_nil) (fun _ _ _ _ _ => (pe_lc (own := [("num", 7), ("den", 8)]) (g := gTup K 2 (gCons (gName 7) (gCons (gName 8) gNil))) rfl sc_law.nd (pi_listK K (pv 9)) (blkOk_by (own := [("num", 7), ("den", 8)]) (N := Nlaw) (by kernel_rfl)) (fun _ _ _ _ _ => (pg_tupK K rfl (pgs_cons (pg_name (i := 7) sc_law.nd rfl (Or.inl rfl)) (pgs_cons (pg_name (i := 8) sc_law.nd rfl (Or.inl rfl)) pgs_nil)))) (fun _ _ _ _ _ => pts_nil) (fun _ _ _ _ _ => (pe_makeH (mkr_Ratio (K := K) D) H_Ratio_init (hr.mono (by decide)) rfl (glo_Ratio D) passL (pa_cons (pv 7) (pa_cons (pv 8) pa_nil)))))))))))
      (pss_cons (ps_setLc (own := [("num", 7), ("den", 8)]) (g := gTup K 2 (gCons (gName 7) (gCons (gName 8) gNil))) (i := 12) rfl sc_law.nd rfl rfl (sw_true rfl rfl rfl (by decide +kernel)) (pi_listK K (pv 3)) (blkOk_by (own := [("num", 7), ("den", 8)]) (N := Nlaw) (by kernel_rfl)) (fun _ _ _ _ _ => (pg_tupK K rfl (pgs_cons (pg_name (i := 7) sc_law.nd rfl (Or.inl rfl)) (pgs_cons (pg_name (i := 8) sc_law.nd rfl (Or.inl rfl)) pgs_nil)))) (fun _ _ _ _ _ => pts_nil) (fun _ _ _ _ _ => (pe_makeH (mkr_Ratio (K := K) D) H_Ratio_init (hr.mono (by decide)) rfl (glo_Ratio D) passL (pa_cons (pv 7) (pa_cons (pv 8) pa_nil)))))
      (pss_cons (ps_set (i := 13) sc_law.nd rfl (Or.inl rfl) (pv 12))
      (pss_cons (ps_if (pt_cmpR op_eq (pe_callH H__law_draw (hr.mono (by decide)) rfl (glo__law_draw D) passL (pa_cons (pv 1) (pa_cons pe_int pa_nil))) pe_int (nomark _))
      (pss_one (ps_set (i := 13) sc_law.nd rfl (Or.inl rfl) (pe_callTy (call_tuple_ofK K) rfl (free_tuple D) (by decide +kernel) (pa_cons (pv 12) pa_nil))))
      pss_nil)
      (pss_cons (ps_if (pt_cmpR op_eq (pe_callH H__law_draw (hr.mono (by decide)) rfl (glo__law_draw D) passL (pa_cons (pv 1) (pa_cons pe_int pa_nil))) pe_int (nomark _))
      (pss_one (ps_set (i := 6) sc_law.nd rfl (Or.inl rfl) (pe_callTy (call_tuple_ofK K) rfl (free_tuple D) (by decide +kernel) (pa_cons (pe_lc (own := [("answers", 11)]) (g := gName 11) rfl sc_law.nd (pi_listK K (pv 6)) (blkOk_by (own := [("answers", 11)]) (N := Nlaw) (by kernel_rfl)) (fun _ _ _ _ _ => (pg_name (i := 11) sc_law.nd rfl (Or.inl rfl))) (fun _ _ _ _ _ => pts_nil) (fun _ _ _ _ _ => (pe_callTy (call_tuple_ofK K) rfl (free_tuple D) (by decide +kernel) (pa_cons (pe_lc (own := [("rows", 10)]) (g := gName 10) rfl sc_law.nd (pi_listK K (pv 11)) (blkOk_by (own := [("rows", 10)]) (N := Nlaw) (by kernel_rfl)) (fun _ _ _ _ _ => (pg_name (i := 10) sc_law.nd rfl (Or.inl rfl))) (fun _ _ _ _ _ => pts_nil) (fun _ _ _ _ _ => (pe_callTy (call_tuple_ofK K) rfl (free_tuple D) (by decide +kernel) (pa_cons (pe_lc (own := [("line", 9)]) (g := gName 9) rfl sc_law.nd (pi_listK K (pv 10)) (blkOk_by (own := [("line", 9)]) (N := Nlaw) (by kernel_rfl)) (fun _ _ _ _ _ => (pg_name (i := 9) sc_law.nd rfl (Or.inl rfl))) (fun _ _ _ _ _ => pts_nil) (fun _ _ _ _ _ => (pe_callTy (call_tuple_ofK K) rfl (free_tuple D) (by decide +kernel) (pa_cons (pv 9) pa_nil)))) pa_nil)))) pa_nil)))) pa_nil))))
      pss_nil)
      (pss_cons (ps_set (i := 14) sc_law.nd rfl (Or.inl rfl) (pe_callH H__law_bad (hr.mono (by decide)) rfl (glo__law_bad D) passL (pa_cons (pv 3) (pa_cons (pv 4) pa_nil))))
      (pss_cons (L2N.ps_try_as (i := 16) (Wout := fun _ _ _ _ => False) rfl rfl sc_law.nd rfl rfl ⟨rfl, by decide, .inl (glo_TestError D)⟩ takesN0
      (tb := fun W => tAsg (tMakeS (CM K) (spMInit (CR K) (CM K) (CBM K)) [] (WE W) (tCons (tVar 13) (tCons (tVar 6) tNil))) (gName 15))
      (fun W pn xe tk _ => pss_one (ps_set (i := 15) sc_law.nd rfl (Or.inl rfl) (pe_makeSN (mkr_Machine D) H_MachineN bN .nil (hr.mono (by decide)) rfl (glo_Machine D) (fun σ => L2N.passAt tk σ) (pa_cons (pv 13) (pa_cons (pv 6) pa_nil)))))
      (fun a oe cls d pn hz hf => pss_one (ps_ret (pe_and (pe_callB (call_isEd (isE_BadMachine D) hz.zc hf) rfl (free_isinstance D) (by decide +kernel) (pa_cons (pv 16) (pa_cons (pe_glob (v := .ref (CBM K)) rfl (glo_BadMachine D) rfl) pa_nil)))
        (pe_and (pe_not (pe_callB (call_isETd (isE_BadMachine D) hz.zc hf) rfl (free_isinstance D) (by decide +kernel) (pa_cons (pv 16) (pa_cons (pe_tup (pa_cons (pe_glob (v := .ref (He.ga K "BadPaper")) rfl (glo_BadPaper D) rfl) (pa_cons (pe_glob (v := .ref (He.ga K "BadRatio")) rfl (glo_BadRatio D) rfl) (pa_cons (pe_glob (v := .ref (He.ga K "BadText")) rfl (glo_BadText D) rfl) (pa_cons (pe_glob (v := .ref (He.ga K "TooLarge")) rfl (glo_TooLarge D) rfl) pa_nil))))) pa_nil))))
        (pe_and (pe_cmpR op_notN (pv 14) pe_non (nomark _)) (pe_one (L2H.pe_callH (E := fun _ => E0) H_sameH (L2H.roomH_mark (hr.mono (show 1 ≤ 11 by decide)) _) (hot_suite hz hf) rfl (glo__law_same D) kH bH (fun σ _ _ _ _ _ _ h => (cx_none h).elim) (pa_cons (pe_xf (oex_BadMachine D).xf (oex_BadMachine D).no hz.zc hf (pv 16)) (pa_cons (pv 14) pa_nil))))))))))
      (pss_cons (ps_if (PW.pt (pw_or (pt_cmpR op_notN (pv 14) pe_non (nomark _)) (pw_or1 (pt_cmpR (op_neDK K hr.units) (pe_callH H__law_data (hr.mono (by decide)) rfl (glo__law_data D) passL (pa_cons (pv 15) pa_nil)) (pe_tup (pa_cons (pv 3) (pa_cons (pv 4) pa_nil))) (nomark _)))))
      (pss_one (ps_ret pe_bl))
      pss_nil)
      (pss_cons (ps_expr (pe_bm PySem.F.plainAttrs_list PySem.F.slot_list_append PySem.F.type_list_append mt_append (pv 12) (pa_cons (pe_makeH (mkr_Ratio (K := K) D) H_Ratio_init1 (hr.mono (by decide)) rfl (glo_Ratio D) passL (pa_cons pe_int pa_nil)) pa_nil)))
      (pss_cons (ps_if (pt_val (pe_callB (call_isiK K) rfl (free_isinstance D) (by decide +kernel) (pa_cons (pv 6) (pa_cons (pe_bltn (v := .ty "list") rfl (free_list D) (by decide +kernel) rfl) pa_nil))))
      (pss_cons (ps_asg (pe_makeH (mkr_Ratio (K := K) D) H_Ratio_init1 (hr.mono (by decide)) rfl (glo_Ratio D) passL (pa_cons pe_int pa_nil)) (pg_sub (pe_ix (ix_listK K) (pe_ix (ix_listK K) (pe_ix (ix_listK K) (pv 6) pe_int (fun _ _ => rfl)) pe_int (fun _ _ => rfl)) (pe_un un_neg pe_int) (fun _ _ => rfl)) pe_int set_list))
      (pss_cons (ps_expr (pe_bm PySem.F.plainAttrs_list PySem.F.slot_list_append PySem.F.type_list_append mt_append (pe_ix (ix_listK K) (pe_ix (ix_listK K) (pe_ix (ix_listK K) (pv 6) pe_int (fun _ _ => rfl)) pe_int (fun _ _ => rfl)) pe_int (fun _ _ => rfl)) (pa_cons (pe_makeH (mkr_Ratio (K := K) D) H_Ratio_init1 (hr.mono (by decide)) rfl (glo_Ratio D) passL (pa_cons pe_int pa_nil)) pa_nil)))
      (pss_cons (ps_expr (pe_bm PySem.F.plainAttrs_list PySem.F.slot_list_append PySem.F.type_list_append mt_append (pe_ix (ix_listK K) (pe_ix (ix_listK K) (pv 6) pe_int (fun _ _ => rfl)) (pe_un un_neg pe_int) (fun _ _ => rfl)) (pa_cons (pe_lst pa_nil) pa_nil)))
      (pss_cons (ps_expr (pe_bm PySem.F.plainAttrs_list PySem.F.slot_list_append PySem.F.type_list_append mt_append (pe_ix (ix_listK K) (pv 6) (pe_un un_neg pe_int) (fun _ _ => rfl)) (pa_cons (pe_lst pa_nil) pa_nil)))
      (pss_one (ps_expr (pe_bm PySem.F.plainAttrs_list PySem.F.slot_list_append PySem.F.type_list_append mt_append (pv 6) (pa_cons (pe_lst pa_nil) pa_nil))))))))
      pss_nil)
      (pss_cons (ps_if (PW.pt (pw_or (pt_cmpR (op_neDK K hr.units) (pe_callH H__law_data (hr.mono (by decide)) rfl (glo__law_data D) passL (pa_cons (pv 15) pa_nil)) (pe_tup (pa_cons (pv 3) (pa_cons (pv 4) pa_nil))) (nomark _)) (pw_or1 (pt_not (pt_val (pe_callB (call_isiK K) rfl (free_isinstance D) (by decide +kernel) (pa_cons (pe_fldK K (pv 15) rfl) (pa_cons (pe_bltn (v := .ty "tuple") rfl (free_tuple D) (by decide +kernel) rfl) pa_nil))))))))
      (pss_one (ps_ret pe_bl))
      pss_nil)
      (pss_cons (ps_if (pt_not (pt_val (pe_callH H__law_tuples (hr.mono (by decide)) rfl (glo__law_tuples D) passL (pa_cons (pe_fldK K (pv 15) rfl) (pa_cons pe_int pa_nil)))))
      (pss_one (ps_ret pe_bl))
      pss_nil)
      (pss_cons (ps_if (pt_not (pt_val (pe_callH H__law_same (hr.mono (by decide)) rfl (glo__law_same D) passL (pa_cons (pe_lst (pa_cons (pe_methH0 (pv 15) (cls_Machine (K := K) D) (me_Machine_states (K := K) D) H_Machine_states (hr.mono (by decide)) passL) (pa_cons (pe_methH0 (pv 15) (cls_Machine (K := K) D) (me_Machine_buttons (K := K) D) H_Machine_buttons (hr.mono (by decide)) passL) (pa_cons (pe_methH0 (pv 15) (cls_Machine (K := K) D) (me_Machine_answers (K := K) D) H_Machine_answers (hr.mono (by decide)) passL) pa_nil)))) (pa_cons (pe_lst (pa_cons (pe_callB (call_lenK K) rfl (free_len D) PySem.boot_len (pa_cons (pv 3) pa_nil)) (pa_cons (pe_callB (call_lenK K) rfl (free_len D) PySem.boot_len (pa_cons (pv 4) pa_nil)) (pa_cons (pe_callB (call_lenK K) rfl (free_len D) PySem.boot_len (pa_cons (pe_ix (ix_listK K) (pv 4) pe_int (fun _ _ => rfl)) pa_nil)) pa_nil)))) pa_nil)))))
      (pss_one (ps_ret pe_bl))
      pss_nil)
      (pss_cons (ps_set (i := 17) sc_law.nd rfl (Or.inr rfl) (pe_callH H__law_draw (hr.mono (by decide)) rfl (glo__law_draw D) passL (pa_cons (pv 1) (pa_cons (pe_callB (call_lenK K) rfl (free_len D) PySem.boot_len (pa_cons (pv 3) pa_nil)) pa_nil))))
      (pss_cons (ps_expr (pe_callH H_begun (hr.mono (by decide)) rfl (glo_begun D) passL (pa_cons (pv 15) (pa_cons (pe_callH H__law_draw (hr.mono (by decide)) rfl (glo__law_draw D) passL (pa_cons (pv 1) (pa_cons (pe_callB (call_lenK K) rfl (free_len D) PySem.boot_len (pa_cons (pv 3) pa_nil)) pa_nil))) pa_nil))))
      (pss_cons (ps_set (i := 18) sc_law.nd rfl (Or.inl rfl) (pe_callH H_begun (hr.mono (by decide)) rfl (glo_begun D) passL (pa_cons (pv 15) (pa_cons (pv 17) pa_nil))))
      (pss_cons (ps_if (pt_cmpR (op_neDK K hr.units) (pe_callH H__law_data (hr.mono (by decide)) rfl (glo__law_data D) passL (pa_cons (pv 18) pa_nil)) (pe_tup (pa_cons (pe_lc (own := [("k", 19)]) (g := gName 19) rfl sc_law.nd (pi_range1 rfl (free_range D) (pa_cons (pe_callB (call_lenK K) rfl (free_len D) PySem.boot_len (pa_cons (pv 3) pa_nil)) pa_nil)) (blkOk_by (own := [("k", 19)]) (N := Nlaw) (by kernel_rfl)) (fun _ _ _ _ _ => (pg_name (i := 19) sc_law.nd rfl (Or.inl rfl))) (fun _ _ _ _ _ => pts_nil) (fun _ _ _ _ _ => (pe_tup (pa_cons (pe_callTy call_int1 rfl (free_int D) (by decide +kernel) (pa_cons (pe_cmpR op_eq (pv 19) (pv 17) (nomark _)) pa_nil)) (pa_cons pe_int pa_nil))))) (pa_cons (pv 4) pa_nil))) (nomark _))
      (pss_one (ps_ret pe_bl))
      pss_nil)
      (pss_cons (ps_set (i := 20) sc_law.nd rfl (Or.inl rfl) (pe_callH H__law_changed (hr.mono (by decide)) rfl (glo__law_changed D) passL (pa_cons (pv 1) (pa_cons (pe_tup (pa_cons (pv 3) (pa_cons (pv 4) pa_nil))) pa_nil))))
      (pss_cons (ps_if (pt_not (pt_val (pe_callH H__law_same (hr.mono (by decide)) rfl (glo__law_same D) passL (pa_cons (pe_lst (pa_cons (pe_cmpR (op_eqOwnH H_Machine_eq (hr.mono (by decide)) passL (me_Machine_eq (K := K) D)) (pv 15) (pe_callH H__law_made (hr.mono (by decide)) rfl (glo__law_made D) passL (pa_cons (pe_tup (pa_cons (pv 3) (pa_cons (pv 4) pa_nil))) pa_nil)) (nomark _)) (pa_cons (pe_cmpR (op_eqOwnH H_Machine_eq (hr.mono (by decide)) passL (me_Machine_eq (K := K) D)) (pv 15) (pe_callH H__law_made (hr.mono (by decide)) rfl (glo__law_made D) passL (pa_cons (pv 20) pa_nil)) (nomark _)) pa_nil))) (pa_cons (pe_lst (pa_cons pe_bl (pa_cons (pe_cmpR (op_eqDK K hr.units) (pv 20) (pe_tup (pa_cons (pv 3) (pa_cons (pv 4) pa_nil))) (nomark _)) pa_nil))) pa_nil)))))
      (pss_one (ps_ret pe_bl))
      pss_nil)
      (pss_cons (ps_if (pt_not (pt_val (pe_callH H__law_same (hr.mono (by decide)) rfl (glo__law_same D) passL (pa_cons (pe_cmpR (op_eqOwnH H_Machine_eq (hr.mono (by decide)) passL (me_Machine_eq (K := K) D)) (pv 15) (pv 18) (nomark _)) (pa_cons (pe_cmpR (op_eqDK K hr.units) (pv 3) (pe_lc (own := [("k", 19)]) (g := gName 19) rfl sc_law.nd (pi_range1 rfl (free_range D) (pa_cons (pe_callB (call_lenK K) rfl (free_len D) PySem.boot_len (pa_cons (pv 3) pa_nil)) pa_nil)) (blkOk_by (own := [("k", 19)]) (N := Nlaw) (by kernel_rfl)) (fun _ _ _ _ _ => (pg_name (i := 19) sc_law.nd rfl (Or.inl rfl))) (fun _ _ _ _ _ => pts_nil) (fun _ _ _ _ _ => (pe_tup (pa_cons (pe_callTy call_int1 rfl (free_int D) (by decide +kernel) (pa_cons (pe_cmpR op_eq (pv 19) (pv 17) (nomark _)) pa_nil)) (pa_cons pe_int pa_nil))))) (nomark _)) pa_nil)))))
      (pss_one (ps_ret pe_bl))
      pss_nil)
      (pss_cons (ps_for PassesOwn.never rfl (pi_tupK K (pe_tup (pa_cons (pe_slice (sl_listK K) (pv 4) po_none (po_some (pe_un un_neg pe_int))) (pa_cons (pe_op op_cat (pv 4) (pe_slice (sl_listK K) (pv 4) po_none (po_some pe_int))) (pa_cons (pe_lc (own := [("answers", 11)]) (g := gName 11) rfl sc_law.nd (pi_listK K (pv 4)) (blkOk_by (own := [("answers", 11)]) (N := Nlaw) (by kernel_rfl)) (fun _ _ _ _ _ => (pg_name (i := 11) sc_law.nd rfl (Or.inl rfl))) (fun _ _ _ _ _ => pts_nil) (fun _ _ _ _ _ => (pe_slice (sl_listK K) (pv 11) po_none (po_some pe_int)))) pa_nil))))) (pg_name (i := 10) sc_law.nd rfl (Or.inl rfl))
      (pss_one (ps_if (PW.pt (pw_and (pt_cmpR op_isN (pe_callH H__law_bad (hr.mono (by decide)) rfl (glo__law_bad D) passL (pa_cons (pv 3) (pa_cons (pv 10) pa_nil))) pe_non (nomark _)) (pw_and1 (pt_cmpR (op_neDK K hr.units) (pv 10) (pv 4) (nomark _)))))
      (pss_one (ps_if (pt_not (pt_val (pe_callH H__law_same (hr.mono (by decide)) rfl (glo__law_same D) passL (pa_cons (pe_lst (pa_cons (pe_cmpR (op_eqOwnH H_Machine_eq (hr.mono (by decide)) passL (me_Machine_eq (K := K) D)) (pv 15) (pe_callH H__law_made (hr.mono (by decide)) rfl (glo__law_made D) passL (pa_cons (pe_tup (pa_cons (pv 3) (pa_cons (pv 10) pa_nil))) pa_nil)) (nomark _)) (pa_cons (pe_cmpR (op_eqOwnH H_Machine_eq (hr.mono (by decide)) passL (me_Machine_eq (K := K) D)) (pe_callH H__law_made (hr.mono (by decide)) rfl (glo__law_made D) passL (pa_cons (pe_tup (pa_cons (pv 3) (pa_cons (pv 10) pa_nil))) pa_nil)) (pv 15) (nomark _)) pa_nil))) (pa_cons (pe_lst (pa_cons pe_bl (pa_cons pe_bl pa_nil))) pa_nil)))))
      (pss_one (ps_ret pe_bl))
      pss_nil))
      pss_nil)))
      (pss_cons (ps_set (i := 21) sc_law.nd rfl (Or.inl rfl) (pe_callH H__law_machine (hr.mono (by decide)) rfl (glo__law_machine D) passL (pa_cons (pv 1) (pa_cons pe_int (pa_cons (pe_op op_add pe_int (pe_callH H__law_draw (hr.mono (by decide)) rfl (glo__law_draw D) passL (pa_cons (pv 1) (pa_cons pe_int pa_nil)))) (pa_cons (pe_op op_add pe_int (pe_callH H__law_draw (hr.mono (by decide)) rfl (glo__law_draw D) passL (pa_cons (pv 1) (pa_cons pe_int pa_nil)))) pa_nil))))))
      (pss_one (ps_ret (pe_callH H__law_same (hr.mono (by decide)) rfl (glo__law_same D) passL (pa_cons (pe_callH H_fit (hr.mono (by decide)) rfl (glo_fit D) passL (pa_cons (pv 15) (pa_cons (pe_callH H__law_made (hr.mono (by decide)) rfl (glo__law_made D) passL (pa_cons (pv 21) pa_nil)) pa_nil))) (pa_cons (pe_cmpR (op_eqDK K hr.units) (pe_lst (pa_cons (pe_callB (call_lenK K) rfl (free_len D) PySem.boot_len (pa_cons (pv 4) pa_nil)) (pa_cons (pe_callB (call_lenK K) rfl (free_len D) PySem.boot_len (pa_cons (pe_ix (ix_listK K) (pv 4) pe_int (fun _ _ => rfl)) pa_nil)) pa_nil))) (pe_lst (pa_cons (pe_callB (call_lenK K) rfl (free_len D) PySem.boot_len (pa_cons (pe_ix (ix_tupK K) (pv 21) pe_int (fun _ _ => rfl)) pa_nil)) (pa_cons (pe_callB (call_lenK K) rfl (free_len D) PySem.boot_len (pa_cons (pe_ix (ix_listK K) (pe_ix (ix_tupK K) (pv 21) pe_int (fun _ _ => rfl)) pe_int (fun _ _ => rfl)) pa_nil)) pa_nil))) (nomark _)) pa_nil)))))))))))))))))))))))))))))))), ?_⟩
    (try dsimp only)
    refine seq_cut (fun σ' H' => ∃ (I : Hp) (p : Addr), σ' = [some (.ref a), some (.ref p), none, none, none, none, none, none, none, none, none, none, none, none, none, none, none, none, none, none, none, none] ∧ Same I H' ∧ PoolOk I H' p) (fun nx q => ?_) ?_
    · exact ⟨_, rfl, fun _ => none, a, ns, 0, rfl, (fun _ _ h => nomatch h), hS, by omega, fun I' H' p g po _ => q _ _ ⟨I', p, rfl, g.ih, po⟩⟩
    rintro σ' H1 ⟨I, p, rfl, s1, po1⟩
    (try dsimp only)
    refine seq_cut (fun σ' H' => ∃ (I : Hp) (t : Addr) (n b c : Nat), σ' = [some (.ref a), some (.ref p), some (.ref t), none, none, none, none, none, none, none, none, none, none, none, none, none, none, none, none, none, none, none] ∧ Same I H' ∧ PoolOk I H' p ∧ I t = some (.tup [.int n, .int b, .int c]) ∧ (0 < n ∧ n ≤ 13) ∧ (0 < b ∧ b ≤ 5) ∧ (0 < c ∧ c ≤ 5)) (fun nx q => ?_) ?_
    · refine ⟨_, rfl, I, p, 4, rfl, s1, po1, by decide, by decide, fun v1 H2 a0 a1 g2 po2 => ⟨_, _, rfl, rfl, _, rfl, I, p, 2, rfl, g2.ih, po2, by decide, by decide, fun v2 H3 b0 b1 g3 po3 => ⟨_, _, rfl, rfl, _, rfl, I, p, 3, rfl, g3.ih, po3, by decide, by decide, fun v3 H4 c0 c1 g4 po4 => ⟨_, _, rfl, rfl, (by show 3 ≤ sizeLine; decide), fun t ht => ?_⟩⟩⟩⟩
      obtain ⟨m1, rfl⟩ := Int.eq_ofNat_of_zero_le a0
      obtain ⟨m2, rfl⟩ := Int.eq_ofNat_of_zero_le b0
      obtain ⟨m3, rfl⟩ := Int.eq_ofNat_of_zero_le c0
      have g5 := Gr.new (ms := []) (o := .tup [.int (1 + (m1 : Int)), .int (1 + (m2 : Int)), .int (1 + (m3 : Int))]) g4.ih ht
      exact q _ _ ⟨_, t, 1 + m1, 1 + m2, 1 + m3, rfl, g5.ih, po4.up g5 (by simp), upd_same, by omega, by omega, by omega⟩
    clear s1 po1 I
    rintro σ' H1 ⟨I, t, n, b, c, rfl, s1, po1, ht, hn, hb, hc⟩
    (try dsimp only)
    refine seq_cut (fun σ' H' => ∃ (I : Hp) (t : Addr) (n b c : Nat), σ' = [some (.ref a), some (.ref p), some (.ref t), none, none, none, none, none, none, none, none, none, none, none, none, none, none, none, none, none, none, none] ∧ Same I H' ∧ PoolOk I H' p ∧ I t = some (.tup [.int n, .int b, .int c]) ∧ (0 < n ∧ n ≤ 13) ∧ (0 < b ∧ b ≤ 5) ∧ (0 < c ∧ c ≤ 5)) (fun nx q => ?_) ?_
    · refine ⟨_, rfl, I, p, 8, rfl, s1, po1, by decide, by decide, fun v H2 c0 c1 g2 po2 => ⟨rfl, _, rfl, ifB (fun _ => ?_) (fun _ => q _ _ ⟨I, t, n, b, c, rfl, g2.ih, po2, ht, hn, hb, hc⟩)⟩⟩
      refine ⟨(by show 3 ≤ sizeLine; decide), fun t1 ht1 => ⟨(by show 3 ≤ sizeLine; decide), fun t2 ht2 => ⟨(by show 3 ≤ sizeLine; decide), fun t3 ht3 => ⟨(by show 3 ≤ sizeLine; decide), fun t4 ht4 => ⟨(by show 3 ≤ sizeLine; decide), fun t5 ht5 => ⟨(by show 3 ≤ sizeLine; decide), fun t6 ht6 => ⟨(by show 3 ≤ sizeLine; decide), fun t7 ht7 => ⟨(by show 3 ≤ sizeLine; decide), fun t8 ht8 => ⟨(by show 8 ≤ sizeLine; decide), fun tt htt => ?_⟩⟩⟩⟩⟩⟩⟩⟩⟩
      have k1 := Gr.new (ms := []) (o := .tup [.int 12, .int 1, .int 1]) g2.ih ht1
      have k2 := Gr.new (ms := []) (o := .tup [.int 13, .int 1, .int 1]) k1.ih ht2
      have k3 := Gr.new (ms := []) (o := .tup [.int 1, .int 4, .int 1]) k2.ih ht3
      have k4 := Gr.new (ms := []) (o := .tup [.int 2, .int 5, .int 1]) k3.ih ht4
      have k5 := Gr.new (ms := []) (o := .tup [.int 1, .int 1, .int 4]) k4.ih ht5
      have k6 := Gr.new (ms := []) (o := .tup [.int 1, .int 2, .int 5]) k5.ih ht6
      have k7 := Gr.new (ms := []) (o := .tup [.int 7, .int 2, .int 2]) k6.ih ht7
      have k8 := Gr.new (ms := []) (o := .tup [.int 5, .int 1, .int 3]) k7.ih ht8
      have k9 := Gr.new (ms := []) (o := .tup [.ref t1, .ref t2, .ref t3, .ref t4, .ref t5, .ref t6, .ref t7, .ref t8]) k8.ih htt
      have kk := ((((((((k1.trans k2).trans k3).trans k4).trans k5).trans k6).trans k7).trans k8).trans k9)
      refine ⟨_, rfl, _, p, 8, rfl, kk.ih, po2.up kk (by simp), by decide, by decide, fun w H9 d0 d1 g9 po9 => ?_⟩
      have htt9 := g9.ih _ _ (show upd _ tt _ tt = _ from upd_same)
      have hw : w = 0 ∨ w = 1 ∨ w = 2 ∨ w = 3 ∨ w = 4 ∨ w = 5 ∨ w = 6 ∨ w = 7 := by omega
      rcases hw with rfl | rfl | rfl | rfl | rfl | rfl | rfl | rfl
      · exact ⟨_, _, _, _, rfl, rfl, SqT.of htt9, at_of (j := 0) rfl rfl, q _ _ ⟨_, t1, 12, 1, 1, rfl, g9.ih, po9, (k9.ii _ _ (k8.ii _ _ (k7.ii _ _ (k6.ii _ _ (k5.ii _ _ (k4.ii _ _ (k3.ii _ _ (k2.ii _ _ upd_same)))))))), by decide, by decide, by decide⟩⟩
      · exact ⟨_, _, _, _, rfl, rfl, SqT.of htt9, at_of (j := 1) rfl rfl, q _ _ ⟨_, t2, 13, 1, 1, rfl, g9.ih, po9, (k9.ii _ _ (k8.ii _ _ (k7.ii _ _ (k6.ii _ _ (k5.ii _ _ (k4.ii _ _ (k3.ii _ _ upd_same))))))), by decide, by decide, by decide⟩⟩
      · exact ⟨_, _, _, _, rfl, rfl, SqT.of htt9, at_of (j := 2) rfl rfl, q _ _ ⟨_, t3, 1, 4, 1, rfl, g9.ih, po9, (k9.ii _ _ (k8.ii _ _ (k7.ii _ _ (k6.ii _ _ (k5.ii _ _ (k4.ii _ _ upd_same)))))), by decide, by decide, by decide⟩⟩
      · exact ⟨_, _, _, _, rfl, rfl, SqT.of htt9, at_of (j := 3) rfl rfl, q _ _ ⟨_, t4, 2, 5, 1, rfl, g9.ih, po9, (k9.ii _ _ (k8.ii _ _ (k7.ii _ _ (k6.ii _ _ (k5.ii _ _ upd_same))))), by decide, by decide, by decide⟩⟩
      · exact ⟨_, _, _, _, rfl, rfl, SqT.of htt9, at_of (j := 4) rfl rfl, q _ _ ⟨_, t5, 1, 1, 4, rfl, g9.ih, po9, (k9.ii _ _ (k8.ii _ _ (k7.ii _ _ (k6.ii _ _ upd_same)))), by decide, by decide, by decide⟩⟩
      · exact ⟨_, _, _, _, rfl, rfl, SqT.of htt9, at_of (j := 5) rfl rfl, q _ _ ⟨_, t6, 1, 2, 5, rfl, g9.ih, po9, (k9.ii _ _ (k8.ii _ _ (k7.ii _ _ upd_same))), by decide, by decide, by decide⟩⟩
      · exact ⟨_, _, _, _, rfl, rfl, SqT.of htt9, at_of (j := 6) rfl rfl, q _ _ ⟨_, t7, 7, 2, 2, rfl, g9.ih, po9, (k9.ii _ _ (k8.ii _ _ upd_same)), by decide, by decide, by decide⟩⟩
      · exact ⟨_, _, _, _, rfl, rfl, SqT.of htt9, at_of (j := 7) rfl rfl, q _ _ ⟨_, t8, 5, 1, 3, rfl, g9.ih, po9, (k9.ii _ _ upd_same), by decide, by decide, by decide⟩⟩
    clear s1 po1 ht hn hb hc I t n b c
    rintro σ' H1 ⟨I, t, n, b, c, rfl, s1, po1, ht, hn, hb, hc⟩
    (try dsimp only)
    refine seq_cut (fun σ' H' => ∃ (I : Hp) (v3 v4 : V) (st : List Rat) (mv : List (List Rows)), σ' = [some (.ref a), some (.ref p), some (.ref t), some v3, some v4, none, none, none, none, none, none, none, none, none, none, none, none, none, none, none, none, none] ∧ Same I H' ∧ PoolOk I H' p ∧ iL iQ I v3 st ∧ iQM I v4 mv ∧ GOk 0 st mv) (fun nx q => ?_) ?_
    · have ht1 := s1 _ _ ht
      refine ⟨_, rfl, _, rfl, _, _, _, _, rfl, rfl, SqT.of ht1, at_of (j := 0) rfl rfl, _, rfl, _, _, _, _, rfl, rfl, SqT.of ht1, at_of (j := 1) rfl rfl, _, rfl, _, _, _, _, rfl, rfl, SqT.of ht1, at_of (j := 2) rfl rfl, I, p, n, b, c, rfl, s1, po1, hn, hb, hc, fun I2 H2 v2 M g2 po2 r2 mg2 => ?_⟩
      obtain ⟨a2, x2, y2, rfl, h2, r21, r22⟩ := r2
      exact ⟨a2, _, rfl, SqT.of (g2.ih _ _ h2), rfl, _, _, rfl, _, _, rfl, rfl, q _ _ ⟨I2, x2, y2, M.1, M.2, rfl, g2.ih, po2, r21, r22, mg2.g hn.2 hb.2 hc.2⟩⟩
    clear s1 po1 ht hn hb hc I n b c
    rintro σ' H1 ⟨I, v3, v4, st, mv, rfl, s1, po1, r3, r4, ok⟩
    (try dsimp only)
    refine seq_cut (fun σ' H' => ∃ (I : Hp) (v3 v4 : V) (v5 : Option V) (st : List Rat) (mv : List (List Rows)), σ' = [some (.ref a), some (.ref p), some (.ref t), some v3, some v4, v5, none, none, none, none, none, none, none, none, none, none, none, none, none, none, none, none] ∧ Same I H' ∧ PoolOk I H' p ∧ iL iQ I v3 st ∧ iQM I v4 mv ∧ GOk 2 st mv) (fun nx q => ?_) ?_
    · refine ⟨_, rfl, I, p, 3, rfl, s1, po1, by decide, by decide, fun v H2 c0 c1 g2 po2 => ⟨v, rfl, by omega, by omega, ?_⟩⟩
      obtain ⟨tn, htn⟩ : ∃ tn : Nat, tn = v.toNat := ⟨_, rfl⟩
      rw [← htn]
      have tn2 : tn ≤ 2 := by omega
      refine for_wk (wk_range (I := I))
        (fun σ' H' => ∃ (I : Hp) (v3 v4 : V) (v5 : Option V) (st : List Rat) (mv : List (List Rows)), σ' = [some (.ref a), some (.ref p), some (.ref t), some v3, some v4, v5, none, none, none, none, none, none, none, none, none, none, none, none, none, none, none, none] ∧ Same I H' ∧ PoolOk I H' p ∧ iL iQ I v3 st ∧ iQM I v4 mv ∧ GOk 2 st mv)
        (fun i σ' H' => ∃ (I' : Hp) (v3 v4 : V) (v5 : Option V) (st : List Rat) (mv : List (List Rows)), σ' = [some (.ref a), some (.ref p), some (.ref t), some v3, some v4, v5, none, none, none, none, none, none, none, none, none, none, none, none, none, none, none, none] ∧ Same I I' ∧ Same I' H' ∧ PoolOk I' H' p ∧ iL iQ I' v3 st ∧ iQM I' v4 mv ∧ GOk i st mv)
        (fun i σ' H' h => by obtain ⟨I', v3, v4, v5, st, mv, _, s, s', _⟩ := h; exact s.trans s')
        ⟨I, v3, v4, none, st, mv, rfl, Same.refl I, g2.ih, po2, r3, r4, ok⟩ (fun nx2 q2 i σ' H' hi h => ?_) (fun σ' H' h => ?_) (fun σ' H' h => q σ' H' h)
      · clear r3 r4 ok v3 v4 st mv
        obtain ⟨I', v3, v4, v5, st, mv, rfl, s, s', po3, r3, r4, ok⟩ := h
        refine ⟨_, rfl, _, rfl, _, rfl, I', p, v3, v4, st, mv, i, rfl, s', po3, r3, r4, ok, by omega, fun I2 H2 v2 M2 g2 po2 r2 ok2 => ?_⟩
        obtain ⟨a2, x2, y2, rfl, h2, r21, r22⟩ := r2
        exact ⟨a2, _, rfl, SqT.of (g2.ih _ _ h2), rfl, _, _, rfl, _, _, rfl, rfl, I2, x2, y2, _, M2.1, M2.2, rfl, s.trans g2.ii, g2.ih, po2, r21, r22, ok2⟩
      · obtain ⟨I', v3, v4, v5, st, mv, rfl, s, s', po3, r3, r4, ok⟩ := h
        exact ⟨I', v3, v4, v5, st, mv, rfl, s', po3, r3, r4, ok.mono tn2⟩
    clear s1 po1 r3 r4 ok I v3 v4 st mv H1
    rintro σ' H0 ⟨I0, v3, v4, v5, st, mv, rfl, s0, po0, r3, r4, ok⟩
    have n420 : (420 : Nat) ≤ 2 ^ 400 := by decide
    have b400 : (1000 : Nat) ≤ 2 ^ 400 := by decide
    have z0 := ok.z0
    have z1 := ok.z1
    (try dsimp only)
    -- what is passed
    refine seq_cut (fun σ' H' => ∃ (I : Hp) (L : Addr) (S : List Addr), σ' = [some (.ref a), some (.ref p), some (.ref t), some v3, some v4, v5, some (.ref L), none, none, none, none, none, none, none, none, none, none, none, none, none, none, none] ∧ Gr [] I0 H0 I H' ∧ O5 (CR K) I I (.ref L) (mv, S) ∧ S.Nodup ∧ ∀ a ∈ S, H0 a = none) (fun nx q => ?_) ?_
    · obtain ⟨ay, mys, rfl, hy, y2⟩ := id r4
      refine ⟨_, rfl, ay, rfl, ⟨_, SqL.of (s0 _ _ hy)⟩, fun l hD => lc_own (R := iL (iL (iL iQ))) (O := oL (oL (oL (o0 (iR (CR K)))))) id (wk_list hy) y2 s0 hD (lt_line (by omega)) (fun i pp I2 H2 Nx2 Qk2 hi rp _ s2 k2 => ?_) (fun I2 H2 S g2 o2 nd fr => q _ _ ⟨I2, l, S, rfl, g2, by rw [List.map_id] at o2; exact o2, nd, fr⟩)⟩
      obtain ⟨c, zs, ec, hc, c2⟩ := id rp
      have hpm := List.mem_of_getElem? hi
      have l2 := ok.z2 _ hpm
      rw [ec]
      refine ⟨rfl, _, rfl, c, rfl, ⟨_, SqL.of (s2 _ _ hc)⟩, fun l hD => lc_own (R := iL (iL iQ)) (O := oL (oL (o0 (iR (CR K))))) id (wk_list hc) c2 s2 hD (lt_line (by omega)) (fun j r I3 H3 Nx3 Qk3 hj rr _ s3 k3 => ?_) (fun I3 H3 S g3 o3 nd fr => k2 _ _ _ S g3 (by rw [List.map_id] at o3; exact o3) nd fr)⟩
      obtain ⟨d, ws, ed, hd, d2⟩ := id rr
      have hrm := List.mem_of_getElem? hj
      have l3 := ok.z3 _ hpm _ hrm
      rw [ed]
      refine ⟨rfl, _, rfl, d, rfl, ⟨_, SqL.of (s3 _ _ hd)⟩, fun l hD => lc_own (R := iL iQ) (O := oL (o0 (iR (CR K)))) id (wk_list hd) d2 s3 hD (lt_line (by omega)) (fun u x I4 H4 Nx4 Qk4 hu rx _ s4 k4 => ?_) (fun I4 H4 S g4 o4 nd fr => k3 _ _ _ S g4 (by rw [List.map_id] at o4; exact o4) nd fr)⟩
      obtain ⟨tl, vs, et, htl, t2⟩ := id rx
      have hxm := List.mem_of_getElem? hu
      have l4 := ok.z4 _ hpm _ hrm _ hxm
      rw [et]
      refine ⟨rfl, _, rfl, tl, rfl, ⟨_, SqL.of (s4 _ _ htl)⟩, fun l hD => lc_own (R := iQ) (O := o0 (iR (CR K))) id (wk_list htl) t2 s4 hD (lt_line (by omega)) (fun m q5 I5 H5 Nx5 Qk5 hm rq _ s5 k5 => ?_) (fun I5 H5 S g5 o5 nd fr => k4 _ _ _ S g5 (by rw [List.map_id] at o5; exact o5) nd fr)⟩
      obtain ⟨o, eo, ho⟩ := rq
      have gd := fit_gz (ok.g1 _ hpm _ hrm _ hxm _ (List.mem_of_getElem? hm)) (by omega) n420
      rw [eo]
      refine ⟨o, _, rfl, SqT.of (s5 _ _ ho), rfl, _, _, rfl, _, _, rfl, rfl, rfl, _, rfl, _, rfl, fun x dx nx nd ne => ⟨x, dx, _, _, rfl, upd_same, fit_sm gd, fun _ => ⟨rfl, ?_⟩, fun h => absurd h (Int.not_le.mpr (den_pos _))⟩⟩
      obtain ⟨gn, rn⟩ := rat_new (ms := []) (C := CR K) (q := rt q5.num q5.den) s5 nx nd ne
      rw [rt_self] at gn rn
      have z := k5 _ _ _ [] gn ⟨rn, rfl⟩ (by simp) (by simp)
      rw [rt_self]
      exact z
    rintro σ' H1 ⟨I, L, S, rfl, g1, o5, nd, fr⟩
    (try dsimp only)
    refine seq_cut (fun σ' H' => ∃ (I : Hp) (M : Addr), σ' = [some (.ref a), some (.ref p), some (.ref t), some v3, some v4, v5, some (.ref L), none, none, none, none, none, some (.ref M), none, none, none, none, none, none, none, none, none] ∧ Gr [] I0 H0 I H' ∧ O5 (CR K) I I (.ref L) (mv, S) ∧ H0 M = none ∧ M ∉ S ∧ iL (iR (CR K)) I (.ref M) st) (fun nx q => ?_) ?_
    · obtain ⟨ax, xs, rfl, hx, x2⟩ := id r3
      have hx1 := g1.ii _ _ hx
      have notS : ∀ l, H1 l = none → l ∉ S := fun l hD h => by
        obtain ⟨vs, e⟩ := Ow.so o5 l h
        have e2 := g1.ih _ _ e
        rw [hD] at e2; cases e2
      refine ⟨_, rfl, ax, rfl, ⟨_, SqL.of (g1.ih _ _ hx1)⟩, fun l hD => lc_id (R := iQ) (Sy := iR (CR K)) (wk_list hx1) (x2.up g1.ii) g1.ih hD (lt_line (by omega)) (fun m q4 I4 H4 Nx4 Qk4 hm rq s4 k4 => ?_) (fun I4 H4 g4 r4' => q _ _ ⟨I4, l, rfl, g1.trans g4, Ow.up g4.ii o5, g1.none hD, notS l hD, r4'⟩)⟩
      obtain ⟨o, eo, ho⟩ := rq
      have gd := fit_gz (ok.g0 _ (List.mem_of_getElem? hm)) (by omega) n420
      rw [eo]
      refine ⟨o, _, rfl, SqT.of (s4 _ _ ho), rfl, _, _, rfl, _, _, rfl, rfl, rfl, _, rfl, _, rfl, fun x dx nx nd ne => ⟨x, dx, _, _, rfl, upd_same, fit_sm gd, fun _ => ⟨rfl, ?_⟩, fun h => absurd h (Int.not_le.mpr (den_pos _))⟩⟩
      obtain ⟨gn, rn⟩ := rat_new (ms := []) (C := CR K) (q := rt q4.num q4.den) s4 nx nd ne
      rw [rt_self] at gn rn
      have z := k4 _ _ _ gn rn
      rw [rt_self]
      exact z
    clear g1 o5 I H1
    rintro σ' H1 ⟨I, M, rfl, g1, o5, hM, hMS, r12⟩
    obtain ⟨hp1, op, hp2⟩ := po0.inn
    (try dsimp only)
    refine seq_cut (fun σ' H' => σ' = [some (.ref a), some (.ref p), some (.ref t), some v3, some v4, v5, some (.ref L), none, none, none, none, none, some (.ref M), some (.ref M), none, none, none, none, none, none, none, none] ∧ Gr [] I0 H0 I H') (fun nx q => ⟨_, rfl, q _ _ ⟨rfl, g1⟩⟩) ?_
    clear g1 H1
    rintro σ' H1 ⟨rfl, g1⟩
    (try dsimp only)
    refine seq_cut (fun σ' H' => ∃ (I : Hp) (v13 : V), σ' = [some (.ref a), some (.ref p), some (.ref t), some v3, some v4, v5, some (.ref L), none, none, none, none, none, some (.ref M), some v13, none, none, none, none, none, none, none, none] ∧ Gr [p] I0 H0 I H' ∧ PoolOk I0 H' p ∧ O5 (CR K) I I (.ref L) (mv, S) ∧ iL (iR (CR K)) I (.ref M) st ∧ iA (iR (CR K)) I v13 st) (fun nx q => ?_) ?_
    · have hIp := g1.out hp1 hp2
      refine ⟨_, rfl, I0, p, 2, rfl, g1.ii.trans g1.ih, po0.hh g1, by decide, by decide, fun v H2 c0 c1 g2 po2 => ?_⟩
      have gg := (g1.nil (ms := [p])).trans (gr_over g2 g1.ih fun m hm => by rw [List.mem_singleton.mp hm]; exact hIp)
      refine ⟨rfl, _, rfl, ifB (fun _ => ?_) (fun _ => ?_)⟩
      · exact ⟨_, rfl, tup_of (iA.l r12) gg.ih fun I3 H3 v3 g3 r3 => q _ _ ⟨I3, v3, rfl, gg.trans g3.nil, po2.hh g3, Ow.up g3.ii o5, up g3.ii r12, iA.t r3⟩⟩
      · exact q _ _ ⟨I, .ref M, rfl, gg, po2, o5, r12, iA.l r12⟩
    clear g1 o5 r12 I H1
    rintro σ' H1 ⟨I, v13, rfl, g1, po1, o5, r12, r13⟩
    (try dsimp only)
    refine seq_cut (fun σ' H' => ∃ (I : Hp) (v6 : V), σ' = [some (.ref a), some (.ref p), some (.ref t), some v3, some v4, v5, some v6, none, none, none, none, none, some (.ref M), some v13, none, none, none, none, none, none, none, none] ∧ Gr [p] I0 H0 I H' ∧ PoolOk I0 H' p ∧ iL (iR (CR K)) I (.ref M) st ∧ iA (iR (CR K)) I v13 st ∧ iMa (CR K) I v6 mv ∧ (O5 (CR K) I I v6 (mv, S) ∨ ∃ t vs, v6 = .ref t ∧ I t = some (.tup vs))) (fun nx q => ?_) ?_
    · have hIp := g1.out hp1 hp2
      have r6 : iMl (CR K) I (.ref L) mv := Fz'.to (O := O5 (CR K)) o5
      refine ⟨_, rfl, I0, p, 2, rfl, g1.ii.trans g1.ih, po1, by decide, by decide, fun v H2 c0 c1 g2 po2 => ?_⟩
      have gg := g1.trans (gr_over g2 g1.ih fun m hm => by rw [List.mem_singleton.mp hm]; exact hIp)
      refine ⟨rfl, _, rfl, ifB (fun _ => ?_) (fun _ => ?_)⟩
      · obtain ⟨b, xs, eb, hb, x2⟩ := id r6
        cases eb
        refine ⟨_, rfl, _, rfl, ⟨_, SqL.of (gg.ih _ _ hb)⟩, fun l hD => lc_id (R := iL (iL (iL (iR (CR K))))) (Sy := iT (iT (iT (iR (CR K))))) (wk_list hb) x2 gg.ih hD (lt_line (by omega)) (fun i y I3 H3 Nx Qk hy ry s3 k3 => ?_) (fun I3 H3 g3 r3 => ?_)⟩
        · obtain ⟨c, ys, ec, hc, c2⟩ := id ry
          have hym := List.mem_of_getElem? hy
          have ly := ok.z2 _ hym
          rw [ec]
          refine ⟨rfl, _, rfl, c, rfl, ⟨_, SqL.of (s3 _ _ hc)⟩, fun l hD => lc_id (R := iL (iL (iR (CR K)))) (Sy := iT (iT (iR (CR K)))) (wk_list hc) c2 s3 hD (lt_line (by omega)) (fun j z I4 H4 Nx4 Qk4 hz rz s4 k4 => ?_) (fun I4 H4 g4 r4 => tup_of (iA.l r4) g4.ih fun I5 H5 v5 g5 r5 => k3 _ _ _ (g4.trans g5) r5)⟩
          obtain ⟨d, zs, ed, hd, d2⟩ := id rz
          have lz := ok.z3 _ hym _ (List.mem_of_getElem? hz)
          rw [ed]
          refine ⟨rfl, _, rfl, d, rfl, ⟨_, SqL.of (s4 _ _ hd)⟩, fun l hD => lc_id (R := iL (iR (CR K))) (Sy := iT (iR (CR K))) (wk_list hd) d2 s4 hD (lt_line (by omega)) (fun m u I5 H5 Nx5 Qk5 hu ru s5 k5 => ⟨rfl, _, rfl, tup_of (iA.l ru) s5 k5⟩) (fun I5 H5 g5 r5 => tup_of (iA.l r5) g5.ih fun I6 H6 v6 g6 r6 => k4 _ _ _ (g5.trans g6) r6)⟩
        · refine tup_of (iA.l r3) g3.ih fun I4 H4 v4 g4 r4 => ?_
          have g34 := g3.trans g4
          obtain ⟨tt, ts, et, htt, _⟩ := id r4
          exact q _ _ ⟨I4, v4, rfl, gg.trans g34.nil, po2.hh g34, up g34.ii r12, up g34.ii r13, iAt_of (fun _ _ => iAt_of fun _ _ => iAt_of fun _ _ => iA.t) r4, .inr ⟨tt, ts, et, htt⟩⟩
      · exact q _ _ ⟨I, .ref L, rfl, gg, po2, r12, r13, iA_of (fun _ _ => iA_of fun _ _ => iA_of fun _ _ => iA.l) r6, .inl o5⟩
    clear g1 po1 o5 r12 r13 I H1
    rintro σ' H1 ⟨I, v6, rfl, g1, po1, r12, r13, r6, hv6⟩
    (try dsimp only)
    refine seq_cut (fun σ' H' => ∃ (I : Hp), σ' = [some (.ref a), some (.ref p), some (.ref t), some v3, some v4, v5, some v6, none, none, none, none, none, some (.ref M), some v13, some (oV (flt st mv)), none, none, none, none, none, none, none] ∧ Gr [p] I0 H0 I H' ∧ PoolOk I0 H' p ∧ iL (iR (CR K)) I (.ref M) st ∧ iA (iR (CR K)) I v13 st ∧ iMa (CR K) I v6 mv ∧ (O5 (CR K) I I v6 (mv, S) ∨ ∃ t vs, v6 = .ref t ∧ I t = some (.tup vs))) (fun nx q => ?_) ?_
    · exact ⟨_, rfl, _, rfl, I, _, _, st, mv, rfl, g1.ih, up g1.ii r3, up g1.ii r4, ok.f (by decide), fun I2 H2 g2 => q _ _ ⟨I2, rfl, g1.trans g2.nil, po1.hh g2, up g2.ii r12, up g2.ii r13, up g2.ii r6, hv6.imp (Ow.up g2.ii) fun ⟨t, vs, e, h⟩ => ⟨t, vs, e, g2.ii _ _ h⟩⟩⟩
    clear g1 po1 r12 r13 r6 hv6 I H1
    rintro σ' H1 ⟨I, rfl, g1, po1, r12, r13, r6, hv6⟩
    (try dsimp only)
    refine seq_cut (fun σ' H' => ∃ (I : Hp) (v15 : V), σ' = [some (.ref a), some (.ref p), some (.ref t), some v3, some v4, v5, some v6, none, none, none, none, none, some (.ref M), some v13, some .non, some v15, none, none, none, none, none, none] ∧ Gr [p] I0 H0 I H' ∧ PoolOk I0 H' p ∧ iM (CR K) (CM K) I v15 (st, mv) ∧ FNone st mv ∧ iL (iR (CR K)) I (.ref M) st ∧ (O5 (CR K) I I v6 (mv, S) ∨ ∃ t vs, v6 = .ref t ∧ I t = some (.tup vs))) (fun nx q => ?_) ?_
    · refine ⟨_, rfl, _, rfl, fun x dx nx nd ne => ?_⟩
      have h1 : upd H1 dx (.own x) x = none := by rw [upd_ne (Ne.symm ne)]; exact nx
      have gd := Gr.new (ms := []) (o := .own x) g1.ih nd
      refine ⟨upd I dx (.own x), x, dx, v13, v6, (st, mv), rfl, sUnder gd.ih (gd.ih.free h1), gd.ih.free h1, upd_same, up gd.ii r13, up gd.ii r6, ok.f (by decide), fun hn I5 H5 va vb g5 h5 p1 p2 => ⟨rfl, ?_⟩, fun r hr I5 H5 d g5 hd => ?_⟩
      · obtain ⟨g6, r15⟩ := mach_new g1.ih nx nd ne g5 h5 p1 p2
        replace hn : flt st mv = none := hn
        rw [hn]
        exact q _ _ ⟨_, _, rfl, g1.trans g6.nil, po1.hh g6, r15, flt_none hn, up g6.ii r12, hv6.imp (Ow.up g6.ii) fun ⟨t, vs, e, h⟩ => ⟨t, vs, e, g6.ii _ _ h⟩⟩
      · replace hr : flt st mv = some r := hr
        rw [hr]
        refine ⟨true, exm_BadMachine_TestError D, fun _ e he => ?_, fun q => nomatch q⟩
        refine ⟨_, rfl, rfl, ⟨d, _, rfl, hd⟩, _, _, true, rfl, (fun u r => r), kit_BadMachine_BadMachine D, _, rfl, iteT ?_⟩
        refine ⟨_, rfl, (by show 4 ≤ sizeLine; decide), fun T hT => ?_⟩
        refine ⟨rfl, ⟨d, _, rfl, sNew hT _ _ hd⟩, T, _, _, false, rfl, upd_same, .cons (.own _) (.cons (.own _) (.cons (.own _) (.cons (.own _) .nil))), kit4m D, _, rfl, _, rfl, iteT ?_⟩
        refine ⟨_, rfl, rfl, _, rfl, ifT (by simp [oV]) ?_⟩
        refine ⟨_, rfl, rfl, rfl, d, _, .str r, rfl, sNew hT _ _ hd, rfl, _, rfl, r, r, rfl, ?_⟩
        rw [decide_eq_true rfl]
        exact k _
    clear g1 po1 r12 r13 r6 hv6 I H1
    rintro σ' H1 ⟨I, v15, rfl, g1, po1, r15, fn, r12, hv6⟩
    have hzs : ∀ {A B : Prop} {b : Bool}, b = false → B → (if (!b) = true then B else A) := fun hb h => by rw [hb]; exact iteT h
    have nc1 := fn.c
    have na1 := fn.a
    have nb1 := fn.b
    (try dsimp only)
    -- what the machine tells
    refine seq_cut (fun σ' H' => ∃ (I : Hp), σ' = [some (.ref a), some (.ref p), some (.ref t), some v3, some v4, v5, some v6, none, none, none, none, none, some (.ref M), some v13, some .non, some v15, none, none, none, none, none, none] ∧ Gr [p] I0 H0 I H' ∧ PoolOk I0 H' p ∧ iM (CR K) (CM K) I v15 (st, mv) ∧ iL (iR (CR K)) I (.ref M) st ∧ (O5 (CR K) I I v6 (mv, S) ∨ ∃ t vs, v6 = .ref t ∧ I t = some (.tup vs))) (fun nx q => ?_) ?_
    · refine ⟨_, rfl, rfl, _, rfl, ifF (by simp) ⟨_, rfl, I, _, (st, mv), rfl, g1.ih, r15, fn, fun I2 H2 v2 g2 r2 => ?_⟩⟩
      refine ⟨_, rfl, _, rfl, (by show 2 ≤ sizeLine; decide), fun t2 ht2 => ?_⟩
      have g3 := Gr.new (ms := []) (o := .tup [v3, v4]) g2.ih ht2
      have g23 := g2.trans g3
      have gg := g1.ii.trans g23.ii
      refine ne_ma (A := (st, mv)) (B := (st, mv)) (I := upd I2 t2 (.tup [v3, v4])) g3.ih (up g3.ii r2) ⟨t2, v3, v4, rfl, upd_same, up gg r3, up gg r4⟩ ⟨_, rfl, ifF (by simp) ?_⟩
      exact q _ _ ⟨_, rfl, g1.trans g23.nil, po1.hh g23, up g23.ii r15, up g23.ii r12, hv6.imp (Ow.up g23.ii) fun ⟨t, vs, e, h⟩ => ⟨t, vs, e, g23.ii _ _ h⟩⟩
    clear g1 po1 r12 hv6 r15 I H1
    rintro σ' H1 ⟨I, rfl, g1, po1, r15, r12, hv6⟩
    -- its lists may change from here on
    obtain ⟨Is, gs, r15s, nM, hML, hL6⟩ : ∃ Is, Gr [p] I0 H0 Is H1 ∧ iM (CR K) (CM K) Is v15 (st, mv) ∧ Is M = none ∧ (∃ vs, H1 M = some (.lst vs) ∧ vs.length ≤ 1000) ∧ ((O5 (CR K) Is H1 v6 (mv, S) ∧ ∀ a ∈ S, Is a = none) ∨ ∃ t vs, v6 = .ref t ∧ Is t = some (.tup vs)) := by
      let Sx : Addr → Prop := fun a => H0 a = none ∧ ∃ vs, I a = some (.lst vs)
      have gs := gr_strip g1 Sx (fun a h => h.1) s0
      have nol := strip_nol (S := Sx) (I := I) fun a h => h.2
      obtain ⟨_, ms, eM, hMs, m2⟩ := id r12
      cases eM
      refine ⟨strip Sx I, gs, NoL.up nol r15, strip_in ⟨hM, _, hMs⟩, ⟨ms, g1.ih _ _ hMs, by rw [m2.len]; omega⟩, hv6.imp (fun o5 => ?_) fun ⟨t, vs, e, h⟩ => ⟨t, vs, e, nol _ _ h fun _ z => nomatch z⟩⟩
      have so := Ow.so o5
      exact ⟨Ow.fr (Same.refl _) (fun a ha => by
        obtain ⟨ws, e⟩ := so a ha
        rw [e, g1.ih _ _ e]) (OwN.up nol o5), fun a ha => strip_in ⟨fr a ha, so a ha⟩⟩
    clear g1 r15 r12 hv6
    (try dsimp only)
    refine seq_cut (fun σ' H' => ∃ (Is : Hp), σ' = [some (.ref a), some (.ref p), some (.ref t), some v3, some v4, v5, some v6, none, none, none, none, none, some (.ref M), some v13, some .non, some v15, none, none, none, none, none, none] ∧ Gr [p] I0 H0 Is H' ∧ PoolOk I0 H' p ∧ iM (CR K) (CM K) Is v15 (st, mv) ∧ (Lv (fun a => H0 a = none ∧ Is a = none) H' 4 v6 ∨ ∃ t vs, v6 = .ref t ∧ Is t = some (.tup vs))) (fun nx q => ?_) ?_
    · obtain ⟨ms, hms, lms⟩ := hML
      refine ⟨_, rfl, .inl ⟨rfl, _, SqL.of hms⟩, fun x dx nx nd ne => ⟨x, dx, _, _, rfl, upd_same, sm_of (by decide) (by decide), fun _ => ⟨rfl, ?_⟩, fun h => absurd h (by decide)⟩⟩
      obtain ⟨g3, _⟩ := rat_new (ms := []) (C := CR K) (q := rt 1 1) gs.ih nx nd ne
      have hms' := g3.at hms (by simp)
      have nM' := g3.out nM hms
      refine ⟨M, ms, _, rfl, rfl, hms', lt_line (by omega), ?_⟩
      have gm := gmut (o := .lst (ms ++ [.ref x])) (gs.trans g3.nil) hM nM'
      refine q _ _ ⟨_, rfl, gm, (po1.hh g3).mutO (po0.ne hM) (s0.free hM), up g3.ii r15s, hL6.imp (fun ⟨o6, nS⟩ => ?_) fun ⟨t, vs, e, h⟩ => ⟨t, vs, e, g3.ii _ _ h⟩⟩
      have so := Ow.so o6
      have o7 := Ow.fr (H' := upd (upd (upd (upd H1 dx (.own x)) x (.ins (CR K) dx [])) x (.ins (CR K) dx (rf (rt 1 1)))) M (.lst (ms ++ [.ref x]))) g3.ii (fun a ha => by
        obtain ⟨ws, e⟩ := so a ha
        have na : a ≠ M := fun z => hMS (z ▸ ha)
        rw [upd_ne na, e, g3.at e (by simp)]) o6
      exact lv_made gm.ih o7 (fun a ha => ⟨fr a ha, by
        obtain ⟨ws, e⟩ := so a ha
        exact g3.out (nS a ha) e⟩) fn
    clear gs r15s nM hML hL6 Is H1 po1
    rintro σ' H1 ⟨Is, rfl, gs, po1, r15, hv6⟩
    (try dsimp only)
    refine seq_cut (fun σ' H' => ∃ (Is : Hp), σ' = [some (.ref a), some (.ref p), some (.ref t), some v3, some v4, v5, some v6, none, none, none, none, none, some (.ref M), some v13, some .non, some v15, none, none, none, none, none, none] ∧ Gr [p] I0 H0 Is H' ∧ PoolOk I0 H' p ∧ iM (CR K) (CM K) Is v15 (st, mv)) (fun nx q => ?_) ?_
    · rcases hv6 with hL | ⟨tt, ts, rfl, htt⟩
      · obtain ⟨la, rfl⟩ := lv_ref hL
        obtain ⟨vsa, na, hla, nea, lla, ⟨ub, a0, Lb⟩, ug, aN, Lg⟩ := lv_path hL
        obtain ⟨lb, rfl⟩ := lv_ref Lb
        obtain ⟨lg, rfl⟩ := lv_ref Lg
        obtain ⟨vsb, nb, hlb, neb, llb, ⟨uc, b0, Lc⟩, uf, bN, Lf⟩ := lv_path Lb
        obtain ⟨lc, rfl⟩ := lv_ref Lc
        obtain ⟨lf, rfl⟩ := lv_ref Lf
        obtain ⟨vsc, nc, hlc, nec, llc, ⟨ue, c0, Le⟩, ud, cN, Ld⟩ := lv_path Lc
        obtain ⟨le, rfl⟩ := lv_ref Le
        obtain ⟨ld, rfl⟩ := lv_ref Ld
        obtain ⟨vsd, nd', hld, ned, lld, _⟩ := lv_path Ld
        obtain ⟨vse, ne', hle, nee, lle, _⟩ := lv_path Le
        obtain ⟨vsf, nf, hlf, nef, llf, _⟩ := lv_path Lf
        obtain ⟨vsg, ng, hlg, neg, llg, _⟩ := lv_path Lg
        have da := lv_ne Ld hL (by decide)
        have db := lv_ne Ld Lb (by decide)
        have dc := lv_ne Ld Lc (by decide)
        have df := lv_ne Ld Lf (by decide)
        have dg := lv_ne Ld Lg (by decide)
        have ea := lv_ne Le hL (by decide)
        have eb := lv_ne Le Lb (by decide)
        have ef := lv_ne Le Lf (by decide)
        have eg := lv_ne Le Lg (by decide)
        have fa := lv_ne Lf hL (by decide)
        have fg := lv_ne Lf Lg (by decide)
        have ga := lv_ne Lg hL (by decide)
        refine ⟨_, rfl, _, _, _, _, true, rfl, .ty "list", .base (.lst hla), rfl, _, rfl, ifT rfl ?_⟩
        (try dsimp only)
        refine seq_cut (fun σ' H' => ∃ (Is : Hp), σ' = [some (.ref a), some (.ref p), some (.ref t), some v3, some v4, v5, some (.ref la), none, none, none, none, none, some (.ref M), some v13, some .non, some v15, none, none, none, none, none, none] ∧ Gr [p] I0 H0 Is H' ∧ PoolOk I0 H' p ∧ iM (CR K) (CM K) Is v15 (st, mv) ∧ (Is la = none ∧ Is le = none ∧ Is lf = none ∧ Is lg = none) ∧ H' la = some (.lst vsa) ∧ H' lb = some (.lst vsb) ∧ H' lc = some (.lst vsc) ∧ (∃ v, H' le = some (.lst v) ∧ v.length ≤ 1000) ∧ (∃ v, H' lf = some (.lst v) ∧ v.length ≤ 1000) ∧ (∃ v, H' lg = some (.lst v) ∧ v.length ≤ 1000)) (fun nx q => ?_) ?_
        · refine fun x dx nx nd ne => ⟨x, dx, _, _, rfl, upd_same, sm_of (by decide) (by decide), fun _ => ⟨rfl, ?_⟩, fun h => absurd h (by decide)⟩
          obtain ⟨g3, _⟩ := rat_new (ms := []) (C := CR K) (q := rt 9 1) gs.ih nx nd ne
          have hla' := g3.at hla (by simp)
          have hlb' := g3.at hlb (by simp)
          have hlc' := g3.at hlc (by simp)
          have hld' := g3.at hld (by simp)
          refine ⟨_, rfl, _, _, _, _, rfl, rfl, SqL.of hla', a0, _, _, _, _, rfl, rfl, SqL.of hlb', b0, _, rfl, _, _, _, _, rfl, rfl, SqL.of hlc', cN, ld, vsd, 0, 0, rfl, rfl, hld', ?_, ?_⟩
          · unfold ixN
            rw [if_pos (by decide), if_pos (by have := List.length_pos_iff.mpr ned; omega)]; rfl
          · have gm := gmut (o := .lst (vsd.set 0 (.ref x))) (gs.trans g3.nil) nd'.1 (g3.out nd'.2 hld)
            refine q _ _ ⟨_, rfl, gm, (po1.hh g3).mutO (po0.ne nd'.1) (s0.free nd'.1), up g3.ii r15, ⟨g3.out na.2 hla, g3.out ne'.2 hle, g3.out nf.2 hlf, g3.out ng.2 hlg⟩, by rw [upd_ne (Ne.symm da)]; exact hla', by rw [upd_ne (Ne.symm db)]; exact hlb', by rw [upd_ne (Ne.symm dc)]; exact hlc', ?_, ⟨vsf, by rw [upd_ne (Ne.symm df)]; exact g3.at hlf (by simp), llf⟩, ⟨vsg, by rw [upd_ne (Ne.symm dg)]; exact g3.at hlg (by simp), llg⟩⟩
            by_cases z : le = ld
            · subst z; exact ⟨_, upd_same, by rw [List.length_set]; omega⟩
            · exact ⟨vse, by rw [upd_ne z]; exact g3.at hle (by simp), lle⟩
        clear gs po1 r15 hL Lb Lc Ld Le Lf Lg hla hlb hlc hld hle hlf hlg
        rintro σ' H1 ⟨Is, rfl, gs, po1, r15, ⟨ia, ie, iF, ig⟩, hla, hlb, hlc, ⟨ve, hle, lle⟩, ⟨vf, hlf, llf⟩, vg, hlg, llg⟩
        (try dsimp only)
        refine seq_cut (fun σ' H' => ∃ (Is : Hp), σ' = [some (.ref a), some (.ref p), some (.ref t), some v3, some v4, v5, some (.ref la), none, none, none, none, none, some (.ref M), some v13, some .non, some v15, none, none, none, none, none, none] ∧ Gr [p] I0 H0 Is H' ∧ PoolOk I0 H' p ∧ iM (CR K) (CM K) Is v15 (st, mv) ∧ (Is la = none ∧ Is lf = none ∧ Is lg = none) ∧ H' la = some (.lst vsa) ∧ H' lb = some (.lst vsb) ∧ (∃ v, H' lf = some (.lst v) ∧ v.length ≤ 1000) ∧ (∃ v, H' lg = some (.lst v) ∧ v.length ≤ 1000)) (fun nx q => ?_) ?_
        · refine ⟨_, rfl, _, _, _, _, rfl, rfl, SqL.of hla, a0, _, _, _, _, rfl, rfl, SqL.of hlb, b0, _, _, _, _, rfl, rfl, SqL.of hlc, c0, .inl ⟨rfl, _, SqL.of hle⟩, fun x dx nx nd ne => ⟨x, dx, _, _, rfl, upd_same, sm_of (by decide) (by decide), fun _ => ⟨rfl, ?_⟩, fun h => absurd h (by decide)⟩⟩
          obtain ⟨g3, _⟩ := rat_new (ms := []) (C := CR K) (q := rt 1 1) gs.ih nx nd ne
          refine ⟨le, ve, _, rfl, rfl, g3.at hle (by simp), lt_line (by omega), ?_⟩
          have gm := gmut (o := .lst (ve ++ [.ref x])) (gs.trans g3.nil) ne'.1 (g3.out ie hle)
          exact q _ _ ⟨_, rfl, gm, (po1.hh g3).mutO (po0.ne ne'.1) (s0.free ne'.1), up g3.ii r15, ⟨g3.out ia hla, g3.out iF hlf, g3.out ig hlg⟩, by rw [upd_ne (Ne.symm ea)]; exact g3.at hla (by simp), by rw [upd_ne (Ne.symm eb)]; exact g3.at hlb (by simp), ⟨vf, by rw [upd_ne (Ne.symm ef)]; exact g3.at hlf (by simp), llf⟩, ⟨vg, by rw [upd_ne (Ne.symm eg)]; exact g3.at hlg (by simp), llg⟩⟩
        clear gs po1 r15 ia ie iF ig hla hlb hlc hle hlf hlg H1 Is
        rintro σ' H1 ⟨Is, rfl, gs, po1, r15, ⟨ia, iF, ig⟩, hla, hlb, ⟨vf, hlf, llf⟩, vg, hlg, llg⟩
        (try dsimp only)
        refine seq_cut (fun σ' H' => ∃ (Is : Hp), σ' = [some (.ref a), some (.ref p), some (.ref t), some v3, some v4, v5, some (.ref la), none, none, none, none, none, some (.ref M), some v13, some .non, some v15, none, none, none, none, none, none] ∧ Gr [p] I0 H0 Is H' ∧ PoolOk I0 H' p ∧ iM (CR K) (CM K) Is v15 (st, mv) ∧ (Is la = none ∧ Is lg = none) ∧ H' la = some (.lst vsa) ∧ (∃ v, H' lg = some (.lst v) ∧ v.length ≤ 1000)) (fun nx q => ?_) ?_
        · refine ⟨_, rfl, _, _, _, _, rfl, rfl, SqL.of hla, a0, _, rfl, _, _, _, _, rfl, rfl, SqL.of hlb, bN, .inl ⟨rfl, _, SqL.of hlf⟩, (by show 0 ≤ sizeLine; decide), fun L' hL' => ?_⟩
          have g3 := Gr.tmp (ms := []) (o := .lst []) gs.ih hL'
          refine ⟨lf, vf, _, rfl, rfl, g3.at hlf (by simp), lt_line (by omega), ?_⟩
          have gm := gmut (o := .lst (vf ++ [.ref L'])) (gs.trans g3.nil) nf.1 (g3.out iF hlf)
          exact q _ _ ⟨_, rfl, gm, (po1.hh g3).mutO (po0.ne nf.1) (s0.free nf.1), up g3.ii r15, ⟨ia, ig⟩, by rw [upd_ne (Ne.symm fa)]; exact g3.at hla (by simp), ⟨vg, by rw [upd_ne (Ne.symm fg)]; exact g3.at hlg (by simp), llg⟩⟩
        clear gs po1 r15 ia iF ig hla hlb hlf hlg H1 Is
        rintro σ' H1 ⟨Is, rfl, gs, po1, r15, ⟨ia, ig⟩, hla, vg, hlg, llg⟩
        (try dsimp only)
        refine seq_cut (fun σ' H' => ∃ (Is : Hp), σ' = [some (.ref a), some (.ref p), some (.ref t), some v3, some v4, v5, some (.ref la), none, none, none, none, none, some (.ref M), some v13, some .non, some v15, none, none, none, none, none, none] ∧ Gr [p] I0 H0 Is H' ∧ PoolOk I0 H' p ∧ iM (CR K) (CM K) Is v15 (st, mv) ∧ Is la = none ∧ H' la = some (.lst vsa)) (fun nx q => ?_) ?_
        · refine ⟨_, rfl, _, rfl, _, _, _, _, rfl, rfl, SqL.of hla, aN, .inl ⟨rfl, _, SqL.of hlg⟩, (by show 0 ≤ sizeLine; decide), fun L' hL' => ?_⟩
          have g3 := Gr.tmp (ms := []) (o := .lst []) gs.ih hL'
          refine ⟨lg, vg, _, rfl, rfl, g3.at hlg (by simp), lt_line (by omega), ?_⟩
          have gm := gmut (o := .lst (vg ++ [.ref L'])) (gs.trans g3.nil) ng.1 (g3.out ig hlg)
          exact q _ _ ⟨_, rfl, gm, (po1.hh g3).mutO (po0.ne ng.1) (s0.free ng.1), up g3.ii r15, ia, by rw [upd_ne (Ne.symm ga)]; exact g3.at hla (by simp)⟩
        clear gs po1 r15 ia ig hla hlg H1 Is
        rintro σ' H1 ⟨Is, rfl, gs, po1, r15, ia, hla⟩
        refine ⟨_, rfl, .inl ⟨rfl, _, SqL.of hla⟩, (by show 0 ≤ sizeLine; decide), fun L' hL' => ?_⟩
        have g3 := Gr.tmp (ms := []) (o := .lst []) gs.ih hL'
        refine ⟨la, vsa, _, rfl, rfl, g3.at hla (by simp), lt_line (by omega), ?_⟩
        have gm := gmut (o := .lst (vsa ++ [.ref L'])) (gs.trans g3.nil) na.1 (g3.out ia hla)
        exact q _ _ ⟨_, rfl, gm, (po1.hh g3).mutO (po0.ne na.1) (s0.free na.1), up g3.ii r15⟩
      · exact ⟨_, rfl, _, _, _, _, false, rfl, .ty "list", .base (.tup (gs.ih _ _ htt)), rfl, _, rfl, ifF rfl (q _ _ ⟨Is, rfl, gs, po1, r15⟩)⟩
    clear gs po1 r15 hv6 Is H1
    rintro σ' H1 ⟨I, rfl, gs, po1, r15⟩
    have W : Ls (CR K) (CM K) p v3 v4 v15 st mv I H1 := ⟨gs.ih, po1.sub gs.ii (gs.out hp1 hp2), up gs.ii r3, up gs.ii r4, r15⟩
    clear gs po1 r15
    have fo := ok.f (by decide)
    -- P1
    (try dsimp only)
    refine seq_cut (fun σ' H' => ∃ (I : Hp), σ' = [some (.ref a), some (.ref p), some (.ref t), some v3, some v4, v5, some v6, none, none, none, none, none, some (.ref M), some v13, some .non, some v15, none, none, none, none, none, none] ∧ Ls (CR K) (CM K) p v3 v4 v15 st mv I H') (fun nx q => ?_) ?_
    · refine ⟨_, rfl, I, _, (st, mv), rfl, W.s, W.r15, fn, fun I2 H2 v2 g2 r2 => ?_⟩
      refine ⟨_, rfl, _, rfl, (by show 2 ≤ sizeLine; decide), fun t2 ht2 => ?_⟩
      obtain ⟨g3, rl⟩ := (W.up g2).lm ht2
      have W3 := (W.up g2).up g3
      refine ne_ma (A := (st, mv)) (B := (st, mv)) g3.ih (up g3.ii r2) rl ⟨_, rfl, ifF (by simp) ?_⟩
      obtain ⟨am, dm, va, vb, em, hm, ra, rb⟩ := id W3.r15
      obtain ⟨aa, ws, rfl, ha, _⟩ := id ra
      cases em
      refine ⟨_, rfl, _, _, _, _, _, rfl, W3.s _ _ hm, cls_Machine D, na_Machine_start D, mf_start _ vb, _, _, _, _, true, rfl, .ty "tuple", .base (.tup (W3.s _ _ ha)), rfl, _, rfl, ifF rfl ?_⟩
      exact q _ _ ⟨_, rfl, W3⟩
    clear W I H1
    rintro σ' H1 ⟨I, rfl, W⟩
    -- P2
    (try dsimp only)
    refine seq_cut (fun σ' H' => ∃ (I : Hp), σ' = [some (.ref a), some (.ref p), some (.ref t), some v3, some v4, v5, some v6, none, none, none, none, none, some (.ref M), some v13, some .non, some v15, none, none, none, none, none, none] ∧ Ls (CR K) (CM K) p v3 v4 v15 st mv I H') (fun nx q => ?_) ?_
    · obtain ⟨am, dm, va, vb, em, hm, ra, rb⟩ := id W.r15
      cases em
      refine ⟨_, rfl, _, _, _, _, _, rfl, W.s _ _ hm, cls_Machine D, na_Machine_moves D, mf_moves va vb, I, vb, rfl, W.s, tt_mv rb fn, fun I2 H2 g2 => ⟨_, rfl, ifF rfl ?_⟩⟩
      exact q _ _ ⟨_, rfl, W.up g2⟩
    clear W I H1
    rintro σ' H1 ⟨I, rfl, W⟩
    -- P3
    (try dsimp only)
    refine seq_cut (fun σ' H' => ∃ (I : Hp), σ' = [some (.ref a), some (.ref p), some (.ref t), some v3, some v4, v5, some v6, none, none, none, none, none, some (.ref M), some v13, some .non, some v15, none, none, none, none, none, none] ∧ Ls (CR K) (CM K) p v3 v4 v15 st mv I H') (fun nx q => ?_) ?_
    · obtain ⟨am, dm, va, vb, em, hm, ra, rb⟩ := id W.r15
      cases em
      have hm' := W.s _ _ hm
      obtain ⟨a4, w4, e4, h4, c4⟩ := id W.r4
      cases e4
      obtain ⟨v0, hv0, rv0⟩ := c4.get' (gl_lt (l := mv) (i := 0) (by omega))
      have mn : ∀ {m : Str}, ¬ m = "moves" → ¬ m = "start" → (mf va vb).lookup m = none := fun h1 h2 => mf_no va vb h1 h2
      refine ⟨_, rfl, _, _, _, rfl, hm', mn (by decide +kernel) (by decide +kernel), I, _, (st, mv), rfl, W.s, W.r15, trivial, ?_⟩
      refine ⟨_, rfl, _, _, _, rfl, hm', mn (by decide +kernel) (by decide +kernel), I, _, (st, mv), rfl, W.s, W.r15, trivial, ?_⟩
      refine ⟨_, rfl, _, _, _, rfl, hm', mn (by decide +kernel) (by decide +kernel), I, _, (st, mv), rfl, W.s, W.r15, nb1.1, ?_⟩
      refine ⟨(by show 3 ≤ sizeLine; decide), fun l1 hl1 => ?_⟩
      have W2 := W.up (Gr.tmp (o := .lst [.int st.length, .int mv.length, .int (gl mv 0).length]) W.s hl1)
      refine ⟨_, rfl, _, st.length, rfl, len_of (iA.l W2.r3) W2.s, ?_⟩
      refine ⟨_, rfl, _, mv.length, rfl, len_of (R := iL (iL (iL iQ))) (iA.l W2.r4) W2.s, ?_⟩
      refine ⟨_, rfl, _, _, _, _, rfl, rfl, SqL.of (W2.s _ _ h4), at_of (j := 0) rfl hv0, _, (gl mv 0).length, rfl, len_of (R := iL (iL iQ)) (iA.l rv0) W2.s, ?_⟩
      refine ⟨(by show 3 ≤ sizeLine; decide), fun l2 hl2 => ?_⟩
      have W3 := W2.up (Gr.tmp (o := .lst [.int st.length, .int mv.length, .int (gl mv 0).length]) W2.s hl2)
      refine ⟨_, _, .lst [.int st.length, .int mv.length, .int (gl mv 0).length], .lst [.int st.length, .int mv.length, .int (gl mv 0).length], rfl, ?_, ?_, by simp [dep, deps], by simp [tame, tames], by simp [tame, tames], _, rfl, ifF (by rw [(eqd_iff _ _).mpr rfl]; rfl) ?_⟩
      · simp only [dR, dRs]; exact ⟨l1, _, rfl, sNew hl2 _ _ upd_same, _, _, rfl, rfl, _, _, rfl, rfl, _, _, rfl, rfl, rfl⟩
      · simp only [dR, dRs]; exact ⟨l2, _, rfl, upd_same, _, _, rfl, rfl, _, _, rfl, rfl, _, _, rfl, rfl, rfl⟩
      exact q _ _ ⟨_, rfl, W3⟩
    clear W I H1
    rintro σ' H1 ⟨I, rfl, W⟩
    -- P4
    (try dsimp only)
    refine seq_cut (fun σ' H' => ∃ (I : Hp) (sn : Nat), σ' = [some (.ref a), some (.ref p), some (.ref t), some v3, some v4, v5, some v6, none, none, none, none, none, some (.ref M), some v13, some .non, some v15, none, some (.int sn), none, none, none, none] ∧ Ls (CR K) (CM K) p v3 v4 v15 st mv I H' ∧ sn < st.length) (fun nx q => ?_) ?_
    · refine ⟨_, rfl, _, rfl, _, st.length, rfl, len_of (iA.l W.r3) W.s, I, p, st.length, rfl, W.s, W.po, by omega, by omega, fun v H2 c0 c1 g2 po2 => ?_⟩
      obtain ⟨sn, rfl⟩ := Int.eq_ofNat_of_zero_le c0
      exact q _ _ ⟨I, sn, rfl, W.dr g2 po2, by omega⟩
    clear W I H1
    rintro σ' H1 ⟨I, sn, rfl, W, hsn⟩
    -- P5
    (try dsimp only)
    refine seq_cut (fun σ' H' => ∃ (I : Hp), σ' = [some (.ref a), some (.ref p), some (.ref t), some v3, some v4, v5, some v6, none, none, none, none, none, some (.ref M), some v13, some .non, some v15, none, some (.int sn), none, none, none, none] ∧ Ls (CR K) (CM K) p v3 v4 v15 st mv I H') (fun nx q => ?_) ?_
    · refine ⟨_, rfl, _, rfl, _, rfl, _, st.length, rfl, len_of (iA.l W.r3) W.s, I, p, st.length, rfl, W.s, W.po, by omega, by omega, fun v H2 c0 c1 g2 po2 => ?_⟩
      obtain ⟨s2, rfl⟩ := Int.eq_ofNat_of_zero_le c0
      have W2 := W.dr g2 po2
      exact ⟨I, _, (st, mv), s2, rfl, W2.s, W2.r15, fn, fo, (by show s2 < st.length; omega), fun I3 H3 v3 g3 r3 => q _ _ ⟨I3, rfl, W2.up g3⟩⟩
    clear W I H1
    rintro σ' H1 ⟨I, rfl, W⟩
    -- P6
    (try dsimp only)
    refine seq_cut (fun σ' H' => ∃ (I : Hp) (v18 : V), σ' = [some (.ref a), some (.ref p), some (.ref t), some v3, some v4, v5, some v6, none, none, none, none, none, some (.ref M), some v13, some .non, some v15, none, some (.int sn), some v18, none, none, none] ∧ Ls (CR K) (CM K) p v3 v4 v15 st mv I H' ∧ iM (CR K) (CM K) I v18 (unit st.length sn, mv)) (fun nx q => ?_) ?_
    · exact ⟨_, rfl, _, rfl, I, _, (st, mv), sn, rfl, W.s, W.r15, fn, fo, hsn, fun I3 H3 v3 g3 r3 => q _ _ ⟨I3, v3, rfl, W.up g3, r3⟩⟩
    clear W I H1
    rintro σ' H1 ⟨I, v18, rfl, W, r18⟩
    have fnu := none_unit fn hsn
    -- P7
    (try dsimp only)
    refine seq_cut (fun σ' H' => ∃ (I : Hp), σ' = [some (.ref a), some (.ref p), some (.ref t), some v3, some v4, v5, some v6, none, none, none, none, none, some (.ref M), some v13, some .non, some v15, none, some (.int sn), some v18, none, none, none] ∧ Ls (CR K) (CM K) p v3 v4 v15 st mv I H' ∧ iM (CR K) (CM K) I v18 (unit st.length sn, mv)) (fun nx q => ?_) ?_
    · refine ⟨_, rfl, I, _, (unit st.length sn, mv), rfl, W.s, r18, fnu, fun I2 H2 v2 g2 r2 => ?_⟩
      have W0 := W.up g2
      refine ⟨_, rfl, _, st.length, rfl, len_of (iA.l W0.r3) W0.s, _, rfl, (by omega), (by omega), fun l hD => ?_⟩
      rw [Int.toNat_natCast]
      (try dsimp only)
      refine lc_range1 iQ (fun k => if k = sn then 1 else 0) W0.s hD (lt_line (by omega)) (fun i I3 H3 Nx Qk hi s1 s2 kk => ?_) (fun I3 H3 g3 r3 => ?_)
      · refine ⟨rfl, _, rfl, _, rfl, rfl, .inr ⟨_, rfl, (by show 2 ≤ sizeLine; decide), fun t2 ht2 => ?_⟩⟩
        rw [show decide (V.int (0 + (i : Int)) = V.int (sn : Int)) = decide (i = sn) from by rw [Int.zero_add, dec_vi]]
        by_cases e : i = sn
        · rw [decide_eq_true e]
          rw [if_pos e] at kk
          exact kk _ _ _ (Gr.new s2 ht2) ⟨t2, rfl, upd_same⟩
        · rw [decide_eq_false e]
          rw [if_neg e] at kk
          exact kk _ _ _ (Gr.new s2 ht2) ⟨t2, rfl, upd_same⟩
      replace r3 : iL iQ I3 (.ref l) (unit st.length sn) := r3
      have W3 := W0.up g3
      refine ⟨_, rfl, (by show 2 ≤ sizeLine; decide), fun t2 ht2 => ?_⟩
      have g4 := Gr.new (ms := []) (o := .tup [.ref l, v4]) W3.s ht2
      have W4 := W3.up g4
      have rl : iLM (upd I3 t2 (.tup [.ref l, v4])) (.ref t2) (unit st.length sn, mv) := ⟨t2, _, _, rfl, upd_same, up g4.ii r3, W4.r4⟩
      refine ne_ma (A := (unit st.length sn, mv)) (B := (unit st.length sn, mv)) W4.s (up g4.ii (up g3.ii r2)) rl ⟨_, rfl, ifF (by simp) ?_⟩
      exact q _ _ ⟨_, rfl, W4, up ((g2.trans g3).trans g4).ii r18⟩
    clear W r18 I H1
    rintro σ' H1 ⟨I, rfl, W, r18⟩
    -- P8
    (try dsimp only)
    refine seq_cut (fun σ' H' => ∃ (I : Hp) (v20 : V) (M2 : Ma), σ' = [some (.ref a), some (.ref p), some (.ref t), some v3, some v4, v5, some v6, none, none, none, none, none, some (.ref M), some v13, some .non, some v15, none, some (.int sn), some v18, none, some v20, none] ∧ Ls (CR K) (CM K) p v3 v4 v15 st mv I H' ∧ iM (CR K) (CM K) I v18 (unit st.length sn, mv) ∧ iLM I v20 M2 ∧ FNone M2.1 M2.2 ∧ GOk 2 M2.1 M2.2) (fun nx q => ?_) ?_
    · refine ⟨_, rfl, _, rfl, _, rfl, (by show 2 ≤ sizeLine; decide), fun t2 ht2 => ?_⟩
      obtain ⟨g3, rl⟩ := W.lm ht2
      have W3 := W.up g3
      exact ⟨_, p, _, (st, mv), rfl, W3.s, W3.po, rl, fn, ok, fun I4 H4 v4' M2 g4 po4 r4 fn2 ok2 => q _ _ ⟨I4, v4', M2, rfl, W3.dr g4 po4, up g4.ii (up g3.ii r18), r4, fn2, ok2⟩⟩
    clear W r18 I H1
    rintro σ' H1 ⟨I, v20, M2, rfl, W, r18, r20, fn2, ok2⟩
    have fo2 := ok2.f (by decide)
    -- P9
    (try dsimp only)
    refine seq_cut (fun σ' H' => ∃ (I : Hp), σ' = [some (.ref a), some (.ref p), some (.ref t), some v3, some v4, v5, some v6, none, none, none, none, none, some (.ref M), some v13, some .non, some v15, none, some (.int sn), some v18, none, some v20, none] ∧ Ls (CR K) (CM K) p v3 v4 v15 st mv I H' ∧ iM (CR K) (CM K) I v18 (unit st.length sn, mv)) (fun nx q => ?_) ?_
    · obtain ⟨am, dm, va, vb, em, hm, ra, rb⟩ := id W.r15
      cases em
      refine ⟨_, rfl, _, rfl, _, rfl, (by show 2 ≤ sizeLine; decide), fun t2 ht2 => ?_⟩
      obtain ⟨g3, rl⟩ := W.lm ht2
      have W3 := W.up g3
      refine ⟨_, _, (st, mv), (), rfl, W3.s, rl, fn, fo, fun I4 H4 v4' g4 r4 => ?_⟩
      have W4 := W3.up g4
      obtain ⟨bm, bd, wa, wb, eb, hb, rwa, rwb⟩ := id r4
      cases eb
      have g34 := g3.trans g4
      refine ⟨_, _, _, _, _, _, rfl, rfl, W4.s _ _ (g34.ii _ _ hm), W4.s _ _ hb, I4, _, _, (st, mv), (st, mv), rfl, W4.s, W4.r15, r4, fun H5 g5 => ?_⟩
      have W5 := W4.up g5
      have g35 := g34.trans g5
      refine ⟨_, rfl, _, rfl, _, _, M2, (), rfl, W5.s, up g35.ii r20, fn2, fo2, fun I6 H6 v6' g6 r6 => ?_⟩
      have W6 := W5.up g6
      have g36 := g35.trans g6
      obtain ⟨cm, cd, xa, xb, ec, hc, rxa, rxb⟩ := id r6
      cases ec
      refine ⟨_, _, _, _, _, _, rfl, rfl, W6.s _ _ (g36.ii _ _ hm), W6.s _ _ hc, I6, _, _, (st, mv), M2, rfl, W6.s, W6.r15, r6, fun H7 g7 => ?_⟩
      have W7 := W6.up g7
      have g37 := g36.trans g7
      obtain ⟨bb, hbb⟩ : ∃ bb, decide ((st, mv) = (st, mv)) = bb := ⟨_, rfl⟩
      rw [hbb]
      refine ⟨(by show 2 ≤ sizeLine; decide), fun l1 hl1 => ?_⟩
      have g8 := Gr.tmp (ms := []) (o := .lst [.bl bb, .bl (decide ((st, mv) = M2))]) W7.s hl1
      have W8 := W7.up g8
      have g38 := g37.trans g8
      have at1 : upd H7 l1 (.lst [.bl bb, .bl (decide ((st, mv) = M2))]) l1 = some (.lst [.bl bb, .bl (decide ((st, mv) = M2))]) := upd_same
      refine ⟨_, rfl, _, rfl, _, rfl, (by show 2 ≤ sizeLine; decide), fun t9 ht9 => ?_⟩
      obtain ⟨g9, rl9⟩ := W8.lm ht9
      have W9 := W8.up g9
      have g39 := g38.trans g9
      refine eq_ma (A := M2) (B := (st, mv)) W9.s (up g39.ii r20) rl9 ⟨(by show 2 ≤ sizeLine; decide), fun l2 hl2 => ?_⟩
      have g10 := Gr.tmp (ms := []) (o := .lst [.bl true, .bl (decide (M2 = (st, mv)))]) W9.s hl2
      have W10 := W9.up g10
      refine ⟨_, _, .lst [.bl bb, .bl (decide ((st, mv) = M2))], .lst [.bl true, .bl (decide (M2 = (st, mv)))], rfl, ?_, ?_, by simp [dep, deps], by simp [tame, tames], by simp [tame, tames], _, rfl, ifF ?_ ?_⟩
      · simp only [dR, dRs]; exact ⟨l1, _, rfl, sNew hl2 _ _ (sNew ht9 _ _ at1), _, _, rfl, rfl, _, _, rfl, rfl, rfl⟩
      · simp only [dR, dRs]; exact ⟨l2, _, rfl, upd_same, _, _, rfl, rfl, _, _, rfl, rfl, rfl⟩
      · have e : decide ((st, mv) = M2) = decide (M2 = (st, mv)) := decide_eq_decide.mpr eq_comm
        rw [decide_eq_true rfl] at hbb
        rw [e, ← hbb, (eqd_iff _ _).mpr rfl]; rfl
      · exact q _ _ ⟨_, rfl, W10, up (g39.trans g10).ii r18⟩
    clear W r18 r20 I H1
    rintro σ' H1 ⟨I, rfl, W, r18⟩
    -- P10
    (try dsimp only)
    refine seq_cut (fun σ' H' => ∃ (I : Hp), σ' = [some (.ref a), some (.ref p), some (.ref t), some v3, some v4, v5, some v6, none, none, none, none, none, some (.ref M), some v13, some .non, some v15, none, some (.int sn), some v18, none, some v20, none] ∧ Ls (CR K) (CM K) p v3 v4 v15 st mv I H') (fun nx q => ?_) ?_
    · obtain ⟨am, dm, va, vb, em, hm, ra, rb⟩ := id W.r15
      cases em
      obtain ⟨bm, bd, wa, wb, eb, hb, rwa, rwb⟩ := id r18
      cases eb
      refine ⟨_, rfl, _, rfl, _, _, _, _, _, _, rfl, rfl, W.s _ _ hm, W.s _ _ hb, I, _, _, (st, mv), (unit st.length sn, mv), rfl, W.s, W.r15, r18, fun H5 g5 => ?_⟩
      have W0 := W.up g5
      refine ⟨_, rfl, ?_⟩
      refine ⟨_, rfl, _, st.length, rfl, len_of (iA.l W0.r3) W0.s, _, rfl, (by omega), (by omega), fun l hD => ?_⟩
      rw [Int.toNat_natCast]
      (try dsimp only)
      refine lc_range1 iQ (fun k => if k = sn then 1 else 0) W0.s hD (lt_line (by omega)) (fun i I3 H3 Nx Qk hi s1 s2 kk => ?_) (fun I3 H3 g3 r3 => ?_)
      · refine ⟨rfl, _, rfl, _, rfl, rfl, .inr ⟨_, rfl, (by show 2 ≤ sizeLine; decide), fun t2 ht2 => ?_⟩⟩
        rw [show decide (V.int (0 + (i : Int)) = V.int (sn : Int)) = decide (i = sn) from by rw [Int.zero_add, dec_vi]]
        by_cases e : i = sn
        · rw [decide_eq_true e]
          rw [if_pos e] at kk
          exact kk _ _ _ (Gr.new s2 ht2) ⟨t2, rfl, upd_same⟩
        · rw [decide_eq_false e]
          rw [if_neg e] at kk
          exact kk _ _ _ (Gr.new s2 ht2) ⟨t2, rfl, upd_same⟩
      replace r3 : iL iQ I3 (.ref l) (unit st.length sn) := r3
      have W3 := W0.up g3
      refine eq_row (A := st) (B := unit st.length sn) W3.s W3.r3 r3 ?_
      refine ⟨_, _, .bl (decide ((st, mv) = (unit st.length sn, mv))), .bl (decide (st = unit st.length sn)), rfl, rfl, rfl, by simp [dep, deps], by simp [tame, tames], by simp [tame, tames], _, rfl, ifF ?_ ?_⟩
      · have e : decide ((st, mv) = (unit st.length sn, mv)) = decide (st = unit st.length sn) := decide_eq_decide.mpr ⟨fun h => congrArg Prod.fst h, fun h => by rw [← h]⟩
        rw [e, (eqd_iff _ _).mpr rfl]; rfl
      · exact q _ _ ⟨_, rfl, W3⟩
    clear W r18 I H1
    rintro σ' H1 ⟨I, rfl, W⟩
    -- P11
    have nc2 := fn.c2
    (try dsimp only)
    refine seq_cut (fun σ' H' => ∃ (I : Hp) (u10 : Option V), σ' = [some (.ref a), some (.ref p), some (.ref t), some v3, some v4, v5, some v6, none, none, none, u10, none, some (.ref M), some v13, some .non, some v15, none, some (.int sn), some v18, none, some v20, none] ∧ Ls (CR K) (CM K) p v3 v4 v15 st mv I H') (fun nx q => ?_) ?_
    · obtain ⟨a4, w4, e4, h4, c4⟩ := id W.r4
      have l4 := c4.len
      refine ⟨_, rfl, _, rfl, _, rfl, slice_by (a := 0) (n := mv.length - 1) W.r4 W.s (fun vs e => by rw [← e]; exact cut_back vs) fun I2 H2 x1 g2 r2 => ?_⟩
      have W2 := W.up g2
      refine ⟨_, rfl, _, rfl, _, rfl, slice_by (a := 0) (n := 1) W2.r4 W2.s (fun vs e => cut_to (k := 1) (by omega)) fun I3 H3 x2 g3 r3 => ?_⟩
      have W3 := W2.up g3
      have g23 := g2.trans g3
      obtain ⟨a5, w5, rfl, h5, c5⟩ := id r3
      have l5 := c5.len
      rw [List.length_take, List.length_drop] at l5
      refine ⟨_, _, w4, w5, e4, rfl, W3.s _ _ (g23.ii _ _ h4), W3.s _ _ h5, Nat.le_of_lt (lt_line (by omega)), fun a6 ha6 => ?_⟩
      have g6 := Gr.new (ms := []) (o := .lst (w4 ++ w5)) W3.s ha6
      have W6 := W3.up g6
      have g26 := g23.trans g6
      have r6 : iL (iL (iL (iL iQ))) (upd I3 a6 (.lst (w4 ++ w5))) (.ref a6) (mv ++ (mv.drop 0).take 1) := ⟨a6, _, rfl, upd_same, (c4.up g26.ii).append (c5.up g6.ii)⟩
      refine ⟨_, rfl, a4, e4, ⟨_, SqL.of (W6.s _ _ (g26.ii _ _ h4))⟩, fun l hD => lc_map (R := iL (iL (iL iQ))) (Sy := iL (iL (iL iQ))) (fun r : List Rows => (r.drop 0).take 1) (wk_list (g26.ii _ _ h4)) (c4.up g26.ii) W6.s hD (lt_line (by omega)) (fun i x I7 H7 Nx Qk hx rx s1 s2 kk => ?_) (fun I7 H7 g7 r7 => ?_)⟩
      · have hxm := List.mem_of_getElem? hx
        have := nc2 _ hxm
        exact ⟨rfl, _, rfl, _, rfl, slice_by (a := 0) (n := 1) rx s2 (fun vs e => cut_to (k := 1) (by omega)) fun I8 H8 x8 g8 r8 => kk _ _ _ g8 r8⟩
      have W7 := W6.up g7
      refine ⟨(by show 3 ≤ sizeLine; decide), fun t3 ht3 => ?_⟩
      have g8 := Gr.new (ms := []) (o := .tup [x1, .ref a6, .ref l]) W7.s ht3
      have W8 := W7.up g8
      have g38 := (g3.trans g6).trans (g7.trans g8)
      have all : All2 (iL (iL (iL (iL iQ))) (upd I7 t3 (.tup [x1, .ref a6, .ref l]))) [x1, .ref a6, .ref l] [(mv.drop 0).take (mv.length - 1), mv ++ (mv.drop 0).take 1, mv.map fun r : List Rows => (r.drop 0).take 1] :=
        .cons (up g38.ii r2) (.cons (up (g7.trans g8).ii r6) (.cons (up g8.ii r7) .nil))
      have good : ∀ rows ∈ [(mv.drop 0).take (mv.length - 1), mv ++ (mv.drop 0).take 1, mv.map fun r : List Rows => (r.drop 0).take 1], GOk 2 st rows := by
        intro rows hrows
        rcases List.mem_cons.mp hrows with rfl | hrows
        · refine ok.sub (by rw [List.length_take, List.length_drop]; omega) fun p hp => ⟨p, List.mem_of_mem_drop (List.mem_of_mem_take hp), Nat.le_refl _, fun r hr => hr⟩
        rcases List.mem_cons.mp hrows with rfl | hrows
        · refine ok.sub (by rw [List.length_append, List.length_take, List.length_drop]; omega) fun p hp => ⟨p, ?_, Nat.le_refl _, fun r hr => hr⟩
          rcases List.mem_append.mp hp with hp | hp
          · exact hp
          · exact List.mem_of_mem_drop (List.mem_of_mem_take hp)
        rcases List.mem_cons.mp hrows with rfl | hrows
        · refine ok.sub (by rw [List.length_map]; omega) fun p hp => ?_
          obtain ⟨p0, h0, rfl⟩ := List.mem_map.mp hp
          exact ⟨p0, h0, by rw [List.length_take, List.length_drop]; omega, fun r hr => List.mem_of_mem_drop (List.mem_of_mem_take hr)⟩
        · exact nomatch hrows
      generalize [(mv.drop 0).take (mv.length - 1), mv ++ (mv.drop 0).take 1, mv.map fun r : List Rows => (r.drop 0).take 1] = RS at all good
      have lall := all.len
      have ht3' : (upd I7 t3 (.tup [x1, .ref a6, .ref l])) t3 = some (.tup [x1, .ref a6, .ref l]) := upd_same
      refine ⟨_, rfl, ⟨_, SqT.of (W8.s _ _ ht3')⟩, ?_⟩
      refine for_wk (wk_tup ht3')
        (fun σ' H' => ∃ (I : Hp) (u10 : Option V), σ' = [some (.ref a), some (.ref p), some (.ref t), some v3, some v4, v5, some v6, none, none, none, u10, none, some (.ref M), some v13, some .non, some v15, none, some (.int sn), some v18, none, some v20, none] ∧ Ls (CR K) (CM K) p v3 v4 v15 st mv I H')
        (fun i σ' H' => ∃ (I : Hp) (u10 : Option V), σ' = [some (.ref a), some (.ref p), some (.ref t), some v3, some v4, v5, some v6, none, none, none, u10, none, some (.ref M), some v13, some .non, some v15, none, some (.int sn), some v18, none, some v20, none] ∧ Same (upd I7 t3 (.tup [x1, .ref a6, .ref l])) I ∧ Ls (CR K) (CM K) p v3 v4 v15 st mv I H')
        (fun i σ' H' h => by obtain ⟨I, u, _, s, w⟩ := h; exact s.trans w.s)
        ⟨_, _, rfl, Same.refl _, W8⟩ (fun nx2 q2 i σ' H' hi h => ?_) (fun σ' H' h => by obtain ⟨I, u, e, _, w⟩ := h; exact ⟨I, u, e, w⟩) q
      obtain ⟨I9, u, rfl, s9, W9⟩ := h
      obtain ⟨rows, hrows⟩ : ∃ x, RS[i]? = some x := ⟨RS[i]'(by omega), List.getElem?_eq_getElem (by omega)⟩
      have rv := up s9 (gv2 all hrows)
      have gk := good rows (List.mem_of_getElem? hrows)
      have fk := gk.f (by decide)
      refine ⟨_, rfl, _, rfl, I9, _, _, st, rows, rfl, W9.s, W9.r3, rv, fk, fun I10 H10 g10 => ?_⟩
      have W10 := W9.up g10
      have rv10 := up g10.ii rv

      refine ⟨rfl, _, rfl, ifB (fun c => ?_) (fun c => ?_)⟩
      rotate_left
      · exact ifF rfl ⟨I10, _, rfl, s9.trans g10.ii, W10⟩
      have hn : flt st rows = none := by
        cases hf : flt st rows with
        | none => rfl
        | some r => rw [hf] at c; simp [oV] at c
      have fr := flt_none hn
      refine ⟨_, rfl, _, rfl, ne_mv (A := rows) (B := mv) W10.s rv10 W10.r4 ⟨_, rfl, ifB (fun c2 => ?_) (fun c2 => ?_)⟩⟩
      rotate_left
      · exact ⟨I10, _, rfl, s9.trans g10.ii, W10⟩
      have nq : ¬ (st, mv) = (st, rows) := fun h => by
        have := congrArg Prod.snd h
        simp only at this
        rw [this] at c2
        simp at c2
      have nq2 : ¬ (st, rows) = (st, mv) := fun h => nq h.symm
      obtain ⟨am, dm, va, vb, em, hm, ra, rb⟩ := id W10.r15
      refine ⟨_, rfl, _, rfl, _, rfl, (by show 2 ≤ sizeLine; decide), fun t2 ht2 => ?_⟩
      have g11 := Gr.new (ms := []) (o := .tup [v3, gv [x1, .ref a6, .ref l] i]) W10.s ht2
      have W11 := W10.up g11
      have rl : iLM (upd I10 t2 (.tup [v3, gv [x1, .ref a6, .ref l] i])) (.ref t2) (st, rows) := ⟨t2, _, _, rfl, upd_same, W11.r3, up g11.ii rv10⟩
      refine ⟨_, _, (st, rows), (), rfl, W11.s, rl, fr, fk, fun I12 H12 v12 g12 r12 => ?_⟩
      have W12 := W11.up g12
      obtain ⟨bm, bd, wa, wb, eb, hb, rwa, rwb⟩ := id r12
      cases eb
      have g112 := g11.trans g12
      refine ⟨_, _, _, _, _, _, em, rfl, W12.s _ _ (g112.ii _ _ hm), W12.s _ _ hb, I12, _, _, (st, mv), (st, rows), rfl, W12.s, W12.r15, r12, fun H13 g13 => ?_⟩
      have W13 := W12.up g13
      have g113 := g112.trans g13
      refine ⟨_, rfl, _, rfl, (by show 2 ≤ sizeLine; decide), fun t4 ht4 => ?_⟩
      have g14 := Gr.new (ms := []) (o := .tup [v3, gv [x1, .ref a6, .ref l] i]) W13.s ht4
      have W14 := W13.up g14
      have g114 := g113.trans g14
      have rl4 : iLM (upd I12 t4 (.tup [v3, gv [x1, .ref a6, .ref l] i])) (.ref t4) (st, rows) := ⟨t4, _, _, rfl, upd_same, W14.r3, up g114.ii rv10⟩
      refine ⟨_, _, (st, rows), (), rfl, W14.s, rl4, fr, fk, fun I15 H15 v15' g15 r15' => ?_⟩
      have W15 := W14.up g15
      have g115 := g114.trans g15
      obtain ⟨cm, cd, xa, xb, ec, hc, rxa, rxb⟩ := id r15'
      cases ec
      refine ⟨_, rfl, _, _, _, _, _, _, rfl, em, W15.s _ _ hc, W15.s _ _ (g115.ii _ _ hm), I15, _, _, (st, rows), (st, mv), rfl, W15.s, r15', W15.r15, fun H16 g16 => ?_⟩
      have W16 := W15.up g16
      have g116 := g115.trans g16
      rw [decide_eq_false nq, decide_eq_false nq2]
      refine ⟨(by show 2 ≤ sizeLine; decide), fun l1 hl1 => ?_⟩
      have g17 := Gr.tmp (ms := []) (o := .lst [.bl false, .bl false]) W16.s hl1
      have W17 := W16.up g17
      refine ⟨(by show 2 ≤ sizeLine; decide), fun l2 hl2 => ?_⟩
      have g18 := Gr.tmp (ms := []) (o := .lst [.bl false, .bl false]) W17.s hl2
      have W18 := W17.up g18
      refine ⟨_, _, .lst [.bl false, .bl false], .lst [.bl false, .bl false], rfl, ?_, ?_, by simp [dep, deps], by simp [tame, tames], by simp [tame, tames], _, rfl, ifF ?_ ?_⟩
      · simp only [dR, dRs]; exact ⟨l1, _, rfl, sNew hl2 _ _ upd_same, _, _, rfl, rfl, _, _, rfl, rfl, rfl⟩
      · simp only [dR, dRs]; exact ⟨l2, _, rfl, upd_same, _, _, rfl, rfl, _, _, rfl, rfl, rfl⟩
      · rw [(eqd_iff _ _).mpr rfl]; rfl
      · exact ⟨_, _, rfl, s9.trans (g10.trans (g116.trans (g17.trans g18))).ii, W18⟩
    clear W I H1
    rintro σ' H1 ⟨I, u10, rfl, W⟩
    -- P12
    (try dsimp only)
    refine seq_cut (fun σ' H' => ∃ (I : Hp) (v21 : V) (M3 : Ma) (mb ma : Nat), σ' = [some (.ref a), some (.ref p), some (.ref t), some v3, some v4, v5, some v6, none, none, none, u10, none, some (.ref M), some v13, some .non, some v15, none, some (.int sn), some v18, none, some v20, some v21] ∧ Ls (CR K) (CM K) p v3 v4 v15 st mv I H' ∧ iLM I v21 M3 ∧ MG M3 2 mb ma ∧ (0 < mb ∧ mb ≤ 4) ∧ (0 < ma ∧ ma ≤ 4)) (fun nx q => ?_) ?_
    · refine ⟨_, rfl, _, rfl, I, p, 4, rfl, W.s, W.po, by decide, by decide, fun v1 H2 c0 c1 g2 po2 => ?_⟩
      obtain ⟨m1, rfl⟩ := Int.eq_ofNat_of_zero_le c0
      have W2 := W.dr g2 po2
      refine ⟨_, _, rfl, rfl, _, rfl, I, p, 4, rfl, W2.s, W2.po, by decide, by decide, fun v2 H3 d0 d1 g3 po3 => ?_⟩
      obtain ⟨m2, rfl⟩ := Int.eq_ofNat_of_zero_le d0
      have W3 := W2.dr g3 po3
      refine ⟨_, _, rfl, rfl, I, p, 2, 1 + m1, 1 + m2, rfl, W3.s, W3.po, by decide, by omega, by omega, fun I4 H4 v M3 g4 po4 r4 mg => ?_⟩
      exact q _ _ ⟨I4, v, M3, 1 + m1, 1 + m2, rfl, W3.dr g4 po4, r4, mg, by omega, by omega⟩
    clear W I H1
    rintro σ' H1 ⟨I, v21, M3, mb, ma, rfl, W, r21, mg, hmb, hma⟩
    -- P13
    have fn3 := mg.n (by decide) (by decide) hmb.1 hmb.2 hma.1 hma.2
    have fo3 := ((mg.g (by decide) (by omega) (by omega)).f (by decide))
    (try dsimp only)
    refine ⟨_, rfl, _, rfl, I, _, M3, (), rfl, W.s, r21, fn3, fo3, fun I2 H2 v2 g2 r2 => ?_⟩
    have W2 := W.up g2
    refine ⟨I2, _, _, (st, mv), M3, rfl, W2.s, W2.r15, r2, nb1.1, fn3.b.1, ?_⟩
    obtain ⟨a4, w4, e4, h4, c4⟩ := id W2.r4
    obtain ⟨v0, hv0, rv0⟩ := c4.get' (gl_lt (l := mv) (i := 0) (by omega))
    refine ⟨_, rfl, _, mv.length, rfl, len_of (R := iL (iL (iL iQ))) (iA.l W2.r4) W2.s, ?_⟩
    refine ⟨_, rfl, _, _, _, _, e4, rfl, SqL.of (W2.s _ _ h4), at_of (j := 0) rfl hv0, _, (gl mv 0).length, rfl, len_of (R := iL (iL iQ)) (iA.l rv0) W2.s, ?_⟩
    refine ⟨(by show 2 ≤ sizeLine; decide), fun l1 hl1 => ?_⟩
    have g3 := Gr.tmp (ms := []) (o := .lst [.int mv.length, .int (gl mv 0).length]) W2.s hl1
    have W3 := W2.up g3
    obtain ⟨a5, y0, y1, e5, h5, ry0, ry1⟩ := up g2.ii r21
    obtain ⟨a6, w6, e6, h6, c6⟩ := id ry1
    obtain ⟨v6', hv6', rv6'⟩ := c6.get' (gl_lt (l := M3.2) (i := 0) fn3.b.1)
    refine ⟨_, rfl, _, _, _, _, e5, rfl, SqT.of (W3.s _ _ h5), at_of (j := 1) rfl rfl, _, M3.2.length, rfl, len_of (R := iL (iL (iL iQ))) (iA.l ry1) W3.s, ?_⟩
    refine ⟨_, rfl, _, _, _, _, e5, rfl, SqT.of (W3.s _ _ h5), at_of (j := 1) rfl rfl, _, _, _, _, e6, rfl, SqL.of (W3.s _ _ h6), at_of (j := 0) rfl hv6', _, (gl M3.2 0).length, rfl, len_of (R := iL (iL iQ)) (iA.l rv6') W3.s, ?_⟩
    refine ⟨(by show 2 ≤ sizeLine; decide), fun l2 hl2 => ?_⟩
    have at1 : upd H2 l1 (.lst [.int mv.length, .int (gl mv 0).length]) l1 = some (.lst [.int mv.length, .int (gl mv 0).length]) := upd_same
    refine eq_two (sNew hl2 _ _ at1) upd_same ?_
    refine ⟨_, _, .bl _, .bl _, rfl, rfl, rfl, by simp [dep, deps], by simp [tame, tames], by simp [tame, tames], ?_⟩
    rw [eqd_bl, decide_eq_true (two_dec _ _ _ _)]
    exact k _
end
end K

set_option Elab.async false
set_option linter.all false
set_option maxRecDepth 100000
namespace K
open PySem PySem.Spec PyProof.Rows L2 Tk Hd
theorem facts {P : Program} {w : World} {K : PySem.W.Frag} {h : Heap} {mg : Str → Option Value} {f : Addr} (X : K.In h) (G : h.Ns mainGlobals mg) (hfa : mg ("law" : Str) = some (.ref f)) (c : SaysY ex fn K) :
    ∃ fd : FuncData, (∀ (s : Shared) (v : Value), BindsTo s fd ⟨[v], []⟩ [("script", v)]) ∧ ∀ base : Heap, K.In base → base.Ns mainGlobals mg → FnOk P w K mg base CX0 12 f fd ["script"] (fun vs H Q _ => spLaw K vs H Q E0) := by
  have D : Dt K mg := ⟨c, h, X, G⟩
  obtain ⟨fd, F⟩ := fd_law D
  have e := hfa.symm.trans (glo_law D)
  cases e
  have b := FunD.bindsA (ps := ["script"]) F fun _ _ _ _ _ _ us hl => match us, hl with | [_], _ => rfl
  exact ⟨fd, fun s v => b s [v] rfl, fun base _ _ => fn0 (ok_law D F)⟩
end K
open PySem PySem.W PySem.Calls PyProof.Rows
set_option maxHeartbeats 0 in
theorem PySem.Challenge.cw_notesttells_k01_machines_that_are_none_holds : PySem.Challenge.rw_notesttells_k01_machines_that_are_none.Holds := by
  w_on; o_law
  refine HandSHeadRun.head_imp (r := Hd.R) (q := Hd.vw) (H := Hd.hk) (ob := Hd.ob) (M := 20000) (loose := Hd.loose) (d := HandSHeadRun.topDef Hd.R.prog 46) (kwd := []) Hd.ob_eq Hd.run
    (by kernel_rfl) (by kernel_rfl) (by kernel_rfl) (by rfl) (by first | assumption | decide +kernel) (by decide +kernel) ⟨rfl, rfl, rfl, rfl, rfl, by decide +kernel⟩ ?hw ?hc
  case hw => w_witness2
  case hc =>
    refine L2.walk_ofE (l := PySem.Challenge.rw_notesttells_k01_machines_that_are_none) (n := 63) (k := 12) (x := "script") (CX := L2.CX0) rfl (by decide) (by kernel_rfl) ⟨rfl, by decide, by decide⟩ ?F (fun _ _ _ _ z => z)
    intro w mg fa h Y G hmg0
    obtain ⟨Kf, KX, c⟩ := Y
    have hmg : mg ("law" : PySem.Str) = some (.ref fa) := by
      have e : (HandSHeadRun.topDef Hd.R.prog 46).name = ("law" : PySem.Str) := by kernel_rfl
      rw [← e]
      exact hmg0
    obtain ⟨fd, hb, hF⟩ := K.facts (P := (PySem.Challenge.rw_notesttells_k01_machines_that_are_none).prog) (w := w) KX G hmg c
    exact ⟨Kf, fd, _, KX, hb, fun H a ns hl _ hS => ⟨a, ns, rfl, hS, hl, fun _ => rfl⟩, hF⟩

