import PyProof.Rows.All
import Wide.All
import OpenK.AllK
import Wide.FinOn
import KE.KCallOwn
import HandS.ForExc
import HandS.Gcd
import HandS.Wide
import HandS.Defaults
import HandS.ExcIs
import HandS.IsInst
import HandS.HeadEnd
import HandS.HeadHook2
import HandS.Head3
import HandS.MakeKwOnly
import HandS.MakeKw
import HandS.FStr
import HandS.CallSlots
import HandS.ForMost
import HandS.ExcInit
import HandS.ExcField
import KE.KExcIs
import HandS.ExcCtx
import HandS.HotCalls
import HandS.ExcInitHot
import HandS.Comp
import HandS.Zip
import HandS.ForList
import KE.GoesMore
import KE.GoesZip
import HandS.TupAny
import HandS.Star
import HandS.Text
import HandS.StrMore
import HandS.RaiseMore
import PyProof.FitsInt
import PyProof.Rows.StrDigitsNeg
import HandS.Dict
import HandS.Words
import HandS.Iter
import PySem.Challenge.RW_notesttells_k50_whole_boxes_are_read_exa
set_option Elab.async false
set_option linter.all false
set_option maxRecDepth 100000
set_option maxHeartbeats 4000000
namespace Tk
open PySem PySem.Spec PyProof.Rows L2

section
variable {X : Cx} {CXx : CXT} {k : Nat} {f C : Addr} {fd : FuncData} {ps : List Str} {sp : Sp} {E : XK}

/-- a def runs at any depth of this body -/
theorem runAt {A' : Around} {pins : List (Addr × Obj)} {σ : L2.St} {H : Hp} {s : Shared} {Q : VK} {us ds : List Value} {vs dvs : List V}
    (F : FnOk X.prog X.w X.K X.mg X.base CXx k f fd ps sp) (hr : Room k A') (he : Env0 X.prog X.w X.K X.mg X.base A' X.stack s H)
    (hb : Binds X.K fd ps ds) (hd : Vals dvs ds) (hx : Passes CXx X E) (I : Inv X pins σ H s) (r : Vals vs us) (h : sp (vs ++ dvs) H Q E) :
    wpAny (model X.prog X.w) A' (call (.ref f) us) (EP X pins σ Q) X.xe s := by
  have r2 := r.append hd
  have hl := r2.length.symm.trans (F.len _ _ _ _ h)
  refine wpAny_call (codeAny_mono (F.run A' X.stack s H ⟨us, []⟩ (us ++ ds) (vs ++ dvs) Q E hr he (hb s us I.kIn hl) r2 h) ?_)
  intro res s' z
  cases res with
  | error e => exact hx _ _ _ _ _ _ I z
  | ok fl => cases fl with
    | ret u => exact I.after z
    | _ => exact False.elim z

/-- what an operator of a class's own asks: both instances of it, the def's promise -/
def rOwn (C : Addr) (sp : Sp) (E : XK) : R2 := fun x y H Q => ∃ a b dx dy fs gs, x = .ref a ∧ y = .ref b ∧ H a = some (.ins C dx fs) ∧ H b = some (.ins C dy gs) ∧ sp [x, y] H Q E

theorem notNI {v : V} {u : Value} (r : RelV v u) : u ≠ .notImplemented := by
  intro e; subst e
  cases v with
  | non => cases (show Value.notImplemented = Value.none from r)
  | bl b => cases (show Value.notImplemented = Value.bool b from r)
  | int i => obtain ⟨t, e⟩ := (show ∃ t, Value.notImplemented = Value.int i t from r); cases e
  | str x => obtain ⟨t, e⟩ := (show ∃ t, Value.notImplemented = Value.str x t from r); cases e
  | byt b => obtain ⟨t, e⟩ := (show ∃ t, Value.notImplemented = Value.bytes b t from r); cases e
  | flt b => obtain ⟨t, e⟩ := (show ∃ t, Value.notImplemented = Value.float b t from r); cases e
  | ref a => cases (show Value.notImplemented = Value.ref a from r)
  | ty n => cases (show Value.notImplemented = Value.type n from r)
theorem cmpBack_of {Q : Value → Shared → Prop} {u : Value} {s : Shared} (n : u ≠ .notImplemented) (q : Q u s) : PySem.W.CmpBack Q u s := by
  cases u <;> first | exact absurd rfl n | exact q
theorem inst_of {pins : List (Addr × Obj)} {σ : L2.St} {H : Hp} {s : Shared} (I : Inv X pins σ H s) {a dx : Addr} {fs : List (Str × V)} (e : H a = some (.ins C dx fs)) : ∃ od, PySem.W.InstAt s.heap a (PySem.W.instObj C dx) C (some od) := by
  obtain ⟨mA, O, _⟩ := ins_get I.hok e
  obtain ⟨od, J, _⟩ := O.look
  exact ⟨od, J⟩

/-- a + b and the like by the class's own __add__ and the like -/
theorem op_own {op : Operator} (F : FnOk X.prog X.w X.K X.mg X.base CXx k f fd ps sp) (hr : Room k X.A) (hb : Binds X.K fd ps []) (hx : Passes CXx X E)
    (hc : PySem.W.selfFirst X.K C = true) (hs : PySem.W.findIn X.K (.ref C) (PySem.dunder op.info.2) = some (some (.ref f))) (hf : PySem.W.isFn X.K (.ref f) = true) :
    OpR X (binaryOp op) (rOwn C sp E) := by
  intro pins s σ H x y v u Q I rx ry h
  obtain ⟨a, b, dx, dy, fs, gs, rfl, rfl, ea, eb, h⟩ := h
  cases rx; cases ry
  obtain ⟨od, J⟩ := inst_of I ea
  obtain ⟨od', J'⟩ := inst_of I eb
  have KX := I.kIn
  obtain ⟨cd, hcd, hm⟩ := PySem.W.any_some hc
  obtain ⟨rest, hm⟩ : ∃ rest, cd.mro = .ref C :: rest := by
    cases q : cd.mro with
    | nil => rw [q] at hm; cases hm
    | cons z r => rw [q] at hm; rw [List.head?_cons] at hm; exact ⟨r, by rw [Option.some.inj (eq_of_beq hm)]⟩
  unfold binaryOp
  refine wpAny_holding (wpAny_bind ?_)
  unfold binaryOp1
  refine wpAny_bind (J.type.here (wpAny_bind (J'.type.here (wpAny_bind ((PySem.W.fills_K KX hcd hm hs).here ?_)))))
  simp only [beq_self_eq_true, if_true]
  refine wpAny_bind (wpAny_pure ?_)
  simp only [Bool.and_false, Bool.false_eq_true, if_false, Bool.false_and]
  refine wpAny_bind (wpAny_pure ?_)
  simp only [Bool.false_eq_true, if_false]
  refine wpAny_bind (m := tryMethod (.ref a) _ (.ref b)) ?_
  unfold tryMethod
  refine wpAny_bind (PySem.W.special_fn KX J hs (beq_iff_eq.mp hf) (wpAny_mono (runAt (vs := [.ref a, .ref b]) (dvs := []) F hr I.env0 hb .nil hx I (.cons rfl (.cons rfl .nil)) h) (fun r s' hv => ?_) fun _ _ e => e))
  obtain ⟨v', H', I', rv, q⟩ := hv
  have hn := notNI rv
  cases r <;> first | exact absurd rfl hn | exact wpAny_pure (wpAny_pure (wpAny_pure ⟨v', H', I', rv, q⟩))

/-- a == b by the class's own __eq__; b is of the same class -/
theorem rc_own {op : CmpOp} (F : FnOk X.prog X.w X.K X.mg X.base CXx k f fd ps sp) (hr : Room k X.A) (hb : Binds X.K fd ps []) (hx : Passes CXx X E)
    (hs : PySem.W.findIn X.K (.ref C) (cmpInfo op).2.1 = some (some (.ref f))) (hf : PySem.W.isFn X.K (.ref f) = true) :
    OpR X (richCompare op) (rOwn C sp E) := by
  intro pins s σ H x y v u Q I rx ry h
  obtain ⟨a, b, dx, dy, fs, gs, rfl, rfl, ea, eb, h⟩ := h
  cases rx; cases ry
  obtain ⟨od, J⟩ := inst_of I ea
  obtain ⟨od', J'⟩ := inst_of I eb
  have KX := I.kIn
  have one : wpAny (model X.prog X.w) X.A (tryCompare (.ref a) (cmpInfo op).2.1 (.ref b)) (fun r s' => ∃ v, r = some v ∧ EP X pins σ Q v s') X.xe s := by
    unfold tryCompare
    refine wpAny_bind (PySem.W.ifBound_K KX J hs hf (wpAny_mono (runAt (vs := [.ref a, .ref b]) (dvs := []) F hr I.env0 hb .nil hx I (.cons rfl (.cons rfl .nil)) h) (fun r s' hv => ?_) fun _ _ e => e))
    obtain ⟨v', H', I', rv, q⟩ := hv
    have hn := notNI rv
    cases r <;> first | exact absurd rfl hn | exact wpAny_pure ⟨_, rfl, v', H', I', rv, q⟩
  unfold richCompare
  simp only [oneThing_ref]
  refine wpAny_holding (wpAny_bind (wpAny_cRoomFor hr.units0 ?_))
  refine wpAny_bind (J.type.here (wpAny_bind (J'.type.here ?_)))
  split
  · rename_i q
    exact absurd q (by simp)
  · refine wpAny_bind (wpAny_pure ?_)
    simp only [Bool.false_eq_true, if_false]
    refine wpAny_bind (wpAny_mono one (fun r s' z => ?_) fun _ _ e => e)
    obtain ⟨v, rfl, hq⟩ := z
    exact wpAny_pure hq
theorem op_eqOwn (F : FnOk X.prog X.w X.K X.mg X.base CXx k f fd ps sp) (hr : Room k X.A) (hb : Binds X.K fd ps []) (hx : Passes CXx X E)
    (hs : PySem.W.findIn X.K (.ref C) "__eq__" = some (some (.ref f))) (hf : PySem.W.isFn X.K (.ref f) = true) : OpR X (compareOp .Eq) (rOwn C sp E) :=
  rc_own (op := .Eq) F hr hb hx hs hf

/-- str(x) by the class's own __str__, which hands back a text -/
def rStrOwn (C : Addr) (sp : Sp) (E : XK) : List V → Hp → VK → Prop := fun xs H Q => ∃ a dx fs, xs = [.ref a] ∧ H a = some (.ins C dx fs) ∧ sp [.ref a] H (fun v H' => (∃ z, v = .str z) ∧ Q v H') E
theorem call_strOwn (F : FnOk X.prog X.w X.K X.mg X.base CXx k f fd ps sp) (hr : Room (k + 2) X.A) (hb : Binds X.K fd ps []) (hx : Passes CXx X E)
    (hs : PySem.W.findIn X.K (.ref C) "__str__" = some (some (.ref f))) (hf : PySem.W.isFn X.K (.ref f) = true) : CallR X (.type "str") (rStrOwn C sp E) := by
  intro pins s σ H xs us Q I r h
  obtain ⟨a, dx, fs, rfl, ea, h⟩ := h
  obtain ⟨u, rfl, ru⟩ := vals1 r
  cases ru
  obtain ⟨od, J⟩ := inst_of I ea
  have r1 : Room (k + 1) X.A.in1 := hr.in1
  have r2 : Room k X.A.in1.in1 := r1.in1
  refine PySem.W.kso_call r2.units0 I.kIn J hs hf (wpAny_mono (runAt (vs := [.ref a]) (dvs := []) F r2 I.env0.in1.in1 hb .nil hx I (.cons rfl .nil) h) (fun r s' hv => ?_) fun _ _ e => e)
  obtain ⟨v', H', I', rv, ⟨z, rfl⟩, q⟩ := hv
  obtain ⟨t, rfl⟩ := rv
  exact ⟨.str z, H', I', ⟨t, rfl⟩, q⟩
end
end Tk

set_option Elab.async false
set_option linter.all false
set_option maxRecDepth 100000
set_option maxHeartbeats 4000000
/-! Heaps that grow: I is the part that never changes again, H all of it; ms may change. -/
namespace Tk
open PySem PySem.Spec PyProof.Rows L2

structure Gr (ms : List Addr) (I H I' H' : Hp) : Prop where
  ii : Same I I'
  ih : Same I' H'
  hh : ∀ a o, a ∉ ms → H a = some o → H' a = some o
  th : ∀ a o, H a = some o → ∃ o', H' a = some o'
  nw : ∀ a o, I a = none → H a = some o → I' a = none
section
variable {ms ns : List Addr} {I H I' H' I'' H'' : Hp} {p m : Addr} {o o' : HO}
theorem sNew (h : H p = none) : Same H (upd H p o) := fun a u e => by rw [upd_ne (ne_of_none e h)]; exact e
theorem sBoth (s : Same I H) : Same (upd I p o) (upd H p o) := fun a u e => by
  by_cases q : a = p
  · subst q; rw [upd_same] at e ⊢; exact e
  · rw [upd_ne q] at e ⊢; exact s a u e
theorem sUnder (s : Same I H) (h : I p = none) : Same I (upd H p o) := fun a u e => by
  rw [upd_ne (ne_of_none e h)]; exact s a u e
theorem sNone (s : Same I H) (h : H p = none) : I p = none := s.free h
theorem Gr.refl (s : Same I H) : Gr ms I H I H := ⟨Same.refl I, s, fun _ _ _ e => e, fun _ o e => ⟨o, e⟩, fun _ _ e _ => e⟩
theorem Gr.trans (a : Gr ms I H I' H') (b : Gr ms I' H' I'' H'') : Gr ms I H I'' H'' :=
  ⟨a.ii.trans b.ii, b.ih, fun x o n e => b.hh x o n (a.hh x o n e), fun x o e => by obtain ⟨u, q⟩ := a.th x o e; exact b.th x u q,
    fun x o e1 e2 => by obtain ⟨u, q⟩ := a.th x o e2; exact b.nw x u (a.nw x o e1 e2) q⟩
theorem Gr.mono (a : Gr ms I H I' H') (h : ∀ x ∈ ms, x ∈ ns) : Gr ns I H I' H' := ⟨a.ii, a.ih, fun x o n e => a.hh x o (fun z => n (h x z)) e, a.th, a.nw⟩
theorem Gr.nil (a : Gr [] I H I' H') : Gr ms I H I' H' := a.mono (fun _ z => nomatch z)
/-- a new thing that stays as it is -/
theorem Gr.new (s : Same I H) (h : H p = none) : Gr ms I H (upd I p o) (upd H p o) :=
  ⟨sNew (s.free h), sBoth s, fun _ _ _ e => sNew h _ _ e, fun _ u e => ⟨u, sNew h _ _ e⟩, fun a u e1 e2 => by rw [upd_ne (ne_of_none e2 h)]; exact e1⟩
/-- a new thing that may change -/
theorem Gr.tmp (s : Same I H) (h : H p = none) : Gr ms I H I (upd H p o) :=
  ⟨Same.refl I, sUnder s (s.free h), fun _ _ _ e => sNew h _ _ e, fun _ u e => ⟨u, sNew h _ _ e⟩, fun a u e1 _ => e1⟩
/-- a change -/
theorem Gr.mut (s : Same I H) (hi : I m = none) (hm : m ∈ ms) : Gr ms I H I (upd H m o) :=
  ⟨Same.refl I, sUnder s hi, fun a u n e => by rw [upd_ne (fun (z : a = m) => n (z ▸ hm))]; exact e,
    fun a u e => by
      by_cases q : a = m
      · subst q; exact ⟨_, upd_same⟩
      · exact ⟨u, by rw [upd_ne q]; exact e⟩, fun a u e1 _ => e1⟩
/-- what was new and may have changed stays from here on as it is -/
theorem Gr.frz (g : Gr (m :: ms) I H I' H') (s : Same I H) (h : H m = none) (e : H' m = some o) : Gr ms I H (upd I' m o) H' := by
  have h1 : ∀ a u, H a = some u → a ≠ m := fun a u q => ne_of_none q h
  refine ⟨fun a u q => ?_, fun a u q => ?_, fun a u n q => ?_, g.th, fun a u e1 e2 => ?_⟩
  · rw [upd_ne (h1 a u (s a u q))]; exact g.ii a u q
  · by_cases z : a = m
    · subst z; rw [upd_same] at q; rw [← q]; exact e
    · rw [upd_ne z] at q; exact g.ih a u q
  · exact g.hh a u (fun z => (List.mem_cons.mp z).elim (h1 a u q) n) q
  · rw [upd_ne (h1 a u e2)]; exact g.nw a u e1 e2
/-- a mutable thing that is not in I stays out of it -/
theorem Gr.out (g : Gr ms I H I' H') (hi : I m = none) (h : H m = some o) : I' m = none := g.nw m o hi h
theorem Gr.at (g : Gr ms I H I' H') (h : H m = some o) (n : m ∉ ms) : H' m = some o := g.hh m o n h
end

/-! What a value is, by the part that stays. -/
abbrev Rp (α : Type) := Hp → V → α → Prop
class Mono {α : Type} (R : Rp α) : Prop where
  up : ∀ {H H' : Hp} {v : V} {x : α}, Same H H' → R H v x → R H' v x
section
variable {α β : Type}
def iI : Rp Int := fun _ v i => v = .int i
def iN : Rp Nat := fun _ v i => v = .int (i : Int)
def iB : Rp Bool := fun _ v b => v = .bl b
def iS : Rp Str := fun _ v z => v = .str z
/-- a list, a tuple of things of one kind -/
inductive All2 (R : V → α → Prop) : List V → List α → Prop where
  | nil : All2 R [] []
  | cons {v : V} {x : α} {vs : List V} {xs : List α} (h : R v x) (t : All2 R vs xs) : All2 R (v :: vs) (x :: xs)
def iL (R : Rp α) : Rp (List α) := fun H v xs => ∃ a vs, v = .ref a ∧ H a = some (.lst vs) ∧ All2 (R H) vs xs
def iT (R : Rp α) : Rp (List α) := fun H v xs => ∃ a vs, v = .ref a ∧ H a = some (.tup vs) ∧ All2 (R H) vs xs
def iP (R : Rp α) (S : Rp β) : Rp (α × β) := fun H v p => ∃ a x y, v = .ref a ∧ H a = some (.tup [x, y]) ∧ R H x p.1 ∧ S H y p.2
theorem All2.mono {R S : V → α → Prop} (h : ∀ v x, R v x → S v x) : ∀ {vs : List V} {xs : List α}, All2 R vs xs → All2 S vs xs
  | _, _, .nil => .nil
  | _, _, .cons a t => .cons (h _ _ a) (t.mono h)
theorem All2.len {R : V → α → Prop} : ∀ {vs : List V} {xs : List α}, All2 R vs xs → vs.length = xs.length
  | _, _, .nil => rfl
  | _, _, .cons _ t => congrArg Nat.succ t.len
theorem All2.get {R : V → α → Prop} : ∀ {vs : List V} {xs : List α} {i : Nat} {v : V}, All2 R vs xs → vs[i]? = some v → ∃ x, xs[i]? = some x ∧ R v x
  | _, _, _, _, .nil, e => by simp at e
  | _, _, 0, _, .cons a t, e => by simp at e; subst e; exact ⟨_, rfl, a⟩
  | _, _, i + 1, v, .cons a t, e => by
    obtain ⟨x, h1, h2⟩ := All2.get (i := i) (v := v) t (by simpa using e)
    exact ⟨x, by simpa using h1, h2⟩
theorem All2.get' {R : V → α → Prop} : ∀ {vs : List V} {xs : List α} {i : Nat} {x : α}, All2 R vs xs → xs[i]? = some x → ∃ v, vs[i]? = some v ∧ R v x
  | _, _, _, _, .nil, e => by simp at e
  | _, _, 0, _, .cons a t, e => by simp at e; subst e; exact ⟨_, rfl, a⟩
  | _, _, i + 1, v, .cons a t, e => by
    obtain ⟨x, h1, h2⟩ := All2.get' (i := i) (x := v) t (by simpa using e)
    exact ⟨x, by simpa using h1, h2⟩
theorem All2.append {R : V → α → Prop} : ∀ {vs ws : List V} {xs ys : List α}, All2 R vs xs → All2 R ws ys → All2 R (vs ++ ws) (xs ++ ys)
  | _, _, _, _, .nil, h => h
  | _, _, _, _, .cons a t, h => .cons a (t.append h)
theorem All2.set {R : V → α → Prop} : ∀ {vs : List V} {xs : List α} (i : Nat) {v : V} {x : α}, All2 R vs xs → R v x → All2 R (vs.set i v) (xs.set i x)
  | _, _, _, _, _, .nil, _ => .nil
  | _, _, 0, _, _, .cons _ t, h => .cons h t
  | _, _, i + 1, _, _, .cons a t, h => .cons a (t.set i h)
theorem All2.ints : ∀ {xs : List Int} {vs : List V}, All2 (fun v x => v = V.int x) vs xs → vs = xs.map V.int
  | _, _, .nil => rfl
  | _, _, .cons a t => by rw [a, t.ints]; rfl
theorem All2.ofInts {H : Hp} : ∀ (xs : List Int), All2 (iI H) (xs.map V.int) xs
  | [] => .nil
  | x :: r => .cons rfl (All2.ofInts r)
instance : Mono iI := ⟨fun _ h => h⟩
instance : Mono iN := ⟨fun _ h => h⟩
instance : Mono iB := ⟨fun _ h => h⟩
instance : Mono iS := ⟨fun _ h => h⟩
instance {R : Rp α} [m : Mono R] : Mono (iL R) := ⟨fun s ⟨a, vs, e, h, t⟩ => ⟨a, vs, e, s _ _ h, t.mono fun _ _ => m.up s⟩⟩
instance {R : Rp α} [m : Mono R] : Mono (iT R) := ⟨fun s ⟨a, vs, e, h, t⟩ => ⟨a, vs, e, s _ _ h, t.mono fun _ _ => m.up s⟩⟩
instance {R : Rp α} {S : Rp β} [m : Mono R] [n : Mono S] : Mono (iP R S) := ⟨fun s ⟨a, x, y, e, h, p, q⟩ => ⟨a, x, y, e, s _ _ h, m.up s p, n.up s q⟩⟩
theorem up {R : Rp α} [m : Mono R] {H H' : Hp} {v : V} {x : α} (s : Same H H') (h : R H v x) : R H' v x := m.up s h
end
end Tk

set_option Elab.async false
set_option linter.all false
set_option maxRecDepth 100000
set_option maxHeartbeats 4000000
/-! The head: what the top leaves, told by one Bool and the defs' own texts. -/
namespace Tk
open PySem PySem.Spec PyProof.Rows L2
def obsY (ex : PySem.W.Frag → Bool) (fn : List He.DefD) (K : PySem.W.Frag) : He.AlD := (ex K && fn.all fun d => d.ok K, fn.map fun d => He.fnW K d.at_)
def SaysY (ex : PySem.W.Frag → Bool) (fn : List He.DefD) (K : PySem.W.Frag) : Prop := obsY ex fn K = He.valD fn
def obsYG (n : Nat) (ex : PySem.W.Frag → Bool) (fn : List He.DefD) (g : Addr → Option Obj) : He.AlD := obsY ex fn (He.frG g (He.asD g n))
def hookY (n : Nat) (ex : PySem.W.Frag → Bool) (fn : List He.DefD) : PySem.W.Hook :=
  { α := He.AlD, obs := fun s => obsYG n ex fn s.heap.get?, val := fun _ => He.valD fn, says := fun _ h => ∃ K : PySem.W.Frag, K.In h ∧ SaysY ex fn K,
    of := fun _ _ e => ⟨_, He.frG_in, e⟩, keeps := fun _ _ _ z k => by obtain ⟨K, hK, c⟩ := z; exact ⟨K, PySem.W.Frag.In.keeps hK k, c⟩ }
theorem obsYG_eq {n : Nat} {ex : PySem.W.Frag → Bool} {fn : List He.DefD} {g : Addr → Option Obj} {s : Shared} (h : ∀ a, g a = s.heap.get? a) : obsYG n ex fn g = (hookY n ex fn).obs s := by
  rw [show g = s.heap.get? from funext h]; rfl
section
variable {ex : PySem.W.Frag → Bool} {fn : List He.DefD} {K : PySem.W.Frag}
theorem SaysY.more (c : SaysY ex fn K) : ex K = true := (He.ba (show (ex K && fn.all fun d => d.ok K) = true from congrArg (fun z : He.AlD => z.1) c)).1
theorem SaysY.get (c : SaysY ex fn K) (i : Nat) {d : He.DefD} (h : fn[i]? = some d := by rfl) : ∃ fd, FunD K d.name d.qual d.params d.body d.scope (d.dvs K) (d.kws K) (He.fAd K d.at_) fd := by
  have c2 := (He.ba (show (ex K && fn.all fun d => d.ok K) = true from congrArg (fun z : He.AlD => z.1) c)).2
  have e : fn.map (fun d => He.fnW K d.at_) = fn.map He.DefD.val := congrArg (fun z : He.AlD => z.2) c
  have e2 := congrArg (fun l : List He.FnW => l[i]?) e
  simp only [List.getElem?_map, h] at e2
  exact He.DefD.funD (Option.some.inj e2) (List.all_eq_true.mp c2 d (List.mem_of_getElem? h))
end
def blB (K : PySem.W.Frag) (x : Str) (id : String) : Bool := He.eqO (PySem.W.nsIn K mainGlobals x) (some (some (.builtin id)))
def instB (K : PySem.W.Frag) (x : Str) : Bool :=
  He.eqO (PySem.W.findIn K (.ref (He.ga K x)) "__class__") (some (some (.builtin "object.__class__"))) &&
  (He.eqO (PySem.W.specialIn K (.builtin "object.__class__") "__get__") (some (some (.builtin "getset_descriptor.__get__"))) &&
  (decide (PySem.W.takesIn K (.builtin "object.__class__") = some true) && decide (PySem.W.mroIn K (He.ga K x) (.type "object") = some true)))
def isEB (K : PySem.W.Frag) (x : Str) : Bool :=
  He.eqO (PySem.W.findIn K (.ref (He.ga K x)) "__getattribute__") (some (some (.builtin "BaseException.__getattribute__"))) &&
  (He.eqO (PySem.W.findIn K (.ref (He.ga K x)) "__getattr__") (some none) &&
  (decide (PySem.W.subIn K (.ref (He.ga K x)) (.type "BaseException") = some true) && (PySem.W.hasDictIn K (He.ga K x) && instB K x)))
section
variable {K : PySem.W.Frag} {h : Heap} {mg : Str → Option Value} {x : Str} {id : String}
theorem blB_ok (X : K.In h) (G : h.Ns mainGlobals mg) (c : blB K x id = true) : mg x = some (.builtin id) := PySem.W.mg_of X G (He.eqO_ok c)
structure InstC (K : PySem.W.Frag) (C : Addr) : Prop where
  ha : PySem.W.findIn K (.ref C) "__class__" = some (some (.builtin "object.__class__"))
  hn : PySem.W.specialIn K (.builtin "object.__class__") "__get__" = some (some (.builtin "getset_descriptor.__get__"))
  ht : PySem.W.takesIn K (.builtin "object.__class__") = some true
  hm : PySem.W.mroIn K C (.type "object") = some true
theorem instB_ok (c : instB K x = true) : InstC K (He.ga K x) := by
  obtain ⟨c1, c⟩ := He.ba c
  obtain ⟨c2, c⟩ := He.ba c
  obtain ⟨c3, c4⟩ := He.ba c
  exact ⟨He.eqO_ok c1, He.eqO_ok c2, of_decide_eq_true c3, of_decide_eq_true c4⟩
theorem isEB_ok (c : isEB K x = true) : ExcC K (He.ga K x) := by
  obtain ⟨c1, c⟩ := He.ba c
  obtain ⟨c2, c⟩ := He.ba c
  obtain ⟨c3, c⟩ := He.ba c
  obtain ⟨c4, c5⟩ := He.ba c
  have i := instB_ok c5
  exact { hg := He.eqO_ok c1, hk := He.eqO_ok c2, hs := of_decide_eq_true c3, hd := c4, ha := i.ha, hn := i.hn, ht := i.ht, hm := i.hm }
theorem InstC.ty {H : Hp} {C a dx : Addr} {fs : List (Str × V)} (i : InstC K C) (cl : Cls K C) (e : H a = some (.ins C dx fs)) : TyX K H (.ref a) (.ref C) := .base (.ins e cl i.ha i.hn i.ht i.hm)
end
end Tk

set_option Elab.async false
set_option linter.all false
set_option maxRecDepth 100000
set_option maxHeartbeats 4000000
/-! A def that stands and keeps its promise; how it is called. -/
namespace Tk
open PySem PySem.Spec PyProof.Rows L2
def Has (P : Program) (w : World) (K : PySem.W.Frag) (mg : Str → Option Value) (base : Heap) (k : Nat) (f : Addr) (ps : List Str) (dvs : List V) (sp : Sp) : Prop :=
  PySem.W.keepIn K (.ref f) = true ∧ ∃ (fd : FuncData) (ds : List Value), Vals dvs ds ∧ Binds K fd ps ds ∧ FnOk P w K mg base (L2.CX P w) k f fd ps sp
theorem Has.mono {P : Program} {w : World} {K : PySem.W.Frag} {mg : Str → Option Value} {base : Heap} {j k : Nat} {f : Addr} {ps : List Str} {dvs : List V} {sp : Sp} (h : Has P w K mg base j f ps dvs sp) (l : j ≤ k) : Has P w K mg base k f ps dvs sp := by
  obtain ⟨a, fd, ds, b, c, F⟩ := h
  exact ⟨a, fd, ds, b, c, F.mono l⟩
section
variable {X : Cx} {k : Nat} {f C : Addr} {ps : List Str} {sp : Sp} {dvs : List V} {E : XK} {x m : Str} {p pos apos : Pos} {e o : Expr} {es : List Expr} {ta : TE} {t : TA}
abbrev HasX (X : Cx) := Has X.prog X.w X.K X.mg X.base
theorem pe_callH (h : HasX X k f ps dvs sp) (hr : Room k X.A) (hg : Gl X x) (hm : X.mg x = some (.ref f)) (hx : Passes (L2.CX X.prog X.w) X E) (ha : PA X (e :: es) t)
    (hdb : (x == ("__debug__" : Str)) = false := by decide) (he : starEach (e :: es) X.env = (false, eval e X.env) :: starEach es X.env := by rfl) (hpl : (backTo pos (starEach es X.env)).any (·.1) = false := by rfl) :
    PE X (.Call (.Name x p) (e :: es) [] pos) (tCall sp dvs E t) := by
  obtain ⟨hk, fd, ds, hd, hb, F⟩ := h
  exact pe_call F hr hg hm hk hb hd hx ha hdb he hpl
theorem pe_methH {pl : Sem Bool} (he : PE X o ta) (c : Cls X.K C) (hm : Meth X.K C m f) (h : HasX X k f ps dvs sp) (hr : Room k X.A) (hx : Passes (L2.CX X.prog X.w) X E) (ha : PA X (e :: es) t)
    (hst : starEach (e :: es) X.env = (false, eval e X.env) :: starEach es X.env := by rfl) (hpl : (backTo pos (starEach es X.env)).any (·.1) = false := by rfl)
    (ht : eval (.Call (.Attribute o m apos) (e :: es) [] pos) X.env = (do
      let ov ← eval o X.env
      standAt apos.atName
      let (f, first) ← holding [ov] (getMethod ov m pl)
      callWith pos f first (backTo pos (starEach (e :: es) X.env)) (backToKw pos (keywordEach [] X.env))) := by rfl) :
    PE X (.Call (.Attribute o m apos) (e :: es) [] pos) (tMeth C m sp dvs E ta t) := by
  obtain ⟨hk, fd, ds, hd, hb, F⟩ := h
  exact pe_meth (pl := pl) he c hm F hr hb hd hx ha hst hpl ht
theorem pe_makeH (M : Mk X.K C f) (h : HasX X k f ps dvs sp) (hr : Room (k + 1) X.A) (hg : Gl X x) (hm : X.mg x = some (.ref C)) (hx : Passes (L2.CX X.prog X.w) X E) (ha : PA X (e :: es) t)
    (hdb : (x == ("__debug__" : Str)) = false := by decide) (he : starEach (e :: es) X.env = (false, eval e X.env) :: starEach es X.env := by rfl) (hpl : (backTo pos (starEach es X.env)).any (·.1) = false := by rfl) :
    PE X (.Call (.Name x p) (e :: es) [] pos) (tMake C sp dvs E t) := by
  obtain ⟨hk, fd, ds, hd, hb, F⟩ := h
  exact pe_make M F hr hg hm hb hd hx ha hdb he hpl
theorem op_ownH {op : Operator} (h : HasX X k f ps [] sp) (hr : Room k X.A) (hx : Passes (L2.CX X.prog X.w) X E)
    (hc : PySem.W.selfFirst X.K C = true) (hm : Meth X.K C (PySem.dunder op.info.2) f) : OpR X (binaryOp op) (rOwn C sp E) := by
  obtain ⟨hk, fd, ds, hd, hb, F⟩ := h
  cases hd
  exact op_own F hr hb hx hc hm.at_ hm.fn
theorem op_eqOwnH (h : HasX X k f ps [] sp) (hr : Room k X.A) (hx : Passes (L2.CX X.prog X.w) X E) (hm : Meth X.K C "__eq__" f) : OpR X (compareOp .Eq) (rOwn C sp E) := by
  obtain ⟨hk, fd, ds, hd, hb, F⟩ := h
  cases hd
  exact op_eqOwn F hr hb hx hm.at_ hm.fn
theorem call_strOwnH (h : HasX X k f ps [] sp) (hr : Room (k + 2) X.A) (hx : Passes (L2.CX X.prog X.w) X E) (hm : Meth X.K C "__str__" f) : CallR X (.type "str") (rStrOwn C sp E) := by
  obtain ⟨hk, fd, ds, hd, hb, F⟩ := h
  cases hd
  exact call_strOwn F hr hb hx hm.at_ hm.fn
/-- a class called with keywords alone -/
def HasK (P : Program) (w : World) (K : PySem.W.Frag) (mg : Str → Option Value) (base : Heap) (k : Nat) (f : Addr) (ps : List Str) (n : Nat) (ks : List Str) (gV : List V → List V → List V) (sp : Sp) : Prop :=
  ∃ (fd : FuncData) (g : List Value → List Value → List Value), KBn K fd ps n ks g gV ∧ FnOk P w K mg base (L2.CX P w) k f fd ps sp
/-- the law's own def, as the end wants it -/
def IsLaw (P : Program) (w : World) (K : PySem.W.Frag) (mg : Str → Option Value) (base : Heap) (k : Nat) (f : Addr) (fd : FuncData) (ps : List Str) (sp : Sp) : Prop := FnOk P w K mg base (L2.CX P w) k f fd ps sp
end

/-! a def of no defaults: from its body to what it is -/
section
variable {P : Program} {w : World} {K : PySem.W.Frag} {mg : Str → Option Value} {base : Heap} {x qual : Str} {st : Stmt} {f : Addr} {fd : FuncData} {N ps : List Str} {k : Nat} {sp : Sp}
abbrev FnQ (K : PySem.W.Frag) (x q : Str) (st : Stmt) (ds : List V) (f : Addr) (fd : FuncData) : Prop := FunD K x q (defArgs st) (defBody st) (defScope st) ds [] f fd
/-- nothing is raised -/
theorem hasN (F : FnQ K x qual st [] f fd) (b : Binds K fd ps []) (S : FnScope N ps (defScope st)) (len : ∀ vs H Q E, sp vs H Q E → vs.length = ps.length)
    (hbody : ∀ (cdv : Value) (A : Around) (outer : List Env) (s : Shared) (H : Hp) (vs : List V) (Q : VK) (E : XK), Room k (A.deeper (envOfC qual (defScope st) s.heap.objs.size f cdv)) → sp vs H Q E →
      ∃ t, PSs (cxOf (L2.CX P w) P w K mg base N qual (defScope st) f cdv A outer s H E).nox (defBody st) t ∧ t { nx := fun _ H' => Q .non H', rt := Q } (start N vs) H) :
    Has P w K mg base (k + 1) f ps [] sp :=
  ⟨F.kp, fd, [], .nil, b, F.ok S len fun cdv A outer s H vs Q E hr h => by obtain ⟨t, h1, h2⟩ := hbody cdv A outer s H vs Q E hr h; exact ⟨t, h1.nox, h2⟩⟩
theorem hasX (F : FnQ K x qual st [] f fd) (b : Binds K fd ps []) (S : FnScope N ps (defScope st)) (len : ∀ vs H Q E, sp vs H Q E → vs.length = ps.length)
    (hbody : ∀ (cdv : Value) (A : Around) (outer : List Env) (s : Shared) (H : Hp) (vs : List V) (Q : VK) (E : XK), Room k (A.deeper (envOfC qual (defScope st) s.heap.objs.size f cdv)) → sp vs H Q E →
      ∃ t, PSs (cxOf (L2.CX P w) P w K mg base N qual (defScope st) f cdv A outer s H E) (defBody st) t ∧ t { nx := fun _ H' => Q .non H', rt := Q } (start N vs) H) :
    Has P w K mg base (k + 1) f ps [] sp :=
  ⟨F.kp, fd, [], .nil, b, F.ok S len hbody⟩
end

/-! one step of a reading -/
theorem ifT {c : Bool} {A B : Prop} (hc : c = true) (h : A) : if c = true then A else B := by rw [if_pos hc]; exact h
theorem ifF {c : Bool} {A B : Prop} (hc : c = false) (h : B) : if c = true then A else B := by rw [hc]; exact iteF h
theorem ifD {p : Prop} [Decidable p] {A B : Prop} (h1 : p → A) (h2 : ¬ p → B) : if (decide p) = true then A else B := by
  by_cases h : p
  · rw [if_pos (decide_eq_true h)]; exact h1 h
  · rw [if_neg (by rw [decide_eq_false h]; exact Bool.false_ne_true)]; exact h2 h
theorem ifB {c : Bool} {A B : Prop} (h1 : c = true → A) (h2 : c = false → B) : if c = true then A else B := by
  cases c with
  | true => exact iteT (h1 rfl)
  | false => exact iteF (h2 rfl)
end Tk

set_option Elab.async false
set_option linter.all false
set_option maxRecDepth 100000
set_option maxHeartbeats 4000000
/-! Cuts: what holds between two statements, behind a loop. -/
namespace Tk
open PySem PySem.Spec PyProof.Rows L2
theorem seq_cut {s1 s2 : TS} {D : Ends} {σ : L2.St} {H : Hp} (Mid : L2.St → Hp → Prop) (h1 : ∀ nx : L2.St → Hp → Prop, (∀ σ' H', Mid σ' H' → nx σ' H') → s1 { D with nx := nx } σ H) (h2 : ∀ σ' H', Mid σ' H' → s2 D σ' H') : tSeq s1 s2 D σ H :=
  h1 (s2 D) h2
theorem for_rangeP {lo : Int} {n : Nat} {g : TG} {tb : TS} {D : Ends} {σ : L2.St} {H : Hp} (Post : L2.St → Hp → Prop) (Pv : Nat → L2.St → Hp → Prop) (h0 : Pv 0 σ H)
    (hs : ∀ nx : L2.St → Hp → Prop, (∀ σ' H', Post σ' H' → nx σ' H') → ∀ i σ H, i < n → Pv i σ H → g (.int (lo + i)) σ H fun σ2 H2 => tb { D with nx := Pv (i + 1), ct := Pv (i + 1), bk := nx } σ2 H2)
    (hd : ∀ σ H, Pv n σ H → Post σ H) (fin : ∀ σ' H', Post σ' H' → D.nx σ' H') :
    ∃ W : Nat → Nat → L2.St → Hp → Prop, (∃ m, W 0 m σ H) ∧ ∀ i m σ H, W i m σ H →
      ((Itr lo n).stop i H ∧ D.nx σ H) ∨ ((Itr lo n).go i H ∧ ∃ N : L2.St → Hp → Prop, (∀ σ' H', N σ' H' → ∃ m', m' < m ∧ W (i + 1) m' σ' H') ∧ ∀ x H', (Itr lo n).yld i H x H' → g x σ H' fun σ2 H2 => tb { D with nx := N, ct := N, bk := D.nx } σ2 H2) :=
  for_range Pv h0 (hs D.nx fin) (fun σ H p => fin σ H (hd σ H p))
theorem ix_l {K : PySem.W.Frag} {H : Hp} {a : Addr} {xs : List V} {j : Nat} {v : V} {i : Int} {Q : VK} (h : SqL K H a xs) (e : i = (j : Int)) (hj : xs[j]? = some v) (k : Q v H) : rIxL K (.ref a) (.int i) H Q := ⟨a, xs, i, v, rfl, rfl, h, at_of e hj, k⟩
theorem ix_t {K : PySem.W.Frag} {H : Hp} {a : Addr} {xs : List V} {j : Nat} {v : V} {i : Int} {Q : VK} (h : SqT K H a xs) (e : i = (j : Int)) (hj : xs[j]? = some v) (k : Q v H) : rIxT K (.ref a) (.int i) H Q := ⟨a, xs, i, v, rfl, rfl, h, at_of e hj, k⟩
end Tk
namespace Tk
open PySem PySem.Spec PyProof.Rows L2
section
variable {P : Program} {w : World} {K : PySem.W.Frag} {mg : Str → Option Value} {base : Heap} {x qual : Str} {st : Stmt} {f : Addr} {fd : FuncData} {N ps : List Str} {k : Nat} {sp sp' : Sp} {CX : CXT}
theorem fnOr (A : FnOk P w K mg base CX k f fd ps sp) (B : FnOk P w K mg base CX k f fd ps sp') : FnOk P w K mg base CX k f fd ps (fun vs H Q E => sp vs H Q E ∨ sp' vs H Q E) :=
  ⟨fun vs H Q E h => h.elim (A.len vs H Q E) (B.len vs H Q E), fun A' outer s H args us vs Q E hr he hb hv h => h.elim (A.run A' outer s H args us vs Q E hr he hb hv) (B.run A' outer s H args us vs Q E hr he hb hv)⟩
theorem fnN (F : FnQ K x qual st [] f fd) (S : FnScope N ps (defScope st)) (len : ∀ vs H Q E, sp vs H Q E → vs.length = ps.length)
    (hbody : ∀ (cdv : Value) (A : Around) (outer : List Env) (s : Shared) (H : Hp) (vs : List V) (Q : VK) (E : XK), Room k (A.deeper (envOfC qual (defScope st) s.heap.objs.size f cdv)) → sp vs H Q E →
      ∃ t, PSs (cxOf (L2.CX P w) P w K mg base N qual (defScope st) f cdv A outer s H E).nox (defBody st) t ∧ t { nx := fun _ H' => Q .non H', rt := Q } (start N vs) H) :
    FnOk P w K mg base (L2.CX P w) (k + 1) f fd ps sp :=
  F.ok S len fun cdv A outer s H vs Q E hr h => by obtain ⟨t, h1, h2⟩ := hbody cdv A outer s H vs Q E hr h; exact ⟨t, h1.nox, h2⟩
end
end Tk

set_option Elab.async false
set_option linter.all false
set_option maxRecDepth 100000
set_option maxHeartbeats 4000000
/-! Errors: calls in a try, isinstance of what was caught. -/
namespace Tk
open PySem PySem.Spec PyProof.Rows L2
section
variable {X : Cx} {k : Nat} {f C : Addr} {ps : List Str} {sp : Sp} {dvs : List V} {E : L2.St → XK} {x m : Str} {p pos apos : Pos} {e o : Expr} {es : List Expr} {ta : TE} {t : TA}
/-- C(e, ..) in a try: what is raised is wished for at the slots as they are -/
def tMakeS (C : Addr) (sp : Sp) (dvs : List V) (E : L2.St → XK) (t : TA) : TE := fun σ H Q => t σ H fun vs H1 => ∀ x dx, H1 x = none → H1 dx = none → dx ≠ x →
  sp (.ref x :: (vs ++ dvs)) (upd (upd H1 dx (.own x)) x (.ins C dx [])) (fun v H2 => v = .non ∧ Q (.ref x) H2) (E σ)
theorem pe_makeSH (M : Mk X.K C f) (h : HasX X k f ps dvs sp) (hr : Room (k + 1) X.A) (hg : Gl X x) (hm : X.mg x = some (.ref C)) (hx : ∀ σ, PassesAt (L2.CX X.prog X.w) X σ (E σ)) (ha : PA X (e :: es) t)
    (hdb : (x == ("__debug__" : Str)) = false := by decide) (he : starEach (e :: es) X.env = (false, eval e X.env) :: starEach es X.env := by rfl) (hpl : (backTo pos (starEach es X.env)).any (·.1) = false := by rfl) :
    PE X (.Call (.Name x p) (e :: es) [] pos) (tMakeS C sp dvs E t) := by
  obtain ⟨_, fd, ds, hd, hb, F⟩ := h
  constructor
  intro pins s σ H Q I hq0
  refine wpAny_Call_Name_kw (ld_glob I hg hm (PySem.W.callWith_K (h₀ := X.base) I.ok.mod.kin M.kp (thn (ha.run pos pins s σ H _ I hq0) ?_) he hpl) hdb)
  rintro us s1 ⟨vs, H1, I1, r, q⟩
  refine ⟨I1.kIn, ?_⟩
  have q' := q (s1.heap.objs.size + 1) s1.heap.objs.size (I1.hok.fresh (Nat.le_succ _)) (I1.hok.fresh (Nat.le_refl _)) (Nat.ne_of_lt (Nat.lt_succ_self _))
  have I2 := Inv.made (C := C) I1
  have rr : Vals (V.ref (s1.heap.objs.size + 1) :: (vs ++ dvs)) (Value.ref (s1.heap.objs.size + 1) :: us ++ ds) := .cons rfl (r.append hd)
  have hl := rr.length.symm.trans (F.len _ _ _ _ q')
  have go := F.run _ X.stack _ _ ⟨Value.ref (s1.heap.objs.size + 1) :: us, []⟩ _ _ _ _ (hr.make C us []) (I2.env0.make C us []) (hb _ _ I2.kIn hl) rr q'
  refine wpAny_call (make_map (f := f) I1.kIn M.makes M.init (beq_iff_eq.mp M.fn) (codeAny_mono go ?_))
  intro res s' z
  cases res with
  | error err => exact hx σ pins _ _ err s' I2 z
  | ok fl => cases fl with
    | ret u =>
      obtain ⟨v, H', I3, rv, ev, q3⟩ := I2.after z
      subst ev
      exact ⟨rv, V.ref (s1.heap.objs.size + 1), H', I3, rfl, q3⟩
    | _ => exact False.elim z
/-- o.m(e, ..) in a try -/
def tMethS (C : Addr) (m : Str) (sp : Sp) (dvs : List V) (E : L2.St → XK) (ta : TE) (t : TA) : TE := fun σ H Q => ta σ H fun x H1 => ∃ a dx fs, x = .ref a ∧ H1 a = some (.ins C dx fs) ∧ fs.lookup m = none ∧
  t σ H1 fun vs H2 => sp (x :: (vs ++ dvs)) H2 Q (E σ)
theorem pe_methSH {pl : Sem Bool} (he : PE X o ta) (c : Cls X.K C) (hm : Meth X.K C m f) (h : HasX X k f ps dvs sp) (hr : Room k X.A) (hx : ∀ σ, PassesAt (L2.CX X.prog X.w) X σ (E σ)) (ha : PA X (e :: es) t)
    (hst : starEach (e :: es) X.env = (false, eval e X.env) :: starEach es X.env := by rfl) (hpl : (backTo pos (starEach es X.env)).any (·.1) = false := by rfl)
    (ht : eval (.Call (.Attribute o m apos) (e :: es) [] pos) X.env = (do
      let ov ← eval o X.env
      standAt apos.atName
      let (f, first) ← holding [ov] (getMethod ov m pl)
      callWith pos f first (backTo pos (starEach (e :: es) X.env)) (backToKw pos (keywordEach [] X.env))) := by rfl) :
    PE X (.Call (.Attribute o m apos) (e :: es) [] pos) (tMethS C m sp dvs E ta t) := by
  obtain ⟨_, fd, ds, hd, hb, F⟩ := h
  constructor
  intro pins s σ H Q I hq0
  refine PySem.W.methodCall_KW (pl := pl) (thn (he.run pins s σ H _ I hq0) ?_) ht
  rintro u s1 ⟨x, H1, I1, rx, a, dx, fs, rfl, ea, l, q⟩
  cases rx
  refine getmeth_ok I1 ea c hm l (PySem.W.callWith_K (first := [.ref a]) (h₀ := X.base) I.ok.mod.kin hm.kp (thn (ha.run pos pins s1 σ H1 _ I1 q) ?_) hst hpl)
  rintro us s2 ⟨vs, H2, I2, r, q2⟩
  exact ⟨I2.kIn, run_fnSD (us := .ref a :: us) (vs := .ref a :: vs) F hr hb hd (hx σ) I2 (.cons rfl r) q2⟩
/-- isinstance of the caught exception, its class D (no fields) told by the reading -/
def rIsEq (K : PySem.W.Frag) (D a : Addr) (cls : Value) (d : Option Addr) : List V → Hp → VK → Prop := fun xs H Q => cls = .ref D ∧ d = none ∧ rIsE K D a xs H Q
theorem call_isEq {a D : Addr} {oe : Obj} {cls : Value} {d : Option Addr} {pn : List (Addr × Obj)} (c : ExcC X.K D) (hz : Zc cls d oe) (hf : ∃ vs, oe.data = .fields vs) : CallR (X.suite a ((a, oe) :: pn)) (.builtin "isinstance") (rIsEq X.K D a cls d) := by
  intro pins s σ H xs us Q I r h
  obtain ⟨rfl, rfl, h⟩ := h
  exact call_isE (X := X) (a := a) (oe := oe) (pn := pn) c hz hf pins s σ H xs us Q I r h
def rIsET (K : PySem.W.Frag) (D a : Addr) (cls : Value) (d : Option Addr) : List V → Hp → VK → Prop := fun xs H Q => cls = .ref D ∧ d = none ∧ ∃ (tp : Addr) (cs : List V) (us : List Value) (b : Bool), xs = [.ref a, .ref tp] ∧ H tp = some (.tup cs) ∧ Paired ClsV cs us ∧ PySem.W.kitAny K (.ref D) us = some b ∧ Q (.bl b) H
theorem call_isET {a D : Addr} {oe : Obj} {cls : Value} {d : Option Addr} {pn : List (Addr × Obj)} (c : ExcC X.K D) (hz : Zc cls d oe) (hf : ∃ vs, oe.data = .fields vs) : CallR (X.suite a ((a, oe) :: pn)) (.builtin "isinstance") (rIsET X.K D a cls d) := by
  intro pins s σ H xs us Q I r h
  obtain ⟨rfl, rfl, tp, cs, ws, b, rfl, htp, hcs, e, q⟩ := h
  obtain ⟨u1, u2, rfl, r1, r2⟩ := vals2 r
  cases r1; cases r2
  obtain ⟨hget, _⟩ := I.pin (a, oe) (List.mem_append.mpr (.inl List.mem_cons_self))
  obtain ⟨vs, hv⟩ := hf
  have J : PySem.W.InstAt s.heap a oe D none := by
    obtain ⟨oc, od, oda, osl⟩ := oe
    obtain ⟨h1, h2⟩ := hz
    dsimp only at h1 h2 hv
    subst h1 h2 hv
    exact ⟨hget, rfl, rfl, trivial⟩
  have ob : ObjOk X.prog X.w H s.heap tp (.tup cs) := I.hok tp _ htp
  obtain ⟨_, its, rv, ⟨oc, od, oda, osl⟩, g1, g2, n, g3⟩ := ob
  dsimp only at g2 g3
  subst g2 g3
  have ew := ClsV.all hcs rv
  subst ew
  exact PySem.W.kia_tup (PySem.W.handS_kitx_exc c.hg c.hk c.hs c.hd c.ha c.hn c.ht c.hm) I.kIn J g1 e (fun z => nomatch z) fun tk => ⟨.bl b, H, I.kept (t' := tk) fun _ _ z => z, rfl, q⟩
end
end Tk
namespace Tk
open PySem PySem.Spec PyProof.Rows L2
theorem cx_none {P : Program} {w : World} {outer : List Env} {H : Hp} {s s' : Shared} {e : Value} (h : L2.CX P w outer H s E0 e s') : False := by
  obtain ⟨_, _, _, _, _, _, _, _, _, _, _, _, z⟩ := h
  exact z
/-- a def that raises nothing, seen so -/
theorem fn0 {P : Program} {w : World} {K : PySem.W.Frag} {mg : Str → Option Value} {base : Heap} {k : Nat} {f : Addr} {fd : FuncData} {ps : List Str} {sp : Sp} (F : FnOk P w K mg base (L2.CX P w) k f fd ps sp) :
    FnOk P w K mg base CX0 k f fd ps (fun vs H Q _ => sp vs H Q E0) :=
  ⟨fun vs H Q _ h => F.len vs H Q E0 h, fun A outer s H args us vs Q E hr he hb hv h => codeAny_mono (F.run A outer s H args us vs Q E0 hr he hb hv h) (fun r s' z => by
    cases r with
    | error e => exact (cx_none z).elim
    | ok fl => cases fl <;> exact z)⟩
end Tk

set_option Elab.async false
set_option linter.all false
set_option maxRecDepth 100000
set_option maxHeartbeats 4000000
/-! Errors with fields: what was caught is asked for its class and read. -/
namespace Tk
open PySem PySem.Spec PyProof.Rows L2
section
variable {X : Cx}
theorem xd_inst {a D dd : Addr} {oe : Obj} {pn : List (Addr × Obj)} {fs : List (Str × V)} {pins : List (Addr × Obj)} {σ : L2.St} {H : Hp} {s : Shared} (I : Inv (X.suite a ((a, oe) :: pn)) pins σ H s)
    (hz : Zc (.ref D) (some dd) oe) (hf : ∃ vs, oe.data = .fields vs) (h : H dd = some (.xd fs)) : ∃ od, PySem.W.InstAt s.heap a oe D (some od) := by
  obtain ⟨hget, _⟩ := I.pin (a, oe) (List.mem_append.mpr (.inl List.mem_cons_self))
  obtain ⟨vs, hv⟩ := hf
  have hx : ObjOk X.prog X.w H s.heap dd (.xd fs) := I.hok dd _ h
  obtain ⟨mA, hns, hr⟩ := hx
  obtain ⟨od, ho, hl⟩ := lookIn_ns hns
  exact ⟨od, hget, hz.1, by unfold PySem.W.notCls; rw [hv] <;> rfl, by rw [hz.2]; exact ho⟩
theorem exc_cls {K : PySem.W.Frag} {D : Addr} (c : ExcC K D) : (PySem.W.clsIn K D).isSome = true := by
  obtain ⟨cd, hc, _⟩ := PySem.W.any_some c.hd
  rw [hc]; rfl
/-- isinstance of the caught exception, one that has fields -/
def rIsEd (K : PySem.W.Frag) (D a : Addr) (cls : Value) (d : Option Addr) : List V → Hp → VK → Prop := fun xs H Q => cls = .ref D ∧ (∃ dd fs, d = some dd ∧ H dd = some (.xd fs)) ∧ rIsE K D a xs H Q
theorem call_isEd {a D : Addr} {oe : Obj} {cls : Value} {d : Option Addr} {pn : List (Addr × Obj)} (c : ExcC X.K D) (hz : Zc cls d oe) (hf : ∃ vs, oe.data = .fields vs) : CallR (X.suite a ((a, oe) :: pn)) (.builtin "isinstance") (rIsEd X.K D a cls d) := by
  intro pins s σ H xs us Q I r h
  obtain ⟨rfl, ⟨dd, fs, rfl, hd⟩, cc, cv, b, rfl, hcv, e, q⟩ := h
  obtain ⟨u1, u2, rfl, r1, r2⟩ := vals2 r
  cases r1
  have ec := hcv _ r2
  subst ec
  obtain ⟨od, J⟩ := xd_inst I hz hf hd
  exact PySem.W.kia_one (PySem.W.kitx_exc (exc_cls c) c.hg c.hk c.hs c.ha c.hn c.ht c.hm) I.kIn J e (fun z => nomatch z) fun tk => ⟨.bl b, H, I.kept (t' := tk) fun _ _ z => z, rfl, q⟩
def rIsETd (K : PySem.W.Frag) (D a : Addr) (cls : Value) (d : Option Addr) : List V → Hp → VK → Prop := fun xs H Q => cls = .ref D ∧ (∃ dd fs, d = some dd ∧ H dd = some (.xd fs)) ∧ ∃ (tp : Addr) (cs : List V) (us : List Value) (b : Bool), xs = [.ref a, .ref tp] ∧ H tp = some (.tup cs) ∧ Paired ClsV cs us ∧ PySem.W.kitAny K (.ref D) us = some b ∧ Q (.bl b) H
theorem call_isETd {a D : Addr} {oe : Obj} {cls : Value} {d : Option Addr} {pn : List (Addr × Obj)} (c : ExcC X.K D) (hz : Zc cls d oe) (hf : ∃ vs, oe.data = .fields vs) : CallR (X.suite a ((a, oe) :: pn)) (.builtin "isinstance") (rIsETd X.K D a cls d) := by
  intro pins s σ H xs us Q I r h
  obtain ⟨rfl, ⟨dd, fs, rfl, hd⟩, tp, cs, ws, b, rfl, htp, hcs, e, q⟩ := h
  obtain ⟨u1, u2, rfl, r1, r2⟩ := vals2 r
  cases r1; cases r2
  obtain ⟨od, J⟩ := xd_inst I hz hf hd
  have ob : ObjOk X.prog X.w H s.heap tp (.tup cs) := I.hok tp _ htp
  obtain ⟨_, its, rv, ⟨oc, od', oda, osl⟩, g1, g2, n, g3⟩ := ob
  dsimp only at g2 g3
  subst g2 g3
  have ew := ClsV.all hcs rv
  subst ew
  exact PySem.W.kia_tup (PySem.W.kitx_exc (exc_cls c) c.hg c.hk c.hs c.ha c.hn c.ht c.hm) I.kIn J g1 e (fun z => nomatch z) fun tk => ⟨.bl b, H, I.kept (t' := tk) fun _ _ z => z, rfl, q⟩
end
/-- an error class over ValueError, as it lies there -/
def clsO (C : Addr) (o : Obj) : Bool := match o.data with
  | .cls cd => decide (o.cls = .type "type") && (decide (cd.mro.head? = some (.ref C)) && (HandSPX.refsVE cd.mro.tail && (decide (o.slots.size = 6) && (decide (o.slots[4]? = some (some (.builtin "ValueError.__new__"))) && (cd.hasDict && !cd.hasDel)))))
  | _ => false
theorem six {α : Type} {l : List α} (h : l.length = 6) : ∃ a b c d e f, l = [a, b, c, d, e, f] := by
  match l, h with
  | [a, b, c, d, e, f], _ => exact ⟨a, b, c, d, e, f, rfl⟩
theorem clsO_ok {C : Addr} {o : Obj} (h : clsO C o = true) : ∃ nm q N bs bm sn sub ab col dd k0 k1 k2 k3 k5, o = excClassObj nm q C N bs bm true sn sub ab col dd k0 k1 k2 k3 k5 "ValueError.__new__" ∧ HandSPX.refsVE bm = true := by
  obtain ⟨oc, od, oda, osl⟩ := o
  unfold clsO at h
  split at h
  case h_2 => cases h
  rename_i cd e
  dsimp only at e
  subst e
  obtain ⟨h1, h⟩ := He.ba h
  obtain ⟨h2, h⟩ := He.ba h
  obtain ⟨h3, h⟩ := He.ba h
  obtain ⟨h4, h⟩ := He.ba h
  obtain ⟨h5, h⟩ := He.ba h
  obtain ⟨h6, h7⟩ := He.ba h
  replace h1 := of_decide_eq_true h1
  replace h2 := of_decide_eq_true h2
  replace h4 := of_decide_eq_true h4
  replace h5 := of_decide_eq_true h5
  obtain ⟨nm, bs, mro, ns, qn, hd, sn, sub, ab, col, del⟩ := cd
  dsimp only at h1 h2 h3 h4 h5 h6 h7
  obtain ⟨l⟩ := osl
  obtain ⟨k0, k1, k2, k3, k4, k5, rfl⟩ := six (show l.length = 6 from h4)
  replace h5 : k4 = some (.builtin "ValueError.__new__") := by simpa using h5
  cases mro with
  | nil => cases h2
  | cons m bm =>
    replace h2 : m = .ref C := by simpa using h2
    subst h1 h2 h5 h6
    replace h7 : del = false := by simpa using h7
    subst h7
    exact ⟨nm, qn, ns, bs, bm, sn, sub, ab, col, od, k0, k1, k2, k3, k5, rfl, h3⟩
/-- what the head tells of such a class with its own __init__ and a field -/
structure OexF (K : PySem.W.Frag) (C f : Addr) (fld : Str) : Prop where
  T : OexC K C
  iC : PySem.W.findIn K (.ref C) "__init__" = some (some (.ref f))
  tI : PySem.W.typeIn K (.ref f) = some (.type "function")
  no : PySem.W.findIn K (.ref C) fld = some none
  xf : XfC K C
def oexB (K : PySem.W.Frag) (x fld : Str) : Bool :=
  (match K.lookup (He.ga K x) with
    | some o => clsO (He.ga K x) o
    | none => false) &&
  (decide (PySem.W.findIn K (.ref (He.ga K x)) "__setattr__" = some (some (.builtin "object.__setattr__"))) &&
  (decide (PySem.W.subIn K (.ref (He.ga K x)) (.type "BaseException") = some true) &&
  (decide (PySem.W.typeIn K (.ref (He.ga K x)) = some (.type "type")) &&
  (PySem.W.keepIn K (.ref (He.ga K x)) &&
  (decide (PySem.W.findIn K (.ref (He.ga K x)) "__init__" = some (some (.ref (He.ma K (He.ga K x) "__init__")))) &&
  (decide (PySem.W.typeIn K (.ref (He.ma K (He.ga K x) "__init__")) = some (.type "function")) &&
  (decide (PySem.W.findIn K (.ref (He.ga K x)) fld = some none) && xfB K (He.ga K x))))))))
theorem oexB_ok {K : PySem.W.Frag} {x fld : Str} (h : oexB K x fld = true) : OexF K (He.ga K x) (He.ma K (He.ga K x) "__init__") fld := by
  obtain ⟨h1, h⟩ := He.ba h
  obtain ⟨h2, h⟩ := He.ba h
  obtain ⟨h3, h⟩ := He.ba h
  obtain ⟨h4, h⟩ := He.ba h
  obtain ⟨h5, h⟩ := He.ba h
  obtain ⟨h6, h⟩ := He.ba h
  obtain ⟨h7, h⟩ := He.ba h
  obtain ⟨h8, h9⟩ := He.ba h
  have hc : ∃ nm q N bs bm sn sub ab col dd k0 k1 k2 k3 k5, K.lookup (He.ga K x) = some (excClassObj nm q (He.ga K x) N bs bm true sn sub ab col dd k0 k1 k2 k3 k5 "ValueError.__new__") ∧ HandSPX.refsVE bm = true := by
    cases e : K.lookup (He.ga K x) with
    | none => rw [e] at h1; cases h1
    | some o =>
      rw [e] at h1
      obtain ⟨nm, q, N, bs, bm, sn, sub, ab, col, dd, k0, k1, k2, k3, k5, eo, hb⟩ := clsO_ok h1
      exact ⟨nm, q, N, bs, bm, sn, sub, ab, col, dd, k0, k1, k2, k3, k5, by rw [eo], hb⟩
  exact ⟨⟨hc, of_decide_eq_true h2, of_decide_eq_true h3, of_decide_eq_true h4, h5⟩, of_decide_eq_true h6, of_decide_eq_true h7, of_decide_eq_true h8, xfB_ok h9⟩
end Tk

set_option Elab.async false
set_option linter.all false
set_option maxRecDepth 100000
set_option maxHeartbeats 4000000
/-! Errors with an own __init__ whose context is None; C(..) in a try that lets them out; own defs called in the suite. -/
namespace Tk
open PySem PySem.Spec PyProof.Rows L2
section
variable {X : Cx} {CXx : CXT} {k : Nat} {f C : Addr} {fd : FuncData} {fld : Str} {ps : List Str} {sp : Sp} {dvs : List V} {E : L2.St → XK} {x : Str} {p pos : Pos} {e : Expr} {es : List Expr} {ta : TA}
theorem pmk_oexN (T : OexF X.K C f fld) (h : HasX X k f ps dvs sp) (hr : Room (k + 1) X.A) (hg : Gl X x) (hm : X.mg x = some (.ref C)) (ha : PA X (e :: es) ta)
    (hdb : (x == ("__debug__" : Str)) = false := by decide) (he : starEach (e :: es) X.env = (false, eval e X.env) :: starEach es X.env := by rfl) (hpl : (backTo pos (starEach es X.env)).any (·.1) = false := by rfl) :
    L2N.PMk X (.Call (.Name x p) (e :: es) [] pos) (tMkO C sp dvs ta) := by
  obtain ⟨_, gd, ds, hd, hb, G⟩ := h
  obtain ⟨c1, c2, c3, c4, c5, c6, c7, c8, c9, c10, m0, m1, m2, m3, m5, hC, hve⟩ := T.T.cls
  intro pins s0 σ H Q I0 wish
  refine wpAny_Call_Name_kw (ld_glob I0 hg hm (PySem.W.callWith_K (h₀ := X.base) I0.ok.mod.kin T.T.kC (thn (ha.run pos pins s0 σ H _ I0 wish) ?_) he hpl) hdb)
  rintro us ⟨h0, gn, dw, tt, oo⟩ ⟨ws, Ha, J0, rws, hsize, q0⟩
  refine ⟨J0.kIn, ?_⟩
  let a := h0.objs.size + 1
  have le : h0.objs.size ≤ a := Nat.le_succ _
  have fresh : Ha a = none := J0.hok.fresh le
  have q1 := q0 a fresh
  let h1 := (h0.push (PySem.W.kdv_tup us)).push (PySem.HandSPX.excO C h0.objs.size)
  have stays : ∀ b o, h0.get? b = some o → h1.get? b = some o := fun b o z => Heap.get?_push_of_some _ (Heap.get?_push_of_some _ z)
  have at_a : h1.get? a = some (PySem.HandSPX.excO C h0.objs.size) := by
    show ((h0.push (PySem.W.kdv_tup us)).push (PySem.HandSPX.excO C h0.objs.size)).get? (h0.objs.size + 1) = _
    heap_get
  have J1 : Inv X pins σ (upd Ha a (exo a C none)) ⟨h1, gn, dw, tt, oo⟩ := J0.laid (t' := tt) (a := a) (o := exo a C none) (h' := h1) stays le (exo_ok at_a)
  have rr : Vals (V.ref a :: (ws ++ dvs)) (Value.ref a :: (us ++ ds)) := .cons rfl (rws.append hd)
  have ll : (Value.ref a :: us ++ ds).length = ps.length := (show (Value.ref a :: (us ++ ds)).length = _ from (G.len _ _ _ _ q1 ▸ rr.length.symm : _))
  have small : us.length ≤ sizeLine := by
    have z := Paired.length rws
    rw [sizeLine_eq] at *
    omega
  have body := G.run _ X.stack _ _ ⟨Value.ref a :: us, []⟩ (Value.ref a :: (us ++ ds)) _ _ (fun _ _ _ => False) (hr.make C us []) (J1.env0.make C us []) (hb _ (Value.ref a :: us) J1.kIn ll) rr q1
  refine wpAny_call (PySem.HandSPX.call_own F.excBase_ValueError (fun Y => PySem.HandSPX.refsVE_contains Y c5 hve) (J0.kIn _ _ hC) (PySem.W.looks_findIn J0.kIn T.iC) (fun self => PySem.W.bind_fn J0.kIn self T.tI) small (codeAny_mono body ?_))
  intro res s2 got
  cases res with
  | error er => exact (cx_none got).elim
  | ok fl =>
    cases fl with
    | ret u =>
      obtain ⟨h2, g2, d2, t2, o2⟩ := s2
      obtain ⟨v, Hb, eo, bare, un, ok2, rv, ev, d, fs, e1, e2, e3, q2⟩ := got
      subst ev
      obtain ⟨t0, hI, J2, kI, nI, there, nHa⟩ := mk_end0 (d2 := d2) (t2 := t2) J0 le stays un ok2 eo bare e1 e2 e3
      exact ⟨rv, a, _, _, ⟨hI, g2, d2, t2, o2⟩, _, .ref C, some d, rfl, J2, kI, nI, there, ⟨rfl, rfl, fun vs z => by cases z; rfl⟩, rfl, rfl, nHa, rfl, bare, raises_own T.T.exC T.T.tyC, q2⟩
    | next => exact got.elim
    | brk => exact got.elim
    | cont => exact got.elim
/-- C(e, ..) in a try, whatever errors' kind -/
theorem pe_makeSN {ds : List Value} (M : Mk X.K C f) (G : FnOk X.prog X.w X.K X.mg X.base CXx k f fd ps sp) (hb : Binds X.K fd ps ds) (hd : Vals dvs ds) (hr : Room (k + 1) X.A) (hg : Gl X x) (hm : X.mg x = some (.ref C)) (hx : ∀ σ, PassesAt CXx X σ (E σ)) (ha : PA X (e :: es) ta)
    (hdb : (x == ("__debug__" : Str)) = false := by decide) (he : starEach (e :: es) X.env = (false, eval e X.env) :: starEach es X.env := by rfl) (hpl : (backTo pos (starEach es X.env)).any (·.1) = false := by rfl) :
    PE X (.Call (.Name x p) (e :: es) [] pos) (tMakeS C sp dvs E ta) := by
  constructor
  intro pins s σ H Q I hq0
  refine wpAny_Call_Name_kw (ld_glob I hg hm (PySem.W.callWith_K (h₀ := X.base) I.ok.mod.kin M.kp (thn (ha.run pos pins s σ H _ I hq0) ?_) he hpl) hdb)
  rintro us s1 ⟨vs, H1, I1, r, q⟩
  refine ⟨I1.kIn, ?_⟩
  have q' := q (s1.heap.objs.size + 1) s1.heap.objs.size (I1.hok.fresh (Nat.le_succ _)) (I1.hok.fresh (Nat.le_refl _)) (Nat.ne_of_lt (Nat.lt_succ_self _))
  have I2 := Inv.made (C := C) I1
  have rr : Vals (V.ref (s1.heap.objs.size + 1) :: (vs ++ dvs)) (Value.ref (s1.heap.objs.size + 1) :: us ++ ds) := .cons rfl (r.append hd)
  have hl := rr.length.symm.trans (G.len _ _ _ _ q')
  have go := G.run _ X.stack _ _ ⟨Value.ref (s1.heap.objs.size + 1) :: us, []⟩ _ _ _ _ (hr.make C us []) (I2.env0.make C us []) (hb _ _ I2.kIn hl) rr q'
  refine wpAny_call (make_map (f := f) I1.kIn M.makes M.init (beq_iff_eq.mp M.fn) (codeAny_mono go ?_))
  intro res s' z
  cases res with
  | error err => exact hx σ pins _ _ err s' I2 z
  | ok fl => cases fl with
    | ret u =>
      obtain ⟨v, H', I3, rv, ev, q3⟩ := I2.after z
      subst ev
      exact ⟨rv, V.ref (s1.heap.objs.size + 1), H', I3, rfl, q3⟩
    | _ => exact False.elim z
theorem hot_suite {a : Addr} {oe : Obj} {cls : Value} {d : Option Addr} {pn : List (Addr × Obj)} (hz : L2N.Zn cls d oe) (hf : ∃ vs, oe.data = .fields vs) : L2H.HotC (X.suite a ((a, oe) :: pn)) := by
  obtain ⟨vs, h⟩ := hf
  exact ⟨(a, oe), ⟨rfl, vs, h, hz.2.2 vs h⟩, List.mem_cons_self⟩
end
section
variable {P : Program} {w : World} {K : PySem.W.Frag} {mg : Str → Option Value} {base : Heap} {x qual : Str} {st : Stmt} {f : Addr} {fd : FuncData} {N ps : List Str} {k : Nat} {sp : Sp}
/-- such a def, as it is called within an except suite -/
theorem fnHot (F : FnQ K x qual st [] f fd) (S : FnScope N ps (defScope st)) (len : ∀ vs H Q E, sp vs H Q E → vs.length = ps.length)
    (hbody : ∀ (cdv : Value) (A : Around) (outer : List Env) (s : Shared) (H : Hp) (vs : List V) (Q : VK) (E : XK) (p : Addr × Obj), L2H.RoomH k (A.deeper (envOfC qual (defScope st) s.heap.objs.size f cdv)) → sp vs H Q E →
      ∃ t, PSs (L2H.cxH (L2.CX P w) P w K mg base N qual (defScope st) f cdv A outer s H E p) (defBody st) t ∧ t { nx := fun _ H' => Q .non H', rt := Q } (start N vs) H) :
    L2H.FnH P w K mg base (L2.CX P w) (k + 1) f fd ps sp := by
  obtain ⟨oc, od, dV, kV, doc, pm, an, cdv, ct, osl, rfl, lk, hcd, _, _⟩ := F.ex
  exact L2H.fn_ofH lk hcd S len fun A outer s H vs Q E p _ hr hsp => hbody cdv A outer s H vs Q E p hr hsp
end
end Tk

set_option Elab.async false
set_option linter.all false
set_option maxRecDepth 100000
set_option maxHeartbeats 4000000
/-! Walks over things that stay; the lists that comprehensions make of them. -/
namespace Tk
open PySem PySem.Spec PyProof.Rows L2
/-- a thing walked in n turns, at turn i the value xs i -/
structure Wk (J : It) (n : Nat) (xs : Nat → V) (I : Hp) : Prop where
  go : ∀ i H, Same I H → i < n → J.go i H
  stop : ∀ H, Same I H → J.stop n H
  yld : ∀ i H x H', Same I H → i < n → J.yld i H x H' → x = xs i ∧ H' = H
def gv (vs : List V) (i : Nat) : V := vs.getD i .non
theorem gv_at {vs : List V} {i : Nat} (h : i < vs.length) : vs[i]? = some (gv vs i) := by
  unfold gv; rw [List.getD_eq_getElem?_getD, List.getElem?_eq_getElem h]; rfl
theorem gv_of {vs : List V} {i : Nat} {v : V} (h : vs[i]? = some v) : gv vs i = v := by
  unfold gv; rw [List.getD_eq_getElem?_getD, h]; rfl
section
variable {K : PySem.W.Frag} {I : Hp} {a : Addr} {vs : List V}
theorem wk_list (h : I a = some (.lst vs)) : Wk (Itl K a) vs.length (gv vs) I :=
  ⟨fun i H s hi => ⟨vs, _, SqL.of (s _ _ h), gv_at hi⟩, fun H s => ⟨vs, SqL.of (s _ _ h), Nat.le_refl _⟩,
    fun i H x H' s hi y => ⟨(gv_of (y.2 vs (SqL.of (s _ _ h)))).symm, y.1⟩⟩
theorem wk_tup (h : I a = some (.tup vs)) : Wk (Itt K a) vs.length (gv vs) I :=
  ⟨fun i H s hi => ⟨vs, _, SqT.of (s _ _ h), gv_at hi⟩, fun H s => ⟨vs, SqT.of (s _ _ h), Nat.le_refl _⟩,
    fun i H x H' s hi y => ⟨(gv_of (y.2 vs (SqT.of (s _ _ h)))).symm, y.1⟩⟩
theorem wk_range {lo : Int} {n : Nat} : Wk (Itr lo n) n (fun i => .int (lo + i)) I :=
  ⟨fun i H s hi => hi, fun H s => Nat.le_refl _, fun i H x H' s hi y => ⟨y.2, y.1⟩⟩
/-- a list or a tuple -/
def LtR (K : PySem.W.Frag) (x : V) (H1 : Hp) (R : It → Hp → Prop) : Prop := ∃ a, x = .ref a ∧ (((∃ xs, SqL K H1 a xs) ∧ R (Itl K a) H1) ∨ ((∃ xs, SqT K H1 a xs) ∧ R (Itt K a) H1))
def iLT (K : PySem.W.Frag) (tl : TE) : TI := fun σ H R => tl σ H fun x H1 => LtR K x H1 R
theorem pi_lt {X : Cx} {tg l : Expr} {tl : TE} (hl : PE X l tl) : PI X tg l (iLT X.K tl) := by
  refine ⟨fun pins s σ H R Iv h => ?_⟩
  refine thn (hl.run pins s σ H _ Iv h) fun v s1 q => ?_
  obtain ⟨x, H1, I1, r1, b, rfl, q⟩ := q
  cases r1
  rcases q with ⟨⟨xs, hq⟩, q⟩ | ⟨⟨xs, hq⟩, q⟩
  · have z : ∀ (te : TE) (v : V), True := fun _ _ => trivial
    obtain ⟨its, rv, p, hz⟩ := I1.list hq
    refine wpAny_pyIter_list p.isList ?_
    have ne : ∀ b' o, s1.heap.get? b' = some o → (s1.heap.push { cls := .type "list_iterator", data := .fields #[.ref b, .int 0 0] }).get? b' = some o := fun b' o e => Heap.get?_push_of_some _ e
    refine ⟨s1.heap.objs.size, [s1.heap.objs.size], _, _, H1, rfl, I1.kept (t' := s1.toks) ne, turn_list b s1.heap.objs.size, ⟨_, Heap.get?_push_size _ rfl, rfl, rfl⟩, fun b' hb => ?_, q⟩
    have e : b' = s1.heap.objs.size := by simpa using hb
    subst e
    exact I1.fpOk (Nat.le_refl _) (I1.hok.fresh (Nat.le_refl _))
  · obtain ⟨its, rv, p, hz⟩ := I1.tuple hq
    refine wpAny_pyIter_tuple p ?_
    have ne : ∀ b' o, s1.heap.get? b' = some o → (s1.heap.push { cls := .type "tuple_iterator", data := .fields #[.ref b, .int 0 0] }).get? b' = some o := fun b' o e => Heap.get?_push_of_some _ e
    refine ⟨s1.heap.objs.size, [s1.heap.objs.size], _, _, H1, rfl, I1.kept (t' := s1.toks) ne, turn_tuple b s1.heap.objs.size, ⟨_, Heap.get?_push_size _ rfl, rfl, rfl⟩, fun b' hb => ?_, q⟩
    have e : b' = s1.heap.objs.size := by simpa using hb
    subst e
    exact I1.fpOk (Nat.le_refl _) (I1.hok.fresh (Nat.le_refl _))
end
theorem lt_of {K : PySem.W.Frag} {I H : Hp} {a : Addr} {vs : List V} {R : It → Hp → Prop} (h : I a = some (.lst vs) ∨ I a = some (.tup vs)) (s : Same I H) (k : ∀ J, Wk J vs.length (gv vs) I → R J H) : LtR K (.ref a) H R :=
  ⟨a, rfl, h.elim (fun h => .inl ⟨⟨vs, SqL.of (s _ _ h)⟩, k _ (wk_list h)⟩) fun h => .inr ⟨⟨vs, SqT.of (s _ _ h)⟩, k _ (wk_tup h)⟩⟩
/-- a loop over such a thing -/
theorem for_wk {J : It} {n : Nat} {xs : Nat → V} {I : Hp} {g : TG} {tb : TS} {D : Ends} {σ : L2.St} {H : Hp} (W : Wk J n xs I) (Post : L2.St → Hp → Prop) (Pv : Nat → L2.St → Hp → Prop) (hS : ∀ i σ H, Pv i σ H → Same I H) (h0 : Pv 0 σ H)
    (hs : ∀ nx : L2.St → Hp → Prop, (∀ σ' H', Post σ' H' → nx σ' H') → ∀ i σ H, i < n → Pv i σ H → g (xs i) σ H fun σ2 H2 => tb { D with nx := Pv (i + 1), ct := Pv (i + 1), bk := nx } σ2 H2)
    (hd : ∀ σ H, Pv n σ H → Post σ H) (fin : ∀ σ' H', Post σ' H' → D.nx σ' H') :
    ∃ Wz : Nat → Nat → L2.St → Hp → Prop, (∃ m, Wz 0 m σ H) ∧ ∀ i m σ H, Wz i m σ H →
      (J.stop i H ∧ D.nx σ H) ∨ (J.go i H ∧ ∃ N : L2.St → Hp → Prop, (∀ σ' H', N σ' H' → ∃ m', m' < m ∧ Wz (i + 1) m' σ' H') ∧ ∀ x H', J.yld i H x H' → g x σ H' fun σ2 H2 => tb { D with nx := N, ct := N, bk := D.nx } σ2 H2) := by
  refine ⟨fun i m σ H => m = n - i ∧ i ≤ n ∧ Pv i σ H, ⟨n, rfl, Nat.zero_le _, h0⟩, ?_⟩
  rintro i m σ H ⟨rfl, hi, p⟩
  have s := hS i σ H p
  by_cases hlt : i < n
  · refine .inr ⟨W.go i H s hlt, Pv (i + 1), fun σ' H' p' => ⟨n - (i + 1), by omega, rfl, hlt, p'⟩, fun x H' y => ?_⟩
    obtain ⟨rfl, rfl⟩ := W.yld i H x H' s hlt y
    exact hs D.nx fin i σ _ hlt p
  · have e : i = n := by omega
    subst e
    exact .inl ⟨W.stop H s, fin σ H (hd σ H p)⟩
/-- the rest of a comprehension's reading, behind its iterator -/
abbrev LcR (J : It) (g : TG) (tt : TT) (te : TE) (vs : List Nat) (σ : L2.St) (H1 : Hp) (D : Addr) (Qd : Hp → Prop) : Prop :=
  ∃ W : Nat → Nat → Hp → Prop, (∃ m, W 0 m (upd H1 D (.lst []))) ∧ ∀ i m H, W i m H →
      (J.stop i H ∧ Qd H) ∨ (J.go i H ∧ ∃ Nx : Hp → Prop, (∀ H', Nx H' → ∃ m', m' < m ∧ W (i + 1) m' H') ∧ ∀ x H', J.yld i H x H' → g x (wipe σ vs) H' fun σ2 H2 => wipe σ2 vs = wipe σ vs ∧ tt σ2 H2 fun b H3 =>
        if b = true then te σ2 H3 fun y H4 => ∃ acc, H4 D = some (.lst acc) ∧ acc.length < sizeLine ∧ Nx (upd H4 D (.lst (acc ++ [y]))) else Nx H3)
theorem All2.snoc {α : Type} {R : V → α → Prop} {vs : List V} {xs : List α} {v : V} {x : α} (h : All2 R vs xs) (r : R v x) : All2 R (vs ++ [v]) (xs ++ [x]) := h.append (.cons r .nil)
/-- what a heap's own rule bears: the list under way at D, and that it stays from then on -/
structure Stb (Jv : Hp → Hp → Prop) (D : Addr) : Prop where
  chg : ∀ {I H : Hp} {l : List V}, I D = none → Jv I H → Jv I (upd H D (.lst l))
  frz : ∀ {I H : Hp} {o : HO}, I D = none → Jv I H → Jv (upd I D o) H
theorem stb_true {D : Addr} : Stb (fun _ _ => True) D := ⟨fun _ _ => trivial, fun _ _ => trivial⟩
theorem Gr.drop {m : Addr} {ms : List Addr} {I H I' H' : Hp} (g : Gr (m :: ms) I H I' H') (h : H m = none) : Gr ms I H I' H' :=
  ⟨g.ii, g.ih, fun a o n e => g.hh a o (fun z => (List.mem_cons.mp z).elim (fun q => by rw [q, h] at e; cases e) n) e, g.th, g.nw⟩
/-- a comprehension without tests over such a thing: one element a turn, what it is told by Rl -/
theorem lc_wk {β : Type} {J : It} {n : Nat} {xs : Nat → V} {I H1 : Hp} {g : TG} {tt : TT} {te : TE} {vs : List Nat} {σ : L2.St} {D : Addr} {Qd : Hp → Prop} (ms : List Addr) (Sy : Rp β) [Mono Sy] (Rl : Nat → β → Prop) (Jv : Hp → Hp → Prop)
    (W : Wk J n xs I) (s0 : Same I H1) (hD : H1 D = none) (hm : D ∉ ms) (hn : n < sizeLine) (st : Stb Jv D) (j0 : Jv I H1)
    (step : ∀ (i : Nat) (I' H' : Hp) (Nx : Hp → Prop) (Qk : VK), i < n → Same I I' → Same I' H' → Jv I' H' → (∀ I'' H'' y z, Gr ms I' H' I'' H'' → Jv I'' H'' → Sy I'' y z → Rl i z → Qk y H'') →
      g (xs i) (wipe σ vs) H' fun σ2 H2 => wipe σ2 vs = wipe σ vs ∧ tt σ2 H2 fun b H3 => if b = true then te σ2 H3 Qk else Nx H3)
    (hd : ∀ I' H' ys zs, Gr ms I H1 I' H' → I' D = some (.lst ys) → All2 (Sy I') ys zs → zs.length = n → (∀ i z, zs[i]? = some z → Rl i z) → Jv I' H' → Qd H') :
    LcR J g tt te vs σ H1 D Qd := by
  refine ⟨fun i m H => m = n - i ∧ i ≤ n ∧ ∃ I' ys zs, Gr ms I H1 I' H ∧ I' D = none ∧ H D = some (.lst ys) ∧ All2 (Sy I') ys zs ∧ zs.length = i ∧ (∀ i z, zs[i]? = some z → Rl i z) ∧ Jv I' H,
    ⟨n, rfl, Nat.zero_le _, I, [], [], (Gr.tmp s0 hD), s0.free hD, upd_same, .nil, rfl, fun i z h => by simp at h, st.chg (s0.free hD) j0⟩, ?_⟩
  rintro i m H ⟨rfl, hi, I', ys, zs, gr, hI, hH, a2, hl, rl, jv⟩
  have s : Same I H := gr.ii.trans gr.ih
  by_cases hlt : i < n
  · refine .inr ⟨W.go i H s hlt, fun H' => i + 1 ≤ n ∧ ∃ I' ys zs, Gr ms I H1 I' H' ∧ I' D = none ∧ H' D = some (.lst ys) ∧ All2 (Sy I') ys zs ∧ zs.length = i + 1 ∧ (∀ i z, zs[i]? = some z → Rl i z) ∧ Jv I' H',
      fun H' p => ⟨n - (i + 1), by omega, rfl, p.1, p.2⟩, fun x H' y => ?_⟩
    obtain ⟨rfl, rfl⟩ := W.yld i H x H' s hlt y
    refine step i I' H' _ _ hlt gr.ii gr.ih jv fun I'' H'' y z g2 jv2 sy r => ?_
    have hD2 : H'' D = some (.lst ys) := g2.at hH hm
    have hI2 : I'' D = none := g2.out hI hH
    refine ⟨ys, hD2, by rw [a2.len, hl]; omega, hlt, I'', ys ++ [y], zs ++ [z], ?_, hI2, upd_same, (a2.mono fun _ _ => up g2.ii).snoc sy, by rw [List.length_append, hl]; rfl, fun j u hu => ?_, st.chg hI2 jv2⟩
    · have g3 := gr.trans g2
      exact ((g3.mono (ns := D :: ms) fun _ z => List.mem_cons_of_mem _ z).trans (Gr.mut g3.ih hI2 List.mem_cons_self)).drop hD
    · by_cases hj : j < zs.length
      · rw [List.getElem?_append_left hj] at hu; exact rl j u hu
      · rw [List.getElem?_append_right (by omega)] at hu
        have : j - zs.length = 0 := by
          rcases Nat.eq_zero_or_pos (j - zs.length) with h | h
          · exact h
          · rw [List.getElem?_eq_none (by simp; omega)] at hu; cases hu
        rw [this] at hu
        simp at hu
        subst hu
        have : j = i := by omega
        rw [this]; exact r
  · have e : i = n := by omega
    subst e
    refine .inl ⟨W.stop H s, hd (upd I' D (.lst ys)) H ys zs (gr.mono (fun _ z => List.mem_cons_of_mem _ z) |>.frz s0 hD hH) upd_same (a2.mono fun _ _ => up (sNew hI)) hl rl (st.frz hI jv)⟩
end Tk

set_option Elab.async false
set_option linter.all false
set_option maxRecDepth 100000
set_option maxHeartbeats 4000000
/-! zip of a list or a tuple with a tuple. -/
namespace Tk
open PySem PySem.Spec PyProof.Rows L2
def SqB (K : PySem.W.Frag) (l : Bool) (H : Hp) (a : Addr) (xs : List V) : Prop := match l with
  | true => SqL K H a xs
  | false => SqT K H a xs
def ItB (l : Bool) (h : Heap) (i a : Addr) (k : Nat) : Prop := match l with
  | true => h.IsListIter i a k
  | false => h.IsTupleIter i a k
def IsB (l : Bool) (h : Heap) (a : Addr) (its : Array Value) : Prop := match l with
  | true => h.IsList a its
  | false => h.IsTuple a its
theorem ItB.fld {l : Bool} {h : Heap} {i a : Addr} {k : Nat} (t : ItB l h i a k) : ∃ o, h.get? i = some o ∧ ∀ v, o.data ≠ .cell v := by
  cases l with
  | true => obtain ⟨o, e, _, d⟩ := t; exact ⟨o, e, fun v q => by rw [d] at q; cases q⟩
  | false => obtain ⟨o, e, _, d⟩ := t; exact ⟨o, e, fun v q => by rw [d] at q; cases q⟩
theorem ItB.keep {l : Bool} {h h' : Heap} {i a : Addr} {k : Nat} (t : ItB l h i a k) (e : ∀ o, h.get? i = some o → h'.get? i = some o) : ItB l h' i a k := by
  cases l with
  | true => exact Heap.IsListIter.at t e
  | false => exact Heap.IsTupleIter.at t e
theorem drawsB {prog : Program} {w : World} {A : Around} (hh : A.handled = none) (l : Bool) (it a : Addr) (hne : a ≠ it) (its : Array Value) :
    Draws prog w A it [it, a] its.size (fun i v => its[i]? = some v) (fun i h => ItB l h it a i ∧ IsB l h a its) := by
  cases l with
  | true => exact Draws.list hh it a hne its
  | false => exact Draws.tuple hh it a hne its
section
variable {X : Cx} {pins : List (Addr × Obj)} {σ : L2.St} {H : Hp} {s : Shared}
theorem sqB_at {l : Bool} {a : Addr} {xs : List V} (I : Inv X pins σ H s) (h : SqB X.K l H a xs) : ∃ its : List Value, Vals xs its ∧ IsB l s.heap a its.toArray ∧ a < s.heap.objs.size := by
  cases l with
  | true => obtain ⟨its, r, p, _⟩ := I.list h; exact ⟨its, r, p.isList, p.lt⟩
  | false =>
    obtain ⟨its, r, p, _⟩ := I.tuple h
    obtain ⟨o, e, _⟩ := id p
    exact ⟨its, r, p, Heap.lt_size e⟩
theorem sqB_inj {l : Bool} {a : Addr} {xs ys : List V} (I : Inv X pins σ H s) (h : SqB X.K l H a xs) (k : SqB X.K l H a ys) : xs = ys := by
  cases l with
  | true => exact I.list_inj h k
  | false => exact I.tuple_inj h k
end
/-- new pairs of what stands at a and at b -/
def ItzM (K : PySem.W.Frag) (l m : Bool) (a b : Addr) : It :=
  ⟨fun i H => ∃ xs ys x y, (SqB K l H a xs ∧ xs[i]? = some x) ∧ SqB K m H b ys ∧ ys[i]? = some y,
    fun i H v H' => ∃ t x y, v = .ref t ∧ H t = none ∧ H' = upd H t (.tup [x, y]) ∧ (∀ xs, SqB K l H a xs → xs[i]? = some x) ∧ ∀ ys, SqB K m H b ys → ys[i]? = some y,
    fun i H => ∃ xs ys, SqB K l H a xs ∧ SqB K m H b ys ∧ i ≤ xs.length ∧ i ≤ ys.length ∧ (i = xs.length ∨ i = ys.length)⟩
/-- where the five objects of a zip lie -/
structure Zs (z TI TO i1 i2 a b : Addr) : Prop where
  sep : ZipSep2 z TI TO i1 i2 [i1, a] [i2, b]
  a1 : a ≠ i1
  b2 : b ≠ i2
theorem two_not {c x y : Addr} (h1 : c ≠ x) (h2 : c ≠ y) : c ∉ [x, y] := fun h => by
  rcases List.mem_cons.mp h with e | h
  · exact h1 e
  · rcases List.mem_cons.mp h with e | h
    · exact h2 e
    · exact nomatch h
theorem zs_new {n a b : Addr} (ha : a < n) (hb : b < n) : Zs (n + 4) (n + 2) (n + 3) n (n + 1) a b := by
  have D := PySem.W.ktu_apart n a b ha hb
  exact ⟨⟨D.TIz, D.TOz, D.TITO, D.TIi1, List.mem_cons_self, two_not D.i1z.symm D.l1z.symm, two_not D.TOi1 D.l1TO.symm, D.TIi2, List.mem_cons_self, two_not D.i2z.symm D.l2z.symm, two_not D.TOi2 D.l2TO.symm, two_not D.i12 D.l2i1.symm, two_not D.i12.symm D.l1i2.symm⟩, D.l1i1, D.l2i2⟩
theorem turn_zipM {P : Program} {w : World} {K : PySem.W.Frag} {elts : List Expr} {kk : Nat} {tpos : Pos} {l m : Bool} {a b z TI TO i1 i2 : Addr} (Z : Zs z TI TO i1 i2 a b) :
    Turn P w K (.Tuple elts kk tpos) (ItzM K l m a b) [z, TI, TO, i1, i2] z (fun i h => (IsZip h z TI TO .none ∧ IsPair h TI (.ref i1) (.ref i2) ∧ ∃ x y, IsPair h TO x y) ∧ ItB l h i1 a i ∧ ItB m h i2 b i) where
  mem := List.mem_cons_self
  obj := fun i h ⟨⟨hz, hI, x, y, hO⟩, h1, h2⟩ c hc => by
    simp only [List.mem_cons, List.not_mem_nil, or_false] at hc
    rcases hc with rfl | rfl | rfl | rfl | rfl
    · exact ⟨_, hz, nofun⟩
    · exact ⟨_, hI, nofun⟩
    · exact ⟨_, hO, nofun⟩
    · exact h1.fld
    · exact h2.fld
  keep := fun i h h' ⟨⟨hz, hI, x, y, hO⟩, h1, h2⟩ k =>
    ⟨⟨k _ (by simp) _ hz, k _ (by simp) _ hI, x, y, k _ (by simp) _ hO⟩, h1.keep (k _ (by simp)), h2.keep (k _ (by simp))⟩
  item := by
    rintro X rfl rfl rfl hc i pins s σ H E Iv hf ⟨⟨hz, hI, x0, y0, hO⟩, h1, h2⟩ ⟨xs, ys, x, y, ⟨qx, hx⟩, qy, hy⟩
    obtain ⟨its, rv, p1, _⟩ := sqB_at Iv qx
    obtain ⟨jts, rw', p2, _⟩ := sqB_at Iv qy
    obtain ⟨u, hu, ru⟩ := rv.get hx
    obtain ⟨u2, hu2, ru2⟩ := rw'.get hy
    have hh : X.A.in1.handled = none := Iv.ok.hd hc
    have lz := Heap.lt_size hz
    have b1 : i < its.toArray.size := by
      have := (List.getElem?_eq_some_iff.mp hu).1; simpa using this
    have b2 : i < jts.toArray.size := by
      have := (List.getElem?_eq_some_iff.mp hu2).1; simpa using this
    refine wpAny_pyNext_zipD2_item Z.sep (drawsB (A := X.A.in1) hh l i1 a Z.a1 its.toArray) (drawsB (A := X.A.in1) hh m i2 b Z.b2 jts.toArray) hz hI hO ⟨h1, p1⟩ ⟨h2, p2⟩ b1 b2 fun v1 v2 h' tk e1 e2 z' O' d1 d2 hT hs hk => ?_
    have e1' : u = v1 := by
      have : its.toArray[i]? = some u := by simpa using hu
      rw [this] at e1; exact Option.some.inj e1
    have e2' : u2 = v2 := by
      have : jts.toArray[i]? = some u2 := by simpa using hu2
      rw [this] at e2; exact Option.some.inj e2
    subst e1' e2'
    refine ⟨_, rfl, wpAny_letOwnedTupleGo_zip (s := { s with heap := h', toks := tk }) z' fun h'' z'' sb => ?_⟩
    have hT2 : h''.get? s.heap.objs.size = some { cls := .type "tuple", data := .seq #[u, u2] } := (sb.2 _ (Nat.ne_of_gt lz)).trans hT
    have hn : H s.heap.objs.size = none := Iv.hok.fresh (Nat.le_refl _)
    have kp : ∀ c o, c ∉ [z, TI, TO, i1, i2] → s.heap.get? c = some o → h''.get? c = some o := fun c o hcn q => by
      simp only [List.mem_cons, List.not_mem_nil, or_false, not_or] at hcn
      exact (sb.2 c hcn.1).trans (hk c o hcn.1 hcn.2.2.1 hcn.2.2.2.1 hcn.2.2.2.2 q)
    have I1 : Inv X pins σ (upd H s.heap.objs.size (.tup [x, y])) { s with heap := h'', toks := tk } :=
      Iv.turnedNew (t' := tk) (ch := [z, TI, TO, i1, i2]) kp hf (Nat.le_refl _) ⟨by show 2 ≤ sizeLine; decide, [u, u2], .cons ru (.cons ru2 .nil), ⟨_, hT2, rfl, _, rfl⟩⟩
    have S := Z.sep
    refine ⟨.ref s.heap.objs.size, _, I1, rfl, ⟨_, x, y, rfl, hn, rfl, fun l hl => by rw [sqB_inj Iv hl qx]; exact hx, fun l hl => by rw [sqB_inj Iv hl qy]; exact hy⟩,
      ⟨⟨z'', (sb.2 _ S.TIz).trans (hk _ _ S.TIz S.TITO S.TIi1 S.TIi2 hI), u, u2, (sb.2 _ S.TOz).trans O'⟩, d1.1.keep fun o q => (sb.2 _ S.zi1.symm).trans q, d2.1.keep fun o q => (sb.2 _ S.zi2.symm).trans q⟩, fun c hcm => ?_⟩
    have hlt : c ≠ s.heap.objs.size := by
      simp only [List.mem_cons, List.not_mem_nil, or_false] at hcm
      rcases hcm with rfl | rfl | rfl | rfl | rfl
      · exact Nat.ne_of_lt lz
      · exact Nat.ne_of_lt (Heap.lt_size hI)
      · exact Nat.ne_of_lt (Heap.lt_size hO)
      · obtain ⟨_, e, _⟩ := h1.fld; exact Nat.ne_of_lt (Heap.lt_size e)
      · obtain ⟨_, e, _⟩ := h2.fld; exact Nat.ne_of_lt (Heap.lt_size e)
    rw [upd_ne hlt]
    exact (hf c hcm).1
  done := by
    rintro X rfl rfl rfl hc i pins s σ H E Iv hf ⟨⟨hz, hI, x0, y0, hO⟩, h1, h2⟩ ⟨xs, ys, qx, qy, l1, l2, hend⟩
    obtain ⟨its, rv, p1, _⟩ := sqB_at Iv qx
    obtain ⟨jts, rw', p2, _⟩ := sqB_at Iv qy
    have hh : X.A.in1.handled = none := Iv.ok.hd hc
    have n1 := rv.length
    have n2 := rw'.length
    refine wpAny_pyNext_zipD2_end Z.sep (drawsB (A := X.A.in1) hh l i1 a Z.a1 its.toArray) (drawsB (A := X.A.in1) hh m i2 b Z.b2 jts.toArray) hz hI hO ⟨h1, p1⟩ ⟨h2, p2⟩ (by simp; omega) (by simp; omega)
      (by simp only [List.size_toArray]; omega) fun h' tk hk => ⟨rfl, Iv.turnedL (t' := tk) (ch := [z, TI, TO, i1, i2]) (fun c o hcn q => ?_) hf⟩
    simp only [List.mem_cons, List.not_mem_nil, or_false, not_or] at hcn
    exact hk c o hcn.1 hcn.2.2.1 hcn.2.2.2.1 hcn.2.2.2.2 q
  self := fun A i s Q E st h => wpAny_pyIter_zip st.1.1 h
def iZipM (K : PySem.W.Frag) (ta : TA) : TI := fun σ H R => ta σ H fun vs H1 => ∃ (l m : Bool) (a b : Addr) (xs ys : List V), vs = [.ref a, .ref b] ∧ SqB K l H1 a xs ∧ SqB K m H1 b ys ∧ R (ItzM K l m a b) H1
theorem beginsB (l : Bool) (a : Addr) (its : Array Value) : ∃ o : Obj, Begins (.ref a) o (fun h => IsB l h a its) ∧ ∀ h i, h.get? i = some o → ItB l h i a 0 := by
  cases l with
  | true => exact ⟨_, begins_list a its, fun h i e => ⟨_, e, rfl, rfl⟩⟩
  | false => exact ⟨_, begins_tuple a its, fun h i e => ⟨_, e, rfl, rfl⟩⟩
theorem pi_zipM {X : Cx} {e e2 : Expr} {ta : TA} {p pos tpos : Pos} {elts : List Expr} {kk : Nat} (hg : Gl X "zip") (hm : X.mg "zip" = none) (ha : PA X [e, e2] ta)
    (hs : starEach [e, e2] X.env = (false, eval e X.env) :: starEach [e2] X.env := by rfl) (hpl : (backTo pos (starEach [e2] X.env)).any (·.1) = false := by rfl) :
    PI X (.Tuple elts kk tpos) (.Call (.Name "zip" p) [e, e2] [] pos) (iZipM X.K ta) := by
  refine ⟨fun pins s σ H R Iv h => ?_⟩
  refine Call_ (ld_blt Iv hg hm PyProof.Rows.boot_zip (PyProof.Rows.callWith_type1 (thn (ha.run pos pins s σ H _ Iv h) fun us s1 q1 => ?_) hs hpl))
  obtain ⟨vs, H1, I1, r1, l, m, a, b, xs, ys, rfl, qx, qy, q⟩ := q1
  cases r1 with
  | cons ra rr =>
    cases rr with
    | cons rb rr =>
      cases rr
      cases ra
      cases rb
      obtain ⟨its, _, p1, la⟩ := sqB_at I1 qx
      obtain ⟨jts, _, p2, lb⟩ := sqB_at I1 qy
      obtain ⟨o1, B1, k1⟩ := beginsB l a its.toArray
      obtain ⟨o2, B2, k2⟩ := beginsB m b jts.toArray
      refine zip_begins2 B1 B2 p1 p2 fun h' hz hI hO g1 g2 hsz hk => wpAny_pyIter_zip hz ?_
      refine ⟨_, _, _, _, H1, rfl, I1.kept (t' := s1.toks) hk, turn_zipM (zs_new la lb), ⟨⟨hz, hI, _, _, hO⟩, k1 _ _ g1, k2 _ _ g2⟩, fun c hcm => ?_, q⟩
      have hle : s1.heap.objs.size ≤ c := by
        simp only [List.mem_cons, List.not_mem_nil, or_false] at hcm
        rcases hcm with rfl | rfl | rfl | rfl | rfl
        · exact Nat.le_add_right _ _
        · exact Nat.le_add_right _ _
        · exact Nat.le_add_right _ _
        · exact Nat.le_refl _
        · exact Nat.le_add_right _ _
      exact I1.fpOk hle (I1.hok.fresh hle)
end Tk

set_option Elab.async false
set_option linter.all false
set_option maxRecDepth 100000
set_option maxHeartbeats 4000000
/-! Rules that name K itself (in a comprehension's block the context's K is no name that the reading could keep). -/
namespace Tk
open PySem PySem.Spec PyProof.Rows L2
structure rTup (K : PySem.W.Frag) (xs : List V) (H : Hp) (Q : VK) : Prop where
  h : ∃ p ys, xs = [.ref p] ∧ ((SqL K H p ys ∧ ∀ l, H l = none → Q (.ref l) (upd H l (.tup ys))) ∨ (SqT K H p ys ∧ Q (.ref p) H))
section
variable {X : Cx} (K : PySem.W.Frag) {e l : Expr} {ta : TE} {f : Str} {pos p tpos : Pos} {tg : Expr} {tl : TE}
theorem pe_fldK (he : PE X e ta) (hb : attributeBase e f X.env (eval e X.env) = eval e X.env) (hK : X.K = K := by rfl) : PE X (.Attribute e f pos) (tFld K ta f) := hK ▸ pe_fld he hb
theorem ix_listK (hK : X.K = K := by rfl) : IxR X (rIxL K) := hK ▸ ix_list
theorem ix_tupK (hK : X.K = K := by rfl) : IxR X (rIxT K) := hK ▸ ix_tup
theorem sl_listK (hK : X.K = K := by rfl) : SlR X (rSlL K) := hK ▸ sl_list
theorem call_lenK (hK : X.K = K := by rfl) : CallR X (.builtin "len") (fun xs H Q => ∃ x n, xs = [x] ∧ LenV K x H n ∧ Q (.int n) H) := hK ▸ call_len
theorem call_list_ofK (hK : X.K = K := by rfl) : CallR X (.type "list") (fun xs H Q => ∃ p ys, xs = [.ref p] ∧ (SqL K H p ys ∨ SqT K H p ys) ∧ ∀ l, H l = none → Q (.ref l) (upd H l (.lst ys))) := hK ▸ call_list_of
theorem call_tuple_ofK (hK : X.K = K := by rfl) : CallR X (.type "tuple") (rTup K) := by
  subst hK
  intro pins s σ H vs us Q I r h
  exact call_tuple_of pins s σ H vs us Q I r h.h
theorem op_catTK (hK : X.K = K := by rfl) : OpR X (binaryOp .Add) (rCatT K) := hK ▸ op_catT
theorem op_neDK (hu : X.A.units + 64 < cLine) (hK : X.K = K := by rfl) : OpR X (compareOp .NotEq) (rNeD K) := hK ▸ op_neD hu
theorem op_eqDK (hu : X.A.units + 64 < cLine) (hK : X.K = K := by rfl) : OpR X (compareOp .Eq) (rEqD K) := hK ▸ op_eqD hu
theorem pg_tupK {es : List Expr} {k : Nat} {t : TGs} {n : Nat} (hc : X.calm = true) (h : PGs X es t) (hK : X.K = K := by rfl)
    (hn : (assignEach es X.env).length = n := by rfl) (hst : (assignEach es X.env).findIdx? (·.1) = none := by rfl) : PG X (.Tuple es k pos) (gTup K n t) := hK ▸ pg_tup hc h hn hst
theorem pi_listK (hl : PE X l tl) (hK : X.K = K := by rfl) : PI X tg l (iList K tl) := hK ▸ pi_list hl
theorem pi_tupK (hl : PE X l tl) (hK : X.K = K := by rfl) : PI X tg l (iTup K tl) := hK ▸ pi_tup hl
theorem pi_ltK (hl : PE X l tl) (hK : X.K = K := by rfl) : PI X tg l (iLT K tl) := hK ▸ pi_lt hl
theorem pi_zipMK {e2 : Expr} {t2 : TA} {elts : List Expr} {kk : Nat} (hg : Gl X "zip") (hm : X.mg "zip" = none) (ha : PA X [e, e2] t2) (hK : X.K = K := by rfl)
    (hs : starEach [e, e2] X.env = (false, eval e X.env) :: starEach [e2] X.env := by rfl) (hpl : (backTo pos (starEach [e2] X.env)).any (·.1) = false := by rfl) :
    PI X (.Tuple elts kk tpos) (.Call (.Name "zip" p) [e, e2] [] pos) (iZipM K t2) := hK ▸ pi_zipM hg hm ha hs hpl
theorem cr_allK (hc : X.calm = true) (hK : X.K = K := by rfl) : CallR X (.builtin "all") (rAll K) := hK ▸ cr_all hc
theorem cr_anyK (hc : X.calm = true) (hK : X.K = K := by rfl) : CallR X (.builtin "any") (rAny K) := hK ▸ cr_any hc
theorem cr_sumK (hc : X.calm = true) (hK : X.K = K := by rfl) : CallR X (.builtin "sum") (rSum K) := hK ▸ cr_sum hc
theorem call_isiK (hK : X.K = K := by rfl) : CallR X (.builtin "isinstance") (rIsi K) := hK ▸ call_isi
end
end Tk

set_option Elab.async false
set_option linter.all false
set_option maxRecDepth 100000
set_option maxHeartbeats 4000000
/-! Two clauses: all elements in one list. -/
namespace Tk
open PySem PySem.Spec PyProof.Rows L2
def flat {β : Type} (ks : Nat → Nat) (f : Nat → Nat → β) (n : Nat) : List β := (List.range n).flatMap fun i => (List.range (ks i)).map (f i)
theorem flat_succ {β : Type} {ks : Nat → Nat} {f : Nat → Nat → β} {n : Nat} : flat ks f (n + 1) = flat ks f n ++ (List.range (ks n)).map (f n) := by
  unfold flat; rw [List.range_succ, List.flatMap_append]; simp
theorem flat_le {β : Type} {ks : Nat → Nat} {f : Nat → Nat → β} {i n : Nat} (h : i ≤ n) : (flat ks f i).length ≤ (flat ks f n).length := by
  induction n with
  | zero => have : i = 0 := by omega
            subst this; exact Nat.le_refl _
  | succ n ih =>
    by_cases e : i = n + 1
    · subst e; exact Nat.le_refl _
    · refine Nat.le_trans (ih (by omega)) ?_
      rw [flat_succ, List.length_append]; omega
theorem flat_lt {β : Type} {ks : Nat → Nat} {f : Nat → Nat → β} {i j n : Nat} (h : i < n) (hj : j < ks i) : (flat ks f i ++ (List.range j).map (f i)).length < (flat ks f n).length := by
  have := flat_le (ks := ks) (f := f) (i := i + 1) (n := n) h
  rw [flat_succ] at this
  simp only [List.length_append, List.length_map, List.length_range] at this ⊢
  omega
abbrev LcR2 (J : It) (g : TG) (tt : TT) (wi1 : TI) (g1 : TG) (tt1 : TT) (te : TE) (vs vs1 : List Nat) (σ : L2.St) (H1 : Hp) (D : Addr) (Qd : Hp → Prop) : Prop :=
  ∃ W : Nat → Nat → Hp → Prop, (∃ m, W 0 m (upd H1 D (.lst []))) ∧ ∀ i m H, W i m H →
  (J.stop i H ∧ Qd H) ∨ (J.go i H ∧ ∃ Nx : Hp → Prop, (∀ H', Nx H' → ∃ m', m' < m ∧ W (i + 1) m' H') ∧ ∀ x H', J.yld i H x H' → g x (wipe σ vs) H' fun σ2 H2 => wipe σ2 vs = wipe σ vs ∧ tt σ2 H2 fun b H3 =>
    if b = true then wi1 σ2 H3 fun J1 H4 => ∃ W1 : Nat → Nat → Hp → Prop, (∃ m, W1 0 m H4) ∧ ∀ j k H, W1 j k H →
      (J1.stop j H ∧ Nx H) ∨ (J1.go j H ∧ ∃ Nx1 : Hp → Prop, (∀ H', Nx1 H' → ∃ k', k' < k ∧ W1 (j + 1) k' H') ∧ ∀ x H', J1.yld j H x H' → g1 x (wipe σ2 vs1) H' fun σ3 H5 => wipe σ3 vs1 = wipe σ2 vs1 ∧ tt1 σ3 H5 fun b H6 =>
        if b = true then te σ3 H6 fun y H7 => ∃ acc, H7 D = some (.lst acc) ∧ acc.length < sizeLine ∧ Nx1 (upd H7 D (.lst (acc ++ [y]))) else Nx1 H6)
    else Nx H3)
theorem lc2_wk {β : Type} {J : It} {n : Nat} {xs : Nat → V} {I H1 : Hp} {g g1 : TG} {tt tt1 : TT} {te : TE} {wi1 : TI} {vs vs1 : List Nat} {σ : L2.St} {D : Addr} {Qd : Hp → Prop} (Sy : Rp β) [Mono Sy] (ks : Nat → Nat) (f : Nat → Nat → β)
    (W : Wk J n xs I) (s0 : Same I H1) (hD : H1 D = none) (hn : (flat ks f n).length ≤ sizeLine)
    (step : ∀ (i : Nat) (I' H' : Hp) (Nx : Hp → Prop) (R2 : L2.St → It → Hp → Prop), i < n → Same I I' → Same I' H' →
      (∀ (σ2 : L2.St) (J1 : It) (xs1 : Nat → V), Wk J1 (ks i) xs1 I' →
        (∀ (j : Nat) (I2 H2 : Hp) (Nx1 : Hp → Prop) (Qk : VK), j < ks i → Same I' I2 → Same I2 H2 → (∀ I'' H'' y, Gr [] I2 H2 I'' H'' → Sy I'' y (f i j) → Qk y H'') →
          g1 (xs1 j) (wipe σ2 vs1) H2 fun σ3 H5 => wipe σ3 vs1 = wipe σ2 vs1 ∧ tt1 σ3 H5 fun b H6 => if b = true then te σ3 H6 Qk else Nx1 H6) → R2 σ2 J1 H') →
      g (xs i) (wipe σ vs) H' fun σ2 H2 => wipe σ2 vs = wipe σ vs ∧ tt σ2 H2 fun b H3 => if b = true then wi1 σ2 H3 (R2 σ2) else Nx H3)
    (hd : ∀ I' H' ys, Gr [] I H1 I' H' → I' D = some (.lst ys) → All2 (Sy I') ys (flat ks f n) → Qd H') :
    LcR2 J g tt wi1 g1 tt1 te vs vs1 σ H1 D Qd := by
  let Mid : List β → Hp → Prop := fun zs H => ∃ I' ys, Gr [] I H1 I' H ∧ I' D = none ∧ H D = some (.lst ys) ∧ All2 (Sy I') ys zs
  refine ⟨fun i m H => m = n - i ∧ i ≤ n ∧ Mid (flat ks f i) H, ⟨n, rfl, Nat.zero_le _, I, [], (Gr.tmp s0 hD), s0.free hD, upd_same, .nil⟩, ?_⟩
  rintro i m H ⟨rfl, hi, I', ys, gr, hI, hH, a2⟩
  have s : Same I H := gr.ii.trans gr.ih
  by_cases hlt : i < n
  · refine .inr ⟨W.go i H s hlt, fun H' => i + 1 ≤ n ∧ Mid (flat ks f (i + 1)) H', fun H' p => ⟨n - (i + 1), by omega, rfl, p.1, p.2⟩, fun x H' y => ?_⟩
    obtain ⟨rfl, rfl⟩ := W.yld i H x H' s hlt y
    refine step i I' H' _ (fun σ2 J1 H4 => ∃ W1 : Nat → Nat → Hp → Prop, (∃ m, W1 0 m H4) ∧ ∀ j k H, W1 j k H → _) hlt gr.ii gr.ih fun σ2 J1 xs1 W1 st => ?_
    refine ⟨fun j k H => k = ks i - j ∧ j ≤ ks i ∧ ∃ I2 ys, Gr [] I H1 I2 H ∧ Same I' I2 ∧ I2 D = none ∧ H D = some (.lst ys) ∧ All2 (Sy I2) ys (flat ks f i ++ (List.range j).map (f i)),
      ⟨ks i, rfl, Nat.zero_le _, I', ys, gr, Same.refl _, hI, hH, by simpa using a2⟩, ?_⟩
    rintro j k H2 ⟨rfl, hj, I2, ys2, gr2, s2, hI2, hH2, a22⟩
    by_cases hjl : j < ks i
    · refine .inr ⟨W1.go j H2 (s2.trans gr2.ih) hjl, fun H => j + 1 ≤ ks i ∧ ∃ I2 ys, Gr [] I H1 I2 H ∧ Same I' I2 ∧ I2 D = none ∧ H D = some (.lst ys) ∧ All2 (Sy I2) ys (flat ks f i ++ (List.range (j + 1)).map (f i)),
        fun H p => ⟨ks i - (j + 1), by omega, rfl, p.1, p.2⟩, fun x H3 y => ?_⟩
      obtain ⟨rfl, rfl⟩ := W1.yld j H2 x H3 (s2.trans gr2.ih) hjl y
      refine st j I2 H3 _ _ hjl s2 gr2.ih fun I3 H4 y g3 sy => ?_
      have hD4 := g3.at hH2 (by simp)
      have hI3 := g3.out hI2 hH2
      have ll := a22.len
      refine ⟨ys2, hD4, Nat.lt_of_lt_of_le (by rw [ll]; exact flat_lt hlt hjl) hn, hjl, I3, ys2 ++ [y], ?_, s2.trans g3.ii, hI3, upd_same, ?_⟩
      · have g4 := gr2.trans g3
        exact ((g4.mono (ns := [D]) fun _ z => nomatch z).trans (Gr.mut g4.ih hI3 List.mem_cons_self)).drop hD
      · rw [List.range_succ, List.map_append, ← List.append_assoc]
        exact (a22.mono fun _ _ => up g3.ii).snoc sy
    · have e : j = ks i := by omega
      subst e
      exact .inl ⟨W1.stop H2 (s2.trans gr2.ih), hlt, I2, ys2, gr2, hI2, hH2, by rw [flat_succ]; exact a22⟩
  · have e : i = n := by omega
    subst e
    exact .inl ⟨W.stop H s, hd (upd I' D (.lst ys)) H ys (gr.mono (ns := [D]) (fun _ z => nomatch z) |>.frz s0 hD hH) upd_same (a2.mono fun _ _ => up (sNew hI))⟩
end Tk
namespace Tk
open PySem PySem.Spec PyProof.Rows L2
section
variable {α β : Type} {K : PySem.W.Frag}
def iA (R : Rp α) : Rp (List α) := fun H v xs => ∃ a vs, v = .ref a ∧ (H a = some (.lst vs) ∨ H a = some (.tup vs)) ∧ All2 (R H) vs xs
instance {R : Rp α} [m : Mono R] : Mono (iA R) := ⟨fun s ⟨a, vs, e, h, t⟩ => ⟨a, vs, e, h.elim (fun h => .inl (s _ _ h)) (fun h => .inr (s _ _ h)), t.mono fun _ _ => m.up s⟩⟩
theorem iA.l {R : Rp α} {H : Hp} {v : V} {xs : List α} (h : iL R H v xs) : iA R H v xs := by
  obtain ⟨a, vs, e, h, t⟩ := h; exact ⟨a, vs, e, .inl h, t⟩
theorem iA.t {R : Rp α} {H : Hp} {v : V} {xs : List α} (h : iT R H v xs) : iA R H v xs := by
  obtain ⟨a, vs, e, h, t⟩ := h; exact ⟨a, vs, e, .inr h, t⟩
theorem All2.imp {R S : V → α → Prop} {vs : List V} {xs : List α} (h : All2 R vs xs) (k : ∀ v x, R v x → S v x) : All2 S vs xs := h.mono k
theorem gv2 {R : V → α → Prop} {vs : List V} {xs : List α} {i : Nat} {x : α} (h : All2 R vs xs) (e : xs[i]? = some x) : R (gv vs i) x := by
  obtain ⟨v, h1, h2⟩ := h.get' e
  rw [gv_of h1]; exact h2
/-- tuple(v) -/
theorem tup_of {R : Rp α} [Mono R] {I H : Hp} {v : V} {xs : List α} {Q : VK} (h : iA R I v xs) (s : Same I H) (k : ∀ I' H' v', Gr [] I H I' H' → iT R I' v' xs → Q v' H') :
    rTup K [v] H Q := by
  obtain ⟨a, vs, rfl, h, t⟩ := h
  refine ⟨⟨a, vs, rfl, h.elim (fun h => .inl ⟨SqL.of (s _ _ h), fun l hl => ?_⟩) (fun h => .inr ⟨SqT.of (s _ _ h), k _ _ _ (Gr.refl s) ⟨a, vs, rfl, h, t⟩⟩)⟩⟩
  have g := Gr.new (ms := []) (o := .tup vs) s hl
  exact k _ _ _ g ⟨l, vs, rfl, upd_same, t.mono fun _ _ => up g.ii⟩
theorem len_of {R : Rp α} {I H : Hp} {v : V} {xs : List α} (h : iA R I v xs) (s : Same I H) : LenV K v H xs.length := by
  obtain ⟨a, vs, rfl, h, t⟩ := h
  rw [← t.len]
  exact h.elim (fun h => .inl ⟨_, SqL.of (s _ _ h), rfl⟩) fun h => .inr ⟨_, SqT.of (s _ _ h), rfl⟩
/-- a new list of what stands for the same things -/
theorem lc_id {J : It} {R Sy : Rp α} [Mono R] [Mono Sy] {vs : List V} {xs : List α} {I H1 : Hp} {g : TG} {tt : TT} {te : TE} {vz : List Nat} {σ : L2.St} {D : Addr} {Qd : Hp → Prop}
    (W : Wk J vs.length (gv vs) I) (a2 : All2 (R I) vs xs) (s0 : Same I H1) (hD : H1 D = none) (hn : xs.length < sizeLine)
    (step : ∀ (i : Nat) (x : α) (I' H' : Hp) (Nx : Hp → Prop) (Qk : VK), xs[i]? = some x → R I' (gv vs i) x → Same I' H' → (∀ I'' H'' y, Gr [] I' H' I'' H'' → Sy I'' y x → Qk y H'') →
      g (gv vs i) (wipe σ vz) H' fun σ2 H2 => wipe σ2 vz = wipe σ vz ∧ tt σ2 H2 fun b H3 => if b = true then te σ2 H3 Qk else Nx H3)
    (hd : ∀ I' H', Gr [] I H1 I' H' → iL Sy I' (.ref D) xs → Qd H') : LcR J g tt te vz σ H1 D Qd := by
  have hl := a2.len
  refine lc_wk [] Sy (fun i z => xs[i]? = some z) (fun _ _ => True) W s0 hD (by simp) (by rw [hl]; exact hn) stb_true trivial (fun i I' H' Nx Qk hi s1 s2 _ kk => ?_) (fun I' H' ys zs g1 hD' b2 hz rl _ => ?_)
  · obtain ⟨x, hx⟩ : ∃ x, xs[i]? = some x := ⟨xs[i]'(by omega), List.getElem?_eq_getElem (by omega)⟩
    exact step i x I' H' Nx Qk hx (up s1 (gv2 a2 hx)) s2 fun I'' H'' y g2 sy => kk _ _ _ _ g2 trivial sy hx
  · have e : zs = xs := by
      refine List.ext_getElem? fun i => ?_
      by_cases hi : i < zs.length
      · rw [rl i _ (List.getElem?_eq_getElem hi), List.getElem?_eq_getElem hi]
      · rw [List.getElem?_eq_none (by omega), List.getElem?_eq_none (by omega)]
    subst e
    exact hd I' H' g1 ⟨D, ys, rfl, hD', b2⟩
theorem map_of {xs : List α} {zs : List β} {f : α → β} (h : zs.length = xs.length) (r : ∀ (i : Nat) (z : β), zs[i]? = some z → ∃ x, xs[i]? = some x ∧ z = f x) : zs = xs.map f := by
  refine List.ext_getElem? fun i => ?_
  by_cases hi : i < zs.length
  · obtain ⟨x, h1, h2⟩ := r i _ (List.getElem?_eq_getElem hi)
    rw [List.getElem?_map, h1, List.getElem?_eq_getElem hi, h2]; rfl
  · rw [List.getElem?_eq_none (by omega), List.getElem?_eq_none (by simp; omega)]
end
end Tk
namespace Tk
open PySem PySem.Spec PyProof.Rows L2
section
variable {α : Type} {K : PySem.W.Frag}
theorem bls_of {H : Hp} : ∀ {vs : List V} {bs : List Bool}, All2 (iB H) vs bs → vs = bs.map V.bl
  | _, _, .nil => rfl
  | _, _, .cons a t => by rw [a, bls_of t]; rfl
theorem all_any {bs : List Bool} {xs : List α} {p : α → Prop} [DecidablePred p] (h : bs.length = xs.length) (r : ∀ (i : Nat) (b : Bool), bs[i]? = some b → ∃ x, xs[i]? = some x ∧ b = decide (p x)) :
    bs.all id = decide (∀ x ∈ xs, p x) ∧ bs.any id = decide (∃ x ∈ xs, p x) := by
  have e : bs = xs.map fun x => decide (p x) := map_of h r
  subst e
  constructor
  · rw [Bool.eq_iff_iff, List.all_eq_true, decide_eq_true_iff]
    simp
  · rw [Bool.eq_iff_iff, List.any_eq_true, decide_eq_true_iff]
    simp
theorem lc_bool {J : It} {R : Rp α} [Mono R] {p : α → Prop} [DecidablePred p] {vs : List V} {xs : List α} {I H1 : Hp} {g : TG} {tt : TT} {te : TE} {vz : List Nat} {σ : L2.St} {D : Addr} {Qd : Hp → Prop}
    (W : Wk J vs.length (gv vs) I) (a2 : All2 (R I) vs xs) (s0 : Same I H1) (hD : H1 D = none) (hn : xs.length < sizeLine)
    (step : ∀ (i : Nat) (x : α) (I' H' : Hp) (Nx : Hp → Prop) (Qk : VK), xs[i]? = some x → R I' (gv vs i) x → Same I I' → Same I' H' → (∀ I'' H'', Gr [] I' H' I'' H'' → Qk (.bl (decide (p x))) H'') →
      g (gv vs i) (wipe σ vz) H' fun σ2 H2 => wipe σ2 vz = wipe σ vz ∧ tt σ2 H2 fun b H3 => if b = true then te σ2 H3 Qk else Nx H3)
    (hd : ∀ I' H' (bs : List Bool), Gr [] I H1 I' H' → SqL K H' D (bs.map V.bl) → bs.all id = decide (∀ x ∈ xs, p x) → bs.any id = decide (∃ x ∈ xs, p x) → Qd H') : LcR J g tt te vz σ H1 D Qd := by
  have hl := a2.len
  refine lc_wk [] iB (fun i b => ∃ x, xs[i]? = some x ∧ b = decide (p x)) (fun _ _ => True) W s0 hD (by simp) (by rw [hl]; exact hn) stb_true trivial (fun i I' H' Nx Qk hi s1 s2 _ kk => ?_) (fun I' H' ys zs g1 hD' b2 hz rl _ => ?_)
  · obtain ⟨x, hx⟩ : ∃ x, xs[i]? = some x := ⟨xs[i]'(by omega), List.getElem?_eq_getElem (by omega)⟩
    exact step i x I' H' Nx Qk hx (up s1 (gv2 a2 hx)) s1 s2 fun I'' H'' g2 => kk _ _ _ _ g2 trivial rfl ⟨x, hx, rfl⟩
  · have e := all_any (p := p) (by rw [hz, hl]) rl
    exact hd I' H' zs g1 (SqL.of (g1.ih _ _ (by rw [← bls_of b2]; exact hD'))) e.1 e.2
end
end Tk
namespace Tk
open PySem PySem.Spec PyProof.Rows L2
theorem All2.up {α : Type} {R : Rp α} [Mono R] {I I' : Hp} {vs : List V} {xs : List α} (h : All2 (R I) vs xs) (s : Same I I') : All2 (R I') vs xs := h.mono fun _ _ => Tk.up s
end Tk
namespace Tk
open PySem PySem.Spec PyProof.Rows L2
section
variable {β : Type} {K : PySem.W.Frag}
theorem range_of {n : Nat} {f : Nat → β} {zs : List β} (hl : zs.length = n) (r : ∀ (i : Nat) (z : β), zs[i]? = some z → z = f i) : zs = (List.range n).map f := by
  refine map_of (by rw [hl, List.length_range]) fun i z h => ⟨i, ?_, r i z h⟩
  have : i < zs.length := (List.getElem?_eq_some_iff.mp h).1
  rw [List.getElem?_range (by omega)]
/-- over a zip: new pairs -/
theorem lc_zip {l m : Bool} {a b : Addr} {vs us : List V} {n : Nat} {I H1 : Hp} {g : TG} {tt : TT} {te : TE} {vz : List Nat} {σ : L2.St} {D : Addr} {Qd : Hp → Prop} (Sy : Rp β) [Mono Sy] (f : Nat → β)
    (qa : ∀ H, Same I H → SqB K l H a vs) (qb : ∀ H, Same I H → SqB K m H b us) (la : vs.length = n) (lb : us.length = n) (s0 : Same I H1) (hD : H1 D = none) (hn : n < sizeLine)
    (step : ∀ (i : Nat) (t : Addr) (I' H' : Hp) (Nx : Hp → Prop) (Qk : VK), i < n → Same I I' → Same I' H' → H' t = some (.tup [gv vs i, gv us i]) → (∀ I'' H'' y, Gr [] I' H' I'' H'' → Sy I'' y (f i) → Qk y H'') →
      g (.ref t) (wipe σ vz) H' fun σ2 H2 => wipe σ2 vz = wipe σ vz ∧ tt σ2 H2 fun b H3 => if b = true then te σ2 H3 Qk else Nx H3)
    (hd : ∀ I' H', Gr [] I H1 I' H' → iL Sy I' (.ref D) ((List.range n).map f) → Qd H') : LcR (ItzM K l m a b) g tt te vz σ H1 D Qd := by
  refine ⟨fun i k H => k = n - i ∧ i ≤ n ∧ ∃ I' ys zs, Gr [] I H1 I' H ∧ I' D = none ∧ H D = some (.lst ys) ∧ All2 (Sy I') ys zs ∧ zs.length = i ∧ ∀ i z, zs[i]? = some z → z = f i,
    ⟨n, rfl, Nat.zero_le _, I, [], [], (Gr.tmp s0 hD), s0.free hD, upd_same, .nil, rfl, fun i z h => by simp at h⟩, ?_⟩
  rintro i k H ⟨rfl, hi, I', ys, zs, gr, hI, hH, a2, hl, rl⟩
  have s : Same I H := gr.ii.trans gr.ih
  by_cases hlt : i < n
  · refine .inr ⟨⟨vs, us, _, _, ⟨qa H s, gv_at (by omega)⟩, qb H s, gv_at (by omega)⟩, fun H' => i + 1 ≤ n ∧ ∃ I' ys zs, Gr [] I H1 I' H' ∧ I' D = none ∧ H' D = some (.lst ys) ∧ All2 (Sy I') ys zs ∧ zs.length = i + 1 ∧ ∀ i z, zs[i]? = some z → z = f i,
      fun H' p => ⟨n - (i + 1), by omega, rfl, p.1, p.2⟩, fun x H' y => ?_⟩
    obtain ⟨t, u, v, rfl, ht, rfl, y1, y2⟩ := y
    have e1 := gv_of (y1 vs (qa H s))
    have e2 := gv_of (y2 us (qb H s))
    subst e1 e2
    have g1 : Gr [] I' H I' (upd H t (.tup [gv vs i, gv us i])) := Gr.tmp gr.ih ht
    refine step i t I' _ _ _ hlt gr.ii g1.ih upd_same fun I'' H'' y g2 sy => ?_
    have g3 := g1.trans g2
    have hD2 : H'' D = some (.lst ys) := g3.at hH (by simp)
    have hI2 : I'' D = none := g3.out hI hH
    refine ⟨ys, hD2, by rw [a2.len, hl]; omega, hlt, I'', ys ++ [y], zs ++ [f i], ?_, hI2, upd_same, (a2.mono fun _ _ => up g2.ii).snoc sy, by rw [List.length_append, hl]; rfl, fun j w hw => ?_⟩
    · have g4 := gr.trans g3
      exact ((g4.mono (ns := [D]) fun _ z => nomatch z).trans (Gr.mut g4.ih hI2 List.mem_cons_self)).drop hD
    · by_cases hj : j < zs.length
      · rw [List.getElem?_append_left hj] at hw; exact rl j w hw
      · rw [List.getElem?_append_right (by omega)] at hw
        have h0 : j - zs.length = 0 := by
          rcases Nat.eq_zero_or_pos (j - zs.length) with h | h
          · exact h
          · rw [List.getElem?_eq_none (by simp; omega)] at hw; cases hw
        rw [h0] at hw
        simp at hw
        have : j = i := by omega
        rw [this]; exact hw.symm
  · have e : i = n := by omega
    subst e
    refine .inl ⟨⟨vs, us, qa H s, qb H s, by omega, by omega, .inl la.symm⟩, hd (upd I' D (.lst ys)) H (gr.mono (ns := [D]) (fun _ z => nomatch z) |>.frz s0 hD hH) ⟨D, ys, rfl, upd_same, ?_⟩⟩
    rw [← range_of hl rl]
    exact a2.mono fun _ _ => up (sNew hI)
/-- over numbers: what is told of each -/
theorem lc_range1 {lo : Int} {n : Nat} {I H1 : Hp} {g : TG} {tt : TT} {te : TE} {vz : List Nat} {σ : L2.St} {D : Addr} {Qd : Hp → Prop} (Sy : Rp β) [Mono Sy] (f : Nat → β) (s0 : Same I H1) (hD : H1 D = none) (hn : n < sizeLine)
    (step : ∀ (i : Nat) (I' H' : Hp) (Nx : Hp → Prop) (Qk : VK), i < n → Same I I' → Same I' H' → (∀ I'' H'' y, Gr [] I' H' I'' H'' → Sy I'' y (f i) → Qk y H'') →
      g (.int (lo + i)) (wipe σ vz) H' fun σ2 H2 => wipe σ2 vz = wipe σ vz ∧ tt σ2 H2 fun b H3 => if b = true then te σ2 H3 Qk else Nx H3)
    (hd : ∀ I' H', Gr [] I H1 I' H' → iL Sy I' (.ref D) ((List.range n).map f) → Qd H') : LcR (Itr lo n) g tt te vz σ H1 D Qd := by
  refine lc_wk [] Sy (fun i z => z = f i) (fun _ _ => True) (wk_range (I := I)) s0 hD (by simp) hn stb_true trivial (fun i I' H' Nx Qk hi s1 s2 _ kk => ?_) (fun I' H' ys zs g1 hD' b2 hz rl _ => ?_)
  · exact step i I' H' Nx Qk hi s1 s2 fun I'' H'' y g2 sy => kk _ _ _ _ g2 trivial sy rfl
  · exact hd I' H' g1 ⟨D, ys, rfl, hD', by rw [← range_of hz rl]; exact b2⟩
end
end Tk

set_option Elab.async false
set_option linter.all false
set_option maxRecDepth 100000
set_option maxHeartbeats 4000000
namespace Tk
open PySem PySem.Spec PyProof.Rows L2
section
variable {α β : Type} {K : PySem.W.Frag}
/-- a new list of what is made of each -/
theorem lc_map {J : It} {R : Rp α} {Sy : Rp β} [Mono R] [Mono Sy] (f : α → β) {vs : List V} {xs : List α} {I H1 : Hp} {g : TG} {tt : TT} {te : TE} {vz : List Nat} {σ : L2.St} {D : Addr} {Qd : Hp → Prop}
    (W : Wk J vs.length (gv vs) I) (a2 : All2 (R I) vs xs) (s0 : Same I H1) (hD : H1 D = none) (hn : xs.length < sizeLine)
    (step : ∀ (i : Nat) (x : α) (I' H' : Hp) (Nx : Hp → Prop) (Qk : VK), xs[i]? = some x → R I' (gv vs i) x → Same I I' → Same I' H' → (∀ I'' H'' y, Gr [] I' H' I'' H'' → Sy I'' y (f x) → Qk y H'') →
      g (gv vs i) (wipe σ vz) H' fun σ2 H2 => wipe σ2 vz = wipe σ vz ∧ tt σ2 H2 fun b H3 => if b = true then te σ2 H3 Qk else Nx H3)
    (hd : ∀ I' H', Gr [] I H1 I' H' → iL Sy I' (.ref D) (xs.map f) → Qd H') : LcR J g tt te vz σ H1 D Qd := by
  have hl := a2.len
  refine lc_wk [] Sy (fun i z => ∃ x, xs[i]? = some x ∧ z = f x) (fun _ _ => True) W s0 hD (by simp) (by rw [hl]; exact hn) stb_true trivial (fun i I' H' Nx Qk hi s1 s2 _ kk => ?_) (fun I' H' ys zs g1 hD' b2 hz rl _ => ?_)
  · obtain ⟨x, hx⟩ : ∃ x, xs[i]? = some x := ⟨xs[i]'(by omega), List.getElem?_eq_getElem (by omega)⟩
    exact step i x I' H' Nx Qk hx (up s1 (gv2 a2 hx)) s1 s2 fun I'' H'' y g2 sy => kk _ _ _ _ g2 trivial sy ⟨x, hx, rfl⟩
  · have e : zs = xs.map f := map_of (by rw [hz, hl]) rl
    subst e
    exact hd I' H' g1 ⟨D, ys, rfl, hD', b2⟩
theorem All2.cut {R : V → α → Prop} : ∀ {vs : List V} {xs : List α} (a n : Nat), All2 R vs xs → All2 R ((vs.drop a).take n) ((xs.drop a).take n)
  | _, _, a, n, .nil => by simp; exact .nil
  | v :: vs, x :: xs, 0, 0, .cons h t => by simp; exact .nil
  | v :: vs, x :: xs, 0, n + 1, .cons h t => by
    have := All2.cut 0 n t
    simp only [List.drop_zero] at this ⊢
    exact .cons h this
  | v :: vs, x :: xs, a + 1, n, .cons h t => by
    have := All2.cut a n t
    simpa using this
theorem cutV_nat {xs : List V} {a n : Nat} (h : a + n ≤ xs.length) : cutV xs (some (a : Int)) (some ((a : Int) + n)) = (xs.drop a).take n := by
  unfold cutV
  rw [show ((a : Int) + n) = ((a + n : Nat) : Int) from by omega, HT.sIx_nat, HT.sIx_nat]
  congr 1
  · omega
  · congr 1; omega
theorem slice_of {R : Rp α} [Mono R] {I H : Hp} {v : V} {xs : List α} {a n : Nat} {Q : VK} (h : iL R I v xs) (s : Same I H) (hn : a + n ≤ xs.length) (k : ∀ I' H' v', Gr [] I H I' H' → iL R I' v' ((xs.drop a).take n) → Q v' H') :
    rSlL K v (some (a : Int)) (some ((a : Int) + n)) H Q := by
  obtain ⟨p, vs, rfl, hp, a2⟩ := h
  refine ⟨p, vs, rfl, SqL.of (s _ _ hp), fun l hl => ?_⟩
  rw [cutV_nat (by rw [a2.len]; exact hn)]
  have g := Gr.new (ms := []) (o := .lst ((vs.drop a).take n)) s hl
  exact k _ _ _ g ⟨l, _, rfl, upd_same, (a2.cut a n).up g.ii⟩
end
end Tk
namespace Tk
open PySem PySem.Spec PyProof.Rows L2
theorem Gr.none {ms : List Addr} {I H I' H' : Hp} {a : Addr} (g : Gr ms I H I' H') (h : H' a = Option.none) : H a = Option.none := by
  cases e : H a with
  | none => rfl
  | some o => obtain ⟨o', e'⟩ := g.th a o e; rw [h] at e'; cases e'
end Tk
namespace Tk
open PySem PySem.Spec PyProof.Rows L2
section
variable {α β : Type} {K : PySem.W.Frag}
/-- over numbers, with tests; the list stays open -/
theorem lc_flt {lo : Int} {n : Nat} {I H1 : Hp} {g : TG} {tt : TT} {te : TE} {vz : List Nat} {σ : L2.St} {D : Addr} {Qd : Hp → Prop} (Sy : Rp β) [Mono Sy] (p : Nat → Bool) (f : Nat → β) (s0 : Same I H1) (hD : H1 D = none) (hn : n < sizeLine)
    (step : ∀ (i : Nat) (I' H' : Hp) (Nx : Hp → Prop) (Qk : VK), i < n → Same I I' → Same I' H' → (p i = true → ∀ I'' H'' y, Gr [] I' H' I'' H'' → Sy I'' y (f i) → Qk y H'') → (p i = false → Nx H') →
      g (.int (lo + i)) (wipe σ vz) H' fun σ2 H2 => wipe σ2 vz = wipe σ vz ∧ tt σ2 H2 fun b H3 => if b = true then te σ2 H3 Qk else Nx H3)
    (hd : ∀ I' H' ys, Gr [] I H1 I' H' → I' D = none → H' D = some (.lst ys) → All2 (Sy I') ys (((List.range n).filter p).map f) → Qd H') : LcR (Itr lo n) g tt te vz σ H1 D Qd := by
  let Mid : Nat → Hp → Prop := fun i H => ∃ I' ys, Gr [] I H1 I' H ∧ I' D = none ∧ H D = some (.lst ys) ∧ All2 (Sy I') ys (((List.range i).filter p).map f)
  refine ⟨fun i m H => m = n - i ∧ i ≤ n ∧ Mid i H, ⟨n, rfl, Nat.zero_le _, I, [], (Gr.tmp s0 hD), s0.free hD, upd_same, .nil⟩, ?_⟩
  rintro i m H ⟨rfl, hi, I', ys, gr, hI, hH, a2⟩
  by_cases hlt : i < n
  · refine .inr ⟨hlt, fun H' => i + 1 ≤ n ∧ Mid (i + 1) H', fun H' z => ⟨n - (i + 1), by omega, rfl, z.1, z.2⟩, fun x H' y => ?_⟩
    obtain ⟨rfl, rfl⟩ := y
    refine step i I' _ _ _ hlt gr.ii gr.ih (fun hp I'' H'' y g2 sy => ?_) (fun hp => ⟨hlt, I', ys, gr, hI, hH, ?_⟩)
    · have hD2 := g2.at hH (by simp)
      have hI2 := g2.out hI hH
      have ll : ys.length ≤ i := by
        rw [a2.len, List.length_map]
        exact Nat.le_trans (List.length_filter_le _ _) (by simp)
      refine ⟨ys, hD2, by omega, hlt, I'', ys ++ [y], ?_, hI2, upd_same, ?_⟩
      · have g3 := gr.trans g2
        exact ((g3.mono (ns := [D]) fun _ z => nomatch z).trans (Gr.mut g3.ih hI2 List.mem_cons_self)).drop hD
      · rw [List.range_succ, List.filter_append, List.filter_cons_of_pos hp, List.filter_nil, List.map_append]
        exact (a2.up g2.ii).snoc sy
    · rw [List.range_succ, List.filter_append, List.filter_cons_of_neg (by rw [hp]; exact Bool.false_ne_true), List.filter_nil, List.append_nil]
      exact a2
  · have e : i = n := by omega
    subst e
    exact .inl ⟨Nat.le_refl _, hd I' H ys gr hI hH a2⟩
theorem All2.unsnoc {R : V → α → Prop} : ∀ {xs : List α} {vs : List V} {x : α}, All2 R vs (xs ++ [x]) → ∃ us u, vs = us ++ [u] ∧ All2 R us xs ∧ R u x
  | [], _, x, .cons h .nil => ⟨[], _, rfl, .nil, h⟩
  | y :: r, _, x, .cons h t => by
    obtain ⟨us, u, rfl, t2, hu⟩ := All2.unsnoc t
    exact ⟨_ :: us, u, rfl, .cons h t2, hu⟩
end
end Tk
namespace Tk
open PySem PySem.Spec PyProof.Rows L2
theorem op_catAK {X : Cx} (K : PySem.W.Frag) (hK : X.K = K := by rfl) : OpR X (binaryOp .Add) (rCatA K) := hK ▸ op_catA
end Tk

set_option Elab.async false
set_option linter.all false
set_option maxRecDepth 100000
set_option maxHeartbeats 4000000
namespace Tk
open PySem PySem.Spec PyProof.Rows L2
section
variable {α : Type} {K : PySem.W.Frag}
/-- those of a list that a test keeps -/
theorem lc_keep {J : It} {R Sy : Rp α} [Mono R] [Mono Sy] (p : α → Bool) {vs : List V} {xs : List α} {I H1 : Hp} {g : TG} {tt : TT} {te : TE} {vz : List Nat} {σ : L2.St} {D : Addr} {Qd : Hp → Prop}
    (W : Wk J vs.length (gv vs) I) (a2 : All2 (R I) vs xs) (s0 : Same I H1) (hD : H1 D = none) (hn : xs.length < sizeLine)
    (step : ∀ (i : Nat) (x : α) (I' H' : Hp) (Nx : Hp → Prop) (Qk : VK), xs[i]? = some x → R I' (gv vs i) x → Same I I' → Same I' H' → (p x = true → ∀ I'' H'' y, Gr [] I' H' I'' H'' → Sy I'' y x → Qk y H'') → (p x = false → Nx H') →
      g (gv vs i) (wipe σ vz) H' fun σ2 H2 => wipe σ2 vz = wipe σ vz ∧ tt σ2 H2 fun b H3 => if b = true then te σ2 H3 Qk else Nx H3)
    (hd : ∀ I' H' ys, Gr [] I H1 I' H' → H' D = some (.lst ys) → All2 (Sy I') ys (xs.filter p) → Qd H') : LcR J g tt te vz σ H1 D Qd := by
  have hl := a2.len
  let Mid : Nat → Hp → Prop := fun i H => ∃ I' ys, Gr [] I H1 I' H ∧ I' D = none ∧ H D = some (.lst ys) ∧ All2 (Sy I') ys ((xs.take i).filter p)
  refine ⟨fun i m H => m = vs.length - i ∧ i ≤ vs.length ∧ Mid i H, ⟨vs.length, rfl, Nat.zero_le _, I, [], (Gr.tmp s0 hD), s0.free hD, upd_same, .nil⟩, ?_⟩
  rintro i m H ⟨rfl, hi, I', ys, gr, hI, hH, b2⟩
  have s : Same I H := gr.ii.trans gr.ih
  by_cases hlt : i < vs.length
  · have hx : xs[i]? = some (xs[i]'(by omega)) := List.getElem?_eq_getElem (by omega)
    generalize xs[i]'(by omega) = x at hx
    have et : xs.take (i + 1) = xs.take i ++ [x] := by rw [List.take_succ, hx]; rfl
    refine .inr ⟨W.go i H s hlt, fun H' => i + 1 ≤ vs.length ∧ Mid (i + 1) H', fun H' z => ⟨vs.length - (i + 1), by omega, rfl, z.1, z.2⟩, fun y H' hy => ?_⟩
    obtain ⟨rfl, rfl⟩ := W.yld i H y H' s hlt hy
    refine step i x I' _ _ _ hx (up gr.ii (gv2 a2 hx)) gr.ii gr.ih (fun hp I'' H'' y g2 sy => ?_) (fun hp => ⟨hlt, I', ys, gr, hI, hH, ?_⟩)
    · have hD2 := g2.at hH (by simp)
      have hI2 := g2.out hI hH
      have ll : ys.length ≤ i := by
        rw [b2.len]
        refine Nat.le_trans (List.length_filter_le _ _) ?_
        rw [List.length_take]; omega
      refine ⟨ys, hD2, by omega, hlt, I'', ys ++ [y], ?_, hI2, upd_same, ?_⟩
      · have g3 := gr.trans g2
        exact ((g3.mono (ns := [D]) fun _ z => nomatch z).trans (Gr.mut g3.ih hI2 List.mem_cons_self)).drop hD
      · rw [et, List.filter_append, List.filter_cons_of_pos hp, List.filter_nil]
        exact (b2.up g2.ii).snoc sy
    · rw [et, List.filter_append, List.filter_cons_of_neg (by rw [hp]; exact Bool.false_ne_true), List.filter_nil, List.append_nil]
      exact b2
  · have e : i = vs.length := by omega
    subst e
    refine .inl ⟨W.stop H s, hd I' H ys gr hH ?_⟩
    rw [List.take_of_length_le (by omega)] at b2
    exact b2
end
end Tk

set_option Elab.async false
set_option linter.all false
set_option maxRecDepth 100000
set_option maxHeartbeats 4000000
/-! More rules that name K; membership; two rules for one thing. -/
namespace Tk
open PySem PySem.Spec PyProof.Rows L2
section
variable {X : Cx} (K : PySem.W.Frag) {e : Expr} {es : List Expr} {te : TE} {t : TA} {p : Pos}
theorem call_isiTK (hK : X.K = K := by rfl) : CallR X (.builtin "isinstance") (rIsiT K) := hK ▸ call_isiT
theorem op_in_seqK (hK : X.K = K := by rfl) : OpR X (compareOp .In) (rIn K false) := hK ▸ op_in_seq
theorem op_notIn_seqK (hK : X.K = K := by rfl) : OpR X (compareOp .NotIn) (rIn K true) := hK ▸ op_notIn_seq
theorem pa_starK (he : PE X e te) (hr : PA X es t) (hK : X.K = K := by rfl) (hs : starEach (.Starred e p :: es) X.env = (true, eval e X.env) :: starEach es X.env := by rfl) : PA X (.Starred e p :: es) (StX.tStar K te t) := hK ▸ StX.pa_star he hr hs
end
theorem call_or {X : Cx} {f : Value} {r1 r2 : List V → Hp → VK → Prop} (h1 : CallR X f r1) (h2 : CallR X f r2) : CallR X f (fun xs H Q => r1 xs H Q ∨ r2 xs H Q) := by
  intro pins s σ H xs us Q I r h
  rcases h with h | h
  · exact h1 pins s σ H xs us Q I r h
  · exact h2 pins s σ H xs us Q I r h
theorem call_strAny {X : Cx} : CallR X (.type "str") (fun xs H Q => (∃ i, xs = [.int i] ∧ i.natAbs.log2 < 1920 ∧ Q (.str (toString i)) H) ∨ ∃ a, xs = [.str a] ∧ Q (.str a) H) := call_or call_str_int SkE.call_str_str
theorem pe_or {X : Cx} {e : Expr} {t1 t2 : TE} (h1 : PE X e t1) (h2 : PE X e t2) : PE X e (fun σ H Q => t1 σ H Q ∨ t2 σ H Q) :=
  ⟨fun pins s σ H Q I h => h.elim (h1.run pins s σ H Q I) (h2.run pins s σ H Q I)⟩
/-- in a list of texts -/
theorem inV_strs (x : Str) : ∀ l : List Str, inV (.str x) (l.map V.str) = decide (x ∈ l)
  | [] => rfl
  | y :: r => by
    have ih := inV_strs x r
    unfold inV at ih ⊢
    rw [List.map_cons, List.any_cons, ih]
    by_cases h : x = y
    · subst h
      rw [show eqV (V.str x) (V.str x) = true from by simp [eqV]]
      simp
    · have e : eqV (V.str y) (V.str x) = false := by
        have : ¬ (y = x) := fun z => h z.symm
        simp [eqV, this]
      rw [e, Bool.false_or]
      simp [h]
theorem flat_strs (l : List Str) : (l.map V.str).all flatV = true := by
  rw [List.all_map, List.all_eq_true]; intro x _; rfl
end Tk

set_option Elab.async false
set_option linter.all false
set_option maxRecDepth 100000
set_option maxHeartbeats 4000000
/-! Tuples of texts that the top leaves. -/
namespace Tk
open PySem PySem.Spec PyProof.Rows L2
def strsB : List Value → List Str → Bool
  | [], [] => true
  | .str x _ :: r, y :: s => decide (x = y) && strsB r s
  | _, _ => false
theorem strsB_ok : ∀ {us : List Value} {ys : List Str}, strsB us ys = true → Vals (ys.map V.str) us := by
  intro us
  induction us with
  | nil =>
    intro ys h
    cases ys with
    | nil => exact .nil
    | cons y s => cases h
  | cons u r ih =>
    intro ys h
    cases ys with
    | nil => cases u <;> cases h
    | cons y s =>
      cases u with
      | str x t =>
        obtain ⟨h1, h2⟩ := He.ba (show (decide (x = y) && strsB r s) = true from h)
        have e := of_decide_eq_true h1
        subst e
        exact .cons ⟨t, rfl⟩ (ih h2)
      | _ => cases h
def tupO (o : Obj) (l : List Str) : Bool := match o.data with
  | .seq its n => decide (o.cls = .type "tuple") && (decide (its.size ≤ sizeLine) && strsB its.toList l)
  | _ => false
def tupB (K : PySem.W.Frag) (x : Str) (l : List Str) : Bool := match K.lookup (He.ga K x) with
  | some o => tupO o l
  | none => false
theorem tupO_ok {o : Obj} {l : List Str} (h : tupO o l = true) : ∃ its n, o.cls = .type "tuple" ∧ o.data = .seq its n ∧ its.size ≤ sizeLine ∧ Vals (l.map V.str) its.toList := by
  unfold tupO at h
  split at h
  · rename_i its n q
    obtain ⟨h1, h⟩ := He.ba h
    obtain ⟨h2, h3⟩ := He.ba h
    exact ⟨its, n, of_decide_eq_true h1, q, of_decide_eq_true h2, strsB_ok h3⟩
  · cases h
theorem tupB_ok {K : PySem.W.Frag} {x : Str} {l : List Str} (h : tupB K x l = true) (H : Hp) : SqT K H (He.ga K x) (l.map V.str) := by
  unfold tupB at h
  cases e : K.lookup (He.ga K x) with
  | none => rw [e] at h; cases h
  | some o =>
    rw [e] at h
    obtain ⟨its, n, h1, h2, h3, h4⟩ := tupO_ok h
    exact .inr ⟨o, its, n, e, h1, h2, h3, h4⟩
end Tk

set_option Elab.async false
set_option linter.all false
set_option maxRecDepth 100000
set_option maxHeartbeats 4000000
namespace Tk
open PySem PySem.Spec PyProof.Rows L2
theorem pmk_oexH {X : Cx} {k : Nat} {f C : Addr} {fld : Str} {ps : List Str} {sp : Sp} {dvs : List V} {x : Str} {e : Expr} {es : List Expr} {ta : TA} {p pos : Pos} (T : OexF X.K C f fld) (h : HasX X k f ps dvs sp) (hr : Room (k + 1) X.A) (hg : Gl X x) (hm : X.mg x = some (.ref C)) (ha : PA X (e :: es) ta)
    (hdb : (x == ("__debug__" : Str)) = false := by decide) (he : starEach (e :: es) X.env = (false, eval e X.env) :: starEach es X.env := by rfl) (hpl : (backTo pos (starEach es X.env)).any (·.1) = false := by rfl) :
    PMk X (.Call (.Name x p) (e :: es) [] pos) (tMkO C sp dvs ta) := by
  obtain ⟨_, fd, ds, hd, hb, F⟩ := h
  exact pmk_oex T.T T.iC T.tI F hr hb hd passL hg hm ha hdb he hpl
theorem pe_methH0 {X : Cx} {k : Nat} {f C : Addr} {ps : List Str} {sp : Sp} {dvs : List V} {E : XK} {m : Str} {pos apos : Pos} {o : Expr} {ta : TE} {pl : Sem Bool} (he : PE X o ta) (c : Cls X.K C) (hm : Meth X.K C m f) (h : HasX X k f ps dvs sp) (hr : Room k X.A) (hx : Passes (L2.CX X.prog X.w) X E)
    (ht : eval (.Call (.Attribute o m apos) [] [] pos) X.env = (do
      let ov ← eval o X.env
      standAt apos.atName
      let (f, first) ← holding [ov] (getMethod ov m pl)
      callWith pos f first (backTo pos (starEach [] X.env)) (backToKw pos (keywordEach [] X.env))) := by rfl) :
    PE X (.Call (.Attribute o m apos) [] [] pos) (tMeth C m sp dvs E ta tNil) := by
  obtain ⟨_, fd, ds, hd, hb, F⟩ := h
  exact pe_meth0 (pl := pl) he c hm F hr hb hd hx ht

theorem pe_callSH {X : Cx} {k : Nat} {f : Addr} {ps : List Str} {sp : Sp} {E : L2.St → XK} {x : Str} {p pos : Pos} {e : Expr} {es : List Expr} {t : TA} (h : HasX X k f ps [] sp) (hr : Room k X.A) (hg : Gl X x) (hm : X.mg x = some (.ref f)) (hx : ∀ σ, PassesAt (L2.CX X.prog X.w) X σ (E σ)) (ha : PA X (e :: es) t)
    (hdb : (x == ("__debug__" : Str)) = false := by decide) (he : starEach (e :: es) X.env = (false, eval e X.env) :: starEach es X.env := by rfl) (hpl : (backTo pos (starEach es X.env)).any (·.1) = false := by rfl) :
    PE X (.Call (.Name x p) (e :: es) [] pos) (tCallS sp E t) := by
  obtain ⟨hk, fd, ds, hd, hb, F⟩ := h
  cases hd
  exact pe_callS F hr hg hm hk hb hx ha hdb he hpl
/-- the part that stays may be seen smaller -/
theorem Gr.low {ms : List Addr} {I I2 H I' H' : Hp} (g : Gr ms I2 H I' H') (s : Same I I2) : Gr ms I H I H' :=
  ⟨Same.refl _, s.trans (g.ii.trans g.ih), g.hh, g.th, fun a o e _ => e⟩
theorem All2.strs {H : Hp} : ∀ {vs : List V} {xs : List Str}, All2 (iS H) vs xs → vs = xs.map V.str
  | _, _, .nil => rfl
  | _, _, .cons a t => by rw [a, t.strs]; rfl
theorem All2.ofStrs {H : Hp} : ∀ (xs : List Str), All2 (iS H) (xs.map V.str) xs
  | [] => .nil
  | x :: r => .cons rfl (All2.ofStrs r)
/-- a list that may change, seen as it stands now -/
theorem same_now {I H : Hp} {a : Addr} {o : HO} (s : Same I H) (h : H a = some o) : Same (upd I a o) H := fun b u e => by
  by_cases q : b = a
  · subst q; rw [upd_same] at e; rw [h]; exact e
  · rw [upd_ne q] at e; exact s b u e
theorem same_to {I : Hp} {a : Addr} {o : HO} (hi : I a = none) : Same I (upd I a o) := sNew hi
end Tk

set_option Elab.async false
set_option linter.all false
set_option maxRecDepth 100000
set_option maxHeartbeats 4000000
/-! Defs that let errors out whose context is None (L2N). -/
namespace Tk
open PySem PySem.Spec PyProof.Rows L2
def HasN (P : Program) (w : World) (K : PySem.W.Frag) (mg : Str → Option Value) (base : Heap) (k : Nat) (f : Addr) (ps : List Str) (dvs : List V) (sp : Sp) : Prop :=
  PySem.W.keepIn K (.ref f) = true ∧ ∃ (fd : FuncData) (ds : List Value), Vals dvs ds ∧ Binds K fd ps ds ∧ FnOk P w K mg base (L2N.CX P w) k f fd ps sp
theorem HasN.mono {P : Program} {w : World} {K : PySem.W.Frag} {mg : Str → Option Value} {base : Heap} {j k : Nat} {f : Addr} {ps : List Str} {dvs : List V} {sp : Sp} (h : HasN P w K mg base j f ps dvs sp) (l : j ≤ k) : HasN P w K mg base k f ps dvs sp := by
  obtain ⟨a, fd, ds, b, c, F⟩ := h
  exact ⟨a, fd, ds, b, c, F.mono l⟩
section
variable {X : Cx} {k : Nat} {f C : Addr} {ps : List Str} {sp : Sp} {dvs : List V} {E : XK} {x m : Str} {p pos apos : Pos} {e o : Expr} {es : List Expr} {ta : TE} {t : TA}
abbrev HasNX (X : Cx) := HasN X.prog X.w X.K X.mg X.base
theorem passLN : Passes (L2N.CX X.prog X.w) X E0 := fun _ _ _ _ _ _ _ h => by
  obtain ⟨_, _, _, _, _, _, _, _, _, _, _, _, z⟩ := h
  exact z.elim
theorem pe_callHN (h : HasNX X k f ps dvs sp) (hr : Room k X.A) (hg : Gl X x) (hm : X.mg x = some (.ref f)) (hx : Passes (L2N.CX X.prog X.w) X E) (ha : PA X (e :: es) t)
    (hdb : (x == ("__debug__" : Str)) = false := by decide) (he : starEach (e :: es) X.env = (false, eval e X.env) :: starEach es X.env := by rfl) (hpl : (backTo pos (starEach es X.env)).any (·.1) = false := by rfl) :
    PE X (.Call (.Name x p) (e :: es) [] pos) (tCall sp dvs E t) := by
  obtain ⟨hk, fd, ds, hd, hb, F⟩ := h
  exact pe_call F hr hg hm hk hb hd hx ha hdb he hpl
theorem pe_methHN {pl : Sem Bool} (he : PE X o ta) (c : Cls X.K C) (hm : Meth X.K C m f) (h : HasNX X k f ps dvs sp) (hr : Room k X.A) (hx : Passes (L2N.CX X.prog X.w) X E) (ha : PA X (e :: es) t)
    (hst : starEach (e :: es) X.env = (false, eval e X.env) :: starEach es X.env := by rfl) (hpl : (backTo pos (starEach es X.env)).any (·.1) = false := by rfl)
    (ht : eval (.Call (.Attribute o m apos) (e :: es) [] pos) X.env = (do
      let ov ← eval o X.env
      standAt apos.atName
      let (f, first) ← holding [ov] (getMethod ov m pl)
      callWith pos f first (backTo pos (starEach (e :: es) X.env)) (backToKw pos (keywordEach [] X.env))) := by rfl) :
    PE X (.Call (.Attribute o m apos) (e :: es) [] pos) (tMeth C m sp dvs E ta t) := by
  obtain ⟨hk, fd, ds, hd, hb, F⟩ := h
  exact pe_meth (pl := pl) he c hm F hr hb hd hx ha hst hpl ht
theorem pe_methH0N {pl : Sem Bool} (he : PE X o ta) (c : Cls X.K C) (hm : Meth X.K C m f) (h : HasNX X k f ps dvs sp) (hr : Room k X.A) (hx : Passes (L2N.CX X.prog X.w) X E)
    (ht : eval (.Call (.Attribute o m apos) [] [] pos) X.env = (do
      let ov ← eval o X.env
      standAt apos.atName
      let (f, first) ← holding [ov] (getMethod ov m pl)
      callWith pos f first (backTo pos (starEach [] X.env)) (backToKw pos (keywordEach [] X.env))) := by rfl) :
    PE X (.Call (.Attribute o m apos) [] [] pos) (tMeth C m sp dvs E ta tNil) := by
  obtain ⟨_, fd, ds, hd, hb, F⟩ := h
  exact pe_meth0 (pl := pl) he c hm F hr hb hd hx ht
theorem pe_callSHN {E : L2.St → XK} (h : HasNX X k f ps [] sp) (hr : Room k X.A) (hg : Gl X x) (hm : X.mg x = some (.ref f)) (hx : ∀ σ, PassesAt (L2N.CX X.prog X.w) X σ (E σ)) (ha : PA X (e :: es) t)
    (hdb : (x == ("__debug__" : Str)) = false := by decide) (he : starEach (e :: es) X.env = (false, eval e X.env) :: starEach es X.env := by rfl) (hpl : (backTo pos (starEach es X.env)).any (·.1) = false := by rfl) :
    PE X (.Call (.Name x p) (e :: es) [] pos) (tCallS sp E t) := by
  obtain ⟨hk, fd, ds, hd, hb, F⟩ := h
  cases hd
  exact pe_callS F hr hg hm hk hb hx ha hdb he hpl
end
section
variable {P : Program} {w : World} {K : PySem.W.Frag} {mg : Str → Option Value} {base : Heap} {x qual : Str} {st : Stmt} {f : Addr} {fd : FuncData} {N ps : List Str} {k : Nat} {sp : Sp}
theorem hasXN (F : FnQ K x qual st [] f fd) (b : Binds K fd ps []) (S : FnScope N ps (defScope st)) (len : ∀ vs H Q E, sp vs H Q E → vs.length = ps.length)
    (hbody : ∀ (cdv : Value) (A : Around) (outer : List Env) (s : Shared) (H : Hp) (vs : List V) (Q : VK) (E : XK), Room k (A.deeper (envOfC qual (defScope st) s.heap.objs.size f cdv)) → sp vs H Q E →
      ∃ t, PSs (cxOf (L2N.CX P w) P w K mg base N qual (defScope st) f cdv A outer s H E) (defBody st) t ∧ t { nx := fun _ H' => Q .non H', rt := Q } (start N vs) H) :
    HasN P w K mg base (k + 1) f ps [] sp :=
  ⟨F.kp, fd, [], .nil, b, F.ok S len hbody⟩
end
end Tk

set_option Elab.async false
set_option linter.all false
set_option maxRecDepth 100000
set_option maxHeartbeats 4000000
/-! Data as the law compares it. -/
namespace Tk
open PySem PySem.Spec PyProof.Rows L2
inductive Da where
  | non | bl (b : Bool) | int (i : Int) | str (s : Str) | lst (l : List Da) | tup (l : List Da)
mutual
def eqd : Da → Da → Bool
  | .non, .non => true
  | .bl a, .bl b => decide (a = b)
  | .int a, .int b => decide (a = b)
  | .str a, .str b => decide (a = b)
  | .lst a, .lst b => eqds a b
  | .tup a, .tup b => eqds a b
  | _, _ => false
def eqds : List Da → List Da → Bool
  | [], [] => true
  | a :: r, b :: s => eqd a b && eqds r s
  | _, _ => false
end
mutual
def dep : Da → Nat
  | .lst l => deps l + 1
  | .tup l => deps l + 1
  | _ => 0
def deps : List Da → Nat
  | [] => 0
  | a :: r => max (dep a) (deps r)
end
mutual
def tame : Da → Prop
  | .lst l => l.length ≤ 1000000 ∧ tames l
  | .tup l => l.length ≤ 1000000 ∧ tames l
  | _ => True
def tames : List Da → Prop
  | [] => True
  | a :: r => tame a ∧ tames r
end
mutual
def dR (H : Hp) : V → Da → Prop
  | v, .non => v = .non
  | v, .bl b => v = .bl b
  | v, .int i => v = .int i
  | v, .str s => v = .str s
  | v, .lst l => ∃ a vs, v = .ref a ∧ H a = some (.lst vs) ∧ dRs H vs l
  | v, .tup l => ∃ a vs, v = .ref a ∧ H a = some (.tup vs) ∧ dRs H vs l
def dRs (H : Hp) : List V → List Da → Prop
  | vs, [] => vs = []
  | vs, d :: ds => ∃ v r, vs = v :: r ∧ dR H v d ∧ dRs H r ds
end
mutual
theorem dR_up {H H' : Hp} (s : Same H H') : ∀ (v : V) (d : Da), dR H v d → dR H' v d
  | v, .non, h => h
  | v, .bl _, h => h
  | v, .int _, h => h
  | v, .str _, h => h
  | v, .lst l, h => by
    simp only [dR] at h ⊢
    obtain ⟨a, vs, e, h1, h2⟩ := h
    exact ⟨a, vs, e, s _ _ h1, dRs_up s vs l h2⟩
  | v, .tup l, h => by
    simp only [dR] at h ⊢
    obtain ⟨a, vs, e, h1, h2⟩ := h
    exact ⟨a, vs, e, s _ _ h1, dRs_up s vs l h2⟩
theorem dRs_up {H H' : Hp} (s : Same H H') : ∀ (vs : List V) (ds : List Da), dRs H vs ds → dRs H' vs ds
  | vs, [], h => by simp only [dRs] at h ⊢; exact h
  | vs, d :: ds, h => by
    simp only [dRs] at h ⊢
    obtain ⟨v, r, e, h1, h2⟩ := h
    exact ⟨v, r, e, dR_up s v d h1, dRs_up s r ds h2⟩
end
theorem dRs_len {H : Hp} : ∀ {vs : List V} {ds : List Da}, dRs H vs ds → vs.length = ds.length
  | vs, [], h => by simp only [dRs] at h; subst h; rfl
  | vs, d :: ds, h => by
    simp only [dRs] at h
    obtain ⟨v, r, rfl, _, h2⟩ := h
    simp [dRs_len h2]
theorem dRs_at {H : Hp} : ∀ {vs : List V} {ds : List Da} {i : Nat} {d : Da}, dRs H vs ds → ds[i]? = some d → ∃ v, vs[i]? = some v ∧ dR H v d
  | _, [], _, _, _, e => by simp at e
  | vs, d :: ds, 0, x, h, e => by
    simp only [dRs] at h
    obtain ⟨v, r, rfl, h1, _⟩ := h
    simp at e; subst e
    exact ⟨v, rfl, h1⟩
  | vs, d :: ds, i + 1, x, h, e => by
    simp only [dRs] at h
    obtain ⟨v, r, rfl, _, h2⟩ := h
    obtain ⟨u, h3, h4⟩ := dRs_at (i := i) (d := x) h2 (by simpa using e)
    exact ⟨u, by simpa using h3, h4⟩
theorem tames_at : ∀ {ds : List Da} {i : Nat} {d : Da}, tames ds → ds[i]? = some d → tame d
  | [], _, _, _, e => by simp at e
  | d :: ds, 0, x, h, e => by simp at e; subst e; exact h.1
  | d :: ds, i + 1, x, h, e => tames_at (ds := ds) (i := i) h.2 (by simpa using e)
theorem deps_at : ∀ {ds : List Da} {i : Nat} {d : Da}, ds[i]? = some d → dep d ≤ deps ds
  | [], _, _, e => by simp at e
  | d :: ds, 0, x, e => by simp at e; subst e; simp only [deps]; omega
  | d :: ds, i + 1, x, e => by
    have := deps_at (ds := ds) (i := i) (d := x) (by simpa using e)
    simp only [deps]; omega
mutual
theorem eqd_iff : ∀ a b : Da, eqd a b = true ↔ a = b
  | .non, b => by cases b <;> simp [eqd]
  | .bl x, b => by cases b <;> simp [eqd]
  | .int x, b => by cases b <;> simp [eqd]
  | .str x, b => by cases b <;> simp [eqd]
  | .lst x, b => by cases b <;> simp [eqd]; exact eqds_iff _ _
  | .tup x, b => by cases b <;> simp [eqd]; exact eqds_iff _ _
theorem eqds_iff : ∀ a b : List Da, eqds a b = true ↔ a = b
  | [], b => by cases b <;> simp [eqds]
  | a :: r, b => by
    cases b with
    | nil => simp [eqds]
    | cons b s => simp [eqds, eqd_iff a b, eqds_iff r s]
end
theorem eqds_len : ∀ {a b : List Da}, a.length ≠ b.length → eqds a b = false
  | [], [], h => absurd rfl h
  | [], _ :: _, _ => rfl
  | _ :: _, [], _ => rfl
  | a :: r, b :: s, h => by
    have := eqds_len (a := r) (b := s) (by simpa using h)
    simp [eqds, this]
theorem eqds_false : ∀ {a b : List Da} {i : Nat} {x y : Da}, a[i]? = some x → b[i]? = some y → eqd x y = false → eqds a b = false
  | [], _, _, _, _, h, _, _ => by simp at h
  | _ :: _, [], _, _, _, _, h, _ => by simp at h
  | a :: r, b :: s, 0, x, y, h1, h2, h3 => by simp at h1 h2; subst h1 h2; simp [eqds, h3]
  | a :: r, b :: s, i + 1, x, y, h1, h2, h3 => by
    have := eqds_false (a := r) (b := s) (i := i) (by simpa using h1) (by simpa using h2) h3
    simp [eqds, this]
theorem eqds_true : ∀ {a b : List Da}, a.length = b.length → (∀ (i : Nat) (x y : Da), a[i]? = some x → b[i]? = some y → eqd x y = true) → eqds a b = true
  | [], [], _, _ => rfl
  | [], _ :: _, h, _ => by simp at h
  | _ :: _, [], h, _ => by simp at h
  | a :: r, b :: s, h, k => by
    simp only [eqds, Bool.and_eq_true]
    exact ⟨k 0 a b rfl rfl, eqds_true (by simpa using h) fun i x y h1 h2 => k (i + 1) x y (by simpa using h1) (by simpa using h2)⟩
/-- its kind -/
def knd : Da → String
  | .non => "NoneType" | .bl _ => "bool" | .int _ => "int" | .str _ => "str" | .lst _ => "list" | .tup _ => "tuple"
def isT : Da → String → Bool
  | .non, _ => false
  | .bl _, T => T == "bool" || T == "int"
  | .int _, T => T == "int"
  | .str _, T => T == "str"
  | .lst _, T => T == "list"
  | .tup _, T => T == "tuple"
theorem knd_ty {K : PySem.W.Frag} {H : Hp} {v : V} {d : Da} (h : dR H v d) : TyX K H v (.type (knd d)) := by
  cases d with
  | non => simp only [dR] at h; subst h; exact .base .non
  | bl b => simp only [dR] at h; subst h; exact .base (.bl b)
  | int b => simp only [dR] at h; subst h; exact .base (.int b)
  | str b => simp only [dR] at h; subst h; exact .base (.str b)
  | lst l => simp only [dR] at h; obtain ⟨a, vs, rfl, h1, _⟩ := h; exact .base (.lst h1)
  | tup l => simp only [dR] at h; obtain ⟨a, vs, rfl, h1, _⟩ := h; exact .base (.tup h1)
theorem knd_tuple {K : PySem.W.Frag} (d : Da) : PySem.W.kitOne K (.type (knd d)) (.type "tuple") = some (isT d "tuple") := by cases d <;> rfl
theorem knd_list {K : PySem.W.Frag} (d : Da) : PySem.W.kitOne K (.type (knd d)) (.type "list") = some (isT d "list") := by cases d <;> rfl
theorem knd_bool {K : PySem.W.Frag} (d : Da) : PySem.W.kitOne K (.type (knd d)) (.type "bool") = some (isT d "bool") := by cases d <;> rfl
theorem knd_int {K : PySem.W.Frag} (d : Da) : PySem.W.kitOne K (.type (knd d)) (.type "int") = some (isT d "int") := by cases d <;> rfl
theorem knd_str {K : PySem.W.Frag} (d : Da) : PySem.W.kitOne K (.type (knd d)) (.type "str") = some (isT d "str") := by cases d <;> rfl
def isNon : Da → Bool
  | .non => true
  | _ => false
theorem non_dec {H : Hp} {v : V} {d : Da} (h : dR H v d) : decide (v = V.non) = isNon d := by
  cases d with
  | non => simp only [dR] at h; subst h; rfl
  | bl b => simp only [dR] at h; subst h; rfl
  | int b => simp only [dR] at h; subst h; rfl
  | str b => simp only [dR] at h; subst h; rfl
  | lst l => simp only [dR] at h; obtain ⟨a, vs, rfl, h1, _⟩ := h; rfl
  | tup l => simp only [dR] at h; obtain ⟨a, vs, rfl, h1, _⟩ := h; rfl
end Tk

set_option Elab.async false
set_option linter.all false
set_option maxRecDepth 100000
set_option maxHeartbeats 0
/-! ### the text by places, the head -/
namespace Hd
open PySem PySem.Spec PyProof.Rows L2 Tk
def top (i : Nat) : Stmt := PySem.Challenge.pw_notesttells_k50_whole_boxes_are_read_exa.main.body.getD i (.Pass ⟨0, 0, 0, 0⟩)
abbrev s_words_of : Stmt := top 10
abbrev s_number_of : Stmt := top 11
abbrev s__is_name : Stmt := top 26
abbrev s__kept : Stmt := top 29
abbrev s_read_box : Stmt := top 30
abbrev s_read_around : Stmt := top 31
abbrev s__read : Stmt := top 32
abbrev s_box_text : Stmt := top 33
abbrev s__block_words : Stmt := top 34
abbrev s__statement_text : Stmt := top 35
abbrev s__choice_text : Stmt := top 36
abbrev s__expression_text : Stmt := top 37
abbrev s__law_pool : Stmt := top 39
abbrev s__law_draw : Stmt := top 40
abbrev s__law_spend : Stmt := top 41
abbrev s__law_same : Stmt := top 42
abbrev s__law_value : Stmt := top 43
abbrev s__law_value_words : Stmt := top 44
abbrev s__law_is_name : Stmt := top 45
abbrev s__law_is_number : Stmt := top 46
abbrev s__law_values : Stmt := top 47
abbrev s__law_spoilt : Stmt := top 48
abbrev s__law_changed : Stmt := top 49
abbrev s__law_joined : Stmt := top 50
abbrev s__law_menu : Stmt := top 51
abbrev s__law_names : Stmt := top 52
abbrev s__law_block : Stmt := top 53
abbrev s__law_statement : Stmt := top 54
abbrev s__law_box : Stmt := top 55
abbrev s__law_block_words : Stmt := top 56
abbrev s__law_words : Stmt := top 57
abbrev s__law_blocks : Stmt := top 58
abbrev s__law_next : Stmt := top 59
abbrev s__law_wrong : Stmt := top 60
abbrev s_law : Stmt := top 61
abbrev s_BadText_init : Stmt := inClass (top 2) 0
abbrev s_BadPaper_init : Stmt := inClass (top 3) 0
abbrev s_BadMachine_init : Stmt := inClass (top 4) 0
abbrev s_TooLarge_init : Stmt := inClass (top 5) 0
abbrev s_Reader_init : Stmt := inClass (top 25) 0
abbrev s_Reader_read : Stmt := inClass (top 25) 1
abbrev s_Reader__here : Stmt := inClass (top 25) 2
abbrev s_Reader__go_on : Stmt := inClass (top 25) 3
abbrev s_Reader__take : Stmt := inClass (top 25) 4
abbrev s_Reader__number : Stmt := inClass (top 25) 5
abbrev s_Reader__new_name : Stmt := inClass (top 25) 6
abbrev s_Reader__variable : Stmt := inClass (top 25) 7
abbrev s_Reader__is_variable : Stmt := inClass (top 25) 8
abbrev s_Reader__may_begin : Stmt := inClass (top 25) 9
abbrev s_Reader__statements : Stmt := inClass (top 25) 10
abbrev s_Reader__statement : Stmt := inClass (top 25) 11
abbrev s_Reader__choice : Stmt := inClass (top 25) 12
abbrev s_Reader__expression : Stmt := inClass (top 25) 13
abbrev s_Reader__leaf : Stmt := inClass (top 25) 14
abbrev s_Box_init : Stmt := inClass (top 28) 0
abbrev s_Box_eq : Stmt := inClass (top 28) 1
abbrev FnP (K : PySem.W.Frag) (x q : Str) (st : Stmt) (ds : List V) (f : Addr) (fd : FuncData) : Prop := FunD K x q (defArgs st) (defBody st) (defScope st) ds [] f fd
def d_words_of : He.DefD := ⟨("words_of", none), "words_of", "words_of", defArgs s_words_of, defBody s_words_of, defScope s_words_of, [], []⟩
def d_number_of : He.DefD := ⟨("number_of", none), "number_of", "number_of", defArgs s_number_of, defBody s_number_of, defScope s_number_of, [], []⟩
def d__is_name : He.DefD := ⟨("_is_name", none), "_is_name", "_is_name", defArgs s__is_name, defBody s__is_name, defScope s__is_name, [], []⟩
def d__kept : He.DefD := ⟨("_kept", none), "_kept", "_kept", defArgs s__kept, defBody s__kept, defScope s__kept, [], []⟩
def d_read_box : He.DefD := ⟨("read_box", none), "read_box", "read_box", defArgs s_read_box, defBody s_read_box, defScope s_read_box, [], []⟩
def d_read_around : He.DefD := ⟨("read_around", none), "read_around", "read_around", defArgs s_read_around, defBody s_read_around, defScope s_read_around, [], []⟩
def d__read : He.DefD := ⟨("_read", none), "_read", "_read", defArgs s__read, defBody s__read, defScope s__read, [], []⟩
def d_box_text : He.DefD := ⟨("box_text", none), "box_text", "box_text", defArgs s_box_text, defBody s_box_text, defScope s_box_text, [], []⟩
def d__block_words : He.DefD := ⟨("_block_words", none), "_block_words", "_block_words", defArgs s__block_words, defBody s__block_words, defScope s__block_words, [], []⟩
def d__statement_text : He.DefD := ⟨("_statement_text", none), "_statement_text", "_statement_text", defArgs s__statement_text, defBody s__statement_text, defScope s__statement_text, [], []⟩
def d__choice_text : He.DefD := ⟨("_choice_text", none), "_choice_text", "_choice_text", defArgs s__choice_text, defBody s__choice_text, defScope s__choice_text, [], []⟩
def d__expression_text : He.DefD := ⟨("_expression_text", none), "_expression_text", "_expression_text", defArgs s__expression_text, defBody s__expression_text, defScope s__expression_text, [], []⟩
def d__law_pool : He.DefD := ⟨("_law_pool", none), "_law_pool", "_law_pool", defArgs s__law_pool, defBody s__law_pool, defScope s__law_pool, [], []⟩
def d__law_draw : He.DefD := ⟨("_law_draw", none), "_law_draw", "_law_draw", defArgs s__law_draw, defBody s__law_draw, defScope s__law_draw, [], []⟩
def d__law_spend : He.DefD := ⟨("_law_spend", none), "_law_spend", "_law_spend", defArgs s__law_spend, defBody s__law_spend, defScope s__law_spend, [], []⟩
def d__law_same : He.DefD := ⟨("_law_same", none), "_law_same", "_law_same", defArgs s__law_same, defBody s__law_same, defScope s__law_same, [], []⟩
def d__law_value : He.DefD := ⟨("_law_value", none), "_law_value", "_law_value", defArgs s__law_value, defBody s__law_value, defScope s__law_value, [], []⟩
def d__law_value_words : He.DefD := ⟨("_law_value_words", none), "_law_value_words", "_law_value_words", defArgs s__law_value_words, defBody s__law_value_words, defScope s__law_value_words, [], []⟩
def d__law_is_name : He.DefD := ⟨("_law_is_name", none), "_law_is_name", "_law_is_name", defArgs s__law_is_name, defBody s__law_is_name, defScope s__law_is_name, [], []⟩
def d__law_is_number : He.DefD := ⟨("_law_is_number", none), "_law_is_number", "_law_is_number", defArgs s__law_is_number, defBody s__law_is_number, defScope s__law_is_number, [], []⟩
def d__law_values : He.DefD := ⟨("_law_values", none), "_law_values", "_law_values", defArgs s__law_values, defBody s__law_values, defScope s__law_values, [], []⟩
def d__law_spoilt : He.DefD := ⟨("_law_spoilt", none), "_law_spoilt", "_law_spoilt", defArgs s__law_spoilt, defBody s__law_spoilt, defScope s__law_spoilt, [], []⟩
def d__law_changed : He.DefD := ⟨("_law_changed", none), "_law_changed", "_law_changed", defArgs s__law_changed, defBody s__law_changed, defScope s__law_changed, [], []⟩
def d__law_joined : He.DefD := ⟨("_law_joined", none), "_law_joined", "_law_joined", defArgs s__law_joined, defBody s__law_joined, defScope s__law_joined, [], []⟩
def d__law_menu : He.DefD := ⟨("_law_menu", none), "_law_menu", "_law_menu", defArgs s__law_menu, defBody s__law_menu, defScope s__law_menu, [], []⟩
def d__law_names : He.DefD := ⟨("_law_names", none), "_law_names", "_law_names", defArgs s__law_names, defBody s__law_names, defScope s__law_names, [], []⟩
def d__law_block : He.DefD := ⟨("_law_block", none), "_law_block", "_law_block", defArgs s__law_block, defBody s__law_block, defScope s__law_block, [], []⟩
def d__law_statement : He.DefD := ⟨("_law_statement", none), "_law_statement", "_law_statement", defArgs s__law_statement, defBody s__law_statement, defScope s__law_statement, [], []⟩
def d__law_box : He.DefD := ⟨("_law_box", none), "_law_box", "_law_box", defArgs s__law_box, defBody s__law_box, defScope s__law_box, [], []⟩
def d__law_block_words : He.DefD := ⟨("_law_block_words", none), "_law_block_words", "_law_block_words", defArgs s__law_block_words, defBody s__law_block_words, defScope s__law_block_words, [], []⟩
def d__law_words : He.DefD := ⟨("_law_words", none), "_law_words", "_law_words", defArgs s__law_words, defBody s__law_words, defScope s__law_words, [], []⟩
def d__law_blocks : He.DefD := ⟨("_law_blocks", none), "_law_blocks", "_law_blocks", defArgs s__law_blocks, defBody s__law_blocks, defScope s__law_blocks, [], []⟩
def d__law_next : He.DefD := ⟨("_law_next", none), "_law_next", "_law_next", defArgs s__law_next, defBody s__law_next, defScope s__law_next, [], []⟩
def d__law_wrong : He.DefD := ⟨("_law_wrong", none), "_law_wrong", "_law_wrong", defArgs s__law_wrong, defBody s__law_wrong, defScope s__law_wrong, [], []⟩
def d_law : He.DefD := ⟨("law", none), "law", "law", defArgs s_law, defBody s_law, defScope s_law, [], []⟩
def d_BadText_init : He.DefD := ⟨("BadText", some "__init__"), "__init__", "BadText.__init__", defArgs s_BadText_init, defBody s_BadText_init, defScope s_BadText_init, [], []⟩
def d_BadPaper_init : He.DefD := ⟨("BadPaper", some "__init__"), "__init__", "BadPaper.__init__", defArgs s_BadPaper_init, defBody s_BadPaper_init, defScope s_BadPaper_init, [], []⟩
def d_BadMachine_init : He.DefD := ⟨("BadMachine", some "__init__"), "__init__", "BadMachine.__init__", defArgs s_BadMachine_init, defBody s_BadMachine_init, defScope s_BadMachine_init, [], []⟩
def d_TooLarge_init : He.DefD := ⟨("TooLarge", some "__init__"), "__init__", "TooLarge.__init__", defArgs s_TooLarge_init, defBody s_TooLarge_init, defScope s_TooLarge_init, [], []⟩
def d_Reader_init : He.DefD := ⟨("Reader", some "__init__"), "__init__", "Reader.__init__", defArgs s_Reader_init, defBody s_Reader_init, defScope s_Reader_init, [], []⟩
def d_Reader_read : He.DefD := ⟨("Reader", some "read"), "read", "Reader.read", defArgs s_Reader_read, defBody s_Reader_read, defScope s_Reader_read, [], []⟩
def d_Reader__here : He.DefD := ⟨("Reader", some "_here"), "_here", "Reader._here", defArgs s_Reader__here, defBody s_Reader__here, defScope s_Reader__here, [], []⟩
def d_Reader__go_on : He.DefD := ⟨("Reader", some "_go_on"), "_go_on", "Reader._go_on", defArgs s_Reader__go_on, defBody s_Reader__go_on, defScope s_Reader__go_on, [], []⟩
def d_Reader__take : He.DefD := ⟨("Reader", some "_take"), "_take", "Reader._take", defArgs s_Reader__take, defBody s_Reader__take, defScope s_Reader__take, [], []⟩
def d_Reader__number : He.DefD := ⟨("Reader", some "_number"), "_number", "Reader._number", defArgs s_Reader__number, defBody s_Reader__number, defScope s_Reader__number, [], []⟩
def d_Reader__new_name : He.DefD := ⟨("Reader", some "_new_name"), "_new_name", "Reader._new_name", defArgs s_Reader__new_name, defBody s_Reader__new_name, defScope s_Reader__new_name, [], []⟩
def d_Reader__variable : He.DefD := ⟨("Reader", some "_variable"), "_variable", "Reader._variable", defArgs s_Reader__variable, defBody s_Reader__variable, defScope s_Reader__variable, [], []⟩
def d_Reader__is_variable : He.DefD := ⟨("Reader", some "_is_variable"), "_is_variable", "Reader._is_variable", defArgs s_Reader__is_variable, defBody s_Reader__is_variable, defScope s_Reader__is_variable, [], []⟩
def d_Reader__may_begin : He.DefD := ⟨("Reader", some "_may_begin"), "_may_begin", "Reader._may_begin", defArgs s_Reader__may_begin, defBody s_Reader__may_begin, defScope s_Reader__may_begin, [], []⟩
def d_Reader__statements : He.DefD := ⟨("Reader", some "_statements"), "_statements", "Reader._statements", defArgs s_Reader__statements, defBody s_Reader__statements, defScope s_Reader__statements, [], []⟩
def d_Reader__statement : He.DefD := ⟨("Reader", some "_statement"), "_statement", "Reader._statement", defArgs s_Reader__statement, defBody s_Reader__statement, defScope s_Reader__statement, [], []⟩
def d_Reader__choice : He.DefD := ⟨("Reader", some "_choice"), "_choice", "Reader._choice", defArgs s_Reader__choice, defBody s_Reader__choice, defScope s_Reader__choice, [], []⟩
def d_Reader__expression : He.DefD := ⟨("Reader", some "_expression"), "_expression", "Reader._expression", defArgs s_Reader__expression, defBody s_Reader__expression, defScope s_Reader__expression, [], []⟩
def d_Reader__leaf : He.DefD := ⟨("Reader", some "_leaf"), "_leaf", "Reader._leaf", defArgs s_Reader__leaf, defBody s_Reader__leaf, defScope s_Reader__leaf, [], []⟩
def d_Box_init : He.DefD := ⟨("Box", some "__init__"), "__init__", "Box.__init__", defArgs s_Box_init, defBody s_Box_init, defScope s_Box_init, [], []⟩
def d_Box_eq : He.DefD := ⟨("Box", some "__eq__"), "__eq__", "Box.__eq__", defArgs s_Box_eq, defBody s_Box_eq, defScope s_Box_eq, [], []⟩
def fn : List He.DefD := [d_words_of, d_number_of, d__is_name, d__kept, d_read_box, d_read_around, d__read, d_box_text, d__block_words, d__statement_text, d__choice_text, d__expression_text, d__law_pool, d__law_draw, d__law_spend, d__law_same, d__law_value, d__law_value_words, d__law_is_name, d__law_is_number, d__law_values, d__law_spoilt, d__law_changed, d__law_joined, d__law_menu, d__law_names, d__law_block, d__law_statement, d__law_box, d__law_block_words, d__law_words, d__law_blocks, d__law_next, d__law_wrong, d_law, d_BadText_init, d_BadPaper_init, d_BadMachine_init, d_TooLarge_init, d_Reader_init, d_Reader_read, d_Reader__here, d_Reader__go_on, d_Reader__take, d_Reader__number, d_Reader__new_name, d_Reader__variable, d_Reader__is_variable, d_Reader__may_begin, d_Reader__statements, d_Reader__statement, d_Reader__choice, d_Reader__expression, d_Reader__leaf, d_Box_init, d_Box_eq]
def fas (K : PySem.W.Frag) : List Bool := [(He.Fa.free "ValueError").ok K,
  (He.Fa.free "any").ok K,
  (He.Fa.free "bool").ok K,
  (He.Fa.free "int").ok K,
  (He.Fa.free "isinstance").ok K,
  (He.Fa.free "len").ok K,
  (He.Fa.free "list").ok K,
  (He.Fa.free "range").ok K,
  (He.Fa.free "str").ok K,
  (He.Fa.free "tuple").ok K,
  (He.Fa.glo "words_of").ok K,
  (He.Fa.glo "number_of").ok K,
  (He.Fa.glo "_is_name").ok K,
  (He.Fa.glo "_kept").ok K,
  (He.Fa.glo "read_box").ok K,
  (He.Fa.glo "read_around").ok K,
  (He.Fa.glo "_read").ok K,
  (He.Fa.glo "box_text").ok K,
  (He.Fa.glo "_block_words").ok K,
  (He.Fa.glo "_statement_text").ok K,
  (He.Fa.glo "_choice_text").ok K,
  (He.Fa.glo "_expression_text").ok K,
  (He.Fa.glo "_law_pool").ok K,
  (He.Fa.glo "_law_draw").ok K,
  (He.Fa.glo "_law_spend").ok K,
  (He.Fa.glo "_law_same").ok K,
  (He.Fa.glo "_law_value").ok K,
  (He.Fa.glo "_law_value_words").ok K,
  (He.Fa.glo "_law_is_name").ok K,
  (He.Fa.glo "_law_is_number").ok K,
  (He.Fa.glo "_law_values").ok K,
  (He.Fa.glo "_law_spoilt").ok K,
  (He.Fa.glo "_law_changed").ok K,
  (He.Fa.glo "_law_joined").ok K,
  (He.Fa.glo "_law_menu").ok K,
  (He.Fa.glo "_law_names").ok K,
  (He.Fa.glo "_law_block").ok K,
  (He.Fa.glo "_law_statement").ok K,
  (He.Fa.glo "_law_box").ok K,
  (He.Fa.glo "_law_block_words").ok K,
  (He.Fa.glo "_law_words").ok K,
  (He.Fa.glo "_law_blocks").ok K,
  (He.Fa.glo "_law_next").ok K,
  (He.Fa.glo "_law_wrong").ok K,
  (He.Fa.glo "law").ok K,
  (He.Fa.int "MOST_BUTTONS" (4)).ok K,
  (He.Fa.int "MOST_ANSWERS" (4)).ok K,
  (He.Fa.glo "STATEMENTS").ok K,
  tupB K "STATEMENTS" ["set", "draw", "use", "say", "if"],
  (He.Fa.glo "OPERATORS").ok K,
  tupB K "OPERATORS" ["+", "-", "*", "/", "mod", "<", "="],
  (He.Fa.glo "RESERVED").ok K,
  tupB K "RESERVED" ["buttons", "answers", "var", "start", "press", "set", "draw", "use", "say", "if", "else", "end", "mod"],
  (He.Fa.int "MOST_VARIABLES" (4)).ok K,
  (He.Fa.int "MOST_LETTERS" (8)).ok K,
  (He.Fa.int "MOST_SIZE" (12)).ok K,
  (He.Fa.int "MOST_DRAWN" (6)).ok K,
  (He.Fa.int "MOST_DRAWS" (3)).ok K,
  (He.Fa.int "MOST_USES" (24)).ok K,
  (He.Fa.int "MOST_NUMBER" (65535)).ok K,
  (He.Fa.int "DEEPEST_IF" (4)).ok K,
  (He.Fa.int "DEEPEST_EXPRESSION" (5)).ok K,
  (He.Fa.glo "TestError").ok K,
  (He.Fa.keep "TestError").ok K,
  (He.Fa.exc "TestError").ok K,
  isEB K "TestError",
  (He.Fa.glo "BadText").ok K,
  (He.Fa.keep "BadText").ok K,
  isEB K "BadText",
  oexB K "BadText" "at",
  (He.Fa.glo "BadPaper").ok K,
  (He.Fa.keep "BadPaper").ok K,
  isEB K "BadPaper",
  oexB K "BadPaper" "at",
  (He.Fa.glo "BadMachine").ok K,
  (He.Fa.keep "BadMachine").ok K,
  isEB K "BadMachine",
  oexB K "BadMachine" "what",
  (He.Fa.glo "TooLarge").ok K,
  (He.Fa.keep "TooLarge").ok K,
  isEB K "TooLarge",
  oexB K "TooLarge" "what",
  (He.Fa.glo "BadRatio").ok K,
  (He.Fa.keep "BadRatio").ok K,
  (He.Fa.exc "BadRatio").ok K,
  isEB K "BadRatio",
  (He.Fa.glo "Reader").ok K,
  (He.Fa.keep "Reader").ok K,
  (He.Fa.cls "Reader").ok K,
  instB K "Reader",
  (He.Fa.mkr "Reader").ok K,
  PySem.W.selfFirst K (He.ga K "Reader"),
  (He.Fa.meth "Reader" "__init__").ok K,
  (He.Fa.meth "Reader" "read").ok K,
  (He.Fa.meth "Reader" "_here").ok K,
  (He.Fa.meth "Reader" "_go_on").ok K,
  (He.Fa.meth "Reader" "_take").ok K,
  (He.Fa.meth "Reader" "_number").ok K,
  (He.Fa.meth "Reader" "_new_name").ok K,
  (He.Fa.meth "Reader" "_variable").ok K,
  (He.Fa.meth "Reader" "_is_variable").ok K,
  (He.Fa.meth "Reader" "_may_begin").ok K,
  (He.Fa.meth "Reader" "_statements").ok K,
  (He.Fa.meth "Reader" "_statement").ok K,
  (He.Fa.meth "Reader" "_choice").ok K,
  (He.Fa.meth "Reader" "_expression").ok K,
  (He.Fa.meth "Reader" "_leaf").ok K,
  (He.Fa.noat "Reader" "words").ok K,
  (He.Fa.noat "Reader" "at").ok K,
  (He.Fa.noat "Reader" "around").ok K,
  (He.Fa.noat "Reader" "variables").ok K,
  (He.Fa.noat "Reader" "draws").ok K,
  (He.Fa.noat "Reader" "uses").ok K,
  (He.Fa.noat "Reader" "pressed").ok K,
  (He.Fa.glo "Box").ok K,
  (He.Fa.keep "Box").ok K,
  (He.Fa.cls "Box").ok K,
  instB K "Box",
  (He.Fa.mkr "Box").ok K,
  PySem.W.selfFirst K (He.ga K "Box"),
  (He.Fa.meth "Box" "__init__").ok K,
  (He.Fa.meth "Box" "__eq__").ok K,
  (He.Fa.noat "Box" "buttons").ok K,
  (He.Fa.noat "Box" "answers").ok K,
  (He.Fa.noat "Box" "variables").ok K,
  (He.Fa.noat "Box" "start").ok K,
  (He.Fa.noat "Box" "block").ok K,
  decide (PySem.W.kitOne K (.ref (He.ga K "BadText")) (.type "ValueError") = some true),
  decide (PySem.W.kitOne K (.ref (He.ga K "BadText")) (.ref (He.ga K "TestError")) = some true),
  decide (PySem.W.exmOne K (.ref (He.ga K "BadText")) (.ref (He.ga K "TestError")) = some true),
  decide (PySem.W.kitOne K (.ref (He.ga K "BadText")) (.ref (He.ga K "BadText")) = some true),
  decide (PySem.W.exmOne K (.ref (He.ga K "BadText")) (.ref (He.ga K "BadText")) = some true),
  decide (PySem.W.kitOne K (.ref (He.ga K "BadText")) (.ref (He.ga K "BadPaper")) = some false),
  decide (PySem.W.exmOne K (.ref (He.ga K "BadText")) (.ref (He.ga K "BadPaper")) = some false),
  decide (PySem.W.kitOne K (.ref (He.ga K "BadText")) (.ref (He.ga K "BadMachine")) = some false),
  decide (PySem.W.exmOne K (.ref (He.ga K "BadText")) (.ref (He.ga K "BadMachine")) = some false),
  decide (PySem.W.kitOne K (.ref (He.ga K "BadText")) (.ref (He.ga K "TooLarge")) = some false),
  decide (PySem.W.exmOne K (.ref (He.ga K "BadText")) (.ref (He.ga K "TooLarge")) = some false),
  decide (PySem.W.kitOne K (.ref (He.ga K "BadText")) (.ref (He.ga K "BadRatio")) = some false),
  decide (PySem.W.exmOne K (.ref (He.ga K "BadText")) (.ref (He.ga K "BadRatio")) = some false),
  decide (PySem.W.kitOne K (.ref (He.ga K "BadPaper")) (.type "ValueError") = some true),
  decide (PySem.W.kitOne K (.ref (He.ga K "BadPaper")) (.ref (He.ga K "TestError")) = some true),
  decide (PySem.W.exmOne K (.ref (He.ga K "BadPaper")) (.ref (He.ga K "TestError")) = some true),
  decide (PySem.W.kitOne K (.ref (He.ga K "BadPaper")) (.ref (He.ga K "BadText")) = some false),
  decide (PySem.W.exmOne K (.ref (He.ga K "BadPaper")) (.ref (He.ga K "BadText")) = some false),
  decide (PySem.W.kitOne K (.ref (He.ga K "BadPaper")) (.ref (He.ga K "BadPaper")) = some true),
  decide (PySem.W.exmOne K (.ref (He.ga K "BadPaper")) (.ref (He.ga K "BadPaper")) = some true),
  decide (PySem.W.kitOne K (.ref (He.ga K "BadPaper")) (.ref (He.ga K "BadMachine")) = some false),
  decide (PySem.W.exmOne K (.ref (He.ga K "BadPaper")) (.ref (He.ga K "BadMachine")) = some false),
  decide (PySem.W.kitOne K (.ref (He.ga K "BadPaper")) (.ref (He.ga K "TooLarge")) = some false),
  decide (PySem.W.exmOne K (.ref (He.ga K "BadPaper")) (.ref (He.ga K "TooLarge")) = some false),
  decide (PySem.W.kitOne K (.ref (He.ga K "BadPaper")) (.ref (He.ga K "BadRatio")) = some false),
  decide (PySem.W.exmOne K (.ref (He.ga K "BadPaper")) (.ref (He.ga K "BadRatio")) = some false),
  decide (PySem.W.kitOne K (.ref (He.ga K "BadMachine")) (.type "ValueError") = some true),
  decide (PySem.W.kitOne K (.ref (He.ga K "BadMachine")) (.ref (He.ga K "TestError")) = some true),
  decide (PySem.W.exmOne K (.ref (He.ga K "BadMachine")) (.ref (He.ga K "TestError")) = some true),
  decide (PySem.W.kitOne K (.ref (He.ga K "BadMachine")) (.ref (He.ga K "BadText")) = some false),
  decide (PySem.W.exmOne K (.ref (He.ga K "BadMachine")) (.ref (He.ga K "BadText")) = some false),
  decide (PySem.W.kitOne K (.ref (He.ga K "BadMachine")) (.ref (He.ga K "BadPaper")) = some false),
  decide (PySem.W.exmOne K (.ref (He.ga K "BadMachine")) (.ref (He.ga K "BadPaper")) = some false),
  decide (PySem.W.kitOne K (.ref (He.ga K "BadMachine")) (.ref (He.ga K "BadMachine")) = some true),
  decide (PySem.W.exmOne K (.ref (He.ga K "BadMachine")) (.ref (He.ga K "BadMachine")) = some true),
  decide (PySem.W.kitOne K (.ref (He.ga K "BadMachine")) (.ref (He.ga K "TooLarge")) = some false),
  decide (PySem.W.exmOne K (.ref (He.ga K "BadMachine")) (.ref (He.ga K "TooLarge")) = some false),
  decide (PySem.W.kitOne K (.ref (He.ga K "BadMachine")) (.ref (He.ga K "BadRatio")) = some false),
  decide (PySem.W.exmOne K (.ref (He.ga K "BadMachine")) (.ref (He.ga K "BadRatio")) = some false),
  decide (PySem.W.kitOne K (.ref (He.ga K "TooLarge")) (.type "ValueError") = some true),
  decide (PySem.W.kitOne K (.ref (He.ga K "TooLarge")) (.ref (He.ga K "TestError")) = some true),
  decide (PySem.W.exmOne K (.ref (He.ga K "TooLarge")) (.ref (He.ga K "TestError")) = some true),
  decide (PySem.W.kitOne K (.ref (He.ga K "TooLarge")) (.ref (He.ga K "BadText")) = some false),
  decide (PySem.W.exmOne K (.ref (He.ga K "TooLarge")) (.ref (He.ga K "BadText")) = some false),
  decide (PySem.W.kitOne K (.ref (He.ga K "TooLarge")) (.ref (He.ga K "BadPaper")) = some false),
  decide (PySem.W.exmOne K (.ref (He.ga K "TooLarge")) (.ref (He.ga K "BadPaper")) = some false),
  decide (PySem.W.kitOne K (.ref (He.ga K "TooLarge")) (.ref (He.ga K "BadMachine")) = some false),
  decide (PySem.W.exmOne K (.ref (He.ga K "TooLarge")) (.ref (He.ga K "BadMachine")) = some false),
  decide (PySem.W.kitOne K (.ref (He.ga K "TooLarge")) (.ref (He.ga K "TooLarge")) = some true),
  decide (PySem.W.exmOne K (.ref (He.ga K "TooLarge")) (.ref (He.ga K "TooLarge")) = some true),
  decide (PySem.W.kitOne K (.ref (He.ga K "TooLarge")) (.ref (He.ga K "BadRatio")) = some false),
  decide (PySem.W.exmOne K (.ref (He.ga K "TooLarge")) (.ref (He.ga K "BadRatio")) = some false),
  decide (PySem.W.kitOne K (.ref (He.ga K "BadRatio")) (.type "ValueError") = some true),
  decide (PySem.W.kitOne K (.ref (He.ga K "BadRatio")) (.ref (He.ga K "TestError")) = some true),
  decide (PySem.W.exmOne K (.ref (He.ga K "BadRatio")) (.ref (He.ga K "TestError")) = some true),
  decide (PySem.W.kitOne K (.ref (He.ga K "BadRatio")) (.ref (He.ga K "BadText")) = some false),
  decide (PySem.W.exmOne K (.ref (He.ga K "BadRatio")) (.ref (He.ga K "BadText")) = some false),
  decide (PySem.W.kitOne K (.ref (He.ga K "BadRatio")) (.ref (He.ga K "BadPaper")) = some false),
  decide (PySem.W.exmOne K (.ref (He.ga K "BadRatio")) (.ref (He.ga K "BadPaper")) = some false),
  decide (PySem.W.kitOne K (.ref (He.ga K "BadRatio")) (.ref (He.ga K "BadMachine")) = some false),
  decide (PySem.W.exmOne K (.ref (He.ga K "BadRatio")) (.ref (He.ga K "BadMachine")) = some false),
  decide (PySem.W.kitOne K (.ref (He.ga K "BadRatio")) (.ref (He.ga K "TooLarge")) = some false),
  decide (PySem.W.exmOne K (.ref (He.ga K "BadRatio")) (.ref (He.ga K "TooLarge")) = some false),
  decide (PySem.W.kitOne K (.ref (He.ga K "BadRatio")) (.ref (He.ga K "BadRatio")) = some true),
  decide (PySem.W.exmOne K (.ref (He.ga K "BadRatio")) (.ref (He.ga K "BadRatio")) = some true)]
def ex (K : PySem.W.Frag) : Bool := (fas K).all id
theorem fas_at {K : PySem.W.Frag} (c : ex K = true) (i : Nat) {b : Bool} (h : (fas K)[i]? = some b) : b = true := List.all_eq_true.mp c b (List.mem_of_getElem? h)
structure Dt (K : PySem.W.Frag) (mg : Str → Option Value) : Prop where
  s : SaysY ex fn K
  n : ∃ h : Heap, K.In h ∧ h.Ns mainGlobals mg
section
variable {K : PySem.W.Frag} {mg : Str → Option Value}
theorem free_ValueError (D : Dt K mg) : mg "ValueError" = none := by obtain ⟨h, X, G⟩ := D.n; exact He.free_ok X G (fas_at D.s.more 0 rfl)
theorem free_any (D : Dt K mg) : mg "any" = none := by obtain ⟨h, X, G⟩ := D.n; exact He.free_ok X G (fas_at D.s.more 1 rfl)
theorem free_bool (D : Dt K mg) : mg "bool" = none := by obtain ⟨h, X, G⟩ := D.n; exact He.free_ok X G (fas_at D.s.more 2 rfl)
theorem free_int (D : Dt K mg) : mg "int" = none := by obtain ⟨h, X, G⟩ := D.n; exact He.free_ok X G (fas_at D.s.more 3 rfl)
theorem free_isinstance (D : Dt K mg) : mg "isinstance" = none := by obtain ⟨h, X, G⟩ := D.n; exact He.free_ok X G (fas_at D.s.more 4 rfl)
theorem free_len (D : Dt K mg) : mg "len" = none := by obtain ⟨h, X, G⟩ := D.n; exact He.free_ok X G (fas_at D.s.more 5 rfl)
theorem free_list (D : Dt K mg) : mg "list" = none := by obtain ⟨h, X, G⟩ := D.n; exact He.free_ok X G (fas_at D.s.more 6 rfl)
theorem free_range (D : Dt K mg) : mg "range" = none := by obtain ⟨h, X, G⟩ := D.n; exact He.free_ok X G (fas_at D.s.more 7 rfl)
theorem free_str (D : Dt K mg) : mg "str" = none := by obtain ⟨h, X, G⟩ := D.n; exact He.free_ok X G (fas_at D.s.more 8 rfl)
theorem free_tuple (D : Dt K mg) : mg "tuple" = none := by obtain ⟨h, X, G⟩ := D.n; exact He.free_ok X G (fas_at D.s.more 9 rfl)
theorem glo_words_of (D : Dt K mg) : mg "words_of" = some (.ref (He.ga K "words_of")) := by obtain ⟨h, X, G⟩ := D.n; exact He.glo_ok X G (fas_at D.s.more 10 rfl)
theorem glo_number_of (D : Dt K mg) : mg "number_of" = some (.ref (He.ga K "number_of")) := by obtain ⟨h, X, G⟩ := D.n; exact He.glo_ok X G (fas_at D.s.more 11 rfl)
theorem glo__is_name (D : Dt K mg) : mg "_is_name" = some (.ref (He.ga K "_is_name")) := by obtain ⟨h, X, G⟩ := D.n; exact He.glo_ok X G (fas_at D.s.more 12 rfl)
theorem glo__kept (D : Dt K mg) : mg "_kept" = some (.ref (He.ga K "_kept")) := by obtain ⟨h, X, G⟩ := D.n; exact He.glo_ok X G (fas_at D.s.more 13 rfl)
theorem glo_read_box (D : Dt K mg) : mg "read_box" = some (.ref (He.ga K "read_box")) := by obtain ⟨h, X, G⟩ := D.n; exact He.glo_ok X G (fas_at D.s.more 14 rfl)
theorem glo_read_around (D : Dt K mg) : mg "read_around" = some (.ref (He.ga K "read_around")) := by obtain ⟨h, X, G⟩ := D.n; exact He.glo_ok X G (fas_at D.s.more 15 rfl)
theorem glo__read (D : Dt K mg) : mg "_read" = some (.ref (He.ga K "_read")) := by obtain ⟨h, X, G⟩ := D.n; exact He.glo_ok X G (fas_at D.s.more 16 rfl)
theorem glo_box_text (D : Dt K mg) : mg "box_text" = some (.ref (He.ga K "box_text")) := by obtain ⟨h, X, G⟩ := D.n; exact He.glo_ok X G (fas_at D.s.more 17 rfl)
theorem glo__block_words (D : Dt K mg) : mg "_block_words" = some (.ref (He.ga K "_block_words")) := by obtain ⟨h, X, G⟩ := D.n; exact He.glo_ok X G (fas_at D.s.more 18 rfl)
theorem glo__statement_text (D : Dt K mg) : mg "_statement_text" = some (.ref (He.ga K "_statement_text")) := by obtain ⟨h, X, G⟩ := D.n; exact He.glo_ok X G (fas_at D.s.more 19 rfl)
theorem glo__choice_text (D : Dt K mg) : mg "_choice_text" = some (.ref (He.ga K "_choice_text")) := by obtain ⟨h, X, G⟩ := D.n; exact He.glo_ok X G (fas_at D.s.more 20 rfl)
theorem glo__expression_text (D : Dt K mg) : mg "_expression_text" = some (.ref (He.ga K "_expression_text")) := by obtain ⟨h, X, G⟩ := D.n; exact He.glo_ok X G (fas_at D.s.more 21 rfl)
theorem glo__law_pool (D : Dt K mg) : mg "_law_pool" = some (.ref (He.ga K "_law_pool")) := by obtain ⟨h, X, G⟩ := D.n; exact He.glo_ok X G (fas_at D.s.more 22 rfl)
theorem glo__law_draw (D : Dt K mg) : mg "_law_draw" = some (.ref (He.ga K "_law_draw")) := by obtain ⟨h, X, G⟩ := D.n; exact He.glo_ok X G (fas_at D.s.more 23 rfl)
theorem glo__law_spend (D : Dt K mg) : mg "_law_spend" = some (.ref (He.ga K "_law_spend")) := by obtain ⟨h, X, G⟩ := D.n; exact He.glo_ok X G (fas_at D.s.more 24 rfl)
theorem glo__law_same (D : Dt K mg) : mg "_law_same" = some (.ref (He.ga K "_law_same")) := by obtain ⟨h, X, G⟩ := D.n; exact He.glo_ok X G (fas_at D.s.more 25 rfl)
theorem glo__law_value (D : Dt K mg) : mg "_law_value" = some (.ref (He.ga K "_law_value")) := by obtain ⟨h, X, G⟩ := D.n; exact He.glo_ok X G (fas_at D.s.more 26 rfl)
theorem glo__law_value_words (D : Dt K mg) : mg "_law_value_words" = some (.ref (He.ga K "_law_value_words")) := by obtain ⟨h, X, G⟩ := D.n; exact He.glo_ok X G (fas_at D.s.more 27 rfl)
theorem glo__law_is_name (D : Dt K mg) : mg "_law_is_name" = some (.ref (He.ga K "_law_is_name")) := by obtain ⟨h, X, G⟩ := D.n; exact He.glo_ok X G (fas_at D.s.more 28 rfl)
theorem glo__law_is_number (D : Dt K mg) : mg "_law_is_number" = some (.ref (He.ga K "_law_is_number")) := by obtain ⟨h, X, G⟩ := D.n; exact He.glo_ok X G (fas_at D.s.more 29 rfl)
theorem glo__law_values (D : Dt K mg) : mg "_law_values" = some (.ref (He.ga K "_law_values")) := by obtain ⟨h, X, G⟩ := D.n; exact He.glo_ok X G (fas_at D.s.more 30 rfl)
theorem glo__law_spoilt (D : Dt K mg) : mg "_law_spoilt" = some (.ref (He.ga K "_law_spoilt")) := by obtain ⟨h, X, G⟩ := D.n; exact He.glo_ok X G (fas_at D.s.more 31 rfl)
theorem glo__law_changed (D : Dt K mg) : mg "_law_changed" = some (.ref (He.ga K "_law_changed")) := by obtain ⟨h, X, G⟩ := D.n; exact He.glo_ok X G (fas_at D.s.more 32 rfl)
theorem glo__law_joined (D : Dt K mg) : mg "_law_joined" = some (.ref (He.ga K "_law_joined")) := by obtain ⟨h, X, G⟩ := D.n; exact He.glo_ok X G (fas_at D.s.more 33 rfl)
theorem glo__law_menu (D : Dt K mg) : mg "_law_menu" = some (.ref (He.ga K "_law_menu")) := by obtain ⟨h, X, G⟩ := D.n; exact He.glo_ok X G (fas_at D.s.more 34 rfl)
theorem glo__law_names (D : Dt K mg) : mg "_law_names" = some (.ref (He.ga K "_law_names")) := by obtain ⟨h, X, G⟩ := D.n; exact He.glo_ok X G (fas_at D.s.more 35 rfl)
theorem glo__law_block (D : Dt K mg) : mg "_law_block" = some (.ref (He.ga K "_law_block")) := by obtain ⟨h, X, G⟩ := D.n; exact He.glo_ok X G (fas_at D.s.more 36 rfl)
theorem glo__law_statement (D : Dt K mg) : mg "_law_statement" = some (.ref (He.ga K "_law_statement")) := by obtain ⟨h, X, G⟩ := D.n; exact He.glo_ok X G (fas_at D.s.more 37 rfl)
theorem glo__law_box (D : Dt K mg) : mg "_law_box" = some (.ref (He.ga K "_law_box")) := by obtain ⟨h, X, G⟩ := D.n; exact He.glo_ok X G (fas_at D.s.more 38 rfl)
theorem glo__law_block_words (D : Dt K mg) : mg "_law_block_words" = some (.ref (He.ga K "_law_block_words")) := by obtain ⟨h, X, G⟩ := D.n; exact He.glo_ok X G (fas_at D.s.more 39 rfl)
theorem glo__law_words (D : Dt K mg) : mg "_law_words" = some (.ref (He.ga K "_law_words")) := by obtain ⟨h, X, G⟩ := D.n; exact He.glo_ok X G (fas_at D.s.more 40 rfl)
theorem glo__law_blocks (D : Dt K mg) : mg "_law_blocks" = some (.ref (He.ga K "_law_blocks")) := by obtain ⟨h, X, G⟩ := D.n; exact He.glo_ok X G (fas_at D.s.more 41 rfl)
theorem glo__law_next (D : Dt K mg) : mg "_law_next" = some (.ref (He.ga K "_law_next")) := by obtain ⟨h, X, G⟩ := D.n; exact He.glo_ok X G (fas_at D.s.more 42 rfl)
theorem glo__law_wrong (D : Dt K mg) : mg "_law_wrong" = some (.ref (He.ga K "_law_wrong")) := by obtain ⟨h, X, G⟩ := D.n; exact He.glo_ok X G (fas_at D.s.more 43 rfl)
theorem glo_law (D : Dt K mg) : mg "law" = some (.ref (He.ga K "law")) := by obtain ⟨h, X, G⟩ := D.n; exact He.glo_ok X G (fas_at D.s.more 44 rfl)
theorem int_MOST_BUTTONS (D : Dt K mg) : ∃ t, mg "MOST_BUTTONS" = some (.int (4) t) := by obtain ⟨h, X, G⟩ := D.n; exact He.int_ok X G (fas_at D.s.more 45 rfl)
theorem int_MOST_ANSWERS (D : Dt K mg) : ∃ t, mg "MOST_ANSWERS" = some (.int (4) t) := by obtain ⟨h, X, G⟩ := D.n; exact He.int_ok X G (fas_at D.s.more 46 rfl)
theorem glo_STATEMENTS (D : Dt K mg) : mg "STATEMENTS" = some (.ref (He.ga K "STATEMENTS")) := by obtain ⟨h, X, G⟩ := D.n; exact He.glo_ok X G (fas_at D.s.more 47 rfl)
theorem tup_STATEMENTS (D : Dt K mg) (H : Hp) : SqT K H (He.ga K "STATEMENTS") ((["set", "draw", "use", "say", "if"] : List Str).map V.str) := tupB_ok (fas_at D.s.more 48 rfl) H
theorem glo_OPERATORS (D : Dt K mg) : mg "OPERATORS" = some (.ref (He.ga K "OPERATORS")) := by obtain ⟨h, X, G⟩ := D.n; exact He.glo_ok X G (fas_at D.s.more 49 rfl)
theorem tup_OPERATORS (D : Dt K mg) (H : Hp) : SqT K H (He.ga K "OPERATORS") ((["+", "-", "*", "/", "mod", "<", "="] : List Str).map V.str) := tupB_ok (fas_at D.s.more 50 rfl) H
theorem glo_RESERVED (D : Dt K mg) : mg "RESERVED" = some (.ref (He.ga K "RESERVED")) := by obtain ⟨h, X, G⟩ := D.n; exact He.glo_ok X G (fas_at D.s.more 51 rfl)
theorem tup_RESERVED (D : Dt K mg) (H : Hp) : SqT K H (He.ga K "RESERVED") ((["buttons", "answers", "var", "start", "press", "set", "draw", "use", "say", "if", "else", "end", "mod"] : List Str).map V.str) := tupB_ok (fas_at D.s.more 52 rfl) H
theorem int_MOST_VARIABLES (D : Dt K mg) : ∃ t, mg "MOST_VARIABLES" = some (.int (4) t) := by obtain ⟨h, X, G⟩ := D.n; exact He.int_ok X G (fas_at D.s.more 53 rfl)
theorem int_MOST_LETTERS (D : Dt K mg) : ∃ t, mg "MOST_LETTERS" = some (.int (8) t) := by obtain ⟨h, X, G⟩ := D.n; exact He.int_ok X G (fas_at D.s.more 54 rfl)
theorem int_MOST_SIZE (D : Dt K mg) : ∃ t, mg "MOST_SIZE" = some (.int (12) t) := by obtain ⟨h, X, G⟩ := D.n; exact He.int_ok X G (fas_at D.s.more 55 rfl)
theorem int_MOST_DRAWN (D : Dt K mg) : ∃ t, mg "MOST_DRAWN" = some (.int (6) t) := by obtain ⟨h, X, G⟩ := D.n; exact He.int_ok X G (fas_at D.s.more 56 rfl)
theorem int_MOST_DRAWS (D : Dt K mg) : ∃ t, mg "MOST_DRAWS" = some (.int (3) t) := by obtain ⟨h, X, G⟩ := D.n; exact He.int_ok X G (fas_at D.s.more 57 rfl)
theorem int_MOST_USES (D : Dt K mg) : ∃ t, mg "MOST_USES" = some (.int (24) t) := by obtain ⟨h, X, G⟩ := D.n; exact He.int_ok X G (fas_at D.s.more 58 rfl)
theorem int_MOST_NUMBER (D : Dt K mg) : ∃ t, mg "MOST_NUMBER" = some (.int (65535) t) := by obtain ⟨h, X, G⟩ := D.n; exact He.int_ok X G (fas_at D.s.more 59 rfl)
theorem int_DEEPEST_IF (D : Dt K mg) : ∃ t, mg "DEEPEST_IF" = some (.int (4) t) := by obtain ⟨h, X, G⟩ := D.n; exact He.int_ok X G (fas_at D.s.more 60 rfl)
theorem int_DEEPEST_EXPRESSION (D : Dt K mg) : ∃ t, mg "DEEPEST_EXPRESSION" = some (.int (5) t) := by obtain ⟨h, X, G⟩ := D.n; exact He.int_ok X G (fas_at D.s.more 61 rfl)
theorem glo_TestError (D : Dt K mg) : mg "TestError" = some (.ref (He.ga K "TestError")) := by obtain ⟨h, X, G⟩ := D.n; exact He.glo_ok X G (fas_at D.s.more 62 rfl)
theorem kp_TestError (D : Dt K mg) : PySem.W.keepIn K (.ref (He.ga K "TestError")) = true := He.keep_ok (fas_at D.s.more 63 rfl)
theorem exc_TestError (D : Dt K mg) : PySem.W.excIn K (He.ga K "TestError") He.veBase "ValueError.__new__" = true ∧ PySem.W.keepIn K (.ref (He.ga K "TestError")) = true ∧ PySem.W.subIn K (.ref (He.ga K "TestError")) (.type "BaseException") = some true ∧ PySem.W.typeIn K (.ref (He.ga K "TestError")) = some (.type "type") := He.exc_ok (fas_at D.s.more 64 rfl)
theorem isE_TestError (D : Dt K mg) : ExcC K (He.ga K "TestError") := isEB_ok (fas_at D.s.more 65 rfl)
theorem glo_BadText (D : Dt K mg) : mg "BadText" = some (.ref (He.ga K "BadText")) := by obtain ⟨h, X, G⟩ := D.n; exact He.glo_ok X G (fas_at D.s.more 66 rfl)
theorem kp_BadText (D : Dt K mg) : PySem.W.keepIn K (.ref (He.ga K "BadText")) = true := He.keep_ok (fas_at D.s.more 67 rfl)
theorem isE_BadText (D : Dt K mg) : ExcC K (He.ga K "BadText") := isEB_ok (fas_at D.s.more 68 rfl)
theorem oex_BadText (D : Dt K mg) : OexF K (He.ga K "BadText") (He.ma K (He.ga K "BadText") "__init__") "at" := oexB_ok (fas_at D.s.more 69 rfl)
theorem glo_BadPaper (D : Dt K mg) : mg "BadPaper" = some (.ref (He.ga K "BadPaper")) := by obtain ⟨h, X, G⟩ := D.n; exact He.glo_ok X G (fas_at D.s.more 70 rfl)
theorem kp_BadPaper (D : Dt K mg) : PySem.W.keepIn K (.ref (He.ga K "BadPaper")) = true := He.keep_ok (fas_at D.s.more 71 rfl)
theorem isE_BadPaper (D : Dt K mg) : ExcC K (He.ga K "BadPaper") := isEB_ok (fas_at D.s.more 72 rfl)
theorem oex_BadPaper (D : Dt K mg) : OexF K (He.ga K "BadPaper") (He.ma K (He.ga K "BadPaper") "__init__") "at" := oexB_ok (fas_at D.s.more 73 rfl)
theorem glo_BadMachine (D : Dt K mg) : mg "BadMachine" = some (.ref (He.ga K "BadMachine")) := by obtain ⟨h, X, G⟩ := D.n; exact He.glo_ok X G (fas_at D.s.more 74 rfl)
theorem kp_BadMachine (D : Dt K mg) : PySem.W.keepIn K (.ref (He.ga K "BadMachine")) = true := He.keep_ok (fas_at D.s.more 75 rfl)
theorem isE_BadMachine (D : Dt K mg) : ExcC K (He.ga K "BadMachine") := isEB_ok (fas_at D.s.more 76 rfl)
theorem oex_BadMachine (D : Dt K mg) : OexF K (He.ga K "BadMachine") (He.ma K (He.ga K "BadMachine") "__init__") "what" := oexB_ok (fas_at D.s.more 77 rfl)
theorem glo_TooLarge (D : Dt K mg) : mg "TooLarge" = some (.ref (He.ga K "TooLarge")) := by obtain ⟨h, X, G⟩ := D.n; exact He.glo_ok X G (fas_at D.s.more 78 rfl)
theorem kp_TooLarge (D : Dt K mg) : PySem.W.keepIn K (.ref (He.ga K "TooLarge")) = true := He.keep_ok (fas_at D.s.more 79 rfl)
theorem isE_TooLarge (D : Dt K mg) : ExcC K (He.ga K "TooLarge") := isEB_ok (fas_at D.s.more 80 rfl)
theorem oex_TooLarge (D : Dt K mg) : OexF K (He.ga K "TooLarge") (He.ma K (He.ga K "TooLarge") "__init__") "what" := oexB_ok (fas_at D.s.more 81 rfl)
theorem glo_BadRatio (D : Dt K mg) : mg "BadRatio" = some (.ref (He.ga K "BadRatio")) := by obtain ⟨h, X, G⟩ := D.n; exact He.glo_ok X G (fas_at D.s.more 82 rfl)
theorem kp_BadRatio (D : Dt K mg) : PySem.W.keepIn K (.ref (He.ga K "BadRatio")) = true := He.keep_ok (fas_at D.s.more 83 rfl)
theorem exc_BadRatio (D : Dt K mg) : PySem.W.excIn K (He.ga K "BadRatio") He.veBase "ValueError.__new__" = true ∧ PySem.W.keepIn K (.ref (He.ga K "BadRatio")) = true ∧ PySem.W.subIn K (.ref (He.ga K "BadRatio")) (.type "BaseException") = some true ∧ PySem.W.typeIn K (.ref (He.ga K "BadRatio")) = some (.type "type") := He.exc_ok (fas_at D.s.more 84 rfl)
theorem isE_BadRatio (D : Dt K mg) : ExcC K (He.ga K "BadRatio") := isEB_ok (fas_at D.s.more 85 rfl)
theorem glo_Reader (D : Dt K mg) : mg "Reader" = some (.ref (He.ga K "Reader")) := by obtain ⟨h, X, G⟩ := D.n; exact He.glo_ok X G (fas_at D.s.more 86 rfl)
theorem kp_Reader (D : Dt K mg) : PySem.W.keepIn K (.ref (He.ga K "Reader")) = true := He.keep_ok (fas_at D.s.more 87 rfl)
theorem cls_Reader (D : Dt K mg) : Cls K (He.ga K "Reader") := He.cls_ok (fas_at D.s.more 88 rfl)
theorem inst_Reader (D : Dt K mg) : InstC K (He.ga K "Reader") := instB_ok (fas_at D.s.more 89 rfl)
theorem mkr_Reader (D : Dt K mg) : Mk K (He.ga K "Reader") (He.ma K (He.ga K "Reader") "__init__") := He.mkr_ok (fas_at D.s.more 90 rfl)
theorem self_Reader (D : Dt K mg) : PySem.W.selfFirst K (He.ga K "Reader") = true := fas_at D.s.more 91 rfl
theorem me_Reader_init (D : Dt K mg) : Meth K (He.ga K "Reader") "__init__" (He.ma K (He.ga K "Reader") "__init__") := He.meth_ok (fas_at D.s.more 92 rfl)
theorem me_Reader_read (D : Dt K mg) : Meth K (He.ga K "Reader") "read" (He.ma K (He.ga K "Reader") "read") := He.meth_ok (fas_at D.s.more 93 rfl)
theorem me_Reader__here (D : Dt K mg) : Meth K (He.ga K "Reader") "_here" (He.ma K (He.ga K "Reader") "_here") := He.meth_ok (fas_at D.s.more 94 rfl)
theorem me_Reader__go_on (D : Dt K mg) : Meth K (He.ga K "Reader") "_go_on" (He.ma K (He.ga K "Reader") "_go_on") := He.meth_ok (fas_at D.s.more 95 rfl)
theorem me_Reader__take (D : Dt K mg) : Meth K (He.ga K "Reader") "_take" (He.ma K (He.ga K "Reader") "_take") := He.meth_ok (fas_at D.s.more 96 rfl)
theorem me_Reader__number (D : Dt K mg) : Meth K (He.ga K "Reader") "_number" (He.ma K (He.ga K "Reader") "_number") := He.meth_ok (fas_at D.s.more 97 rfl)
theorem me_Reader__new_name (D : Dt K mg) : Meth K (He.ga K "Reader") "_new_name" (He.ma K (He.ga K "Reader") "_new_name") := He.meth_ok (fas_at D.s.more 98 rfl)
theorem me_Reader__variable (D : Dt K mg) : Meth K (He.ga K "Reader") "_variable" (He.ma K (He.ga K "Reader") "_variable") := He.meth_ok (fas_at D.s.more 99 rfl)
theorem me_Reader__is_variable (D : Dt K mg) : Meth K (He.ga K "Reader") "_is_variable" (He.ma K (He.ga K "Reader") "_is_variable") := He.meth_ok (fas_at D.s.more 100 rfl)
theorem me_Reader__may_begin (D : Dt K mg) : Meth K (He.ga K "Reader") "_may_begin" (He.ma K (He.ga K "Reader") "_may_begin") := He.meth_ok (fas_at D.s.more 101 rfl)
theorem me_Reader__statements (D : Dt K mg) : Meth K (He.ga K "Reader") "_statements" (He.ma K (He.ga K "Reader") "_statements") := He.meth_ok (fas_at D.s.more 102 rfl)
theorem me_Reader__statement (D : Dt K mg) : Meth K (He.ga K "Reader") "_statement" (He.ma K (He.ga K "Reader") "_statement") := He.meth_ok (fas_at D.s.more 103 rfl)
theorem me_Reader__choice (D : Dt K mg) : Meth K (He.ga K "Reader") "_choice" (He.ma K (He.ga K "Reader") "_choice") := He.meth_ok (fas_at D.s.more 104 rfl)
theorem me_Reader__expression (D : Dt K mg) : Meth K (He.ga K "Reader") "_expression" (He.ma K (He.ga K "Reader") "_expression") := He.meth_ok (fas_at D.s.more 105 rfl)
theorem me_Reader__leaf (D : Dt K mg) : Meth K (He.ga K "Reader") "_leaf" (He.ma K (He.ga K "Reader") "_leaf") := He.meth_ok (fas_at D.s.more 106 rfl)
theorem na_Reader_words (D : Dt K mg) : NoAttr K (He.ga K "Reader") "words" := He.noat_ok (fas_at D.s.more 107 rfl)
theorem na_Reader_at (D : Dt K mg) : NoAttr K (He.ga K "Reader") "at" := He.noat_ok (fas_at D.s.more 108 rfl)
theorem na_Reader_around (D : Dt K mg) : NoAttr K (He.ga K "Reader") "around" := He.noat_ok (fas_at D.s.more 109 rfl)
theorem na_Reader_variables (D : Dt K mg) : NoAttr K (He.ga K "Reader") "variables" := He.noat_ok (fas_at D.s.more 110 rfl)
theorem na_Reader_draws (D : Dt K mg) : NoAttr K (He.ga K "Reader") "draws" := He.noat_ok (fas_at D.s.more 111 rfl)
theorem na_Reader_uses (D : Dt K mg) : NoAttr K (He.ga K "Reader") "uses" := He.noat_ok (fas_at D.s.more 112 rfl)
theorem na_Reader_pressed (D : Dt K mg) : NoAttr K (He.ga K "Reader") "pressed" := He.noat_ok (fas_at D.s.more 113 rfl)
theorem glo_Box (D : Dt K mg) : mg "Box" = some (.ref (He.ga K "Box")) := by obtain ⟨h, X, G⟩ := D.n; exact He.glo_ok X G (fas_at D.s.more 114 rfl)
theorem kp_Box (D : Dt K mg) : PySem.W.keepIn K (.ref (He.ga K "Box")) = true := He.keep_ok (fas_at D.s.more 115 rfl)
theorem cls_Box (D : Dt K mg) : Cls K (He.ga K "Box") := He.cls_ok (fas_at D.s.more 116 rfl)
theorem inst_Box (D : Dt K mg) : InstC K (He.ga K "Box") := instB_ok (fas_at D.s.more 117 rfl)
theorem mkr_Box (D : Dt K mg) : Mk K (He.ga K "Box") (He.ma K (He.ga K "Box") "__init__") := He.mkr_ok (fas_at D.s.more 118 rfl)
theorem self_Box (D : Dt K mg) : PySem.W.selfFirst K (He.ga K "Box") = true := fas_at D.s.more 119 rfl
theorem me_Box_init (D : Dt K mg) : Meth K (He.ga K "Box") "__init__" (He.ma K (He.ga K "Box") "__init__") := He.meth_ok (fas_at D.s.more 120 rfl)
theorem me_Box_eq (D : Dt K mg) : Meth K (He.ga K "Box") "__eq__" (He.ma K (He.ga K "Box") "__eq__") := He.meth_ok (fas_at D.s.more 121 rfl)
theorem na_Box_buttons (D : Dt K mg) : NoAttr K (He.ga K "Box") "buttons" := He.noat_ok (fas_at D.s.more 122 rfl)
theorem na_Box_answers (D : Dt K mg) : NoAttr K (He.ga K "Box") "answers" := He.noat_ok (fas_at D.s.more 123 rfl)
theorem na_Box_variables (D : Dt K mg) : NoAttr K (He.ga K "Box") "variables" := He.noat_ok (fas_at D.s.more 124 rfl)
theorem na_Box_start (D : Dt K mg) : NoAttr K (He.ga K "Box") "start" := He.noat_ok (fas_at D.s.more 125 rfl)
theorem na_Box_block (D : Dt K mg) : NoAttr K (He.ga K "Box") "block" := He.noat_ok (fas_at D.s.more 126 rfl)
theorem kitV_BadText (D : Dt K mg) : PySem.W.kitOne K (.ref (He.ga K "BadText")) (.type "ValueError") = some true := of_decide_eq_true (fas_at D.s.more 127 rfl)
theorem kit_BadText_TestError (D : Dt K mg) : PySem.W.kitOne K (.ref (He.ga K "BadText")) (.ref (He.ga K "TestError")) = some true := of_decide_eq_true (fas_at D.s.more 128 rfl)
theorem exm_BadText_TestError (D : Dt K mg) : PySem.W.exmOne K (.ref (He.ga K "BadText")) (.ref (He.ga K "TestError")) = some true := of_decide_eq_true (fas_at D.s.more 129 rfl)
theorem kit_BadText_BadText (D : Dt K mg) : PySem.W.kitOne K (.ref (He.ga K "BadText")) (.ref (He.ga K "BadText")) = some true := of_decide_eq_true (fas_at D.s.more 130 rfl)
theorem exm_BadText_BadText (D : Dt K mg) : PySem.W.exmOne K (.ref (He.ga K "BadText")) (.ref (He.ga K "BadText")) = some true := of_decide_eq_true (fas_at D.s.more 131 rfl)
theorem kit_BadText_BadPaper (D : Dt K mg) : PySem.W.kitOne K (.ref (He.ga K "BadText")) (.ref (He.ga K "BadPaper")) = some false := of_decide_eq_true (fas_at D.s.more 132 rfl)
theorem exm_BadText_BadPaper (D : Dt K mg) : PySem.W.exmOne K (.ref (He.ga K "BadText")) (.ref (He.ga K "BadPaper")) = some false := of_decide_eq_true (fas_at D.s.more 133 rfl)
theorem kit_BadText_BadMachine (D : Dt K mg) : PySem.W.kitOne K (.ref (He.ga K "BadText")) (.ref (He.ga K "BadMachine")) = some false := of_decide_eq_true (fas_at D.s.more 134 rfl)
theorem exm_BadText_BadMachine (D : Dt K mg) : PySem.W.exmOne K (.ref (He.ga K "BadText")) (.ref (He.ga K "BadMachine")) = some false := of_decide_eq_true (fas_at D.s.more 135 rfl)
theorem kit_BadText_TooLarge (D : Dt K mg) : PySem.W.kitOne K (.ref (He.ga K "BadText")) (.ref (He.ga K "TooLarge")) = some false := of_decide_eq_true (fas_at D.s.more 136 rfl)
theorem exm_BadText_TooLarge (D : Dt K mg) : PySem.W.exmOne K (.ref (He.ga K "BadText")) (.ref (He.ga K "TooLarge")) = some false := of_decide_eq_true (fas_at D.s.more 137 rfl)
theorem kit_BadText_BadRatio (D : Dt K mg) : PySem.W.kitOne K (.ref (He.ga K "BadText")) (.ref (He.ga K "BadRatio")) = some false := of_decide_eq_true (fas_at D.s.more 138 rfl)
theorem exm_BadText_BadRatio (D : Dt K mg) : PySem.W.exmOne K (.ref (He.ga K "BadText")) (.ref (He.ga K "BadRatio")) = some false := of_decide_eq_true (fas_at D.s.more 139 rfl)
theorem kitV_BadPaper (D : Dt K mg) : PySem.W.kitOne K (.ref (He.ga K "BadPaper")) (.type "ValueError") = some true := of_decide_eq_true (fas_at D.s.more 140 rfl)
theorem kit_BadPaper_TestError (D : Dt K mg) : PySem.W.kitOne K (.ref (He.ga K "BadPaper")) (.ref (He.ga K "TestError")) = some true := of_decide_eq_true (fas_at D.s.more 141 rfl)
theorem exm_BadPaper_TestError (D : Dt K mg) : PySem.W.exmOne K (.ref (He.ga K "BadPaper")) (.ref (He.ga K "TestError")) = some true := of_decide_eq_true (fas_at D.s.more 142 rfl)
theorem kit_BadPaper_BadText (D : Dt K mg) : PySem.W.kitOne K (.ref (He.ga K "BadPaper")) (.ref (He.ga K "BadText")) = some false := of_decide_eq_true (fas_at D.s.more 143 rfl)
theorem exm_BadPaper_BadText (D : Dt K mg) : PySem.W.exmOne K (.ref (He.ga K "BadPaper")) (.ref (He.ga K "BadText")) = some false := of_decide_eq_true (fas_at D.s.more 144 rfl)
theorem kit_BadPaper_BadPaper (D : Dt K mg) : PySem.W.kitOne K (.ref (He.ga K "BadPaper")) (.ref (He.ga K "BadPaper")) = some true := of_decide_eq_true (fas_at D.s.more 145 rfl)
theorem exm_BadPaper_BadPaper (D : Dt K mg) : PySem.W.exmOne K (.ref (He.ga K "BadPaper")) (.ref (He.ga K "BadPaper")) = some true := of_decide_eq_true (fas_at D.s.more 146 rfl)
theorem kit_BadPaper_BadMachine (D : Dt K mg) : PySem.W.kitOne K (.ref (He.ga K "BadPaper")) (.ref (He.ga K "BadMachine")) = some false := of_decide_eq_true (fas_at D.s.more 147 rfl)
theorem exm_BadPaper_BadMachine (D : Dt K mg) : PySem.W.exmOne K (.ref (He.ga K "BadPaper")) (.ref (He.ga K "BadMachine")) = some false := of_decide_eq_true (fas_at D.s.more 148 rfl)
theorem kit_BadPaper_TooLarge (D : Dt K mg) : PySem.W.kitOne K (.ref (He.ga K "BadPaper")) (.ref (He.ga K "TooLarge")) = some false := of_decide_eq_true (fas_at D.s.more 149 rfl)
theorem exm_BadPaper_TooLarge (D : Dt K mg) : PySem.W.exmOne K (.ref (He.ga K "BadPaper")) (.ref (He.ga K "TooLarge")) = some false := of_decide_eq_true (fas_at D.s.more 150 rfl)
theorem kit_BadPaper_BadRatio (D : Dt K mg) : PySem.W.kitOne K (.ref (He.ga K "BadPaper")) (.ref (He.ga K "BadRatio")) = some false := of_decide_eq_true (fas_at D.s.more 151 rfl)
theorem exm_BadPaper_BadRatio (D : Dt K mg) : PySem.W.exmOne K (.ref (He.ga K "BadPaper")) (.ref (He.ga K "BadRatio")) = some false := of_decide_eq_true (fas_at D.s.more 152 rfl)
theorem kitV_BadMachine (D : Dt K mg) : PySem.W.kitOne K (.ref (He.ga K "BadMachine")) (.type "ValueError") = some true := of_decide_eq_true (fas_at D.s.more 153 rfl)
theorem kit_BadMachine_TestError (D : Dt K mg) : PySem.W.kitOne K (.ref (He.ga K "BadMachine")) (.ref (He.ga K "TestError")) = some true := of_decide_eq_true (fas_at D.s.more 154 rfl)
theorem exm_BadMachine_TestError (D : Dt K mg) : PySem.W.exmOne K (.ref (He.ga K "BadMachine")) (.ref (He.ga K "TestError")) = some true := of_decide_eq_true (fas_at D.s.more 155 rfl)
theorem kit_BadMachine_BadText (D : Dt K mg) : PySem.W.kitOne K (.ref (He.ga K "BadMachine")) (.ref (He.ga K "BadText")) = some false := of_decide_eq_true (fas_at D.s.more 156 rfl)
theorem exm_BadMachine_BadText (D : Dt K mg) : PySem.W.exmOne K (.ref (He.ga K "BadMachine")) (.ref (He.ga K "BadText")) = some false := of_decide_eq_true (fas_at D.s.more 157 rfl)
theorem kit_BadMachine_BadPaper (D : Dt K mg) : PySem.W.kitOne K (.ref (He.ga K "BadMachine")) (.ref (He.ga K "BadPaper")) = some false := of_decide_eq_true (fas_at D.s.more 158 rfl)
theorem exm_BadMachine_BadPaper (D : Dt K mg) : PySem.W.exmOne K (.ref (He.ga K "BadMachine")) (.ref (He.ga K "BadPaper")) = some false := of_decide_eq_true (fas_at D.s.more 159 rfl)
theorem kit_BadMachine_BadMachine (D : Dt K mg) : PySem.W.kitOne K (.ref (He.ga K "BadMachine")) (.ref (He.ga K "BadMachine")) = some true := of_decide_eq_true (fas_at D.s.more 160 rfl)
theorem exm_BadMachine_BadMachine (D : Dt K mg) : PySem.W.exmOne K (.ref (He.ga K "BadMachine")) (.ref (He.ga K "BadMachine")) = some true := of_decide_eq_true (fas_at D.s.more 161 rfl)
theorem kit_BadMachine_TooLarge (D : Dt K mg) : PySem.W.kitOne K (.ref (He.ga K "BadMachine")) (.ref (He.ga K "TooLarge")) = some false := of_decide_eq_true (fas_at D.s.more 162 rfl)
theorem exm_BadMachine_TooLarge (D : Dt K mg) : PySem.W.exmOne K (.ref (He.ga K "BadMachine")) (.ref (He.ga K "TooLarge")) = some false := of_decide_eq_true (fas_at D.s.more 163 rfl)
theorem kit_BadMachine_BadRatio (D : Dt K mg) : PySem.W.kitOne K (.ref (He.ga K "BadMachine")) (.ref (He.ga K "BadRatio")) = some false := of_decide_eq_true (fas_at D.s.more 164 rfl)
theorem exm_BadMachine_BadRatio (D : Dt K mg) : PySem.W.exmOne K (.ref (He.ga K "BadMachine")) (.ref (He.ga K "BadRatio")) = some false := of_decide_eq_true (fas_at D.s.more 165 rfl)
theorem kitV_TooLarge (D : Dt K mg) : PySem.W.kitOne K (.ref (He.ga K "TooLarge")) (.type "ValueError") = some true := of_decide_eq_true (fas_at D.s.more 166 rfl)
theorem kit_TooLarge_TestError (D : Dt K mg) : PySem.W.kitOne K (.ref (He.ga K "TooLarge")) (.ref (He.ga K "TestError")) = some true := of_decide_eq_true (fas_at D.s.more 167 rfl)
theorem exm_TooLarge_TestError (D : Dt K mg) : PySem.W.exmOne K (.ref (He.ga K "TooLarge")) (.ref (He.ga K "TestError")) = some true := of_decide_eq_true (fas_at D.s.more 168 rfl)
theorem kit_TooLarge_BadText (D : Dt K mg) : PySem.W.kitOne K (.ref (He.ga K "TooLarge")) (.ref (He.ga K "BadText")) = some false := of_decide_eq_true (fas_at D.s.more 169 rfl)
theorem exm_TooLarge_BadText (D : Dt K mg) : PySem.W.exmOne K (.ref (He.ga K "TooLarge")) (.ref (He.ga K "BadText")) = some false := of_decide_eq_true (fas_at D.s.more 170 rfl)
theorem kit_TooLarge_BadPaper (D : Dt K mg) : PySem.W.kitOne K (.ref (He.ga K "TooLarge")) (.ref (He.ga K "BadPaper")) = some false := of_decide_eq_true (fas_at D.s.more 171 rfl)
theorem exm_TooLarge_BadPaper (D : Dt K mg) : PySem.W.exmOne K (.ref (He.ga K "TooLarge")) (.ref (He.ga K "BadPaper")) = some false := of_decide_eq_true (fas_at D.s.more 172 rfl)
theorem kit_TooLarge_BadMachine (D : Dt K mg) : PySem.W.kitOne K (.ref (He.ga K "TooLarge")) (.ref (He.ga K "BadMachine")) = some false := of_decide_eq_true (fas_at D.s.more 173 rfl)
theorem exm_TooLarge_BadMachine (D : Dt K mg) : PySem.W.exmOne K (.ref (He.ga K "TooLarge")) (.ref (He.ga K "BadMachine")) = some false := of_decide_eq_true (fas_at D.s.more 174 rfl)
theorem kit_TooLarge_TooLarge (D : Dt K mg) : PySem.W.kitOne K (.ref (He.ga K "TooLarge")) (.ref (He.ga K "TooLarge")) = some true := of_decide_eq_true (fas_at D.s.more 175 rfl)
theorem exm_TooLarge_TooLarge (D : Dt K mg) : PySem.W.exmOne K (.ref (He.ga K "TooLarge")) (.ref (He.ga K "TooLarge")) = some true := of_decide_eq_true (fas_at D.s.more 176 rfl)
theorem kit_TooLarge_BadRatio (D : Dt K mg) : PySem.W.kitOne K (.ref (He.ga K "TooLarge")) (.ref (He.ga K "BadRatio")) = some false := of_decide_eq_true (fas_at D.s.more 177 rfl)
theorem exm_TooLarge_BadRatio (D : Dt K mg) : PySem.W.exmOne K (.ref (He.ga K "TooLarge")) (.ref (He.ga K "BadRatio")) = some false := of_decide_eq_true (fas_at D.s.more 178 rfl)
theorem kitV_BadRatio (D : Dt K mg) : PySem.W.kitOne K (.ref (He.ga K "BadRatio")) (.type "ValueError") = some true := of_decide_eq_true (fas_at D.s.more 179 rfl)
theorem kit_BadRatio_TestError (D : Dt K mg) : PySem.W.kitOne K (.ref (He.ga K "BadRatio")) (.ref (He.ga K "TestError")) = some true := of_decide_eq_true (fas_at D.s.more 180 rfl)
theorem exm_BadRatio_TestError (D : Dt K mg) : PySem.W.exmOne K (.ref (He.ga K "BadRatio")) (.ref (He.ga K "TestError")) = some true := of_decide_eq_true (fas_at D.s.more 181 rfl)
theorem kit_BadRatio_BadText (D : Dt K mg) : PySem.W.kitOne K (.ref (He.ga K "BadRatio")) (.ref (He.ga K "BadText")) = some false := of_decide_eq_true (fas_at D.s.more 182 rfl)
theorem exm_BadRatio_BadText (D : Dt K mg) : PySem.W.exmOne K (.ref (He.ga K "BadRatio")) (.ref (He.ga K "BadText")) = some false := of_decide_eq_true (fas_at D.s.more 183 rfl)
theorem kit_BadRatio_BadPaper (D : Dt K mg) : PySem.W.kitOne K (.ref (He.ga K "BadRatio")) (.ref (He.ga K "BadPaper")) = some false := of_decide_eq_true (fas_at D.s.more 184 rfl)
theorem exm_BadRatio_BadPaper (D : Dt K mg) : PySem.W.exmOne K (.ref (He.ga K "BadRatio")) (.ref (He.ga K "BadPaper")) = some false := of_decide_eq_true (fas_at D.s.more 185 rfl)
theorem kit_BadRatio_BadMachine (D : Dt K mg) : PySem.W.kitOne K (.ref (He.ga K "BadRatio")) (.ref (He.ga K "BadMachine")) = some false := of_decide_eq_true (fas_at D.s.more 186 rfl)
theorem exm_BadRatio_BadMachine (D : Dt K mg) : PySem.W.exmOne K (.ref (He.ga K "BadRatio")) (.ref (He.ga K "BadMachine")) = some false := of_decide_eq_true (fas_at D.s.more 187 rfl)
theorem kit_BadRatio_TooLarge (D : Dt K mg) : PySem.W.kitOne K (.ref (He.ga K "BadRatio")) (.ref (He.ga K "TooLarge")) = some false := of_decide_eq_true (fas_at D.s.more 188 rfl)
theorem exm_BadRatio_TooLarge (D : Dt K mg) : PySem.W.exmOne K (.ref (He.ga K "BadRatio")) (.ref (He.ga K "TooLarge")) = some false := of_decide_eq_true (fas_at D.s.more 189 rfl)
theorem kit_BadRatio_BadRatio (D : Dt K mg) : PySem.W.kitOne K (.ref (He.ga K "BadRatio")) (.ref (He.ga K "BadRatio")) = some true := of_decide_eq_true (fas_at D.s.more 190 rfl)
theorem exm_BadRatio_BadRatio (D : Dt K mg) : PySem.W.exmOne K (.ref (He.ga K "BadRatio")) (.ref (He.ga K "BadRatio")) = some true := of_decide_eq_true (fas_at D.s.more 191 rfl)
theorem fd_words_of (D : Dt K mg) : ∃ fd, FnP K "words_of" "words_of" s_words_of [] (He.ga K "words_of") fd := D.s.get 0 (d := d_words_of) rfl
theorem fd_number_of (D : Dt K mg) : ∃ fd, FnP K "number_of" "number_of" s_number_of [] (He.ga K "number_of") fd := D.s.get 1 (d := d_number_of) rfl
theorem fd__is_name (D : Dt K mg) : ∃ fd, FnP K "_is_name" "_is_name" s__is_name [] (He.ga K "_is_name") fd := D.s.get 2 (d := d__is_name) rfl
theorem fd__kept (D : Dt K mg) : ∃ fd, FnP K "_kept" "_kept" s__kept [] (He.ga K "_kept") fd := D.s.get 3 (d := d__kept) rfl
theorem fd_read_box (D : Dt K mg) : ∃ fd, FnP K "read_box" "read_box" s_read_box [] (He.ga K "read_box") fd := D.s.get 4 (d := d_read_box) rfl
theorem fd_read_around (D : Dt K mg) : ∃ fd, FnP K "read_around" "read_around" s_read_around [] (He.ga K "read_around") fd := D.s.get 5 (d := d_read_around) rfl
theorem fd__read (D : Dt K mg) : ∃ fd, FnP K "_read" "_read" s__read [] (He.ga K "_read") fd := D.s.get 6 (d := d__read) rfl
theorem fd_box_text (D : Dt K mg) : ∃ fd, FnP K "box_text" "box_text" s_box_text [] (He.ga K "box_text") fd := D.s.get 7 (d := d_box_text) rfl
theorem fd__block_words (D : Dt K mg) : ∃ fd, FnP K "_block_words" "_block_words" s__block_words [] (He.ga K "_block_words") fd := D.s.get 8 (d := d__block_words) rfl
theorem fd__statement_text (D : Dt K mg) : ∃ fd, FnP K "_statement_text" "_statement_text" s__statement_text [] (He.ga K "_statement_text") fd := D.s.get 9 (d := d__statement_text) rfl
theorem fd__choice_text (D : Dt K mg) : ∃ fd, FnP K "_choice_text" "_choice_text" s__choice_text [] (He.ga K "_choice_text") fd := D.s.get 10 (d := d__choice_text) rfl
theorem fd__expression_text (D : Dt K mg) : ∃ fd, FnP K "_expression_text" "_expression_text" s__expression_text [] (He.ga K "_expression_text") fd := D.s.get 11 (d := d__expression_text) rfl
theorem fd__law_pool (D : Dt K mg) : ∃ fd, FnP K "_law_pool" "_law_pool" s__law_pool [] (He.ga K "_law_pool") fd := D.s.get 12 (d := d__law_pool) rfl
theorem fd__law_draw (D : Dt K mg) : ∃ fd, FnP K "_law_draw" "_law_draw" s__law_draw [] (He.ga K "_law_draw") fd := D.s.get 13 (d := d__law_draw) rfl
theorem fd__law_spend (D : Dt K mg) : ∃ fd, FnP K "_law_spend" "_law_spend" s__law_spend [] (He.ga K "_law_spend") fd := D.s.get 14 (d := d__law_spend) rfl
theorem fd__law_same (D : Dt K mg) : ∃ fd, FnP K "_law_same" "_law_same" s__law_same [] (He.ga K "_law_same") fd := D.s.get 15 (d := d__law_same) rfl
theorem fd__law_value (D : Dt K mg) : ∃ fd, FnP K "_law_value" "_law_value" s__law_value [] (He.ga K "_law_value") fd := D.s.get 16 (d := d__law_value) rfl
theorem fd__law_value_words (D : Dt K mg) : ∃ fd, FnP K "_law_value_words" "_law_value_words" s__law_value_words [] (He.ga K "_law_value_words") fd := D.s.get 17 (d := d__law_value_words) rfl
theorem fd__law_is_name (D : Dt K mg) : ∃ fd, FnP K "_law_is_name" "_law_is_name" s__law_is_name [] (He.ga K "_law_is_name") fd := D.s.get 18 (d := d__law_is_name) rfl
theorem fd__law_is_number (D : Dt K mg) : ∃ fd, FnP K "_law_is_number" "_law_is_number" s__law_is_number [] (He.ga K "_law_is_number") fd := D.s.get 19 (d := d__law_is_number) rfl
theorem fd__law_values (D : Dt K mg) : ∃ fd, FnP K "_law_values" "_law_values" s__law_values [] (He.ga K "_law_values") fd := D.s.get 20 (d := d__law_values) rfl
theorem fd__law_spoilt (D : Dt K mg) : ∃ fd, FnP K "_law_spoilt" "_law_spoilt" s__law_spoilt [] (He.ga K "_law_spoilt") fd := D.s.get 21 (d := d__law_spoilt) rfl
theorem fd__law_changed (D : Dt K mg) : ∃ fd, FnP K "_law_changed" "_law_changed" s__law_changed [] (He.ga K "_law_changed") fd := D.s.get 22 (d := d__law_changed) rfl
theorem fd__law_joined (D : Dt K mg) : ∃ fd, FnP K "_law_joined" "_law_joined" s__law_joined [] (He.ga K "_law_joined") fd := D.s.get 23 (d := d__law_joined) rfl
theorem fd__law_menu (D : Dt K mg) : ∃ fd, FnP K "_law_menu" "_law_menu" s__law_menu [] (He.ga K "_law_menu") fd := D.s.get 24 (d := d__law_menu) rfl
theorem fd__law_names (D : Dt K mg) : ∃ fd, FnP K "_law_names" "_law_names" s__law_names [] (He.ga K "_law_names") fd := D.s.get 25 (d := d__law_names) rfl
theorem fd__law_block (D : Dt K mg) : ∃ fd, FnP K "_law_block" "_law_block" s__law_block [] (He.ga K "_law_block") fd := D.s.get 26 (d := d__law_block) rfl
theorem fd__law_statement (D : Dt K mg) : ∃ fd, FnP K "_law_statement" "_law_statement" s__law_statement [] (He.ga K "_law_statement") fd := D.s.get 27 (d := d__law_statement) rfl
theorem fd__law_box (D : Dt K mg) : ∃ fd, FnP K "_law_box" "_law_box" s__law_box [] (He.ga K "_law_box") fd := D.s.get 28 (d := d__law_box) rfl
theorem fd__law_block_words (D : Dt K mg) : ∃ fd, FnP K "_law_block_words" "_law_block_words" s__law_block_words [] (He.ga K "_law_block_words") fd := D.s.get 29 (d := d__law_block_words) rfl
theorem fd__law_words (D : Dt K mg) : ∃ fd, FnP K "_law_words" "_law_words" s__law_words [] (He.ga K "_law_words") fd := D.s.get 30 (d := d__law_words) rfl
theorem fd__law_blocks (D : Dt K mg) : ∃ fd, FnP K "_law_blocks" "_law_blocks" s__law_blocks [] (He.ga K "_law_blocks") fd := D.s.get 31 (d := d__law_blocks) rfl
theorem fd__law_next (D : Dt K mg) : ∃ fd, FnP K "_law_next" "_law_next" s__law_next [] (He.ga K "_law_next") fd := D.s.get 32 (d := d__law_next) rfl
theorem fd__law_wrong (D : Dt K mg) : ∃ fd, FnP K "_law_wrong" "_law_wrong" s__law_wrong [] (He.ga K "_law_wrong") fd := D.s.get 33 (d := d__law_wrong) rfl
theorem fd_law (D : Dt K mg) : ∃ fd, FnP K "law" "law" s_law [] (He.ga K "law") fd := D.s.get 34 (d := d_law) rfl
theorem fd_BadText_init (D : Dt K mg) : ∃ fd, FnP K "__init__" "BadText.__init__" s_BadText_init [] (He.ma K (He.ga K "BadText") "__init__") fd := D.s.get 35 (d := d_BadText_init) rfl
theorem fd_BadPaper_init (D : Dt K mg) : ∃ fd, FnP K "__init__" "BadPaper.__init__" s_BadPaper_init [] (He.ma K (He.ga K "BadPaper") "__init__") fd := D.s.get 36 (d := d_BadPaper_init) rfl
theorem fd_BadMachine_init (D : Dt K mg) : ∃ fd, FnP K "__init__" "BadMachine.__init__" s_BadMachine_init [] (He.ma K (He.ga K "BadMachine") "__init__") fd := D.s.get 37 (d := d_BadMachine_init) rfl
theorem fd_TooLarge_init (D : Dt K mg) : ∃ fd, FnP K "__init__" "TooLarge.__init__" s_TooLarge_init [] (He.ma K (He.ga K "TooLarge") "__init__") fd := D.s.get 38 (d := d_TooLarge_init) rfl
theorem fd_Reader_init (D : Dt K mg) : ∃ fd, FnP K "__init__" "Reader.__init__" s_Reader_init [] (He.ma K (He.ga K "Reader") "__init__") fd := D.s.get 39 (d := d_Reader_init) rfl
theorem fd_Reader_read (D : Dt K mg) : ∃ fd, FnP K "read" "Reader.read" s_Reader_read [] (He.ma K (He.ga K "Reader") "read") fd := D.s.get 40 (d := d_Reader_read) rfl
theorem fd_Reader__here (D : Dt K mg) : ∃ fd, FnP K "_here" "Reader._here" s_Reader__here [] (He.ma K (He.ga K "Reader") "_here") fd := D.s.get 41 (d := d_Reader__here) rfl
theorem fd_Reader__go_on (D : Dt K mg) : ∃ fd, FnP K "_go_on" "Reader._go_on" s_Reader__go_on [] (He.ma K (He.ga K "Reader") "_go_on") fd := D.s.get 42 (d := d_Reader__go_on) rfl
theorem fd_Reader__take (D : Dt K mg) : ∃ fd, FnP K "_take" "Reader._take" s_Reader__take [] (He.ma K (He.ga K "Reader") "_take") fd := D.s.get 43 (d := d_Reader__take) rfl
theorem fd_Reader__number (D : Dt K mg) : ∃ fd, FnP K "_number" "Reader._number" s_Reader__number [] (He.ma K (He.ga K "Reader") "_number") fd := D.s.get 44 (d := d_Reader__number) rfl
theorem fd_Reader__new_name (D : Dt K mg) : ∃ fd, FnP K "_new_name" "Reader._new_name" s_Reader__new_name [] (He.ma K (He.ga K "Reader") "_new_name") fd := D.s.get 45 (d := d_Reader__new_name) rfl
theorem fd_Reader__variable (D : Dt K mg) : ∃ fd, FnP K "_variable" "Reader._variable" s_Reader__variable [] (He.ma K (He.ga K "Reader") "_variable") fd := D.s.get 46 (d := d_Reader__variable) rfl
theorem fd_Reader__is_variable (D : Dt K mg) : ∃ fd, FnP K "_is_variable" "Reader._is_variable" s_Reader__is_variable [] (He.ma K (He.ga K "Reader") "_is_variable") fd := D.s.get 47 (d := d_Reader__is_variable) rfl
theorem fd_Reader__may_begin (D : Dt K mg) : ∃ fd, FnP K "_may_begin" "Reader._may_begin" s_Reader__may_begin [] (He.ma K (He.ga K "Reader") "_may_begin") fd := D.s.get 48 (d := d_Reader__may_begin) rfl
theorem fd_Reader__statements (D : Dt K mg) : ∃ fd, FnP K "_statements" "Reader._statements" s_Reader__statements [] (He.ma K (He.ga K "Reader") "_statements") fd := D.s.get 49 (d := d_Reader__statements) rfl
theorem fd_Reader__statement (D : Dt K mg) : ∃ fd, FnP K "_statement" "Reader._statement" s_Reader__statement [] (He.ma K (He.ga K "Reader") "_statement") fd := D.s.get 50 (d := d_Reader__statement) rfl
theorem fd_Reader__choice (D : Dt K mg) : ∃ fd, FnP K "_choice" "Reader._choice" s_Reader__choice [] (He.ma K (He.ga K "Reader") "_choice") fd := D.s.get 51 (d := d_Reader__choice) rfl
theorem fd_Reader__expression (D : Dt K mg) : ∃ fd, FnP K "_expression" "Reader._expression" s_Reader__expression [] (He.ma K (He.ga K "Reader") "_expression") fd := D.s.get 52 (d := d_Reader__expression) rfl
theorem fd_Reader__leaf (D : Dt K mg) : ∃ fd, FnP K "_leaf" "Reader._leaf" s_Reader__leaf [] (He.ma K (He.ga K "Reader") "_leaf") fd := D.s.get 53 (d := d_Reader__leaf) rfl
theorem fd_Box_init (D : Dt K mg) : ∃ fd, FnP K "__init__" "Box.__init__" s_Box_init [] (He.ma K (He.ga K "Box") "__init__") fd := D.s.get 54 (d := d_Box_init) rfl
theorem fd_Box_eq (D : Dt K mg) : ∃ fd, FnP K "__eq__" "Box.__eq__" s_Box_eq [] (He.ma K (He.ga K "Box") "__eq__") fd := D.s.get 55 (d := d_Box_eq) rfl
end
abbrev R : PySem.W.OpenRow := PySem.W.OpenLaw.row PySem.Challenge.rw_notesttells_k50_whole_boxes_are_read_exa
abbrev hk : PySem.W.Hook := hookY 4 ex fn
def ob (s : PySem.W.SharedT) : He.AlD := obsYG 4 ex fn (HandSHeadRun.getT s)
theorem ob_eq (s : PySem.W.SharedT) : ob s = hk.obs s.abs := obsYG_eq (HandSHeadRun.getT_eq s)
def loose0 : List Str := ["__name__", "TestError", "BadText", "BadPaper", "BadMachine", "TooLarge", "BadRatio", "MOST_BUTTONS", "MOST_ANSWERS", "words_of", "number_of", "STATEMENTS", "OPERATORS", "RESERVED", "MOST_VARIABLES", "MOST_LETTERS", "MOST_SIZE", "MOST_DRAWN", "MOST_DRAWS", "MOST_USES"]
def loose1 : List Str := ["MOST_NUMBER", "DEEPEST_IF", "DEEPEST_EXPRESSION", "Reader", "_is_name", "Box", "_kept", "read_box", "read_around", "_read", "box_text", "_block_words", "_statement_text", "_choice_text", "_expression_text", "_law_pool", "_law_draw", "_law_spend", "_law_same", "_law_value"]
def loose2 : List Str := ["_law_value_words", "_law_is_name", "_law_is_number", "_law_values", "_law_spoilt", "_law_changed", "_law_joined", "_law_menu", "_law_names", "_law_block", "_law_statement", "_law_box", "_law_block_words", "_law_words", "_law_blocks", "_law_next", "_law_wrong"]
def loose : List Str := loose0 ++ loose1 ++ loose2
abbrev vw : Program := PySem.W.view R.prog [61]
theorem run (w : World) : HandSHeadRun.RunEq R vw hk ob 20000 loose w := by
  intro os
  kernel_rfl
end Hd


set_option Elab.async false
set_option linter.all false
set_option maxRecDepth 100000
set_option maxHeartbeats 4000000
set_option exponentiation.threshold 5000
namespace K
open PySem PySem.Spec PyProof.Rows L2 Tk Hd
/-- what is wanted of a def that hands back an x and leaves all else -/
def Ret {α : Type} (ms : List Addr) (I H : Hp) (R : Rp α) (x : α) (Q : VK) : Prop := ∀ I' H' v, Gr ms I H I' H' → R I' v x → Q v H'
theorem upd3 {H : Hp} {x : Addr} {a b c : HO} : upd (upd (upd H x a) x b) x c = upd H x c := by rw [upd_upd, upd_upd]
theorem kit_self {K : PySem.W.Frag} {t : Value} : PySem.W.kitOne K t t = some true := by
  unfold PySem.W.kitOne; rw [if_pos (by simp)]
theorem str_app (a b : String) : (PySem.Str.ofString (a ++ b)) = PySem.Str.ofString a ++ PySem.Str.ofString b := by
  rw [PySem.Str.ofString_eq_toList, PySem.Str.ofString_eq_toList, PySem.Str.ofString_eq_toList, String.toList_append, List.map_append]
  show _ = PySem.Str.append _ _
  simp [PySem.Str.append]
theorem empty_app (a : Str) : Str.empty ++ a = a := by
  show PySem.Str.append _ _ = _
  simp [PySem.Str.append, PySem.Str.empty]
theorem app_len (a b : Str) : (a ++ b).length = a.length + b.length := by
  show (PySem.Str.append a b).length = _
  simp [PySem.Str.append, PySem.Str.length]
theorem line_of {n : Nat} (h : n ≤ 1000000) : n ≤ sizeLine := Nat.le_trans h (by decide)
/-! ### the law's draws -/
def plist (c : Addr) (pos : Nat) (big seed left bud : Int) : List V := [.ref c, .int pos, .int big, .int seed, .int left, .int bud]
def PoolOk (I H : Hp) (p : Addr) : Prop := I p = none ∧ ∃ (c : Addr) (cells : List Int) (pos : Nat) (big seed left bud : Int), I c = some (.lst (cells.map V.int)) ∧ cells.length ≤ 1000000 ∧ pos ≤ cells.length ∧ H p = some (.lst (plist c pos big seed left bud))
theorem PoolOk.up {ms : List Addr} {I H I' H' : Hp} {p : Addr} (h : PoolOk I H p) (g : Gr ms I H I' H') (n : p ∉ ms) : PoolOk I' H' p := by
  obtain ⟨i, c, cells, pos, b, s, l, u, h1, h2, h3, h4⟩ := h
  exact ⟨g.out i h4, c, cells, pos, b, s, l, u, g.ii _ _ h1, h2, h3, g.at h4 n⟩
section
variable {P : Program} {w : World} {K : PySem.W.Frag} {mg : Str → Option Value} {base : Heap}
def spPool (K : PySem.W.Frag) : Sp := fun vs H Q _ => ∃ (I : Hp) (a : Addr) (ns : List Int) (b : Int), vs = [.ref a, .int b] ∧ Same I H ∧ SqL K H a (ns.map V.int) ∧ ns.length ≤ 1000000 ∧
  ∀ I' H' p, Gr [] I H I' H' → PoolOk I' H' p → H p = none → Q (.ref p) H'
theorem sc_pool : FnScope ["script", "budget"] ["script", "budget"] (defScope s__law_pool) := ⟨rfl, rfl, rfl, by decide +kernel, rfl, by decide +kernel, by decide +kernel⟩
theorem ok_pool (D : Dt K mg) : Has P w K mg base 1 (He.ga K "_law_pool") ["script", "budget"] [] (spPool K) := by
  obtain ⟨fd, F⟩ := fd__law_pool D
  refine hasN F (F.bindsN fun _ _ _ _ _ _ us hl => match us, hl with | [_, _], _ => rfl) sc_pool (fun vs H Q E h => ?_) (fun cdv A outer s H vs Q E hr h => ?_)
  · obtain ⟨I, a, ns, b, rfl, _⟩ := h; rfl
  · obtain ⟨I, a, ns, b, rfl, s0, hS, hl, k⟩ := h
    refine ⟨_, (pss_one (ps_ret (pe_lst (pa_cons (pe_callTy call_list_of rfl (free_list D) (by decide +kernel) (pa_cons (pv 0) pa_nil)) (pa_cons pe_int (pa_cons pe_int (pa_cons pe_int (pa_cons pe_int (pa_cons (pv 1) pa_nil))))))))), ?_⟩
    refine ⟨_, rfl, a, _, rfl, .inl hS, fun c hc => ?_⟩
    refine ⟨_, rfl, (by show 6 ≤ sizeLine; decide), fun p hp => ?_⟩
    have npc : p ≠ c := fun e => by rw [e, upd_same] at hp; cases hp
    have hp0 : H p = none := by rw [upd_ne npc] at hp; exact hp
    have g : Gr [] I H (upd I c (.lst (ns.map V.int))) (upd (upd H c (.lst (ns.map V.int))) p (.lst (plist c 0 0 1 0 b))) := (Gr.new s0 hc).trans (Gr.tmp (sBoth s0) hp)
    exact k _ _ p g ⟨by rw [upd_ne npc]; exact s0.free hp0, c, ns, 0, 0, 1, 0, b, upd_same, hl, Nat.zero_le _, upd_same⟩ hp0
def spDraw : Sp := fun vs H Q _ => ∃ (I : Hp) (p : Addr) (n : Int), vs = [.ref p, .int n] ∧ Same I H ∧ PoolOk I H p ∧ 0 < n ∧ n < 2 ^ 64 ∧
  ∀ (v : Int) H', 0 ≤ v → v < n → Gr [p] I H I H' → PoolOk I H' p → Q (.int v) H'
theorem sc_draw : FnScope ["pool", "size", "cell", "value"] ["pool", "size"] (defScope s__law_draw) := ⟨rfl, rfl, rfl, by decide +kernel, rfl, by decide +kernel, by decide +kernel⟩
theorem mulc {i : Int} {j : Int} (h1 : -(2 ^ 64) < j) (h2 : j < 2 ^ 64) : CMul i j := .inr ⟨h1, h2⟩
theorem ok_draw (D : Dt K mg) : Has P w K mg base 1 (He.ga K "_law_draw") ["pool", "size"] [] spDraw := by
  obtain ⟨fd, F⟩ := fd__law_draw D
  refine hasN F (F.bindsN fun _ _ _ _ _ _ us hl => match us, hl with | [_, _], _ => rfl) sc_draw (fun vs H Q E h => ?_) (fun cdv A outer s H vs Q E hr h => ?_)
  · obtain ⟨I, p, n, rfl, _⟩ := h; rfl
  · obtain ⟨I, p, n, rfl, s0, ⟨hI, c, cells, pos, big, seed, left, bud, hc, hl, hpos, hp⟩, hn0, hn1, k⟩ := h
    refine ⟨_, (pss_cons (ps_if (PW.pt (pw_and (pt_cmpR op_le (pe_ix ix_list (pv 0) pe_int (fun _ _ => rfl)) pe_int (nomark _)) (pw_and (pt_cmpR op_le (pe_ix ix_list (pv 0) pe_int (fun _ _ => rfl)) pe_int (nomark _)) (pw_and1 (pt_cmpR op_lt (pe_ix ix_list (pv 0) pe_int (fun _ _ => rfl)) (pe_callB call_len rfl (free_len D) PySem.boot_len (pa_cons (pe_ix ix_list (pv 0) pe_int (fun _ _ => rfl)) pa_nil)) (nomark _))))))
      (pss_cons (ps_set (i := 2) sc_draw.nd rfl (Or.inl rfl) (pe_ix ix_list (pe_ix ix_list (pv 0) pe_int (fun _ _ => rfl)) (pe_ix ix_list (pv 0) pe_int (fun _ _ => rfl)) (fun _ _ => rfl)))
      (pss_cons (ps_asg (pe_op op_add (pe_ix ix_list (pv 0) pe_int (fun _ _ => rfl)) pe_int) (pg_sub (pv 0) pe_int set_list))
      (pss_cons (ps_asg (pe_op op_mod (pe_callTy call_int1 rfl (free_int D) (by decide +kernel) (pa_cons (pe_op op_add (pe_op op_mul (pe_ix ix_list (pv 0) pe_int (fun _ _ => rfl)) pe_int) (pv 2)) pa_nil)) pe_int) (pg_sub (pv 0) pe_int set_list))
      (pss_cons (ps_asg pe_int (pg_sub (pv 0) pe_int set_list))
      (pss_one (ps_if (pt_cmpR op_ge (pv 2) (pe_op op_pow pe_int pe_int) (nomark _))
      (pss_one (ps_asg (pv 2) (pg_sub (pv 0) pe_int set_list)))
      pss_nil))))))
      pss_nil)
      (pss_cons (ps_if (pt_cmpR op_gt (pe_ix ix_list (pv 0) pe_int (fun _ _ => rfl)) pe_int (nomark _))
      (pss_cons (ps_set (i := 3) sc_draw.nd rfl (Or.inl rfl) (pe_op op_mod (pe_callTy call_int1 rfl (free_int D) (by decide +kernel) (pa_cons (pe_ix ix_list (pv 0) pe_int (fun _ _ => rfl)) pa_nil)) (pv 1)))
      (pss_cons (ps_asg (pe_op op_fdivW (pe_ix ix_list (pv 0) pe_int (fun _ _ => rfl)) (pv 1)) (pg_sub (pv 0) pe_int set_list))
      (pss_cons (ps_asg pe_int (pg_sub (pv 0) pe_int set_list))
      (pss_one (ps_ret (pv 3))))))
      pss_nil)
      (pss_cons (ps_asg (pe_op op_sub (pe_ix ix_list (pv 0) pe_int (fun _ _ => rfl)) pe_int) (pg_sub (pv 0) pe_int set_list))
      (pss_cons (ps_asg (pe_op op_mod (pe_callTy call_int1 rfl (free_int D) (by decide +kernel) (pa_cons (pe_op op_add (pe_op op_mul (pe_ix ix_list (pv 0) pe_int (fun _ _ => rfl)) pe_int) pe_int) pa_nil)) pe_int) (pg_sub (pv 0) pe_int set_list))
      (pss_one (ps_ret (pe_op op_mod (pe_op op_mod (pe_callTy call_int1 rfl (free_int D) (by decide +kernel) (pa_cons (pe_op op_add (pe_op op_mul (pe_ix ix_list (pv 0) pe_int (fun _ _ => rfl)) pe_int) pe_int) pa_nil)) pe_int) (pv 1)))))))), ?_⟩
    refine seq_cut (fun σ' H' => ∃ (v : Option V) (pos' : Nat) (big' seed' left' : Int), σ' = [some (.ref p), some (.int n), v, none] ∧ Gr [p] I H I H' ∧ pos' ≤ cells.length ∧ H' p = some (.lst (plist c pos' big' seed' left' bud))) (fun nx q => ?_) ?_
    · have hc' := s0 _ _ hc
      have stay : nx [some (.ref p), some (.int n), none, none] H := q _ _ ⟨none, pos, big, seed, left, rfl, Gr.refl s0, hpos, hp⟩
      refine ⟨_, rfl, _, _, _, _, rfl, rfl, SqL.of hp, at_of (j := 2) rfl rfl, _, _, rfl, rfl, _, rfl, ifD (fun _ => ?_) (fun _ => iteF stay)⟩
      refine ⟨_, rfl, _, _, _, _, rfl, rfl, SqL.of hp, at_of (j := 4) rfl rfl, _, _, rfl, rfl, _, rfl, ifD (fun _ => ?_) (fun _ => iteF stay)⟩
      refine ⟨_, rfl, _, _, _, _, rfl, rfl, SqL.of hp, at_of (j := 1) rfl rfl, _, rfl, _, _, _, _, rfl, rfl, SqL.of hp, at_of (j := 0) rfl rfl, _, cells.length, rfl, .inl ⟨_, SqL.of hc', by simp⟩, _, _, rfl, rfl, _, rfl, ?_⟩
      refine ifD (fun hlt => ?_) (fun _ => stay)
      have hlt' : pos < cells.length := by omega
      have hcell : (cells.map V.int)[pos]? = some (.int cells[pos]) := by rw [List.getElem?_map, List.getElem?_eq_getElem hlt']; rfl
      refine ⟨_, rfl, _, _, _, _, rfl, rfl, SqL.of hp, at_of (j := 0) rfl rfl, _, rfl, _, _, _, _, rfl, rfl, SqL.of hp, at_of (j := 1) rfl rfl, _, _, _, _, rfl, rfl, SqL.of hc', at_of rfl hcell, ?_⟩
      refine ⟨_, rfl, _, _, _, _, rfl, rfl, SqL.of hp, at_of (j := 1) rfl rfl, _, _, rfl, rfl, _, rfl, _, _, _, _, rfl, rfl, hp, (show ixN _ _ = some 1 from rfl), ?_⟩
      refine ⟨_, rfl, _, _, _, _, rfl, rfl, SqL.of upd_same, at_of (j := 3) rfl rfl, _, _, rfl, rfl, mulc (by decide) (by decide), _, rfl, _, _, rfl, rfl, .inl ⟨_, rfl, _, _, rfl, rfl, (by show (0 : Int) < 2147483647; decide), _, rfl, _, _, _, _, rfl, rfl, upd_same, (show ixN _ _ = some 3 from rfl), ?_⟩⟩
      refine ⟨_, rfl, _, _, _, _, rfl, rfl, upd_same, (show ixN _ _ = some 4 from rfl), ?_⟩
      have hg : ∀ l : List V, Gr [p] I H I (upd H p (.lst l)) := fun l => Gr.mut s0 hI (by simp)
      refine ⟨_, rfl, _, _, rfl, rfl, ⟨by decide, by decide, by decide⟩, _, _, rfl, rfl, _, rfl, ifD (fun _ => ?_) (fun _ => ?_)⟩
      · refine ⟨_, rfl, _, rfl, _, _, _, _, rfl, rfl, upd_same, (show ixN _ _ = some 2 from rfl), ?_⟩
        refine q _ _ ⟨some (.int cells[pos]), pos + 1, cells[pos], (seed * 31 + cells[pos]) % 2147483647, 7, rfl, ?_, by omega, ?_⟩
        · rw [upd_upd, upd_upd, upd_upd]; exact hg _
        · rw [upd_same]; rfl
      · refine q _ _ ⟨some (.int cells[pos]), pos + 1, big, (seed * 31 + cells[pos]) % 2147483647, 7, rfl, ?_, by omega, ?_⟩
        · rw [upd_upd, upd_upd]; exact hg _
        · rw [upd_same]; rfl
    · rintro σ' H' ⟨v, pos, big, seed, left, rfl, g, hpos, hp⟩
      have s1 : Same I H' := g.ih
      refine ⟨_, rfl, _, _, _, _, rfl, rfl, SqL.of hp, at_of (j := 2) rfl rfl, _, _, rfl, rfl, _, rfl, ifD (fun _ => ?_) (fun _ => ?_)⟩
      · refine ⟨_, rfl, _, _, _, _, rfl, rfl, SqL.of hp, at_of (j := 2) rfl rfl, .inl ⟨_, rfl, _, rfl, _, _, rfl, rfl, hn0, ?_⟩⟩
        refine ⟨_, rfl, _, _, _, _, rfl, rfl, SqL.of hp, at_of (j := 2) rfl rfl, _, rfl, _, _, rfl, rfl, wide_div hn0 (b := 64) (by omega) (by decide) (by decide), _, rfl, _, _, _, _, rfl, rfl, hp, (show ixN _ _ = some 2 from rfl), ?_⟩
        refine ⟨_, rfl, _, _, _, _, rfl, rfl, upd_same, (show ixN _ _ = some 4 from rfl), _, rfl, ?_⟩
        have hm := Int.emod_nonneg big (by omega : n ≠ 0)
        have hm2 := Int.emod_lt_of_pos big hn0
        rw [upd_upd]
        exact k _ _ hm hm2 (g.trans (Gr.mut s1 hI (by simp))) ⟨hI, c, cells, pos, big / n, seed, 0, bud, hc, hl, hpos, upd_same⟩
      · refine ⟨_, rfl, _, _, _, _, rfl, rfl, SqL.of hp, at_of (j := 4) rfl rfl, _, _, rfl, rfl, _, rfl, _, _, _, _, rfl, rfl, hp, (show ixN _ _ = some 4 from rfl), ?_⟩
        refine ⟨_, rfl, _, _, _, _, rfl, rfl, SqL.of upd_same, at_of (j := 3) rfl rfl, _, _, rfl, rfl, mulc (by decide) (by decide), _, _, rfl, rfl, .inl ⟨_, rfl, _, _, rfl, rfl, (by show (0 : Int) < 2147483647; decide), _, rfl, _, _, _, _, rfl, rfl, upd_same, (show ixN _ _ = some 3 from rfl), ?_⟩⟩
        refine ⟨_, rfl, _, _, _, _, rfl, rfl, SqL.of upd_same, at_of (j := 3) rfl rfl, _, _, rfl, rfl, mulc (by decide) (by decide), _, _, rfl, rfl, .inl ⟨_, rfl, _, _, rfl, rfl, (by show (0 : Int) < 2147483647; decide), _, rfl, _, _, rfl, rfl, hn0, ?_⟩⟩
        rw [upd_upd]
        exact k _ _ (Int.emod_nonneg _ (by omega)) (Int.emod_lt_of_pos _ hn0) (g.trans (Gr.mut s1 hI (by simp))) ⟨hI, c, cells, pos, big, _, left - 1, bud, hc, hl, hpos, upd_same⟩
/-! ### _law_same -/
def spSame (n : Nat) : Sp := fun vs H Q _ => ∃ (a d : V) (x y : Da), vs = [a, d] ∧ dR H a x ∧ dR H d y ∧ dep y ≤ n ∧ tame x ∧ tame y ∧ Q (.bl (eqd x y)) H
theorem sc_same : FnScope ["actual", "due", "k"] ["actual", "due"] (defScope s__law_same) := ⟨rfl, rfl, rfl, by decide +kernel, rfl, by decide +kernel, by decide +kernel⟩
theorem dec_bl' (a b : Bool) : decide (V.bl a = V.bl b) = (a == b) := dec_bl
/-- nothing in it: no list, no tuple -/
theorem ok_same0 (D : Dt K mg) {fd : FuncData} (F : FnP K "_law_same" "_law_same" s__law_same [] (He.ga K "_law_same") fd) : FnOk P w K mg base (L2.CX P w) 1 (He.ga K "_law_same") fd ["actual", "due"] (fun vs H Q _ => ∃ (a d : V) (x y : Da), vs = [a, d] ∧ dR H a x ∧ dR H d y ∧ isT y "tuple" = false ∧ isT y "list" = false ∧ Q (.bl (eqd x y)) H) := by
  refine fnN F sc_same (fun vs H Q E h => ?_) (fun cdv A outer s H vs Q E hr h => ?_)
  · obtain ⟨a, d, x, y, rfl, _⟩ := h; rfl
  · obtain ⟨a, d, x, y, rfl, hx, hy, y1, y2, k⟩ := h
    refine ⟨_, (pss_cons (ps_if (PW.pt (pw_or (pt_val (pe_callB call_isi rfl (free_isinstance D) (by decide +kernel) (pa_cons (pv 1) (pa_cons (pe_bltn (v := .ty "tuple") rfl (free_tuple D) (by decide +kernel) rfl) pa_nil)))) (pw_or1 (pt_val (pe_callB call_isi rfl (free_isinstance D) (by decide +kernel) (pa_cons (pv 1) (pa_cons (pe_bltn (v := .ty "list") rfl (free_list D) (by decide +kernel) rfl) pa_nil))))))) pss_never pss_nil)
      (pss_cons (ps_if (PW.pt (pw_or (pt_cmpR op_isN (pv 1) pe_non (nomark _)) (pw_or1 (pt_val (pe_callB call_isi rfl (free_isinstance D) (by decide +kernel) (pa_cons (pv 1) (pa_cons (pe_bltn (v := .ty "bool") rfl (free_bool D) (by decide +kernel) rfl) pa_nil)))))))
      (pss_one (ps_ret (pe_and (pe_cmpR op_eq (pe_cmpR op_isN (pv 0) pe_non (nomark _)) (pe_cmpR op_isN (pv 1) pe_non (nomark _)) (nomark _)) (pe_and (pe_or (pe_cmpR op_isN (pv 1) pe_non (nomark _)) (pe_one (pe_callB call_isi rfl (free_isinstance D) (by decide +kernel) (pa_cons (pv 0) (pa_cons (pe_bltn (v := .ty "bool") rfl (free_bool D) (by decide +kernel) rfl) pa_nil))))) (pe_one (pe_cmpR op_eq (pv 0) (pv 1) (nomark _)))))))
      pss_nil)
      (pss_cons (ps_if (pt_val (pe_callB call_isi rfl (free_isinstance D) (by decide +kernel) (pa_cons (pv 1) (pa_cons (pe_bltn (v := .ty "int") rfl (free_int D) (by decide +kernel) rfl) pa_nil))))
      (pss_one (ps_ret (pe_and (pe_callB call_isi rfl (free_isinstance D) (by decide +kernel) (pa_cons (pv 0) (pa_cons (pe_bltn (v := .ty "int") rfl (free_int D) (by decide +kernel) rfl) pa_nil))) (pe_and (pe_not (pe_callB call_isi rfl (free_isinstance D) (by decide +kernel) (pa_cons (pv 0) (pa_cons (pe_bltn (v := .ty "bool") rfl (free_bool D) (by decide +kernel) rfl) pa_nil)))) (pe_one (pe_cmpR op_eq (pv 0) (pv 1) (nomark _)))))))
      pss_nil)
      (pss_one (ps_ret (pe_and (pe_callB call_isi rfl (free_isinstance D) (by decide +kernel) (pa_cons (pv 0) (pa_cons (pe_bltn (v := .ty "str") rfl (free_str D) (by decide +kernel) rfl) pa_nil))) (pe_one (pe_cmpR op_eq (pv 0) (pv 1) (nomark _))))))))), ?_⟩
    have cv : ∀ T : String, ClsV (.ty T) (.type T) := fun T => .ty T
    refine ⟨_, rfl, _, _, _, _, _, rfl, cv _, knd_ty hy, knd_tuple y, _, rfl, ifF y1 ?_⟩
    refine ⟨_, rfl, _, _, _, _, _, rfl, cv _, knd_ty hy, knd_list y, _, rfl, ifF y2 ?_⟩
    have nx := non_dec hx
    have ny := non_dec hy
    refine ⟨_, rfl, rfl, _, rfl, ?_⟩
    rw [ny]
    have finN : isNon y = true ∨ isT y "bool" = true → ∀ σ : L2.St, True := fun _ _ => trivial
    cases y with
    | lst l => simp [isT] at y2
    | tup l => simp [isT] at y1
    | non =>
      refine iteT ?_
      simp only [dR] at hy
      subst hy
      refine ⟨_, rfl, rfl, _, rfl, rfl, rfl, _, rfl, ?_⟩
      rw [nx, ny]
      cases x with
      | non =>
        simp only [dR] at hx; subst hx
        refine iteT ⟨_, rfl, rfl, _, rfl, iteT ⟨_, rfl, iteT ⟨_, rfl, _, rfl, rfl, ?_⟩⟩⟩
        exact k
      | _ => exact iteF k
    | bl b =>
      refine iteF ⟨_, rfl, _, _, _, _, _, rfl, cv _, knd_ty hy, knd_bool (.bl b), _, rfl, iteT ?_⟩
      refine ⟨_, rfl, rfl, _, rfl, rfl, rfl, _, rfl, ?_⟩
      rw [nx, ny]
      simp only [dR] at hy
      subst hy
      cases x with
      | non => exact iteF k
      | bl c =>
        refine iteT ⟨_, rfl, rfl, _, rfl, iteF ⟨_, rfl, _, _, _, _, _, rfl, cv _, knd_ty hx, knd_bool (.bl c), _, rfl, iteT ?_⟩⟩
        simp only [dR] at hx
        subst hx
        refine ⟨_, rfl, _, rfl, rfl, ?_⟩
        have e : decide (V.bl c = V.bl b) = eqd (.bl c) (.bl b) := by simp [eqd]
        rw [← e] at k; exact k
      | int i => exact iteT ⟨_, rfl, rfl, _, rfl, iteF ⟨_, rfl, _, _, _, _, _, rfl, cv _, knd_ty hx, knd_bool (.int i), _, rfl, iteF k⟩⟩
      | str i => exact iteT ⟨_, rfl, rfl, _, rfl, iteF ⟨_, rfl, _, _, _, _, _, rfl, cv _, knd_ty hx, knd_bool (.str i), _, rfl, iteF k⟩⟩
      | lst i => exact iteT ⟨_, rfl, rfl, _, rfl, iteF ⟨_, rfl, _, _, _, _, _, rfl, cv _, knd_ty hx, knd_bool (.lst i), _, rfl, iteF k⟩⟩
      | tup i => exact iteT ⟨_, rfl, rfl, _, rfl, iteF ⟨_, rfl, _, _, _, _, _, rfl, cv _, knd_ty hx, knd_bool (.tup i), _, rfl, iteF k⟩⟩
    | int b =>
      refine iteF ⟨_, rfl, _, _, _, _, _, rfl, cv _, knd_ty hy, knd_bool (.int b), _, rfl, iteF ?_⟩
      refine ⟨_, rfl, _, _, _, _, _, rfl, cv _, knd_ty hy, knd_int (.int b), _, rfl, iteT ?_⟩
      simp only [dR] at hy
      subst hy
      cases x with
      | int c =>
        refine ⟨_, rfl, _, _, _, _, _, rfl, cv _, knd_ty hx, knd_int (.int c), _, rfl, iteT ?_⟩
        refine ⟨_, rfl, _, _, _, _, _, rfl, cv _, knd_ty hx, knd_bool (.int c), _, rfl, _, rfl, iteT ?_⟩
        simp only [dR] at hx
        subst hx
        refine ⟨_, rfl, _, rfl, rfl, ?_⟩
        have e : decide (V.int c = V.int b) = eqd (.int c) (.int b) := by simp [eqd]
        rw [← e] at k; exact k
      | bl c =>
        refine ⟨_, rfl, _, _, _, _, _, rfl, cv _, knd_ty hx, knd_int (.bl c), _, rfl, iteT ?_⟩
        exact ⟨_, rfl, _, _, _, _, _, rfl, cv _, knd_ty hx, knd_bool (.bl c), _, rfl, _, rfl, iteF k⟩
      | non => exact ⟨_, rfl, _, _, _, _, _, rfl, cv _, knd_ty hx, knd_int .non, _, rfl, iteF k⟩
      | str c => exact ⟨_, rfl, _, _, _, _, _, rfl, cv _, knd_ty hx, knd_int (.str c), _, rfl, iteF k⟩
      | lst c => exact ⟨_, rfl, _, _, _, _, _, rfl, cv _, knd_ty hx, knd_int (.lst c), _, rfl, iteF k⟩
      | tup c => exact ⟨_, rfl, _, _, _, _, _, rfl, cv _, knd_ty hx, knd_int (.tup c), _, rfl, iteF k⟩
    | str b =>
      refine iteF ⟨_, rfl, _, _, _, _, _, rfl, cv _, knd_ty hy, knd_bool (.str b), _, rfl, iteF ?_⟩
      refine ⟨_, rfl, _, _, _, _, _, rfl, cv _, knd_ty hy, knd_int (.str b), _, rfl, iteF ?_⟩
      simp only [dR] at hy
      subst hy
      cases x with
      | str c =>
        refine ⟨_, rfl, _, _, _, _, _, rfl, cv _, knd_ty hx, knd_str (.str c), _, rfl, iteT ?_⟩
        simp only [dR] at hx
        subst hx
        refine ⟨_, rfl, _, rfl, rfl, ?_⟩
        have e : decide (V.str c = V.str b) = eqd (.str c) (.str b) := by simp [eqd]
        rw [← e] at k; exact k
      | bl c => exact ⟨_, rfl, _, _, _, _, _, rfl, cv _, knd_ty hx, knd_str (.bl c), _, rfl, iteF k⟩
      | non => exact ⟨_, rfl, _, _, _, _, _, rfl, cv _, knd_ty hx, knd_str .non, _, rfl, iteF k⟩
      | int c => exact ⟨_, rfl, _, _, _, _, _, rfl, cv _, knd_ty hx, knd_str (.int c), _, rfl, iteF k⟩
      | lst c => exact ⟨_, rfl, _, _, _, _, _, rfl, cv _, knd_ty hx, knd_str (.lst c), _, rfl, iteF k⟩
      | tup c => exact ⟨_, rfl, _, _, _, _, _, rfl, cv _, knd_ty hx, knd_str (.tup c), _, rfl, iteF k⟩
/-- a list or a tuple -/
theorem ok_sameS (D : Dt K mg) (n : Nat) (HREC : Has P w K mg base (n + 1) (He.ga K "_law_same") ["actual", "due"] [] (spSame n)) {fd : FuncData} (F : FnP K "_law_same" "_law_same" s__law_same [] (He.ga K "_law_same") fd) :
    FnOk P w K mg base (L2.CX P w) (n + 2) (He.ga K "_law_same") fd ["actual", "due"] (fun vs H Q _ => ∃ (a d : V) (x y : Da), vs = [a, d] ∧ dR H a x ∧ dR H d y ∧ dep y ≤ n + 1 ∧ tame x ∧ tame y ∧ (isT y "tuple" = true ∨ isT y "list" = true) ∧ Q (.bl (eqd x y)) H) := by
  refine fnN F sc_same (fun vs H Q E h => ?_) (fun cdv A outer s H vs Q E hr h => ?_)
  · obtain ⟨a, d, x, y, rfl, _⟩ := h; rfl
  · obtain ⟨a, d, x, y, rfl, hx, hy, dy, tx, ty, yy, k⟩ := h
    refine ⟨_, (pss_cons (ps_if (PW.pt (pw_or (pt_val (pe_callB call_isi rfl (free_isinstance D) (by decide +kernel) (pa_cons (pv 1) (pa_cons (pe_bltn (v := .ty "tuple") rfl (free_tuple D) (by decide +kernel) rfl) pa_nil)))) (pw_or1 (pt_val (pe_callB call_isi rfl (free_isinstance D) (by decide +kernel) (pa_cons (pv 1) (pa_cons (pe_bltn (v := .ty "list") rfl (free_list D) (by decide +kernel) rfl) pa_nil)))))))
      (pss_cons (ps_if (PW.pt (pw_or (pt_cmpR op_ne (pe_callB call_isi rfl (free_isinstance D) (by decide +kernel) (pa_cons (pv 1) (pa_cons (pe_bltn (v := .ty "tuple") rfl (free_tuple D) (by decide +kernel) rfl) pa_nil))) (pe_callB call_isi rfl (free_isinstance D) (by decide +kernel) (pa_cons (pv 0) (pa_cons (pe_bltn (v := .ty "tuple") rfl (free_tuple D) (by decide +kernel) rfl) pa_nil))) (nomark _)) (pw_or1 (pt_cmpR op_ne (pe_callB call_isi rfl (free_isinstance D) (by decide +kernel) (pa_cons (pv 1) (pa_cons (pe_bltn (v := .ty "list") rfl (free_list D) (by decide +kernel) rfl) pa_nil))) (pe_callB call_isi rfl (free_isinstance D) (by decide +kernel) (pa_cons (pv 0) (pa_cons (pe_bltn (v := .ty "list") rfl (free_list D) (by decide +kernel) rfl) pa_nil))) (nomark _)))))
      (pss_one (ps_ret pe_bl))
      pss_nil)
      (pss_cons (ps_if (pt_cmpR op_ne (pe_callB call_len rfl (free_len D) PySem.boot_len (pa_cons (pv 0) pa_nil)) (pe_callB call_len rfl (free_len D) PySem.boot_len (pa_cons (pv 1) pa_nil)) (nomark _))
      (pss_one (ps_ret pe_bl))
      pss_nil)
      (pss_cons (ps_for PassesOwn.never rfl (pi_range1 rfl (free_range D) (pa_cons (pe_callB call_len rfl (free_len D) PySem.boot_len (pa_cons (pv 1) pa_nil)) pa_nil)) (pg_name (i := 2) sc_same.nd rfl (Or.inl rfl))
      (pss_one (ps_if (pt_not (pt_val (pe_callH HREC (hr.mono (by omega)) rfl (glo__law_same D) passL (pa_cons (pe_ix ix_seq (pv 0) (pv 2) (fun _ _ => rfl)) (pa_cons (pe_ix ix_seq (pv 1) (pv 2) (fun _ _ => rfl)) pa_nil)))))
      (pss_one (ps_ret pe_bl))
      pss_nil)))
      (pss_one (ps_ret pe_bl)))))
      pss_nil)
      pss_never), ?_⟩
    have cv : ∀ T : String, ClsV (.ty T) (.type T) := fun T => .ty T
    cases y with
    | non => simp [isT] at yy
    | bl b => simp [isT] at yy
    | int b => simp [isT] at yy
    | str b => simp [isT] at yy
    | lst l =>
      refine ⟨_, rfl, _, _, _, _, _, rfl, cv _, knd_ty hy, knd_tuple _, _, rfl, iteF ⟨_, rfl, _, _, _, _, _, rfl, cv _, knd_ty hy, knd_list _, _, rfl, iteT ?_⟩⟩
      refine ⟨_, rfl, _, _, _, _, _, rfl, cv _, knd_ty hy, knd_tuple _, _, rfl, _, _, _, _, _, rfl, cv _, knd_ty hx, knd_tuple x, rfl, _, rfl, ?_⟩
      cases x with
      | lst l' =>
        refine ifF rfl ?_
        refine ⟨_, rfl, _, _, _, _, _, rfl, cv _, knd_ty hy, knd_list _, _, rfl, _, _, _, _, _, rfl, cv _, knd_ty hx, knd_list _, rfl, _, rfl, ifF rfl ?_⟩
        simp only [dR] at hx hy
        obtain ⟨pa, va, rfl, ha, ra⟩ := hx
        obtain ⟨pd, vd, rfl, hd, rd⟩ := hy
        have la := dRs_len ra
        have ld := dRs_len rd
        have hl : l.length ≤ 1000000 := ty.1
        refine ⟨_, rfl, _, l'.length, rfl, .inl ⟨_, SqL.of ha, la.symm⟩, _, rfl, _, l.length, rfl, .inl ⟨_, SqL.of hd, ld.symm⟩, rfl, _, rfl, ?_⟩
        by_cases hlen : l'.length = l.length
        · refine ifF (by rw [hlen]; simp) ?_
          refine ⟨_, rfl, _, l.length, rfl, .inl ⟨_, SqL.of hd, ld.symm⟩, _, rfl, by omega, by omega, ?_⟩
          refine for_range (n := l.length) (fun i σ' H' => ∃ v : Option V, σ' = [some (.ref pa), some (.ref pd), v] ∧ H' = H ∧ ∀ (j : Nat) (x y : Da), j < i → l'[j]? = some x → l[j]? = some y → eqd x y = true)
            ⟨none, rfl, rfl, fun j _ _ h => absurd h (Nat.not_lt_zero j)⟩ (fun i σ' H' hi h => ?_) (fun σ' H' h => ?_)
          · obtain ⟨v, rfl, rfl, hj⟩ := h
            obtain ⟨u1, e1, r1⟩ := dRs_at ra (List.getElem?_eq_getElem (by omega : i < l'.length))
            obtain ⟨u2, e2, r2⟩ := dRs_at rd (List.getElem?_eq_getElem hi)
            refine ⟨_, rfl, _, rfl, .inl ⟨_, _, _, _, rfl, rfl, SqL.of ha, at_of (j := i) (by omega) e1, ?_⟩⟩
            refine ⟨_, rfl, _, rfl, .inl ⟨_, _, _, _, rfl, rfl, SqL.of hd, at_of (j := i) (by omega) e2, ?_⟩⟩
            have dd : dep l[i] ≤ n := by
              have := deps_at (List.getElem?_eq_getElem hi)
              simp only [dep] at dy; omega
            refine ⟨_, _, _, _, rfl, r1, r2, dd, tames_at tx.2 (List.getElem?_eq_getElem (by omega)), tames_at ty.2 (List.getElem?_eq_getElem hi), _, rfl, ?_⟩
            cases e : eqd l'[i] l[i] with
            | false =>
              refine iteT ?_
              have z : eqd (.lst l') (.lst l) = false := by simp only [eqd]; exact eqds_false (List.getElem?_eq_getElem (by omega)) (List.getElem?_eq_getElem hi) e
              rw [z] at k; exact k
            | true =>
              refine iteF ⟨_, rfl, rfl, fun j x y hji h1 h2 => ?_⟩
              by_cases q : j = i
              · subst q; rw [List.getElem?_eq_getElem (by omega)] at h1 h2; rw [← Option.some.inj h1, ← Option.some.inj h2]; exact e
              · exact hj j x y (by omega) h1 h2
          · obtain ⟨v, rfl, rfl, hj⟩ := h
            have z : eqd (.lst l') (.lst l) = true := by
              simp only [eqd]
              exact eqds_true hlen fun i x y h1 h2 => hj i x y (by have := (List.getElem?_eq_some_iff.mp h2).1; omega) h1 h2
            rw [z] at k; exact k
        · refine ifT (by simp; omega) ?_
          have z : eqd (.lst l') (.lst l) = false := by simp only [eqd]; exact eqds_len hlen
          rw [z] at k; exact k
      | non =>
        refine ifF rfl ⟨_, rfl, _, _, _, _, _, rfl, cv _, knd_ty hy, knd_list _, _, rfl, _, _, _, _, _, rfl, cv _, knd_ty hx, knd_list _, rfl, _, rfl, ifT rfl k⟩
      | bl b =>
        refine ifF rfl ⟨_, rfl, _, _, _, _, _, rfl, cv _, knd_ty hy, knd_list _, _, rfl, _, _, _, _, _, rfl, cv _, knd_ty hx, knd_list _, rfl, _, rfl, ifT rfl k⟩
      | int b =>
        refine ifF rfl ⟨_, rfl, _, _, _, _, _, rfl, cv _, knd_ty hy, knd_list _, _, rfl, _, _, _, _, _, rfl, cv _, knd_ty hx, knd_list _, rfl, _, rfl, ifT rfl k⟩
      | str b =>
        refine ifF rfl ⟨_, rfl, _, _, _, _, _, rfl, cv _, knd_ty hy, knd_list _, _, rfl, _, _, _, _, _, rfl, cv _, knd_ty hx, knd_list _, rfl, _, rfl, ifT rfl k⟩
      | tup b =>
        exact ifT rfl k
    | tup l =>
      refine ⟨_, rfl, _, _, _, _, _, rfl, cv _, knd_ty hy, knd_tuple _, _, rfl, iteT ?_⟩
      refine ⟨_, rfl, _, _, _, _, _, rfl, cv _, knd_ty hy, knd_tuple _, _, rfl, _, _, _, _, _, rfl, cv _, knd_ty hx, knd_tuple x, rfl, _, rfl, ?_⟩
      cases x with
      | tup l' =>
        refine ifF rfl ?_
        refine ⟨_, rfl, _, _, _, _, _, rfl, cv _, knd_ty hy, knd_list _, _, rfl, _, _, _, _, _, rfl, cv _, knd_ty hx, knd_list _, rfl, _, rfl, ifF rfl ?_⟩
        simp only [dR] at hx hy
        obtain ⟨pa, va, rfl, ha, ra⟩ := hx
        obtain ⟨pd, vd, rfl, hd, rd⟩ := hy
        have la := dRs_len ra
        have ld := dRs_len rd
        have hl : l.length ≤ 1000000 := ty.1
        refine ⟨_, rfl, _, l'.length, rfl, .inr ⟨_, SqT.of ha, la.symm⟩, _, rfl, _, l.length, rfl, .inr ⟨_, SqT.of hd, ld.symm⟩, rfl, _, rfl, ?_⟩
        by_cases hlen : l'.length = l.length
        · refine ifF (by rw [hlen]; simp) ?_
          refine ⟨_, rfl, _, l.length, rfl, .inr ⟨_, SqT.of hd, ld.symm⟩, _, rfl, by omega, by omega, ?_⟩
          refine for_range (n := l.length) (fun i σ' H' => ∃ v : Option V, σ' = [some (.ref pa), some (.ref pd), v] ∧ H' = H ∧ ∀ (j : Nat) (x y : Da), j < i → l'[j]? = some x → l[j]? = some y → eqd x y = true)
            ⟨none, rfl, rfl, fun j _ _ h => absurd h (Nat.not_lt_zero j)⟩ (fun i σ' H' hi h => ?_) (fun σ' H' h => ?_)
          · obtain ⟨v, rfl, rfl, hj⟩ := h
            obtain ⟨u1, e1, r1⟩ := dRs_at ra (List.getElem?_eq_getElem (by omega : i < l'.length))
            obtain ⟨u2, e2, r2⟩ := dRs_at rd (List.getElem?_eq_getElem hi)
            refine ⟨_, rfl, _, rfl, .inr (.inl ⟨_, _, _, _, rfl, rfl, SqT.of ha, at_of (j := i) (by omega) e1, ?_⟩)⟩
            refine ⟨_, rfl, _, rfl, .inr (.inl ⟨_, _, _, _, rfl, rfl, SqT.of hd, at_of (j := i) (by omega) e2, ?_⟩)⟩
            have dd : dep l[i] ≤ n := by
              have := deps_at (List.getElem?_eq_getElem hi)
              simp only [dep] at dy; omega
            refine ⟨_, _, _, _, rfl, r1, r2, dd, tames_at tx.2 (List.getElem?_eq_getElem (by omega)), tames_at ty.2 (List.getElem?_eq_getElem hi), _, rfl, ?_⟩
            cases e : eqd l'[i] l[i] with
            | false =>
              refine iteT ?_
              have z : eqd (.tup l') (.tup l) = false := by simp only [eqd]; exact eqds_false (List.getElem?_eq_getElem (by omega)) (List.getElem?_eq_getElem hi) e
              rw [z] at k; exact k
            | true =>
              refine iteF ⟨_, rfl, rfl, fun j x y hji h1 h2 => ?_⟩
              by_cases q : j = i
              · subst q; rw [List.getElem?_eq_getElem (by omega)] at h1 h2; rw [← Option.some.inj h1, ← Option.some.inj h2]; exact e
              · exact hj j x y (by omega) h1 h2
          · obtain ⟨v, rfl, rfl, hj⟩ := h
            have z : eqd (.tup l') (.tup l) = true := by
              simp only [eqd]
              exact eqds_true hlen fun i x y h1 h2 => hj i x y (by have := (List.getElem?_eq_some_iff.mp h2).1; omega) h1 h2
            rw [z] at k; exact k
        · refine ifT (by simp; omega) ?_
          have z : eqd (.tup l') (.tup l) = false := by simp only [eqd]; exact eqds_len hlen
          rw [z] at k; exact k
      | non =>
        exact ifT rfl k
      | bl b =>
        exact ifT rfl k
      | int b =>
        exact ifT rfl k
      | str b =>
        exact ifT rfl k
      | lst b =>
        exact ifT rfl k
theorem ok_same (D : Dt K mg) : ∀ n, Has P w K mg base (n + 1) (He.ga K "_law_same") ["actual", "due"] [] (spSame n)
  | 0 => by
    obtain ⟨fd, F⟩ := fd__law_same D
    have b := F.bindsN (ps := ["actual", "due"]) fun _ _ _ _ _ _ us hl => match us, hl with | [_, _], _ => rfl
    refine ⟨F.kp, fd, [], .nil, b, (ok_same0 D F).imp fun vs H Q E h => ?_⟩
    obtain ⟨x, y, dx, dy, h1, h2, h3, h4, _, _, k⟩ := h
    refine ⟨x, y, dx, dy, h1, h2, h3, ?_, ?_, k⟩ <;> cases dy <;> first | rfl | (simp only [dep] at h4; omega)
  | n + 1 => by
    obtain ⟨fd, F⟩ := fd__law_same D
    have b := F.bindsN (ps := ["actual", "due"]) fun _ _ _ _ _ _ us hl => match us, hl with | [_, _], _ => rfl
    refine ⟨F.kp, fd, [], .nil, b, (fnOr ((ok_same0 D F).mono (by omega)) (ok_sameS D n (ok_same D n) F)).imp fun vs H Q E h => ?_⟩
    obtain ⟨x, y, dx, dy, h1, h2, h3, h4, h5, h6, k⟩ := h
    by_cases q : isT dy "tuple" = true ∨ isT dy "list" = true
    · exact .inr ⟨x, y, dx, dy, h1, h2, h3, h4, h5, h6, q, k⟩
    · refine .inl ⟨x, y, dx, dy, h1, h2, h3, ?_, ?_, k⟩ <;> cases dy <;> first | rfl | exact absurd (by first | exact .inl rfl | exact .inr rfl) q
end
end K

set_option Elab.async false
set_option linter.all false
set_option maxRecDepth 100000
set_option maxHeartbeats 4000000
/-! Words, numbers and names as they are read; the mathematics of decimal texts. -/
namespace Rd
open PySem PyProof.Rows TL
/-! decimal texts -/
def dec (n : Nat) : Str := Str.ofString (toString ((n : Nat) : Int))
theorem tl_dec (n : Nat) : tl (dec n) = numL n := tl_num n
theorem dec_inj {m n : Nat} (h : dec m = dec n) : m = n := numL_inj (by rw [← tl_dec, ← tl_dec, h])
theorem ext_dec {w : Str} {n : Nat} (h : tl w = numL n) : w = dec n := ext_tl (by rw [h, tl_dec])
theorem numL_len_step {n : Nat} (h : 10 ≤ n) : (numL n).length = (numL (n / 10)).length + 1 := by rw [numL_step h]; simp
theorem numL_mono : ∀ (n m : Nat), n ≤ m → (numL n).length ≤ (numL m).length := by
  intro n
  induction n using Nat.strongRecOn with
  | _ n ih =>
    intro m h
    by_cases hn : n < 10
    · rw [numL_lt hn]
      have := List.length_pos_iff.mpr (numL_ne m)
      show 1 ≤ _; omega
    · rw [numL_len_step (by omega), numL_len_step (n := m) (by omega)]
      have := ih (n / 10) (by omega) (m / 10) (by omega)
      omega
theorem numL_head : ∀ (n : Nat), 0 < n → ∀ c r, numL n = c :: r → c ≠ 48 := by
  intro n
  induction n using Nat.strongRecOn with
  | _ n ih =>
    intro h c r e
    by_cases hn : n < 10
    · rw [numL_lt hn] at e
      injection e with e1 e2
      omega
    · rw [numL_step (by omega)] at e
      cases q : numL (n / 10) with
      | nil => exact absurd q (numL_ne _)
      | cons d s =>
        rw [q] at e
        injection e with e1 e2
        exact e1 ▸ ih (n / 10) (by omega) (by omega) d s q
theorem numL_zero : numL 0 = [48] := numL_lt (by decide)
theorem snocInd {α : Type} {P : List α → Prop} (h0 : P []) (hs : ∀ l a, P l → P (l ++ [a])) (l : List α) : P l := by
  have : ∀ m : List α, P m.reverse := by
    intro m
    induction m with
    | nil => exact h0
    | cons a m ih => rw [List.reverse_cons]; exact hs _ _ ih
  have := this l.reverse
  rwa [List.reverse_reverse] at this
def dv (l : List Nat) : Nat := NumText.digitsVal l
theorem dv_snoc (l : List Nat) (c : Nat) : dv (l ++ [c]) = dv l * 10 + (c - 48) := by
  unfold dv NumText.digitsVal; rw [List.foldl_append]; rfl
theorem dv_pos : ∀ (l : List Nat) (c : Nat), NumText.AllDigits (c :: l) → c ≠ 48 → 0 < dv (c :: l) := by
  intro l
  induction l using snocInd with
  | h0 =>
    intro c h hc
    have := h.head
    show 0 < 0 * 10 + (c - 48)
    omega
  | hs l d ih =>
    intro c h hc
    rw [← List.cons_append, dv_snoc]
    have := ih c (fun x hx => h x (by rw [← List.cons_append]; exact List.mem_append_left _ hx)) hc
    omega
/-- digits without a leading zero are a number's -/
theorem numL_dv : ∀ (l : List Nat) (c : Nat), NumText.AllDigits (c :: l) → (c ≠ 48 ∨ l = []) → numL (dv (c :: l)) = c :: l := by
  intro l
  induction l using snocInd with
  | h0 =>
    intro c h _
    have := h.head
    have e : dv [c] = c - 48 := by show 0 * 10 + (c - 48) = _; omega
    rw [e, numL_lt (by omega)]
    have : 48 + (c - 48) = c := by omega
    rw [this]
  | hs l d ih =>
    intro c h hc
    have hc : c ≠ 48 := by
      rcases hc with h | h
      · exact h
      · simp at h
    have hd := h d (by simp)
    have h1 : NumText.AllDigits (c :: l) := fun x hx => h x (by rw [← List.cons_append]; exact List.mem_append_left _ hx)
    have hp := dv_pos l c h1 hc
    rw [← List.cons_append, dv_snoc, numL_step (by omega)]
    have e1 : (dv (c :: l) * 10 + (d - 48)) / 10 = dv (c :: l) := by omega
    have e2 : 48 + (dv (c :: l) * 10 + (d - 48)) % 10 = d := by omega
    rw [e1, e2, ih c h1 (.inl hc)]
/-! numbers that words write -/
def isDig (c : Nat) : Bool := decide (48 ≤ c) && decide (c ≤ 57)
theorem isDig_iff {c : Nat} : isDig c = true ↔ 48 ≤ c ∧ c ≤ 57 := by unfold isDig; simp
theorem all_dig {l : List Nat} : l.all isDig = true ↔ NumText.AllDigits l := by
  rw [List.all_eq_true]; exact ⟨fun h c hc => isDig_iff.mp (h c hc), fun h c hc => isDig_iff.mpr (h c hc)⟩
def numOf (w : Str) (most : Nat) : Option Nat := if tl w = numL (dv (tl w)) ∧ dv (tl w) ≤ most then some (dv (tl w)) else none
theorem numOf_some {w : Str} {most n : Nat} : numOf w most = some n ↔ w = dec n ∧ n ≤ most := by
  unfold numOf
  constructor
  · intro h
    split at h
    · rename_i c
      cases h
      exact ⟨ext_dec c.1, c.2⟩
    · cases h
  · rintro ⟨rfl, h⟩
    have e : dv (tl (dec n)) = n := by rw [tl_dec]; exact numL_val n
    rw [e, tl_dec, if_pos ⟨rfl, h⟩]
theorem numOf_dec {most n : Nat} (h : n ≤ most) : numOf (dec n) most = some n := numOf_some.mpr ⟨rfl, h⟩
theorem numOf_none {w : Str} {most : Nat} : numOf w most = none ↔ ∀ n, n ≤ most → w ≠ dec n := by
  constructor
  · intro h n hn e
    rw [e, numOf_dec hn] at h; cases h
  · intro h
    cases e : numOf w most with
    | none => rfl
    | some n => obtain ⟨e1, e2⟩ := numOf_some.mp e; exact absurd e1 (h n e2)
/-- as number_of asks -/
theorem numOf_long {w : Str} {most : Nat} (h : w.length > (dec most).length) : numOf w most = none :=
  numOf_none.mpr fun n hn e => by
    have := numL_mono n most hn
    rw [e, len_tl, len_tl, tl_dec, tl_dec] at h
    omega
theorem numOf_digs {w : Str} {most : Nat} (h : ¬ (tl w ≠ [] ∧ (tl w).all isDig = true)) : numOf w most = none :=
  numOf_none.mpr fun n hn e => h (by rw [e, tl_dec]; exact ⟨numL_ne n, all_dig.mpr (numL_digits n)⟩)
theorem numOf_lead {w : Str} {most : Nat} {r : List Nat} (h : tl w = 48 :: r) (hr : r ≠ []) : numOf w most = none :=
  numOf_none.mpr fun n hn e => by
    rw [e, tl_dec] at h
    by_cases h0 : n = 0
    · subst h0; rw [numL_zero] at h; injection h with _ h2; exact hr h2.symm
    · exact numL_head n (by omega) _ _ h rfl
theorem numOf_else {w : Str} {most c : Nat} {r : List Nat} (h : tl w = c :: r) (hd : (tl w).all isDig = true) (hc : c ≠ 48 ∨ r = []) : numOf w most = if dv (tl w) ≤ most then some (dv (tl w)) else none := by
  unfold numOf
  have e := numL_dv r c (by rw [← h]; exact all_dig.mp hd) hc
  rw [← h] at e
  by_cases k : dv (tl w) ≤ most
  · rw [if_pos ⟨e.symm, k⟩, if_pos k]
  · rw [if_neg (fun z => k z.2), if_neg k]
theorem numOf_empty {most : Nat} : numOf Str.empty most = none := numOf_digs (fun h => h.1 rfl)
/-! characters -/
theorem uni_digit : ∀ c, c < 128 → Unicode.isDigit c = isDig c := by decide +kernel
theorem uni_alpha : ∀ c, c < 128 → Unicode.isAlpha c = (decide (65 ≤ c) && decide (c ≤ 90) || decide (97 ≤ c) && decide (c ≤ 122)) := by decide +kernel
theorem uni_lower : ∀ c, c < 128 → Unicode.isLower c = (decide (97 ≤ c) && decide (c ≤ 122)) := by decide +kernel
theorem uni_upper : ∀ c, c < 128 → (Unicode.isUpper c || Unicode.isTitle c) = (decide (65 ≤ c) && decide (c ≤ 90)) := by decide +kernel
theorem ascii_digit (w : Str) : (Txt.isascii w && Txt.isdigit w) = (decide (tl w ≠ []) && (tl w).all isDig) := by
  unfold Txt.isascii Txt.isdigit
  rw [← Array.all_toList, ← Array.all_toList]
  rw [show w.length = (tl w).length from len_tl w]
  show ((tl w).all _ && (decide ((tl w).length > 0) && (tl w).all _)) = _
  rw [Bool.eq_iff_iff]
  simp only [Bool.and_eq_true, List.all_eq_true, decide_eq_true_eq, isDig_iff]
  constructor
  · rintro ⟨h1, h2, h3⟩
    refine ⟨List.length_pos_iff.mp h2, fun c hc => ?_⟩
    have := h3 c hc
    rw [uni_digit c (h1 c hc)] at this
    exact isDig_iff.mp this
  · rintro ⟨h1, h2⟩
    refine ⟨fun c hc => ?_, List.length_pos_iff.mpr h1, fun c hc => ?_⟩
    · have := h2 c hc; omega
    · have := h2 c hc
      rw [uni_digit c (by omega)]; exact isDig_iff.mpr this
def isLow (c : Nat) : Bool := decide (97 ≤ c) && decide (c ≤ 122)
theorem isLow_iff {c : Nat} : isLow c = true ↔ 97 ≤ c ∧ c ≤ 122 := by unfold isLow; simp
theorem ascii_lower (w : Str) : (Txt.isascii w && (Txt.isalpha w && Txt.islower w)) = (decide (tl w ≠ []) && (tl w).all isLow) := by
  unfold Txt.isascii Txt.isalpha Txt.islower
  rw [← Array.all_toList, ← Array.all_toList, ← Array.any_toList, ← Array.any_toList]
  rw [show w.length = (tl w).length from len_tl w]
  show ((tl w).all _ && ((decide ((tl w).length > 0) && (tl w).all _) && ((tl w).any _ && !(tl w).any _))) = _
  rw [Bool.eq_iff_iff]
  simp only [Bool.and_eq_true, List.all_eq_true, List.any_eq_true, decide_eq_true_eq, Bool.not_eq_true', isLow_iff]
  constructor
  · rintro ⟨h1, ⟨h2, h3⟩, h4, h5⟩
    refine ⟨List.length_pos_iff.mp h2, fun c hc => ?_⟩
    have a := h3 c hc
    rw [uni_alpha c (h1 c hc)] at a
    have b := List.any_eq_false.mp h5 c hc
    rw [uni_upper c (h1 c hc)] at b
    simp only [Bool.or_eq_true, Bool.and_eq_true, decide_eq_true_eq] at a b
    omega
  · rintro ⟨h1, h2⟩
    have h128 : ∀ c ∈ tl w, c < 128 := fun c hc => by have := h2 c hc; omega
    refine ⟨h128, ⟨List.length_pos_iff.mpr h1, fun c hc => ?_⟩, ?_, ?_⟩
    · have := h2 c hc
      rw [uni_alpha c (h128 c hc)]; simp; omega
    · cases e : tl w with
      | nil => exact absurd e h1
      | cons c r =>
        have hc : c ∈ tl w := by rw [e]; exact List.mem_cons_self
        refine ⟨c, List.mem_cons_self, ?_⟩
        rw [uni_lower c (h128 c hc)]; simpa using h2 c hc
    · refine List.any_eq_false.mpr fun c hc => ?_
      rw [uni_upper c (h128 c hc)]
      have := h2 c hc
      simp; omega
/-! a word that begins with a sign -/
theorem starts1 (w : Str) (y : Str) (c : Nat) (hy : tl y = [c]) : Txt.startswith w y = ((tl w).head? == some c) := by
  unfold Txt.startswith
  rw [PySem.StrLaws.subAt_eq]
  have hl : y.length = 1 := by rw [len_tl, hy]; rfl
  rw [hl, len_tl]
  show (decide (0 + 1 ≤ (tl w).length) && ((tl w).drop 0).take 1 == tl y) = _
  rw [hy, List.drop_zero]
  cases tl w with
  | nil => rfl
  | cons d r => simp
end Rd

set_option Elab.async false
set_option linter.all false
set_option maxRecDepth 100000
set_option maxHeartbeats 4000000
/-! Reading the words of a box, as a function. -/
namespace Rd
open PySem PyProof.Rows TL
inductive Ex where
  | num (n : Nat) | var (x : Str) | press | op (o : Str) (a b : Ex)
  deriving DecidableEq
inductive Stm where
  | set (x : Str) (e : Ex) | draw (x : Str) (n : Nat) | use (x : Str) (e : Ex) | say (e : Ex) | ite (e : Ex) (s t : List Stm)
structure Bx where
  buttons : Nat
  answers : Nat
  vars : List (Str × Nat)
  start : List Stm
  block : List Stm
def ops : List Str := ["+", "-", "*", "/", "mod", "<", "="]
def sts : List Str := ["set", "draw", "use", "say", "if"]
def resv : List Str := ["buttons", "answers", "var", "start", "press", "set", "draw", "use", "say", "if", "else", "end", "mod"]
def isName (w : Str) : Bool := decide (w.length ≤ 8) && decide (w ∉ resv) && (decide (tl w ≠ []) && (tl w).all isLow)
/-- where the reader is -/
structure RS where
  pos : Nat
  vars : List (Str × Nat)
  draws : Nat
  uses : Nat
  pressed : Bool
inductive Res (α : Type) where
  | ok (x : α) (r : RS)
  | bad (n : Nat)
def Res.bind {α β : Type} (x : Res α) (f : α → RS → Res β) : Res β := match x with
  | .ok a r => f a r
  | .bad n => .bad n
theorem bind_ok {α β : Type} {x : Res α} {f : α → RS → Res β} {y : β} {r : RS} (h : x.bind f = .ok y r) : ∃ a r1, x = .ok a r1 ∧ f a r1 = .ok y r := by
  cases x with
  | ok a r1 => exact ⟨a, r1, rfl, h⟩
  | bad n => cases h
section
variable (ws : List Str)
def here (r : RS) : Str := ws.getD r.pos Str.empty
def RS.go (r : RS) : RS := { r with pos := r.pos + 1 }
def hasV (r : RS) (w : Str) : Bool := decide (w ∈ r.vars.map (·.1))
def takeR (w : Str) (r : RS) : Res Unit := if here ws r = w then .ok () r.go else .bad r.pos
def numR (lo hi : Nat) (r : RS) : Res Nat := match numOf (here ws r) hi with
  | some n => if lo ≤ n then .ok n r.go else .bad r.pos
  | none => .bad r.pos
def newR (r : RS) : Res Str := if isName (here ws r) = true ∧ hasV r (here ws r) = false then .ok (here ws r) r.go else .bad r.pos
def varR (r : RS) : Res Str := if hasV r (here ws r) = true then .ok (here ws r) r.go else .bad r.pos
def leafOf (r : RS) (w : Str) : Option Ex := match numOf w 65535 with
  | some n => some (.num n)
  | none => if hasV r w = true then some (.var w) else if w = "press" ∧ r.pressed = true then some .press else none
def leafR (r : RS) : Res Ex := match leafOf r (here ws r) with
  | some e => .ok e r.go
  | none => .bad r.pos
def exR : Nat → RS → Res Ex
  | 0, r => leafR ws r
  | k + 1, r => if here ws r ∈ ops then (exR k r.go).bind fun a r1 => (exR k r1).bind fun b r2 => .ok (.op (here ws r) a b) r2 else leafR ws r
variable (ar : Bool)
def mayR (w : Str) (d : Nat) (r : RS) : Bool :=
  if w = "if" then decide (d < 4) else if w = "say" then r.pressed else if w = "draw" ∧ 3 ≤ r.draws then false else
  if w = "use" ∧ (ar = false ∨ 24 ≤ r.uses) then false else decide (w ∈ (["set", "draw", "use"] : List Str)) && decide (0 < r.vars.length)
def stmtR (ch : RS → Res Stm) (r : RS) : Res Stm :=
  if here ws r = "if" then ch r.go else if here ws r = "say" then (exR ws 4 r.go).bind fun e r1 => .ok (.say e) r1 else
  (varR ws r.go).bind fun x r1 =>
    if here ws r = "draw" then (numR ws 1 6 { r1 with draws := r1.draws + 1 }).bind fun n r2 => .ok (.draw x n) r2 else
    if here ws r = "use" then (exR ws 4 { r1 with uses := r1.uses + 1 }).bind fun e r2 => .ok (.use x e) r2 else
    (exR ws 4 r1).bind fun e r2 => .ok (.set x e) r2
def loopR (d : Nat) (ch : RS → Res Stm) : Nat → List Stm → RS → Res (List Stm)
  | 0, acc, r => .ok acc r
  | n + 1, acc, r => if mayR ar (here ws r) d r = true then (stmtR ws ch r).bind fun s r1 => loopR d ch n (acc ++ [s]) r1 else .ok acc r
def stmtsR (d : Nat) (ch : RS → Res Stm) (r : RS) : Res (List Stm) := loopR ws ar d ch (ws.length + 1) [] r
def choice1 (d : Nat) (ch : RS → Res Stm) (r : RS) : Res Stm :=
  (exR ws 4 r).bind fun e r1 => (stmtsR ws ar d ch r1).bind fun s r2 =>
    if here ws r2 = "else" ∧ sts.any (fun w => mayR ar w d r2) = true then
      (stmtsR ws ar d ch r2.go).bind fun t r3 => if t.length = 0 then .bad r3.pos else (takeR ws "end" r3).bind fun _ r4 => .ok (.ite e s t) r4
    else (takeR ws "end" r2).bind fun _ r4 => .ok (.ite e s []) r4
/-- choices of the depth 4 - k -/
def choiceR : Nat → RS → Res Stm
  | 0 => choice1 ws ar 4 (fun r => .bad r.pos)
  | k + 1 => choice1 ws ar (4 - (k + 1)) (choiceR k)
/-- the statements inside 4 - k ifs -/
def blockR : Nat → RS → Res (List Stm)
  | 0 => stmtsR ws ar 4 (fun r => .bad r.pos)
  | k + 1 => stmtsR ws ar (4 - (k + 1)) (choiceR ws ar k)
def varsR : Nat → RS → Res Unit
  | 0, r => .ok () r
  | n + 1, r => if here ws r = "var" then (newR ws r.go).bind fun x r1 => (numR ws 1 12 r1).bind fun m r2 => varsR n { r2 with vars := r2.vars ++ [(x, m)] } else .ok () r
def r0 : RS := ⟨0, [], 0, 0, false⟩
def readR : Res Bx :=
  (takeR ws "buttons" r0).bind fun _ r => (numR ws 1 4 r).bind fun b r => (takeR ws "answers" r).bind fun _ r => (numR ws 1 4 r).bind fun a r =>
  (varsR ws 4 r).bind fun _ r => (takeR ws "start" r).bind fun _ r => (blockR ws ar 4 r).bind fun s r => (takeR ws "press" r).bind fun _ r =>
  (blockR ws ar 4 { r with pressed := true }).bind fun t r => if r.pos < ws.length then .bad r.pos else .ok ⟨b, a, r.vars, s, t⟩ r
end
/-! the words of a box -/
def wd (s : String) : Str := s
def Ex.words : Ex → List Str
  | .num n => [dec n]
  | .var x => [x]
  | .press => [wd "press"]
  | .op o a b => o :: (a.words ++ b.words)
mutual
def Stm.words : Stm → List Str
  | .set x e => wd "set" :: x :: e.words
  | .draw x n => [wd "draw", x, dec n]
  | .use x e => wd "use" :: x :: e.words
  | .say e => wd "say" :: e.words
  | .ite e s t => wd "if" :: (e.words ++ (blockWords s ++ ((if t.isEmpty = true then [] else wd "else" :: blockWords t) ++ [wd "end"])))
def blockWords : List Stm → List Str
  | [] => []
  | s :: r => s.words ++ blockWords r
end
def varWords : List (Str × Nat) → List Str
  | [] => []
  | (x, n) :: r => wd "var" :: x :: dec n :: varWords r
def Bx.words (b : Bx) : List Str := wd "buttons" :: dec b.buttons :: wd "answers" :: dec b.answers :: (varWords b.vars ++ wd "start" :: (blockWords b.start ++ wd "press" :: blockWords b.block))
end Rd

set_option Elab.async false
set_option linter.all false
set_option maxRecDepth 100000
set_option maxHeartbeats 4000000
/-! The words of a box that is right are read as that box. -/
namespace Rd
open PySem PyProof.Rows TL
/-! lists -/
theorem drop_at {α : Type} {l m : List α} {i : Nat} {x : α} (h : l.drop i = x :: m) : l[i]? = some x ∧ l.drop (i + 1) = m ∧ i < l.length := by
  have hl : i < l.length := by
    by_cases q : i < l.length
    · exact q
    · rw [List.drop_eq_nil_of_le (by omega)] at h; cases h
  rw [List.drop_eq_getElem_cons hl] at h
  injection h with h1 h2
  exact ⟨by rw [List.getElem?_eq_getElem hl, h1], h2, hl⟩
theorem drop_app {α : Type} {l m n : List α} {i : Nat} (h : l.drop i = m ++ n) : l.drop (i + m.length) = n := by
  rw [← List.drop_drop, h, List.drop_left]
theorem drop_len {α : Type} {l m : List α} {i : Nat} (h : l.drop i = m) (hm : m ≠ []) : i + m.length = l.length := by
  have := congrArg List.length h
  rw [List.length_drop] at this
  have : 0 < m.length := List.length_pos_iff.mpr hm
  omega
section
variable {ws : List Str} {ar : Bool}
theorem here_of {r : RS} {x : Str} {m : List Str} (h : ws.drop r.pos = x :: m) : here ws r = x := by
  unfold here; rw [List.getD_eq_getElem?_getD, (drop_at h).1]; rfl
theorem here_end {r : RS} (h : ws.drop r.pos = []) : here ws r = Str.empty := by
  unfold here; rw [List.getD_eq_getElem?_getD, List.getElem?_eq_none (by simpa using h)]; rfl
theorem go_drop {r : RS} {x : Str} {m : List Str} (h : ws.drop r.pos = x :: m) : ws.drop r.go.pos = m := (drop_at h).2.1
end
theorem bind_mk {α β : Type} {a : α} {r : RS} {f : α → RS → Res β} : (Res.ok a r).bind f = f a r := rfl
/-! what is right -/
def NmOk (vs : List (Str × Nat)) : Prop := ∀ p ∈ vs, isName p.1 = true
def okEx (nm : List Str) (pr : Bool) : Nat → Ex → Prop
  | _, .num n => n ≤ 65535
  | _, .var x => x ∈ nm
  | _, .press => pr = true
  | 0, .op _ _ _ => False
  | k + 1, .op o a b => o ∈ ops ∧ okEx nm pr k a ∧ okEx nm pr k b
mutual
def okSt (nm : List Str) (pr ar : Bool) (k : Nat) : Stm → Prop
  | .set x e => x ∈ nm ∧ okEx nm pr 4 e
  | .draw x n => x ∈ nm ∧ 1 ≤ n ∧ n ≤ 6
  | .use x e => ar = true ∧ x ∈ nm ∧ okEx nm pr 4 e
  | .say e => pr = true ∧ okEx nm pr 4 e
  | .ite e s t => 0 < k ∧ okEx nm pr 4 e ∧ okBl nm pr ar (k - 1) s ∧ okBl nm pr ar (k - 1) t
def okBl (nm : List Str) (pr ar : Bool) (k : Nat) : List Stm → Prop
  | [] => True
  | s :: r => okSt nm pr ar k s ∧ okBl nm pr ar k r
end
mutual
def nd : Stm → Nat
  | .draw _ _ => 1
  | .ite _ s t => nds s + nds t
  | _ => 0
def nds : List Stm → Nat
  | [] => 0
  | s :: r => nd s + nds r
end
mutual
def nu : Stm → Nat
  | .use _ _ => 1
  | .ite _ s t => nus s + nus t
  | _ => 0
def nus : List Stm → Nat
  | [] => 0
  | s :: r => nu s + nus r
end
theorem name_facts {x : Str} (h : isName x = true) : x.length ≤ 8 ∧ x ∉ resv ∧ tl x ≠ [] ∧ (∀ c ∈ tl x, 97 ≤ c ∧ c ≤ 122) := by
  unfold isName at h
  simp only [Bool.and_eq_true, decide_eq_true_eq, List.all_eq_true, isLow_iff] at h
  exact ⟨h.1.1, h.1.2, h.2.1, h.2.2⟩
theorem name_num {x : Str} {m : Nat} (h : isName x = true) : numOf x m = none := by
  obtain ⟨_, _, h1, h2⟩ := name_facts h
  refine numOf_digs fun z => ?_
  cases e : tl x with
  | nil => exact h1 e
  | cons c r =>
    have a := h2 c (by rw [e]; exact List.mem_cons_self)
    have b := isDig_iff.mp (List.all_eq_true.mp z.2 c (by rw [e]; exact List.mem_cons_self))
    omega
theorem name_low {x y : Str} (h : isName x = true) {c : Nat} {r : List Nat} (e : tl y = c :: r) (hc : ¬ (97 ≤ c ∧ c ≤ 122)) : x ≠ y := fun z => by
  subst z
  exact hc ((name_facts h).2.2.2 c (by rw [e]; exact List.mem_cons_self))
theorem name_ops {x : Str} (h : isName x = true) : x ∉ ops := fun z => by
  have r := (name_facts h).2.1
  have e : ∀ y ∈ ops, y ∈ resv ∨ ∃ c q, tl y = c :: q ∧ ¬ (97 ≤ c ∧ c ≤ 122) := by
    intro y hy
    simp only [ops, List.mem_cons, List.not_mem_nil, or_false] at hy
    rcases hy with rfl | rfl | rfl | rfl | rfl | rfl | rfl
    · exact .inr ⟨43, [], by decide +kernel, by omega⟩
    · exact .inr ⟨45, [], by decide +kernel, by omega⟩
    · exact .inr ⟨42, [], by decide +kernel, by omega⟩
    · exact .inr ⟨47, [], by decide +kernel, by omega⟩
    · exact .inl (by decide +kernel)
    · exact .inr ⟨60, [], by decide +kernel, by omega⟩
    · exact .inr ⟨61, [], by decide +kernel, by omega⟩
  rcases e x z with q | ⟨c, q, e1, e2⟩
  · exact r q
  · exact name_low h e1 e2 rfl
theorem dec_ops (n : Nat) : dec n ∉ ops := fun z => by
  have hd := numL_digits n
  have hn := numL_ne n
  have e : ∀ y ∈ ops, ∃ c q, tl y = c :: q ∧ ¬ (48 ≤ c ∧ c ≤ 57) := by
    intro y hy
    simp only [ops, List.mem_cons, List.not_mem_nil, or_false] at hy
    rcases hy with rfl | rfl | rfl | rfl | rfl | rfl | rfl
    · exact ⟨43, [], by decide +kernel, by omega⟩
    · exact ⟨45, [], by decide +kernel, by omega⟩
    · exact ⟨42, [], by decide +kernel, by omega⟩
    · exact ⟨47, [], by decide +kernel, by omega⟩
    · exact ⟨109, [111, 100], by decide +kernel, by omega⟩
    · exact ⟨60, [], by decide +kernel, by omega⟩
    · exact ⟨61, [], by decide +kernel, by omega⟩
  obtain ⟨c, q, e1, e2⟩ := e _ z
  rw [tl_dec] at e1
  exact e2 (hd c (by rw [e1]; exact List.mem_cons_self))
theorem press_num {m : Nat} : numOf (wd "press") m = none := by
  refine numOf_digs fun z => ?_
  have : ¬ ((tl (wd "press")).all isDig = true) := by decide +kernel
  exact this z.2
theorem press_ops : wd "press" ∉ ops := by decide +kernel
theorem press_resv : wd "press" ∈ resv := by decide +kernel
/-! expressions -/
def advE (r : RS) (e : Ex) : RS := { r with pos := r.pos + e.words.length }
section
variable {ws : List Str} {ar : Bool}
theorem hasV_iff {r : RS} {x : Str} : hasV r x = true ↔ x ∈ r.vars.map (·.1) := by unfold hasV; simp
theorem not_var {r : RS} (hn : NmOk r.vars) {x : Str} (h : isName x = false) : hasV r x = false := by
  cases e : hasV r x with
  | false => rfl
  | true =>
    obtain ⟨p, hp, rfl⟩ := List.mem_map.mp (hasV_iff.mp e)
    rw [hn p hp] at h; cases h
theorem leaf_of {r : RS} (hn : NmOk r.vars) : ∀ {k : Nat} {e : Ex}, okEx (r.vars.map (·.1)) r.pressed k e → (∀ o a b, e ≠ .op o a b) → ∃ x, e.words = [x] ∧ x ∉ ops ∧ leafOf r x = some e := by
  intro k e h hne
  cases e with
  | num n =>
    have h : n ≤ 65535 := by cases k <;> exact h
    refine ⟨dec n, rfl, dec_ops n, ?_⟩
    unfold leafOf; rw [numOf_dec h]
  | var x =>
    have h : x ∈ r.vars.map (·.1) := by cases k <;> exact h
    obtain ⟨p, hp, rfl⟩ := List.mem_map.mp h
    refine ⟨p.1, rfl, name_ops (hn p hp), ?_⟩
    unfold leafOf; rw [name_num (hn p hp)]
    show (if hasV r p.1 = true then _ else _) = _
    rw [if_pos (hasV_iff.mpr h)]
  | press =>
    have h : r.pressed = true := by cases k <;> exact h
    refine ⟨wd "press", rfl, press_ops, ?_⟩
    unfold leafOf; rw [press_num]
    show (if hasV r (wd "press") = true then _ else _) = _
    rw [not_var hn (by decide +kernel), if_neg Bool.false_ne_true, if_pos ⟨rfl, h⟩]
  | op o a b => exact absurd rfl (hne o a b)
theorem exR_words : ∀ (k : Nat) (e : Ex) (r : RS) (rest : List Str), NmOk r.vars → okEx (r.vars.map (·.1)) r.pressed k e → ws.drop r.pos = e.words ++ rest → exR ws k r = .ok e (advE r e) := by
  have leaf : ∀ (e : Ex) (k : Nat) (r : RS) (rest : List Str), NmOk r.vars → okEx (r.vars.map (·.1)) r.pressed k e → (∀ o a b, e ≠ .op o a b) → ws.drop r.pos = e.words ++ rest → here ws r ∉ ops ∧ leafR ws r = .ok e (advE r e) := by
    intro e k r rest hn h hne hd
    obtain ⟨x, e1, e2, e3⟩ := leaf_of hn h hne
    rw [e1] at hd
    have hh := here_of (m := rest) hd
    refine ⟨by rw [hh]; exact e2, ?_⟩
    unfold leafR advE; rw [hh, e3, e1]; rfl
  intro k
  induction k with
  | zero =>
    intro e r rest hn h hd
    cases e with
    | op o a b => exact absurd h id
    | num n => exact (leaf _ 0 r rest hn h (by intros; intro z; cases z) hd).2
    | var n => exact (leaf _ 0 r rest hn h (by intros; intro z; cases z) hd).2
    | press => exact (leaf _ 0 r rest hn h (by intros; intro z; cases z) hd).2
  | succ k ih =>
    intro e r rest hn h hd
    have other : (∀ o a b, e ≠ .op o a b) → exR ws (k + 1) r = .ok e (advE r e) := fun hne => by
      obtain ⟨h1, h2⟩ := leaf e (k + 1) r rest hn h hne hd
      unfold exR; rw [if_neg h1]; exact h2
    cases e with
    | num n => exact other (by intros; intro z; cases z)
    | var n => exact other (by intros; intro z; cases z)
    | press => exact other (by intros; intro z; cases z)
    | op o a b =>
      obtain ⟨h1, h2, h3⟩ := h
      have hd' : ws.drop r.pos = o :: (a.words ++ (b.words ++ rest)) := by rw [hd]; simp [Ex.words]
      have hh := here_of hd'
      have d1 := go_drop hd'
      unfold exR
      rw [hh, if_pos h1, ih a r.go _ hn h2 d1]
      have d2 : ws.drop (advE r.go a).pos = b.words ++ rest := drop_app d1
      show ((exR ws k (advE r.go a)).bind _) = _
      rw [ih b (advE r.go a) _ hn h3 d2]
      show Res.ok _ _ = Res.ok _ _
      congr 1
      unfold advE RS.go
      rw [show (Ex.op o a b).words = o :: (a.words ++ b.words) from rfl]
      simp only [RS.mk.injEq, and_true, true_and, List.length_cons, List.length_append]
      omega
/-! statements -/
def advS (r : RS) (s : Stm) : RS := { r with pos := r.pos + s.words.length, draws := r.draws + nd s, uses := r.uses + nu s }
def advB (r : RS) (l : List Stm) : RS := { r with pos := r.pos + (blockWords l).length, draws := r.draws + nds l, uses := r.uses + nus l }
def chAt (ws : List Str) (ar : Bool) : Nat → RS → Res Stm
  | 0 => fun r => .bad r.pos
  | k + 1 => choiceR ws ar k
theorem choiceR_eq (k : Nat) : choiceR ws ar k = choice1 ws ar (4 - k) (chAt ws ar k) := by cases k <;> rfl
theorem blockR_eq (k : Nat) : blockR ws ar k = stmtsR ws ar (4 - k) (chAt ws ar k) := by cases k <;> rfl
def firstW : Stm → Str
  | .set _ _ => wd "set" | .draw _ _ => wd "draw" | .use _ _ => wd "use" | .say _ => wd "say" | .ite _ _ _ => wd "if"
theorem words_first (s : Stm) : ∃ m, s.words = firstW s :: m := by cases s <;> exact ⟨_, rfl⟩
theorem words_pos (s : Stm) : 0 < s.words.length := by obtain ⟨m, e⟩ := words_first s; rw [e]; simp
theorem len_le_words : ∀ l : List Stm, l.length ≤ (blockWords l).length
  | [] => Nat.le_refl _
  | s :: r => by
    have := words_pos s
    have := len_le_words r
    simp only [blockWords, List.length_cons, List.length_append]; omega
theorem may_set {r : RS} {d : Nat} : mayR ar (wd "set") d r = decide (0 < r.vars.length) := by
  unfold mayR
  rw [if_neg (by decide +kernel), if_neg (by decide +kernel), if_neg (by rintro ⟨a, _⟩; revert a; decide +kernel), if_neg (by rintro ⟨a, _⟩; revert a; decide +kernel),
    show decide (wd "set" ∈ (["set", "draw", "use"] : List Str)) = true by decide +kernel, Bool.true_and]
theorem may_draw {r : RS} {d : Nat} : mayR ar (wd "draw") d r = (decide (r.draws < 3) && decide (0 < r.vars.length)) := by
  unfold mayR
  rw [if_neg (by decide +kernel), if_neg (by decide +kernel)]
  by_cases h : 3 ≤ r.draws
  · rw [if_pos ⟨rfl, h⟩, decide_eq_false (by omega : ¬ r.draws < 3)]; rfl
  · rw [if_neg (fun z => h z.2), if_neg (by rintro ⟨a, _⟩; revert a; decide +kernel), decide_eq_true (by omega : r.draws < 3), show decide (wd "draw" ∈ (["set", "draw", "use"] : List Str)) = true by decide +kernel]
theorem may_use {r : RS} {d : Nat} : mayR ar (wd "use") d r = (ar && (decide (r.uses < 24) && decide (0 < r.vars.length))) := by
  unfold mayR
  rw [if_neg (by decide +kernel), if_neg (by decide +kernel), if_neg (by rintro ⟨a, _⟩; revert a; decide +kernel)]
  cases ar with
  | false => rw [if_pos ⟨rfl, .inl rfl⟩]; rfl
  | true =>
    by_cases h : 24 ≤ r.uses
    · rw [if_pos ⟨rfl, .inr h⟩, decide_eq_false (by omega : ¬ r.uses < 24)]; rfl
    · rw [if_neg (by rintro ⟨_, a | a⟩; · cases a
                     · exact h a), decide_eq_true (by omega : r.uses < 24), show decide (wd "use" ∈ (["set", "draw", "use"] : List Str)) = true by decide +kernel]; rfl
theorem may_say {r : RS} {d : Nat} : mayR ar (wd "say") d r = r.pressed := by
  unfold mayR
  rw [if_neg (by decide +kernel), if_pos (show wd "say" = Str.ofString "say" from rfl)]
theorem may_if {r : RS} {d : Nat} : mayR ar (wd "if") d r = decide (d < 4) := by
  unfold mayR
  rw [if_pos (show wd "if" = Str.ofString "if" from rfl)]
theorem may_not {r : RS} {d : Nat} {w : Str} (h : w ∉ sts) : mayR ar w d r = false := by
  have e : ∀ y : Str, y ∈ sts → w ≠ y := fun y hy z => h (z ▸ hy)
  unfold mayR
  rw [if_neg (e "if" (by decide +kernel)), if_neg (e "say" (by decide +kernel)), if_neg (fun z => e "draw" (by decide +kernel) z.1), if_neg (fun z => e "use" (by decide +kernel) z.1)]
  rw [decide_eq_false]; · rfl
  intro z
  simp only [List.mem_cons, List.not_mem_nil, or_false] at z
  rcases z with z | z | z
  · exact e "set" (by decide +kernel) z
  · exact e "draw" (by decide +kernel) z
  · exact e "use" (by decide +kernel) z
theorem vars_pos {r : RS} {x : Str} (h : x ∈ r.vars.map (·.1)) : 0 < r.vars.length := by
  have := List.length_pos_of_mem h
  simpa using this
theorem may_first {r : RS} {k : Nat} (hk : k ≤ 4) : ∀ {s : Stm}, okSt (r.vars.map (·.1)) r.pressed ar k s → r.draws + nd s ≤ 3 → r.uses + nu s ≤ 24 → mayR ar (firstW s) (4 - k) r = true
  | .set x e, h, _, _ => by rw [firstW, may_set]; simpa using vars_pos h.1
  | .draw x n, h, h1, _ => by
    rw [firstW, may_draw]
    have := vars_pos h.1
    simp [nd] at h1 ⊢; omega
  | .use x e, h, _, h2 => by
    rw [firstW, may_use]
    have := vars_pos h.2.1
    simp [nu] at h2 ⊢; exact ⟨h.1, by omega, by omega⟩
  | .say e, h, _, _ => by rw [firstW, may_say]; exact h.1
  | .ite e s t, h, _, _ => by
    rw [firstW, may_if]
    have := h.1
    simp; omega
theorem first_sts (s : Stm) : firstW s ∈ sts := by
  cases s
  · exact (by decide +kernel : wd "set" ∈ sts)
  · exact (by decide +kernel : wd "draw" ∈ sts)
  · exact (by decide +kernel : wd "use" ∈ sts)
  · exact (by decide +kernel : wd "say" ∈ sts)
  · exact (by decide +kernel : wd "if" ∈ sts)
theorem end_sts : wd "end" ∉ sts := by decide +kernel
theorem else_sts : wd "else" ∉ sts := by decide +kernel
theorem loop_stop {d n : Nat} {ch : RS → Res Stm} {acc : List Stm} {r : RS} (h : mayR ar (here ws r) d r = false) : loopR ws ar d ch n acc r = .ok acc r := by
  cases n with
  | zero => rfl
  | succ n => unfold loopR; rw [h, if_neg Bool.false_ne_true]
theorem hw {r : RS} {x : Str} {m : List Str} (h : ws.drop r.pos = x :: m) {y : Str} (e : x = y) : here ws r = y := (here_of h).trans e
theorem varR_words {r : RS} {x : Str} {m : List Str} (h : ws.drop r.pos = x :: m) (hx : x ∈ r.vars.map (·.1)) : varR ws r = .ok x r.go := by
  unfold varR; rw [here_of h, if_pos (hasV_iff.mpr hx)]
theorem numR_words {r : RS} {lo hi n : Nat} {m : List Str} (h : ws.drop r.pos = dec n :: m) (h1 : lo ≤ n) (h2 : n ≤ hi) : numR ws lo hi r = .ok n r.go := by
  unfold numR; rw [here_of h, numOf_dec h2]
  show (if lo ≤ n then _ else _ : Res Nat) = _
  rw [if_pos h1]
mutual
theorem stmt_words : ∀ (s : Stm) (k : Nat) (r : RS) (rest : List Str), k ≤ 4 → NmOk r.vars → okSt (r.vars.map (·.1)) r.pressed ar k s → r.draws + nd s ≤ 3 → r.uses + nu s ≤ 24 → ws.drop r.pos = s.words ++ rest → stmtR ws (chAt ws ar k) r = .ok s (advS r s)
  | .set x e, k, r, rest, hk, hn, h, h1, h2, hd => by
    have hd' : ws.drop r.pos = wd "set" :: x :: (e.words ++ rest) := by rw [hd]; simp [Stm.words]
    have hh := here_of hd'
    have d1 := go_drop hd'
    have d2 := go_drop d1
    unfold stmtR
    rw [hh, if_neg (by decide +kernel), if_neg (by decide +kernel)]
    rw [varR_words d1 h.1]
    rw [bind_mk]
    rw [if_neg (by decide +kernel), if_neg (by decide +kernel), exR_words 4 e r.go.go rest hn h.2 d2]
    show Res.ok _ _ = Res.ok _ _
    congr 1
    unfold advE advS RS.go Stm.words
    simp only [RS.mk.injEq, and_true, true_and, List.length_cons, nd, nu, Nat.add_zero]; omega
  | .draw x n, k, r, rest, hk, hn, h, h1, h2, hd => by
    have hd' : ws.drop r.pos = wd "draw" :: x :: dec n :: rest := by rw [hd]; simp [Stm.words]
    have hh := here_of hd'
    have d1 := go_drop hd'
    have d2 := go_drop d1
    unfold stmtR
    rw [hh, if_neg (by decide +kernel), if_neg (by decide +kernel)]
    rw [varR_words d1 h.1]
    rw [bind_mk]
    rw [if_pos (by decide +kernel)]
    rw [numR_words (r := { r.go.go with draws := r.go.go.draws + 1 }) d2 h.2.1 h.2.2]
    show Res.ok _ _ = Res.ok _ _
    congr 1
  | .use x e, k, r, rest, hk, hn, h, h1, h2, hd => by
    have hd' : ws.drop r.pos = wd "use" :: x :: (e.words ++ rest) := by rw [hd]; simp [Stm.words]
    have hh := here_of hd'
    have d1 := go_drop hd'
    have d2 := go_drop d1
    unfold stmtR
    rw [hh, if_neg (by decide +kernel), if_neg (by decide +kernel)]
    rw [varR_words d1 h.2.1]
    rw [bind_mk]
    rw [if_neg (by decide +kernel), if_pos (by decide +kernel), exR_words 4 e { r.go.go with uses := r.go.go.uses + 1 } rest hn h.2.2 d2]
    show Res.ok _ _ = Res.ok _ _
    congr 1
    unfold advE advS RS.go Stm.words
    simp only [RS.mk.injEq, and_true, true_and, List.length_cons, nd, nu, Nat.add_zero]; omega
  | .say e, k, r, rest, hk, hn, h, h1, h2, hd => by
    have hd' : ws.drop r.pos = wd "say" :: (e.words ++ rest) := by rw [hd]; simp [Stm.words]
    have hh := here_of hd'
    have d1 := go_drop hd'
    unfold stmtR
    rw [hh, if_neg (by decide +kernel), if_pos (by decide +kernel), exR_words 4 e r.go rest hn h.2 d1]
    show Res.ok _ _ = Res.ok _ _
    congr 1
    unfold advE advS RS.go Stm.words
    simp only [RS.mk.injEq, and_true, true_and, List.length_cons, nd, nu, Nat.add_zero]; omega
  | .ite e s t, 0, r, rest, hk, hn, h, h1, h2, hd => absurd h.1 (by omega)
  | .ite e s t, k + 1, r, rest, hk, hn, h, h1, h2, hd => by
    obtain ⟨_, he, hs, ht⟩ := h
    simp only [nd] at h1
    simp only [nu] at h2
    have hd' : ws.drop r.pos = wd "if" :: (e.words ++ (blockWords s ++ ((if t.isEmpty = true then [] else wd "else" :: blockWords t) ++ (wd "end" :: rest)))) := by rw [hd]; simp [Stm.words]
    have hh := here_of hd'
    have d1 := go_drop hd'
    unfold stmtR
    rw [hh, if_pos (by decide +kernel)]
    show choiceR ws ar k r.go = _
    rw [choiceR_eq]
    unfold choice1
    rw [exR_words 4 e r.go _ hn he d1]
    have d2 : ws.drop (advE r.go e).pos = _ := drop_app d1
    show ((stmtsR ws ar (4 - k) (chAt ws ar k) (advE r.go e)).bind _) = _
    unfold stmtsR
    have hsl : s.length ≤ ws.length := by
      have := len_le_words s
      have := congrArg List.length d2
      simp only [List.length_drop, List.length_append] at this
      omega
    rw [loop_words s k (ws.length + 1) [] (advE r.go e) _ (by omega) hn hs (by show r.draws + _ ≤ 3; omega) (by show r.uses + _ ≤ 24; omega) d2 (by omega)]
    have d3 : ws.drop (advB (advE r.go e) s).pos = _ := drop_app d2
    cases t with
    | nil =>
      simp only [List.isEmpty_nil, if_true, List.nil_append] at d3
      have h3 := here_of d3
      rw [loop_stop (by rw [h3]; exact may_not end_sts)]
      show (if here ws (advB (advE r.go e) s) = _ ∧ _ then _ else _) = _
      rw [h3, if_neg (by rintro ⟨a, _⟩; revert a; decide +kernel)]
      unfold takeR
      rw [h3, if_pos (by decide +kernel)]
      show Res.ok _ _ = Res.ok _ _
      congr 1
      unfold advE advS advB RS.go Stm.words
      simp only [RS.mk.injEq, and_true, true_and, List.length_cons, List.length_append, nd, nu, nds, nus, List.isEmpty_nil, if_true, List.length_nil]; omega
    | cons t0 tr =>
      simp only [List.isEmpty_cons, Bool.false_eq_true, if_false, List.cons_append] at d3
      have h3 := here_of d3
      have d4 := go_drop d3
      rw [loop_stop (by rw [h3]; exact may_not else_sts)]
      show (if here ws (advB (advE r.go e) s) = _ ∧ _ then _ else _) = _
      rw [h3]
      have hm : sts.any (fun w => mayR ar w (4 - k) (advB (advE r.go e) s)) = true := by
        refine List.any_eq_true.mpr ⟨firstW t0, first_sts t0, may_first (by omega) ht.1 ?_ ?_⟩
        · show r.draws + nds s + nd t0 ≤ 3
          simp only [nds] at h1; omega
        · show r.uses + nus s + nu t0 ≤ 24
          simp only [nus] at h2; omega
      rw [if_pos ⟨by decide +kernel, hm⟩]
      have htl : (t0 :: tr).length ≤ ws.length := by
        have := len_le_words (t0 :: tr)
        have := congrArg List.length d4
        simp only [List.length_drop, List.length_append] at this
        omega
      rw [loop_words (t0 :: tr) k (ws.length + 1) [] (advB (advE r.go e) s).go _ (by omega) hn ht (by show r.draws + nds s + _ ≤ 3; omega) (by show r.uses + nus s + _ ≤ 24; omega) d4 (by omega)]
      have d5 : ws.drop (advB (advB (advE r.go e) s).go (t0 :: tr)).pos = _ := drop_app d4
      have h5 := here_of d5
      rw [loop_stop (by rw [h5]; exact may_not end_sts)]
      rw [bind_mk, if_neg (by simp)]
      unfold takeR
      rw [h5, if_pos (by decide +kernel)]
      show Res.ok _ _ = Res.ok _ _
      congr 1
      unfold advE advS advB RS.go Stm.words
      simp only [RS.mk.injEq, and_true, true_and, List.length_cons, List.length_append, nd, nu, List.isEmpty_cons, Bool.false_eq_true, if_false, List.length_nil]
      omega
theorem loop_words : ∀ (l : List Stm) (k n : Nat) (acc : List Stm) (r : RS) (rest : List Str), k ≤ 4 → NmOk r.vars → okBl (r.vars.map (·.1)) r.pressed ar k l → r.draws + nds l ≤ 3 → r.uses + nus l ≤ 24 → ws.drop r.pos = blockWords l ++ rest → l.length ≤ n →
    loopR ws ar (4 - k) (chAt ws ar k) n acc r = loopR ws ar (4 - k) (chAt ws ar k) (n - l.length) (acc ++ l) (advB r l)
  | [], k, n, acc, r, rest, hk, hn, h, h1, h2, hd, hl => by rw [List.append_nil]; rfl
  | s :: l, k, 0, acc, r, rest, hk, hn, h, h1, h2, hd, hl => by simp at hl
  | s :: l, k, n + 1, acc, r, rest, hk, hn, h, h1, h2, hd, hl => by
    simp only [nds] at h1
    simp only [nus] at h2
    have hd1 : ws.drop r.pos = s.words ++ (blockWords l ++ rest) := by rw [hd]; simp [blockWords]
    obtain ⟨m, em⟩ := words_first s
    have hh : here ws r = firstW s := here_of (m := m ++ (blockWords l ++ rest)) (by rw [hd1, em]; rfl)
    rw [loopR, hh, may_first hk h.1 (by omega) (by omega), if_pos rfl, stmt_words s k r _ hk hn h.1 (by omega) (by omega) hd1]
    have d2 : ws.drop (advS r s).pos = blockWords l ++ rest := drop_app hd1
    show loopR ws ar (4 - k) (chAt ws ar k) n (acc ++ [s]) (advS r s) = _
    rw [loop_words l k n (acc ++ [s]) (advS r s) rest hk hn h.2 (by show r.draws + nd s + _ ≤ 3; omega) (by show r.uses + nu s + _ ≤ 24; omega) d2 (by simp at hl; omega)]
    have e1 : n + 1 - (s :: l).length = n - l.length := by simp
    have e2 : acc ++ [s] ++ l = acc ++ s :: l := by simp
    rw [e1, e2]
    congr 1
    unfold advS advB
    simp only [RS.mk.injEq, and_true, true_and, blockWords, List.length_append, nds, nus]
    omega
end
end
end Rd

set_option Elab.async false
set_option linter.all false
set_option maxRecDepth 100000
set_option maxHeartbeats 4000000
/-! A whole box that is right is read from its words. -/
namespace Rd
open PySem PyProof.Rows TL
section
variable {ws : List Str} {ar : Bool}
theorem takeR_words {r : RS} {x : Str} {m : List Str} (h : ws.drop r.pos = x :: m) : takeR ws x r = .ok () r.go := by
  unfold takeR; rw [here_of h, if_pos rfl]
theorem takeR_bad {r : RS} {x y : Str} (h : here ws r = y) (n : y ≠ x) : takeR ws x r = .bad r.pos := by
  unfold takeR; rw [h, if_neg n]
theorem newR_words {r : RS} {x : Str} {m : List Str} (h : ws.drop r.pos = x :: m) (hx : isName x = true) (hv : x ∉ r.vars.map (·.1)) : newR ws r = .ok x r.go := by
  unfold newR; rw [here_of h, if_pos ⟨hx, by unfold hasV; simpa using hv⟩]
def okVars : List Str → List (Str × Nat) → Prop
  | _, [] => True
  | nm, (x, n) :: r => isName x = true ∧ x ∉ nm ∧ 1 ≤ n ∧ n ≤ 12 ∧ okVars (nm ++ [x]) r
def advV (r : RS) (l : List (Str × Nat)) : RS := { r with pos := r.pos + (varWords l).length, vars := r.vars ++ l }
theorem varsR_words : ∀ (l : List (Str × Nat)) (n : Nat) (r : RS) (rest : List Str), okVars (r.vars.map (·.1)) l → l.length ≤ n → ws.drop r.pos = varWords l ++ rest → varsR ws n r = varsR ws (n - l.length) (advV r l)
  | [], n, r, rest, _, _, _ => by unfold advV; simp [varWords]
  | (x, m) :: l, 0, r, rest, _, h, _ => by simp at h
  | (x, m) :: l, n + 1, r, rest, ⟨h1, h2, h3, h4, h5⟩, hl, hd => by
    have hd' : ws.drop r.pos = wd "var" :: x :: dec m :: (varWords l ++ rest) := hd
    have d1 := go_drop hd'
    have d2 := go_drop d1
    have d3 := go_drop d2
    rw [varsR, here_of hd', if_pos (show wd "var" = Str.ofString "var" from rfl), newR_words d1 h1 h2, bind_mk, numR_words d2 h3 h4, bind_mk]
    rw [varsR_words l n { r.go.go.go with vars := r.go.go.go.vars ++ [(x, m)] } rest (by rw [List.map_append]; exact h5) (by simp at hl; omega) d3]
    have e1 : n + 1 - ((x, m) :: l).length = n - l.length := by simp
    rw [e1]
    congr 1
    unfold advV RS.go
    simp only [RS.mk.injEq, and_true, true_and, varWords, List.length_cons, List.append_assoc, List.cons_append, List.nil_append]
    omega
theorem varsR_stop {n : Nat} {r : RS} (h : here ws r ≠ wd "var") : varsR ws n r = .ok () r := by
  cases n with
  | zero => rfl
  | succ n => rw [varsR, if_neg (show ¬ here ws r = Str.ofString "var" from h)]
theorem nmOk_of : ∀ {l : List (Str × Nat)} {nm : List Str}, okVars nm l → NmOk l
  | [], _, _ => fun p hp => nomatch hp
  | (x, n) :: l, nm, h => fun p hp => by
    rcases List.mem_cons.mp hp with rfl | hp
    · exact h.1
    · exact nmOk_of h.2.2.2.2 p hp
structure okBx (ar : Bool) (b : Bx) : Prop where
  b1 : 1 ≤ b.buttons
  b2 : b.buttons ≤ 4
  a1 : 1 ≤ b.answers
  a2 : b.answers ≤ 4
  vl : b.vars.length ≤ 4
  vo : okVars [] b.vars
  so : okBl (b.vars.map (·.1)) false ar 4 b.start
  bo : okBl (b.vars.map (·.1)) true ar 4 b.block
  dl : nds b.start + nds b.block ≤ 3
  ul : nus b.start + nus b.block ≤ 24
theorem block_words {l : List Stm} {r : RS} {rest : List Str} (hn : NmOk r.vars) (h : okBl (r.vars.map (·.1)) r.pressed ar 4 l) (h1 : r.draws + nds l ≤ 3) (h2 : r.uses + nus l ≤ 24) (hd : ws.drop r.pos = blockWords l ++ rest)
    (hs : mayR ar (here ws (advB r l)) 0 (advB r l) = false) : blockR ws ar 4 r = .ok l (advB r l) := by
  rw [blockR_eq]
  unfold stmtsR
  have hl : l.length ≤ ws.length := by
    have := len_le_words l
    have := congrArg List.length hd
    simp only [List.length_drop, List.length_append] at this
    omega
  rw [loop_words l 4 (ws.length + 1) [] r rest (by omega) hn h h1 h2 hd (by omega), loop_stop hs]; rfl
/-- up to where the statements of the start are read -/
def rA (b : Bx) : RS := (advV r0.go.go.go.go b.vars).go
theorem readR_head {b : Bx} {rest : List Str} (b1 : 1 ≤ b.buttons) (b2 : b.buttons ≤ 4) (a1 : 1 ≤ b.answers) (a2 : b.answers ≤ 4) (vl : b.vars.length ≤ 4) (vo : okVars [] b.vars)
    (e : ws = wd "buttons" :: dec b.buttons :: wd "answers" :: dec b.answers :: (varWords b.vars ++ wd "start" :: rest)) :
    readR ws ar = (blockR ws ar 4 (rA b)).bind (fun s r => (takeR ws "press" r).bind fun _ r => (blockR ws ar 4 { r with pressed := true }).bind fun t r => if r.pos < ws.length then .bad r.pos else .ok ⟨b.buttons, b.answers, r.vars, s, t⟩ r) ∧ ws.drop (rA b).pos = rest := by
  have d0 : ws.drop r0.pos = wd "buttons" :: dec b.buttons :: wd "answers" :: dec b.answers :: (varWords b.vars ++ wd "start" :: rest) := by rw [← e]; rfl
  have d1 := go_drop d0
  have d2 := go_drop d1
  have d3 := go_drop d2
  have d4 := go_drop d3
  have d5 : ws.drop (advV r0.go.go.go.go b.vars).pos = wd "start" :: rest := drop_app d4
  have d6 := go_drop d5
  refine ⟨?_, d6⟩
  unfold readR
  rw [show takeR ws (Str.ofString "buttons") r0 = .ok () r0.go from takeR_words d0, bind_mk, numR_words d1 b1 b2, bind_mk]
  rw [show takeR ws (Str.ofString "answers") r0.go.go = .ok () r0.go.go.go from takeR_words d2, bind_mk, numR_words d3 a1 a2, bind_mk]
  rw [varsR_words b.vars 4 r0.go.go.go.go _ vo vl d4, varsR_stop (by rw [here_of d5]; decide +kernel), bind_mk]
  rw [show takeR ws (Str.ofString "start") (advV r0.go.go.go.go b.vars) = .ok () (rA b) from takeR_words d5, bind_mk]
theorem rA_vars (b : Bx) : (rA b).vars = b.vars ∧ (rA b).draws = 0 ∧ (rA b).uses = 0 ∧ (rA b).pressed = false := ⟨List.nil_append _, rfl, rfl, rfl⟩
theorem press_sts : wd "press" ∉ sts := by decide +kernel
theorem empty_sts : Str.empty ∉ sts := by decide +kernel
theorem readR_words {b : Bx} (h : okBx ar b) : ∃ r, readR b.words ar = .ok b r := by
  obtain ⟨b1, b2, a1, a2, vl, vo, so, bo, dl, ul⟩ := h
  obtain ⟨e1, d1⟩ := readR_head (ws := b.words) (ar := ar) b1 b2 a1 a2 vl vo rfl
  obtain ⟨v1, v2, v3, v4⟩ := rA_vars b
  have hn : NmOk (rA b).vars := by rw [v1]; exact nmOk_of vo
  have d2 : b.words.drop (advB (rA b) b.start).pos = wd "press" :: blockWords b.block := drop_app d1
  have d3 := go_drop d2
  rw [e1, block_words hn (by rw [v1, v4]; exact so) (by rw [v2]; omega) (by rw [v3]; omega) d1 (by rw [here_of d2]; exact may_not press_sts), bind_mk]
  rw [show takeR b.words (Str.ofString "press") (advB (rA b) b.start) = .ok () (advB (rA b) b.start).go from takeR_words d2, bind_mk]
  have d4 : b.words.drop (advB { (advB (rA b) b.start).go with pressed := true } b.block).pos = [] := drop_app (n := []) (by rw [List.append_nil]; exact d3)
  rw [block_words (r := { (advB (rA b) b.start).go with pressed := true }) (rest := []) hn (by show okBl ((rA b).vars.map _) true ar 4 _; rw [v1]; exact bo) (by show (rA b).draws + nds b.start + _ ≤ 3; rw [v2]; omega) (by show (rA b).uses + nus b.start + _ ≤ 24; rw [v3]; omega)
    (by rw [List.append_nil]; exact d3) (by rw [here_end d4]; exact may_not empty_sts), bind_mk]
  have hp := congrArg List.length d4
  rw [List.length_drop, List.length_nil] at hp
  rw [if_neg (fun z => by have z' := Nat.sub_pos_of_lt z; rw [hp] at z'; exact Nat.lt_irrefl 0 z')]
  refine ⟨_, congrArg (fun x => Res.ok x _) (?_ : Bx.mk b.buttons b.answers (rA b).vars b.start b.block = b)⟩
  rw [v1]
end
end Rd

set_option Elab.async false
set_option linter.all false
set_option maxRecDepth 100000
set_option maxHeartbeats 4000000
namespace K
open PySem PySem.Spec PyProof.Rows L2 Tk Hd Rd
section
variable {P : Program} {w : World} {K : PySem.W.Frag} {mg : Str → Option Value} {base : Heap}
/-! ### errors that tell a place -/
abbrev CBT (K : PySem.W.Frag) : Addr := He.ga K "BadText"
def spBT (C : Addr) : Sp := fun vs H Q _ => ∃ (a : Addr) (v : V), vs = [.ref a, v] ∧ H a = some (exo a C none) ∧ ∀ dx, H dx = none → dx ≠ a → Q .non (upd (upd H dx (exd dx [("at", v)])) a (exo a C (some dx)))
theorem sc_bt : FnScope ["self", "at"] ["self", "at"] (defScope s_BadText_init) := ⟨rfl, rfl, rfl, by decide +kernel, rfl, by decide +kernel, by decide +kernel⟩
theorem ok_bt (D : Dt K mg) : Has P w K mg base 1 (He.ma K (CBT K) "__init__") ["self", "at"] [] (spBT (CBT K)) := by
  obtain ⟨fd, F⟩ := fd_BadText_init D
  refine hasN F (F.bindsN fun _ _ _ _ _ _ us hl => match us, hl with | [_, _], _ => rfl) sc_bt (fun vs H Q E h => ?_) (fun cdv A outer s H vs Q E hr h => ?_)
  · obtain ⟨a, v, rfl, _⟩ := h; rfl
  · obtain ⟨a, v, rfl, ha, k⟩ := h
    refine ⟨_, pss_one (ps_ost (pv 0) (pv 1)), ?_⟩
    exact ⟨_, rfl, _, rfl, a, CBT K, rfl, (oex_BadText D).T, (oex_BadText D).no, .inl ⟨ha, k⟩⟩
theorem xd_heap {H : Hp} {a d : Addr} {u v : HO} {fs : List (Str × V)} {o : HO} (ha : H a = none) (n : d ≠ a) : upd (del (upd (upd (upd H a o) d u) a v) a) d (.xd fs) = upd H d (.xd fs) := by
  funext b
  by_cases hb : b = d
  · subst hb; rw [upd_same, upd_same]
  · rw [upd_ne hb, upd_ne hb]
    by_cases hba : b = a
    · subst hba; rw [del_same, ha]
    · rw [del_ne hba, upd_ne hba, upd_ne hb, upd_ne hba]
/-- a place is told -/
def RaisedAt (ms : List Addr) (I H : Hp) (C : Addr) (n : Nat) (E : XK) : Prop := ∀ I' H' d, Gr ms I H I' H' → H' d = some (.xd [("at", .int (n : Int))]) → E (.ref C) (some d) H'
theorem raised_at {ms : List Addr} {I H I' H' : Hp} {C : Addr} {n : Nat} {E : XK} (g : Gr ms I H I' H') (h : RaisedAt ms I H C n E) : ∀ e, H' e = none → ∀ d, upd H' e (exo e C none) d = none → d ≠ e → E (.ref C) (some d) (upd (del (upd (upd (upd H' e (exo e C none)) d (exd d [("at", .int (n : Int))])) e (exo e C (some d))) e) d (.xd [("at", .int (n : Int))])) := fun e he d hd ne => by
  have hd2 : H' d = none := by rw [upd_ne ne] at hd; exact hd
  rw [xd_heap (H := H') (u := exd d [("at", .int (n : Int))]) (v := exo e C (some d)) (o := exo e C none) (fs := [("at", .int (n : Int))]) he ne]
  exact h I' _ d (g.trans (Gr.tmp g.ih hd2)) upd_same
/-! ### words and numbers -/
def iSs : Rp (List Str) := fun H v ws => ∃ a, v = .ref a ∧ H a = some (.lst (ws.map V.str))
instance : Mono iSs := ⟨fun s ⟨a, e, h⟩ => ⟨a, e, s _ _ h⟩⟩
def wordsOf (z : Str) : List Str := if z = ("" : Str) then [] else Txt.split z " "
def spWordsOf : Sp := fun vs H Q _ => ∃ (I : Hp) (z : Str), vs = [.str z] ∧ Same I H ∧ z.length + 2 ≤ sizeLine ∧ Ret [] I H iSs (wordsOf z) Q
theorem sc_words_of : FnScope ["text"] ["text"] (defScope s_words_of) := ⟨rfl, rfl, rfl, by decide +kernel, rfl, by decide +kernel, by decide +kernel⟩
theorem ok_words_of (D : Dt K mg) : Has P w K mg base 1 (He.ga K "words_of") ["text"] [] (spWordsOf) := by
  obtain ⟨fd, F⟩ := fd_words_of D
  refine hasN F (F.bindsN fun _ _ _ _ _ _ us hl => match us, hl with | [_], _ => rfl) sc_words_of (fun vs H Q E h => ?_) (fun cdv A outer s H vs Q E hr h => ?_)
  · obtain ⟨I, z, rfl, _⟩ := h; rfl
  · obtain ⟨I, z, rfl, s0, hz, k⟩ := h
    refine ⟨_, (pss_one (ps_ret (pe_ifExp (pt_cmpR op_ne (pv 0) pe_str (nomark _)) (pe_bm PySem.F.plainAttrs_str PySem.F.slot_str_split PySem.F.type_str_split mt_split (pv 0) (pa_cons pe_str pa_nil)) (pe_lst pa_nil)))), ?_⟩
    refine ⟨_, rfl, rfl, _, rfl, ?_⟩
    refine ifB (fun c => ?_) (fun c => ?_)
    · have c' : ¬ z = ("" : Str) := by simpa using c
      refine ⟨_, rfl, rfl, z, _, rfl, rfl, by decide +kernel, hz, fun p hp => ?_⟩
      have := k _ _ (.ref p) (Gr.new (o := .lst ((wordsOf z).map V.str)) s0 hp) ⟨p, rfl, upd_same⟩
      rw [wordsOf, if_neg c'] at this
      exact this
    · have c' : z = ("" : Str) := by simpa using c
      refine ⟨by show 0 ≤ sizeLine; decide, fun p hp => ?_⟩
      have := k _ _ (.ref p) (Gr.new (o := .lst ((wordsOf z).map V.str)) s0 hp) ⟨p, rfl, upd_same⟩
      rw [wordsOf, if_pos c'] at this
      exact this
def oInt : Option Nat → V
  | some n => .int (n : Int)
  | none => .non
def spNumberOf : Sp := fun vs H Q _ => ∃ (z : Str) (most : Nat), vs = [.str z, .int (most : Int)] ∧ z.length ≤ sizeLine ∧ most < 10 ^ 64 ∧ Q (oInt (numOf z most)) H
theorem dec_len {n : Nat} (h : n < 10 ^ 64) : (dec n).length ≤ 64 := by rw [TL.len_tl, tl_dec]; exact TL.numL_len (by decide) h
theorem sc_number_of : FnScope ["word", "most", "number"] ["word", "most"] (defScope s_number_of) := ⟨rfl, rfl, rfl, by decide +kernel, rfl, by decide +kernel, by decide +kernel⟩
theorem ok_number_of (D : Dt K mg) : Has P w K mg base 1 (He.ga K "number_of") ["word", "most"] [] (spNumberOf) := by
  obtain ⟨fd, F⟩ := fd_number_of D
  refine hasN F (F.bindsN fun _ _ _ _ _ _ us hl => match us, hl with | [_, _], _ => rfl) sc_number_of (fun vs H Q E h => ?_) (fun cdv A outer s H vs Q E hr h => ?_)
  · obtain ⟨z, most, rfl, _⟩ := h; rfl
  · obtain ⟨z, most, rfl, hz, hm, k⟩ := h
    refine ⟨_, (pss_cons (ps_if (PW.pt (pw_or (pt_cmpR op_gt (pe_callB (call_lenK K) rfl (free_len D) PySem.boot_len (pa_cons (pv 0) pa_nil)) (pe_callB (call_lenK K) rfl (free_len D) PySem.boot_len (pa_cons (pe_callTy call_str_int rfl (free_str D) (by decide +kernel) (pa_cons (pv 1) pa_nil)) pa_nil)) (nomark _)) (pw_or1 (pt_not (PW.pt (pw_and (pt_val (pe_bm0 PySem.F.plainAttrs_str PySem.F.slot_str_isascii PySem.F.type_str_isascii mt_isascii (pv 0))) (pw_and1 (pt_val (pe_bm0 PySem.F.plainAttrs_str PySem.F.slot_str_isdigit PySem.F.type_str_isdigit mt_isdigit (pv 0))))))))))
      (pss_one (ps_ret pe_non))
      pss_nil)
      (pss_cons (ps_if (PW.pt (pw_and (pt_val (pe_bm PySem.F.plainAttrs_str PySem.F.slot_str_startswith PySem.F.type_str_startswith mt_startswith (pv 0) (pa_cons pe_str pa_nil))) (pw_and1 (pt_cmpR op_ne (pv 0) pe_str (nomark _)))))
      (pss_one (ps_ret pe_non))
      pss_nil)
      (pss_cons (ps_set (i := 2) sc_number_of.nd rfl (Or.inl rfl) (pe_callTy call_int_str rfl (free_int D) (by decide +kernel) (pa_cons (pv 0) pa_nil)))
      (pss_one (ps_ret (pe_ifExp (pt_cmpR op_le (pv 2) (pv 1) (nomark _)) (pv 2) pe_non)))))), ?_⟩
    have hl := dec_len hm
    have hlog : ((most : Int)).natAbs.log2 < 1920 := by
      rw [Int.natAbs_natCast]
      by_cases h0 : most = 0
      · rw [h0]; decide
      · exact (Nat.log2_lt h0).mpr (Nat.lt_of_lt_of_le hm (by decide +kernel))
    refine ⟨_, rfl, _, _, rfl, ⟨hz, rfl⟩, _, rfl, _, rfl, hlog, _, _, rfl, ⟨Nat.le_trans hl (by decide), rfl⟩, _, _, rfl, rfl, _, rfl, ?_⟩
    refine ifD (fun c => ?_) (fun c => ?_)
    · rw [numOf_long (w := z) (most := most) (by show (dec most).length < z.length; exact Int.ofNat_lt.mp c)] at k
      exact k
    have c1 : z.length ≤ (dec most).length := by
      have : ¬ ((dec most).length : Int) < (z.length : Int) := c
      omega
    have hn : (Txt.isascii z && Txt.isdigit z) = false → Q (oInt (numOf z most)) H → Q .non H := fun c q => by
      rw [ascii_digit] at c
      rw [numOf_digs (fun y => by rw [decide_eq_true y.1, y.2] at c; cases c)] at q
      exact q
    refine ⟨_, rfl, rfl, z, rfl, rfl, trivial, _, rfl, ifB (fun ca => ?_) (fun ca => ?_)⟩
    rotate_left
    · exact hn (by rw [ca]; rfl) k
    refine ⟨_, rfl, rfl, z, rfl, rfl, trivial, _, rfl, ?_⟩
    dsimp only
    refine ifB (fun cd => ?_) (fun cd => ?_)
    · exact hn (by rw [ca, show Txt.isdigit z = false from by simpa using cd]; rfl) k
    have cd : Txt.isdigit z = true := by simpa using cd
    have both := ascii_digit z
    rw [ca, cd] at both
    obtain ⟨n1, n2⟩ := He.ba both.symm
    have n1 : TL.tl z ≠ [] := of_decide_eq_true n1
    obtain ⟨c0, r0, ez⟩ : ∃ c r, TL.tl z = c :: r := by
      cases q : TL.tl z with
      | nil => exact absurd q n1
      | cons c r => exact ⟨c, r, rfl⟩
    (try unfold tNext)
    (try dsimp only)
    refine ⟨_, rfl, rfl, z, _, rfl, rfl, _, rfl, ?_⟩
    rw [starts1 z "0" 48 (by decide +kernel), ez]
    have tail : (c0 ≠ 48 ∨ r0 = []) → tSeq (tAsg (tCB (fun xs H Q => ∃ a n, xs = [V.str a] ∧ intText? a = some n ∧ a.length ≤ 640 ∧ Q (V.int n) H) (tCons (tVar 0) tNil)) (gName 2))
        (tRet (tIf (tTest (tOp (rI0 fun i j => V.bl (decide (i ≤ j))) (tVar 2) (tVar 1))) (tVar 2) (tC V.non))) { nx := fun x H' => Q V.non H', rt := Q } (L2.start ["word", "most", "number"] [V.str z, V.int ↑most]) H := fun hc => by
      have lz : z.length ≤ 640 := Nat.le_trans c1 (Nat.le_trans hl (by decide))
      refine ⟨_, rfl, z, _, rfl, PySem.intText_digits (all_dig.mp n2) n1 (Nat.le_trans lz (by decide)), lz, _, rfl, _, rfl, _, _, rfl, rfl, _, rfl, ?_⟩
      rw [numOf_else ez n2 hc] at k
      refine ifD (fun q => ?_) (fun q => ?_)
      · have q : dv (TL.tl z) ≤ most := Int.ofNat_le.mp q
        rw [if_pos q] at k
        exact ⟨_, rfl, k⟩
      · have q : ¬ dv (TL.tl z) ≤ most := fun y => q (Int.ofNat_le.mpr y)
        rw [if_neg q] at k
        exact k
    refine ifB (fun c2 => ?_) (fun c2 => ?_)
    · have e48 : c0 = 48 := by simpa using c2
      subst e48
      refine ⟨_, rfl, rfl, _, rfl, ?_⟩
      refine ifB (fun c3 => ?_) (fun c3 => ?_)
      · rw [numOf_lead ez (fun q => by subst q; revert c3; rw [show z = ("0" : Str) from TL.ext_tl (by rw [ez]; decide +kernel)]; decide +kernel)] at k
        exact k
      · refine tail (.inr ?_)
        have : z = ("0" : Str) := by simpa using c3
        subst this
        have : TL.tl ("0" : Str) = [48] := by decide +kernel
        rw [this] at ez
        injection ez with _ h; exact h.symm
    · refine tail (.inl fun q => ?_)
      subst q; simp at c2
end
end K

set_option Elab.async false
set_option linter.all false
set_option maxRecDepth 100000
set_option maxHeartbeats 4000000
namespace K
open PySem PySem.Spec PyProof.Rows L2 Tk Hd Rd
section
variable {P : Program} {w : World} {K : PySem.W.Frag} {mg : Str → Option Value} {base : Heap}
def spIsName : Sp := fun vs H Q _ => ∃ z : Str, vs = [.str z] ∧ z.length ≤ sizeLine ∧ Q (.bl (isName z)) H
theorem sc__is_name : FnScope ["word"] ["word"] (defScope s__is_name) := ⟨rfl, rfl, rfl, by decide +kernel, rfl, by decide +kernel, by decide +kernel⟩
theorem ok_is_name (D : Dt K mg) : Has P w K mg base 1 (He.ga K "_is_name") ["word"] [] (spIsName) := by
  obtain ⟨fd, F⟩ := fd__is_name D
  refine hasN F (F.bindsN fun _ _ _ _ _ _ us hl => match us, hl with | [_], _ => rfl) sc__is_name (fun vs H Q E h => ?_) (fun cdv A outer s H vs Q E hr h => ?_)
  · obtain ⟨z, rfl, _⟩ := h; rfl
  · obtain ⟨z, rfl, hz, k⟩ := h
    obtain ⟨t_MOST_LETTERS, e_MOST_LETTERS⟩ := int_MOST_LETTERS D
    refine ⟨_, (pss_cons (ps_if (PW.pt (pw_or (pt_cmpR op_gt (pe_callB (call_lenK K) rfl (free_len D) PySem.boot_len (pa_cons (pv 0) pa_nil)) (pe_glob (v := .int 8) rfl e_MOST_LETTERS ⟨t_MOST_LETTERS, rfl⟩) (nomark _)) (pw_or1 (pt_cmpR (op_in_seqK K) (pv 0) (pe_glob (v := .ref (He.ga K "RESERVED")) rfl (glo_RESERVED D) rfl) rfl))))
      (pss_one (ps_ret pe_bl))
      pss_nil)
      (pss_one (ps_ret (pe_and (pe_bm0 PySem.F.plainAttrs_str PySem.F.slot_str_isascii PySem.F.type_str_isascii mt_isascii (pv 0)) (pe_and (pe_bm0 PySem.F.plainAttrs_str PySem.F.slot_str_isalpha PySem.F.type_str_isalpha mt_isalpha (pv 0)) (pe_one (pe_bm0 PySem.F.plainAttrs_str PySem.F.slot_str_islower PySem.F.type_str_islower mt_islower (pv 0)))))))), ?_⟩
    refine ⟨_, rfl, _, _, rfl, ⟨hz, rfl⟩, _, _, rfl, rfl, _, rfl, ifD (fun c => ?_) (fun c => ?_)⟩
    · have c : 8 < z.length := by omega
      have e : isName z = false := by unfold isName; rw [decide_eq_false (by omega : ¬ z.length ≤ 8)]; rfl
      rw [e] at k; exact k
    have c : z.length ≤ 8 := by omega
    refine ⟨_, rfl, _, _, rfl, .inr (tup_RESERVED D H), rfl, flat_strs _, _, rfl, ?_⟩
    show if inV (V.str z) (resv.map V.str) = true then _ else _
    rw [inV_strs]
    refine ifD (fun c2 => ?_) (fun c2 => ?_)
    · have e : isName z = false := by unfold isName; rw [decide_eq_false (fun q => q c2 : ¬ z ∉ resv)]; simp
      rw [e] at k; exact k
    have e : isName z = (Txt.isascii z && (Txt.isalpha z && Txt.islower z)) := by
      unfold isName; rw [decide_eq_true c, decide_eq_true (p := z ∉ resv) c2, ascii_lower]; rfl
    rw [e] at k
    (try unfold tNext)
    (try dsimp only)
    refine ⟨_, rfl, rfl, z, rfl, rfl, trivial, _, rfl, ifB (fun c3 => ?_) (fun c3 => ?_)⟩
    · refine ⟨_, rfl, rfl, z, rfl, rfl, trivial, _, rfl, ifB (fun c4 => ?_) (fun c4 => ?_)⟩
      · refine ⟨_, rfl, rfl, z, rfl, rfl, trivial, ?_⟩
        rw [c3, c4] at k; exact k
      · rw [c3, c4] at k; exact k
    · rw [c3] at k; exact k
/-! ### the reader -/
abbrev CRd (K : PySem.W.Frag) : Addr := He.ga K "Reader"
structure Rc where
  s : Addr
  dx : Addr
  wl : Addr
  vl : Addr
  ar : Bool
  ws : List Str
def rdF (c : Rc) (r : RS) : List (Str × V) := [("words", .ref c.wl), ("at", .int (r.pos : Int)), ("around", .bl c.ar), ("variables", .ref c.vl), ("draws", .int (r.draws : Int)), ("uses", .int (r.uses : Int)), ("pressed", .bl r.pressed)]
structure RdOk (K : PySem.W.Frag) (c : Rc) (I H : Hp) (r : RS) : Prop where
  sm : Same I H
  is : I c.s = none
  iv : I c.vl = none
  ne : c.s ≠ c.vl
  hs : H c.s = some (.ins (CRd K) c.dx (rdF c r))
  hv : ∃ vs, H c.vl = some (.lst vs) ∧ All2 (iP iS iN I) vs r.vars
  hw : I c.wl = some (.lst (c.ws.map V.str))
  nm : NmOk r.vars
  vn : r.vars.length ≤ 4
  wn : c.ws.length ≤ 1000000
  wz : ∀ x ∈ c.ws, x.length ≤ sizeLine
abbrev rms (c : Rc) : List Addr := [c.s, c.vl]
section
variable {c : Rc} {I H I' H' : Hp} {r : RS}
theorem lk_words : (rdF c r).lookup ("words" : Str) = some (.ref c.wl) := by kernel_rfl
theorem lk_at : (rdF c r).lookup ("at" : Str) = some (.int (r.pos : Int)) := by kernel_rfl
theorem lk_around : (rdF c r).lookup ("around" : Str) = some (.bl c.ar) := by kernel_rfl
theorem lk_variables : (rdF c r).lookup ("variables" : Str) = some (.ref c.vl) := by kernel_rfl
theorem lk_draws : (rdF c r).lookup ("draws" : Str) = some (.int (r.draws : Int)) := by kernel_rfl
theorem lk_uses : (rdF c r).lookup ("uses" : Str) = some (.int (r.uses : Int)) := by kernel_rfl
theorem lk_pressed : (rdF c r).lookup ("pressed" : Str) = some (.bl r.pressed) := by kernel_rfl
theorem pf_at {n : Nat} : putF "at" (.int (n : Int)) (rdF c r) = rdF c { r with pos := n } := by kernel_rfl
theorem pf_draws {n : Nat} : putF "draws" (.int (n : Int)) (rdF c r) = rdF c { r with draws := n } := by kernel_rfl
theorem pf_uses {n : Nat} : putF "uses" (.int (n : Int)) (rdF c r) = rdF c { r with uses := n } := by kernel_rfl
theorem pf_pressed {b : Bool} : putF "pressed" (.bl b) (rdF c r) = rdF c { r with pressed := b } := by kernel_rfl
theorem rdF_len : (rdF c r).length < 1000 := by show 7 < 1000; decide
theorem RdOk.up {ms : List Addr} (h : RdOk K c I H r) (g : Gr ms I H I' H') (n1 : c.s ∉ ms) (n2 : c.vl ∉ ms) : RdOk K c I' H' r := by
  obtain ⟨vs, hv, a2⟩ := h.hv
  exact ⟨g.ih, g.out h.is h.hs, g.out h.iv hv, h.ne, g.at h.hs n1, ⟨vs, g.at hv n2, a2.up g.ii⟩, g.ii _ _ h.hw, h.nm, h.vn, h.wn, h.wz⟩
theorem RdOk.up0 (h : RdOk K c I H r) (g : Gr [] I H I' H') : RdOk K c I' H' r := h.up g (by simp) (by simp)
/-- a field is stored -/
theorem RdOk.put {r' : RS} (h : RdOk K c I H r) (e : r'.vars = r.vars) : RdOk K c I (upd H c.s (.ins (CRd K) c.dx (rdF c r'))) r' ∧ Gr (rms c) I H I (upd H c.s (.ins (CRd K) c.dx (rdF c r'))) := by
  have g : Gr (rms c) I H I (upd H c.s (.ins (CRd K) c.dx (rdF c r'))) := Gr.mut h.sm h.is (by simp)
  obtain ⟨vs, hv, a2⟩ := h.hv
  exact ⟨⟨g.ih, h.is, h.iv, h.ne, upd_same, ⟨vs, by rw [upd_ne h.ne.symm]; exact hv, by rw [e]; exact a2⟩, h.hw, by rw [e]; exact h.nm, by rw [e]; exact h.vn, h.wn, h.wz⟩, g⟩
theorem RdOk.wsl (h : RdOk K c I H r) : SqL K H c.wl (c.ws.map V.str) := SqL.of (h.sm _ _ h.hw)
/-- what is wanted of a reader's method that may refuse -/
def OutR {α : Type} (K : PySem.W.Frag) (c : Rc) (R : Rp α) (I H : Hp) (x : Res α) (Q : VK) (E : XK) : Prop := match x with
  | .ok a r => ∀ I' H' v, Gr (rms c) I H I' H' → RdOk K c I' H' r → R I' v a → Q v H'
  | .bad n => RaisedAt (rms c) I H (CBT K) n E
/-- of one that refuses nothing -/
theorem OutR.of {α : Type} {R : Rp α} {x : Res α} {Q : VK} {E : XK} (k1 : ∀ a r, x = .ok a r → ∀ I' H' v, Gr (rms c) I H I' H' → RdOk K c I' H' r → R I' v a → Q v H') (k2 : ∀ n, x = .bad n → RaisedAt (rms c) I H (CBT K) n E) : OutR K c R I H x Q E := by
  cases x with
  | ok a r => exact k1 a r rfl
  | bad n => exact k2 n rfl
theorem OutR.ok {α : Type} {R : Rp α} {x : Res α} {Q : VK} {E : XK} {a : α} {r : RS} (h : OutR K c R I H x Q E) (e : x = .ok a r) : ∀ I' H' v, Gr (rms c) I H I' H' → RdOk K c I' H' r → R I' v a → Q v H' := by
  subst e; exact h
theorem OutR.bad {α : Type} {R : Rp α} {x : Res α} {Q : VK} {E : XK} {n : Nat} (h : OutR K c R I H x Q E) (e : x = .bad n) : RaisedAt (rms c) I H (CBT K) n E := by
  subst e; exact h
theorem RaisedAt.up {ms : List Addr} {C : Addr} {n : Nat} {E : XK} (h : RaisedAt ms I H C n E) (g : Gr ms I H I' H') : RaisedAt ms I' H' C n E := fun _ _ d g2 e => h _ _ d (g.trans g2) e
theorem OutR.up {α : Type} {R : Rp α} {x : Res α} {Q : VK} {E : XK} (h : OutR K c R I H x Q E) (g : Gr (rms c) I H I' H') : OutR K c R I' H' x Q E := by
  cases x with
  | ok a r => exact fun I2 H2 v2 g2 ok2 r2 => h I2 H2 v2 (g.trans g2) ok2 r2
  | bad n => exact RaisedAt.up h g
/-- behind a part of what is done -/
theorem OutR.bind {α β : Type} {R : Rp α} {S : Rp β} {x : Res α} {f : α → RS → Res β} {Q Q' : VK} {E : XK} (h : OutR K c S I H (x.bind f) Q E) (k : ∀ a r I' H' v, x = .ok a r → Gr (rms c) I H I' H' → RdOk K c I' H' r → R I' v a → OutR K c S I' H' (f a r) Q E → Q' v H') : OutR K c R I H x Q' E := by
  cases x with
  | ok a r =>
    intro I' H' v g ok rv
    refine k a r I' H' v rfl g ok rv ?_
    have h : OutR K c S I H (f a r) Q E := h
    revert h
    cases f a r with
    | ok b r2 => exact fun h I2 H2 v2 g2 ok2 r2 => h I2 H2 v2 (g.trans g2) ok2 r2
    | bad n => exact fun h => h.up g
  | bad n => exact h
end
def spHere (K : PySem.W.Frag) : Sp := fun vs H Q _ => ∃ (c : Rc) (I : Hp) (r : RS), vs = [.ref c.s] ∧ RdOk K c I H r ∧ Q (.str (here c.ws r)) H
theorem fldR (D : Dt K mg) {c : Rc} {I H : Hp} {r : RS} (h : RdOk K c I H r) : True := trivial
theorem sc_Readerhere : FnScope ["self"] ["self"] (defScope s_Reader__here) := ⟨rfl, rfl, rfl, by decide +kernel, rfl, by decide +kernel, by decide +kernel⟩
theorem ok_here (D : Dt K mg) : Has P w K mg base 1 (He.ma K (He.ga K "Reader") "_here") ["self"] [] (spHere K) := by
  obtain ⟨fd, F⟩ := fd_Reader__here D
  refine hasN F (F.bindsN fun _ _ _ _ _ _ us hl => match us, hl with | [_], _ => rfl) sc_Readerhere (fun vs H Q E h => ?_) (fun cdv A outer s H vs Q E hr h => ?_)
  · obtain ⟨c, I, r, rfl, _⟩ := h; rfl
  · obtain ⟨c, I, r, rfl, ok, k⟩ := h
    refine ⟨_, (pss_one (ps_ret (pe_ifExp (pt_cmpR op_lt (pe_fldK K (pv 0) rfl) (pe_callB (call_lenK K) rfl (free_len D) PySem.boot_len (pa_cons (pe_fldK K (pv 0) rfl) pa_nil)) (nomark _)) (pe_ix (ix_listK K) (pe_fldK K (pv 0) rfl) (pe_fldK K (pv 0) rfl) (fun _ _ => rfl)) pe_str))), ?_⟩
    refine ⟨_, rfl, _, _, _, _, _, rfl, ok.hs, cls_Reader D, na_Reader_at D, lk_at, _, rfl, _, _, _, _, _, rfl, ok.hs, cls_Reader D, na_Reader_words D, lk_words, _, _, rfl, .inl ⟨_, ok.wsl, rfl⟩, _, _, rfl, rfl, _, rfl, ?_⟩
    refine ifD (fun q => ?_) (fun q => ?_)
    · have q : r.pos < c.ws.length := by simpa using Int.ofNat_lt.mp q
      refine ⟨_, rfl, _, _, _, _, _, rfl, ok.hs, cls_Reader D, na_Reader_words D, lk_words, _, rfl, _, _, _, _, _, rfl, ok.hs, cls_Reader D, na_Reader_at D, lk_at, _, _, _, _, rfl, rfl, ok.wsl, at_of (j := r.pos) rfl (by rw [List.getElem?_map, List.getElem?_eq_getElem q]; rfl), ?_⟩
      have e : here c.ws r = c.ws[r.pos] := by unfold here; rw [List.getD_eq_getElem?_getD, List.getElem?_eq_getElem q]; rfl
      rw [e] at k
      exact k
    · have q : ¬ r.pos < c.ws.length := fun y => q (by simpa using Int.ofNat_lt.mpr y)
      have e : here c.ws r = Str.empty := by unfold here; rw [List.getD_eq_getElem?_getD, List.getElem?_eq_none (by omega)]; rfl
      rw [e] at k
      exact k
end
end K

set_option Elab.async false
set_option linter.all false
set_option maxRecDepth 100000
set_option maxHeartbeats 4000000
namespace K
open PySem PySem.Spec PyProof.Rows L2 Tk Hd Rd
section
variable {P : Program} {w : World} {K : PySem.W.Frag} {mg : Str → Option Value} {base : Heap}
theorem here_lt {ws : List Str} {r : RS} (h : here ws r ≠ Str.empty) : r.pos < ws.length := by
  by_cases q : r.pos < ws.length
  · exact q
  · exact absurd (by unfold here; rw [List.getD_eq_getElem?_getD, List.getElem?_eq_none (by omega)]; rfl) h
theorem here_at {ws : List Str} {r : RS} (h : r.pos < ws.length) : ws[r.pos]? = some (here ws r) := by
  unfold here; rw [List.getD_eq_getElem?_getD, List.getElem?_eq_getElem h]; rfl
theorem here_mem {ws : List Str} {r : RS} (h : r.pos < ws.length) : here ws r ∈ ws := List.mem_of_getElem? (here_at h)
theorem RdOk.hz {c : Rc} {I H : Hp} {r : RS} (h : RdOk K c I H r) : (here c.ws r).length ≤ sizeLine := by
  by_cases q : r.pos < c.ws.length
  · exact h.wz _ (here_mem q)
  · unfold here; rw [List.getD_eq_getElem?_getD, List.getElem?_eq_none (by omega)]; exact Nat.zero_le _
def spGoOn (K : PySem.W.Frag) : Sp := fun vs H Q E => ∃ (c : Rc) (I : Hp) (r : RS) (b : Bool), vs = [.ref c.s, .bl b] ∧ RdOk K c I H r ∧ (b = true → r.pos < c.ws.length) ∧ OutR K c iS I H (if b = true then .ok (here c.ws r) r.go else .bad r.pos) Q E
theorem sc_Readergo_on : FnScope ["self", "fits"] ["self", "fits"] (defScope s_Reader__go_on) := ⟨rfl, rfl, rfl, by decide +kernel, rfl, by decide +kernel, by decide +kernel⟩
theorem ok_go_on (D : Dt K mg) : HasN P w K mg base 3 (He.ma K (He.ga K "Reader") "_go_on") ["self", "fits"] [] (spGoOn K) := by
  obtain ⟨fd, F⟩ := fd_Reader__go_on D
  have H_BadText_init := ok_bt (P := P) (w := w) (base := base) D
  refine hasXN F (F.bindsN fun _ _ _ _ _ _ us hl => match us, hl with | [_, _], _ => rfl) sc_Readergo_on (fun vs H Q E h => ?_) (fun cdv A outer s H vs Q E hr h => ?_)
  · obtain ⟨c, I, r, b, rfl, _⟩ := h; rfl
  · obtain ⟨c, I, r, b, rfl, ok, hb, k⟩ := h
    refine ⟨_, (pss_cons (ps_if (pt_not (pt_val (pv 1)))
      (pss_one (L2N.ps_raise rfl (L2N.takes_of rfl rfl rfl rfl) (pmk_oexN (oex_BadText (K := K) D) H_BadText_init (hr.mono (by omega)) rfl (glo_BadText D) (pa_cons (pe_fldK K (pv 0) rfl) pa_nil))))
      pss_nil)
      (pss_cons (ps_fldaug (pv 0) pe_int in_add)
      (pss_one (ps_ret (pe_ix (ix_listK K) (pe_fldK K (pv 0) rfl) (pe_op op_sub (pe_fldK K (pv 0) rfl) pe_int) (fun _ _ => rfl)))))), ?_⟩
    refine ⟨_, rfl, _, rfl, ?_⟩
    cases b with
    | false =>
      refine ifT rfl ⟨_, rfl, _, _, _, _, _, rfl, ok.hs, cls_Reader D, na_Reader_at D, lk_at, (by show 1 ≤ 1000; decide), fun e he => ⟨e, _, rfl, upd_same, fun d hd ne => ⟨rfl, d, [("at", .int (r.pos : Int))], upd_same, by rw [upd_ne ne]; exact upd_same, by rw [upd_ne ne] at hd; exact hd, raised_at (Gr.refl ok.sm) k e he d hd ne⟩⟩⟩
    | true =>
      have hb := hb rfl
      refine ifF rfl ?_
      (try unfold tNext)
      (try dsimp only)
      have e1 : (r.pos : Int) + 1 = ((r.pos + 1 : Nat) : Int) := by omega
      refine ⟨_, rfl, _, _, _, _, _, rfl, ok.hs, cls_Reader D, na_Reader_at D, lk_at, _, _, rfl, rfl, _, _, ok.hs, rdF_len, ?_⟩
      rw [e1, pf_at]
      obtain ⟨ok2, g2⟩ := ok.put (r' := r.go) rfl
      refine ⟨_, rfl, _, _, _, _, _, rfl, ok2.hs, cls_Reader D, na_Reader_words D, lk_words, _, rfl, _, _, _, _, _, rfl, ok2.hs, cls_Reader D, na_Reader_at D, lk_at, _, _, rfl, rfl, _, _, _, _, rfl, rfl, ok2.wsl, at_of (j := r.pos) (by show ((r.pos + 1 : Nat) : Int) - 1 = _; omega) (by rw [List.getElem?_map, here_at hb]; rfl), ?_⟩
      exact k _ _ _ g2 ok2 rfl
def iU : Rp Unit := fun _ v _ => v = .non
def spTake (K : PySem.W.Frag) : Sp := fun vs H Q E => ∃ (c : Rc) (I : Hp) (r : RS) (x : Str), vs = [.ref c.s, .str x] ∧ RdOk K c I H r ∧ x ≠ Str.empty ∧ OutR K c iU I H (takeR c.ws x r) Q E
theorem sc_Readertake : FnScope ["self", "word"] ["self", "word"] (defScope s_Reader__take) := ⟨rfl, rfl, rfl, by decide +kernel, rfl, by decide +kernel, by decide +kernel⟩
theorem ok_take (D : Dt K mg) : HasN P w K mg base 4 (He.ma K (He.ga K "Reader") "_take") ["self", "word"] [] (spTake K) := by
  obtain ⟨fd, F⟩ := fd_Reader__take D
  have H_Reader__here := ok_here (P := P) (w := w) (base := base) D
  have H_Reader__go_on := ok_go_on (P := P) (w := w) (base := base) D
  refine hasXN F (F.bindsN fun _ _ _ _ _ _ us hl => match us, hl with | [_, _], _ => rfl) sc_Readertake (fun vs H Q E h => ?_) (fun cdv A outer s H vs Q E hr h => ?_)
  · obtain ⟨c, I, r, x, rfl, _⟩ := h; rfl
  · obtain ⟨c, I, r, x, rfl, ok, hx, k⟩ := h
    refine ⟨_, (pss_one (ps_expr (pe_methHN (pv 0) (cls_Reader (K := K) D) (me_Reader__go_on (K := K) D) H_Reader__go_on (hr.mono (by omega)) (L2N.passes_call (L2N.takes_of rfl rfl rfl rfl) fun _ _ _ _ h => h) (pa_cons (pe_cmpR op_eq (pe_methH0 (pv 0) (cls_Reader (K := K) D) (me_Reader__here (K := K) D) H_Reader__here (hr.mono (by omega)) passL) (pv 1) (nomark _)) pa_nil)))), ?_⟩
    refine ⟨_, rfl, _, _, _, rfl, ok.hs, (by kernel_rfl), ?_⟩
    refine ⟨_, rfl, _, _, _, rfl, ok.hs, (by kernel_rfl), c, I, r, rfl, ok, ?_⟩
    refine ⟨_, rfl, rfl, c, I, r, _, rfl, ok, fun q => here_lt (by have q : here c.ws r = x := by simpa using q
                                                                   rw [q]; exact hx), ?_⟩
    unfold takeR at k
    by_cases q : here c.ws r = x
    · rw [if_pos q] at k
      rw [if_pos (by simpa using q)]
      exact fun I' H' v g ok2 rv => k _ _ _ g ok2 rfl
    · rw [if_neg q] at k
      rw [if_neg (by simpa using q)]
      exact k
def spNumber (K : PySem.W.Frag) : Sp := fun vs H Q E => ∃ (c : Rc) (I : Hp) (r : RS) (lo hi : Nat), vs = [.ref c.s, .int (lo : Int), .int (hi : Int)] ∧ RdOk K c I H r ∧ hi < 10 ^ 64 ∧ OutR K c iN I H (numR c.ws lo hi r) Q E
theorem sc_Readernumber : FnScope ["self", "least", "most", "number"] ["self", "least", "most"] (defScope s_Reader__number) := ⟨rfl, rfl, rfl, by decide +kernel, rfl, by decide +kernel, by decide +kernel⟩
theorem ok_number (D : Dt K mg) : HasN P w K mg base 4 (He.ma K (He.ga K "Reader") "_number") ["self", "least", "most"] [] (spNumber K) := by
  obtain ⟨fd, F⟩ := fd_Reader__number D
  have H_number_of := ok_number_of (P := P) (w := w) (base := base) D
  have H_Reader__here := ok_here (P := P) (w := w) (base := base) D
  have H_Reader__go_on := ok_go_on (P := P) (w := w) (base := base) D
  refine hasXN F (F.bindsN fun _ _ _ _ _ _ us hl => match us, hl with | [_, _, _], _ => rfl) sc_Readernumber (fun vs H Q E h => ?_) (fun cdv A outer s H vs Q E hr h => ?_)
  · obtain ⟨c, I, r, lo, hi, rfl, _⟩ := h; rfl
  · obtain ⟨c, I, r, lo, hi, rfl, ok, hh, k⟩ := h
    refine ⟨_, (pss_cons (ps_set (i := 3) sc_Readernumber.nd rfl (Or.inl rfl) (pe_callH H_number_of (hr.mono (by omega)) rfl (glo_number_of D) passL (pa_cons (pe_methH0 (pv 0) (cls_Reader (K := K) D) (me_Reader__here (K := K) D) H_Reader__here (hr.mono (by omega)) passL) (pa_cons (pv 2) pa_nil))))
      (pss_cons (ps_expr (pe_methHN (pv 0) (cls_Reader (K := K) D) (me_Reader__go_on (K := K) D) H_Reader__go_on (hr.mono (by omega)) (L2N.passes_call (L2N.takes_of rfl rfl rfl rfl) fun _ _ _ _ h => h) (pa_cons (pe_and (pe_cmpR op_notN (pv 3) pe_non (nomark _)) (pe_one (pe_cmpR op_ge (pv 3) (pv 1) (nomark _)))) pa_nil)))
      (pss_one (ps_ret (pv 3))))), ?_⟩
    refine ⟨_, rfl, _, _, _, rfl, ok.hs, (by kernel_rfl), c, I, r, rfl, ok, ?_⟩
    refine ⟨_, rfl, _, _, rfl, ok.hz, hh, ?_⟩
    unfold numR at k
    cases q : numOf (here c.ws r) hi with
    | none =>
      rw [q] at k
      refine ⟨_, rfl, _, _, _, rfl, ok.hs, (by kernel_rfl), ?_⟩
      refine ⟨_, rfl, rfl, _, rfl, ?_⟩
      refine ifF rfl ?_
      exact ⟨c, I, r, false, rfl, ok, (fun z => nomatch z), k⟩
    | some n =>
      rw [q] at k
      have hp : r.pos < c.ws.length := here_lt fun z => by rw [z, numOf_empty] at q; cases q
      refine ⟨_, rfl, _, _, _, rfl, ok.hs, (by kernel_rfl), ?_⟩
      refine ⟨_, rfl, rfl, _, rfl, ?_⟩
      refine ifT rfl ⟨_, rfl, _, rfl, _, _, rfl, rfl, ?_⟩
      refine ⟨c, I, r, _, rfl, ok, fun _ => hp, ?_⟩
      replace k : OutR K c iN I H (if lo ≤ n then .ok n r.go else .bad r.pos) Q E := k
      by_cases z : lo ≤ n
      · rw [if_pos z] at k
        rw [if_pos (by simpa using z)]
        exact fun I' H' v g ok2 rv => ⟨_, rfl, k _ _ _ g ok2 rfl⟩
      · rw [if_neg z] at k
        rw [if_neg (by simpa using z)]
        exact k
def spIsVar (K : PySem.W.Frag) : Sp := fun vs H Q _ => ∃ (c : Rc) (I : Hp) (r : RS) (x : Str), vs = [.ref c.s, .str x] ∧ RdOk K c I H r ∧ ∀ I' H', Gr [] I H I' H' → Q (.bl (hasV r x)) H'
theorem sc_Readeris_variable : FnScope ["self", "word", "name", "_"] ["self", "word"] (defScope s_Reader__is_variable) := ⟨rfl, rfl, rfl, by decide +kernel, rfl, by decide +kernel, by decide +kernel⟩
theorem ok_is_variable (D : Dt K mg) : Has P w K mg base 1 (He.ma K (He.ga K "Reader") "_is_variable") ["self", "word"] [] (spIsVar K) := by
  obtain ⟨fd, F⟩ := fd_Reader__is_variable D
  refine hasN F (F.bindsN fun _ _ _ _ _ _ us hl => match us, hl with | [_, _], _ => rfl) sc_Readeris_variable (fun vs H Q E h => ?_) (fun cdv A outer s H vs Q E hr h => ?_)
  · obtain ⟨c, I, r, x, rfl, _⟩ := h; rfl
  · obtain ⟨c, I, r, x, rfl, ok, k⟩ := h
    refine ⟨_, (pss_one (ps_ret (pe_cmpR (op_in_seqK K) (pv 1) (pe_lc (own := [("name", 2), ("_", 3)]) (g := gTup K 2 (gCons (gName 2) (gCons (gName 3) gNil))) rfl sc_Readeris_variable.nd (pi_listK K (pe_fldK K (pv 0) rfl)) (blkOk_by (own := [("name", 2), ("_", 3)]) (N := ["self", "word", "name", "_"]) (by kernel_rfl)) (fun _ _ _ _ _ => (pg_tupK K rfl (pgs_cons (pg_name (i := 2) sc_Readeris_variable.nd rfl (Or.inl rfl)) (pgs_cons (pg_name (i := 3) sc_Readeris_variable.nd rfl (Or.inl rfl)) pgs_nil)))) (fun _ _ _ _ _ => pts_nil) (fun _ _ _ _ _ => (pv 2))) rfl))), ?_⟩
    obtain ⟨vs, hv, a2⟩ := ok.hv
    have hl := a2.len
    have vn := ok.vn
    have s1 : Same I (upd I c.vl (.lst vs)) := same_to ok.iv
    have s2 : Same (upd I c.vl (.lst vs)) H := same_now ok.sm hv
    refine ⟨_, rfl, _, rfl, _, _, _, _, _, rfl, ok.hs, cls_Reader D, na_Reader_variables D, lk_variables, c.vl, rfl, ⟨_, SqL.of hv⟩, fun l hD => lc_map (R := iP iS iN) (Sy := iS) (fun p : Str × Nat => p.1) (wk_list (K := K) (upd_same (H := I))) (a2.up s1) s2 hD (Nat.lt_of_le_of_lt vn (by decide)) (fun i p I1 H1 Nx Qk hp rp s3 s4 kk => ?_) (fun I1 H1 g1 r1 => ?_)⟩
    · obtain ⟨t, u, n, e, ht, ru, rn⟩ := rp
      rw [e]
      refine ⟨t, _, rfl, SqT.of (s4 _ _ ht), rfl, _, _, rfl, _, _, rfl, rfl, rfl, _, rfl, ?_⟩
      exact kk _ _ _ (Gr.refl s4) ru
    · obtain ⟨l', zs, e, hl', z2⟩ := r1
      cases e
      have ez := z2.strs
      subst ez
      refine ⟨l, _, rfl, .inl (SqL.of (g1.ih _ _ hl')), rfl, flat_strs _, ?_⟩
      rw [if_neg Bool.false_ne_true, inV_strs]
      exact k _ _ (g1.low s1)
def spVariable (K : PySem.W.Frag) : Sp := fun vs H Q E => ∃ (c : Rc) (I : Hp) (r : RS), vs = [.ref c.s] ∧ RdOk K c I H r ∧ OutR K c iS I H (varR c.ws r) Q E
theorem empty_var {vs : List (Str × Nat)} (hn : NmOk vs) : Str.empty ∉ vs.map (·.1) := fun z => by
  obtain ⟨p, hp, e⟩ := List.mem_map.mp z
  have := (name_facts (hn p hp)).2.2.1
  rw [show p.1 = Str.empty from e] at this
  exact this rfl
theorem var_lt {ws : List Str} {r : RS} (hn : NmOk r.vars) (h : hasV r (here ws r) = true) : r.pos < ws.length :=
  here_lt fun z => by rw [z] at h; exact empty_var hn (hasV_iff.mp h)
theorem name_lt {ws : List Str} {r : RS} (h : isName (here ws r) = true) : r.pos < ws.length :=
  here_lt fun z => by rw [z] at h; exact (name_facts h).2.2.1 rfl
theorem sc_Readervariable : FnScope ["self"] ["self"] (defScope s_Reader__variable) := ⟨rfl, rfl, rfl, by decide +kernel, rfl, by decide +kernel, by decide +kernel⟩
theorem ok_variable (D : Dt K mg) : HasN P w K mg base 4 (He.ma K (He.ga K "Reader") "_variable") ["self"] [] (spVariable K) := by
  obtain ⟨fd, F⟩ := fd_Reader__variable D
  have H_Reader__here := ok_here (P := P) (w := w) (base := base) D
  have H_Reader__is_variable := ok_is_variable (P := P) (w := w) (base := base) D
  have H_Reader__go_on := ok_go_on (P := P) (w := w) (base := base) D
  refine hasXN F (F.bindsN fun _ _ _ _ _ _ us hl => match us, hl with | [_], _ => rfl) sc_Readervariable (fun vs H Q E h => ?_) (fun cdv A outer s H vs Q E hr h => ?_)
  · obtain ⟨c, I, r, rfl, _⟩ := h; rfl
  · obtain ⟨c, I, r, rfl, ok, k⟩ := h
    refine ⟨_, (pss_one (ps_ret (pe_methHN (pv 0) (cls_Reader (K := K) D) (me_Reader__go_on (K := K) D) H_Reader__go_on (hr.mono (by omega)) (L2N.passes_call (L2N.takes_of rfl rfl rfl rfl) fun _ _ _ _ h => h) (pa_cons (pe_methH (pv 0) (cls_Reader (K := K) D) (me_Reader__is_variable (K := K) D) H_Reader__is_variable (hr.mono (by omega)) passL (pa_cons (pe_methH0 (pv 0) (cls_Reader (K := K) D) (me_Reader__here (K := K) D) H_Reader__here (hr.mono (by omega)) passL) pa_nil)) pa_nil)))), ?_⟩
    refine ⟨_, rfl, _, _, _, rfl, ok.hs, (by kernel_rfl), ?_⟩
    refine ⟨_, rfl, _, _, _, rfl, ok.hs, (by kernel_rfl), ?_⟩
    refine ⟨_, rfl, _, _, _, rfl, ok.hs, (by kernel_rfl), c, I, r, rfl, ok, ?_⟩
    refine ⟨c, I, r, _, rfl, ok, fun I1 H1 g1 => ?_⟩
    have ok1 := ok.up0 g1
    refine ⟨c, I1, r, _, rfl, ok1, fun q => var_lt ok.nm q, ?_⟩
    unfold varR at k
    cases q : hasV r (here c.ws r) with
    | true =>
      rw [q, if_pos rfl] at k
      exact fun I' H' v g ok2 rv => k _ _ _ (g1.nil.trans g) ok2 rv
    | false =>
      rw [q, if_neg Bool.false_ne_true] at k
      exact k.up g1.nil
def spNewName (K : PySem.W.Frag) : Sp := fun vs H Q E => ∃ (c : Rc) (I : Hp) (r : RS), vs = [.ref c.s] ∧ RdOk K c I H r ∧ OutR K c iS I H (newR c.ws r) Q E
theorem sc_Readernew_name : FnScope ["self", "name"] ["self"] (defScope s_Reader__new_name) := ⟨rfl, rfl, rfl, by decide +kernel, rfl, by decide +kernel, by decide +kernel⟩
theorem ok_new_name (D : Dt K mg) : HasN P w K mg base 4 (He.ma K (He.ga K "Reader") "_new_name") ["self"] [] (spNewName K) := by
  obtain ⟨fd, F⟩ := fd_Reader__new_name D
  have H_Reader__here := ok_here (P := P) (w := w) (base := base) D
  have H_Reader__is_variable := ok_is_variable (P := P) (w := w) (base := base) D
  have H__is_name := ok_is_name (P := P) (w := w) (base := base) D
  have H_Reader__go_on := ok_go_on (P := P) (w := w) (base := base) D
  refine hasXN F (F.bindsN fun _ _ _ _ _ _ us hl => match us, hl with | [_], _ => rfl) sc_Readernew_name (fun vs H Q E h => ?_) (fun cdv A outer s H vs Q E hr h => ?_)
  · obtain ⟨c, I, r, rfl, _⟩ := h; rfl
  · obtain ⟨c, I, r, rfl, ok, k⟩ := h
    refine ⟨_, (pss_cons (ps_set (i := 1) sc_Readernew_name.nd rfl (Or.inl rfl) (pe_methH0 (pv 0) (cls_Reader (K := K) D) (me_Reader__here (K := K) D) H_Reader__here (hr.mono (by omega)) passL))
      (pss_one (ps_ret (pe_methHN (pv 0) (cls_Reader (K := K) D) (me_Reader__go_on (K := K) D) H_Reader__go_on (hr.mono (by omega)) (L2N.passes_call (L2N.takes_of rfl rfl rfl rfl) fun _ _ _ _ h => h) (pa_cons (pe_and (pe_callH H__is_name (hr.mono (by omega)) rfl (glo__is_name D) passL (pa_cons (pv 1) pa_nil)) (pe_one (pe_not (pe_methH (pv 0) (cls_Reader (K := K) D) (me_Reader__is_variable (K := K) D) H_Reader__is_variable (hr.mono (by omega)) passL (pa_cons (pv 1) pa_nil))))) pa_nil))))), ?_⟩
    refine ⟨_, rfl, _, _, _, rfl, ok.hs, (by kernel_rfl), c, I, r, rfl, ok, ?_⟩
    refine ⟨_, rfl, _, _, _, rfl, ok.hs, (by kernel_rfl), ?_⟩
    refine ⟨_, rfl, _, rfl, ok.hz, _, rfl, ?_⟩
    unfold newR at k
    refine ifB (fun q => ?_) (fun q => ?_)
    · refine ⟨_, rfl, _, _, _, rfl, ok.hs, (by kernel_rfl), _, rfl, c, I, r, _, rfl, ok, fun I1 H1 g1 => ?_⟩
      have ok1 := ok.up0 g1
      refine ⟨_, rfl, c, I1, r, _, rfl, ok1, fun _ => name_lt q, ?_⟩
      cases q2 : hasV r (here c.ws r) with
      | true =>
        rw [q2, if_neg (by simp)] at k
        exact k.up g1.nil
      | false =>
        rw [q2, if_pos ⟨q, rfl⟩] at k
        exact fun I' H' v g ok2 rv => k _ _ _ (g1.nil.trans g) ok2 rv
    · rw [if_neg (by rw [q]; simp)] at k
      exact ⟨c, I, r, false, rfl, ok, (fun z => nomatch z), k⟩
end
end K

set_option Elab.async false
set_option linter.all false
set_option maxRecDepth 100000
set_option maxHeartbeats 4000000
namespace Rd
open PySem Tk
/-! what stands for expressions and statements -/
def Ex.da : Ex → Da
  | .num n => .tup [.str (wd "number"), .int (n : Int)]
  | .var x => .tup [.str (wd "variable"), .str x]
  | .press => .tup [.str (wd "press")]
  | .op o a b => .tup [.str o, a.da, b.da]
mutual
def Stm.da (q : List Da → Da) : Stm → Da
  | .set x e => .tup [.str (wd "set"), .str x, e.da]
  | .draw x n => .tup [.str (wd "draw"), .str x, .int (n : Int)]
  | .use x e => .tup [.str (wd "use"), .str x, e.da]
  | .say e => .tup [.str (wd "say"), e.da]
  | .ite e s t => .tup [.str (wd "if"), e.da, q (blockDa q s), q (blockDa q t)]
def blockDa (q : List Da → Da) : List Stm → List Da
  | [] => []
  | s :: r => s.da q :: blockDa q r
end
theorem blockDa_map (q : List Da → Da) : ∀ l : List Stm, blockDa q l = l.map (Stm.da q)
  | [] => rfl
  | s :: r => by rw [blockDa, blockDa_map q r, List.map_cons]
end Rd
namespace Tk
open PySem PySem.Spec PyProof.Rows L2
section
variable {H : Hp}
theorem dR_tup {t : Addr} {vs : List V} {l : List Da} (h : H t = some (.tup vs)) (r : dRs H vs l) : dR H (.ref t) (.tup l) := by simp only [dR]; exact ⟨t, vs, rfl, h, r⟩
theorem dR_lst {t : Addr} {vs : List V} {l : List Da} (h : H t = some (.lst vs)) (r : dRs H vs l) : dR H (.ref t) (.lst l) := by simp only [dR]; exact ⟨t, vs, rfl, h, r⟩
theorem dR_str {z : Str} : dR H (.str z) (.str z) := by simp only [dR]
theorem dR_int {i : Int} : dR H (.int i) (.int i) := by simp only [dR]
theorem dRs_nil : dRs H [] [] := by simp only [dRs]
theorem dRs_cons {v : V} {vs : List V} {d : Da} {l : List Da} (h : dR H v d) (r : dRs H vs l) : dRs H (v :: vs) (d :: l) := by simp only [dRs]; exact ⟨v, vs, rfl, h, r⟩
def iD : Rp Da := fun H v d => dR H v d
instance : Mono iD := ⟨fun s h => dR_up s _ _ h⟩
theorem dRs_all : ∀ {vs : List V} {l : List Da}, dRs H vs l → All2 (iD H) vs l
  | vs, [], h => by simp only [dRs] at h; subst h; exact .nil
  | vs, d :: ds, h => by
    simp only [dRs] at h
    obtain ⟨v, r, rfl, h1, h2⟩ := h
    exact .cons h1 (dRs_all h2)
theorem all_dRs : ∀ {vs : List V} {l : List Da}, All2 (iD H) vs l → dRs H vs l
  | _, _, .nil => dRs_nil
  | _, _, .cons a t => dRs_cons a (all_dRs t)
theorem All2.mapR {α β : Type} {R : V → β → Prop} {f : α → β} : ∀ {vs : List V} {xs : List α}, All2 (fun v x => R v (f x)) vs xs → All2 R vs (xs.map f)
  | _, _, .nil => .nil
  | _, _, .cons a t => .cons a (All2.mapR t)
theorem All2.ofMap {α β : Type} {R : V → β → Prop} {f : α → β} : ∀ {vs : List V} {xs : List α}, All2 R vs (xs.map f) → All2 (fun v x => R v (f x)) vs xs
  | _, [], .nil => .nil
  | _, _ :: _, .cons a t => .cons a (All2.ofMap t)
end
end Tk
namespace K
open PySem PySem.Spec PyProof.Rows L2 Tk Hd Rd
section
variable {P : Program} {w : World} {K : PySem.W.Frag} {mg : Str → Option Value} {base : Heap}
def iEx : Rp Ex := fun H v e => dR H v e.da
instance : Mono iEx := ⟨fun s h => dR_up s _ _ h⟩
def iSt : Rp Stm := fun H v s => dR H v (s.da .lst)
instance : Mono iSt := ⟨fun s h => dR_up s _ _ h⟩
theorem dec_lt {d n : Nat} : decide ((d : Int) < (n : Int)) = decide (d < n) := by simp
def spMay (K : PySem.W.Frag) : Sp := fun vs H Q _ => ∃ (c : Rc) (I : Hp) (r : RS) (x : Str) (d : Nat), vs = [.ref c.s, .str x, .int (d : Int)] ∧ RdOk K c I H r ∧ ∀ I' H', Gr [] I H I' H' → Q (.bl (mayR c.ar x d r)) H'
theorem sc_Readermay_begin : FnScope ["self", "word", "depth"] ["self", "word", "depth"] (defScope s_Reader__may_begin) := ⟨rfl, rfl, rfl, by decide +kernel, rfl, by decide +kernel, by decide +kernel⟩
theorem ok_may_begin (D : Dt K mg) : Has P w K mg base 1 (He.ma K (He.ga K "Reader") "_may_begin") ["self", "word", "depth"] [] (spMay K) := by
  obtain ⟨fd, F⟩ := fd_Reader__may_begin D
  refine hasN F (F.bindsN fun _ _ _ _ _ _ us hl => match us, hl with | [_, _, _], _ => rfl) sc_Readermay_begin (fun vs H Q E h => ?_) (fun cdv A outer s H vs Q E hr h => ?_)
  · obtain ⟨c, I, r, x, d, rfl, _⟩ := h; rfl
  · obtain ⟨c, I, r, x, d, rfl, ok, k⟩ := h
    obtain ⟨t_DEEPEST_IF, e_DEEPEST_IF⟩ := int_DEEPEST_IF D
    obtain ⟨t_MOST_DRAWS, e_MOST_DRAWS⟩ := int_MOST_DRAWS D
    obtain ⟨t_MOST_USES, e_MOST_USES⟩ := int_MOST_USES D
    refine ⟨_, (pss_cons (ps_if (pt_cmpR op_eq (pv 1) pe_str (nomark _))
      (pss_one (ps_ret (pe_cmpR op_lt (pv 2) (pe_glob (v := .int 4) rfl e_DEEPEST_IF ⟨t_DEEPEST_IF, rfl⟩) (nomark _))))
      pss_nil)
      (pss_cons (ps_if (pt_cmpR op_eq (pv 1) pe_str (nomark _))
      (pss_one (ps_ret (pe_fldK K (pv 0) rfl)))
      pss_nil)
      (pss_cons (ps_if (PW.pt (pw_and (pt_cmpR op_eq (pv 1) pe_str (nomark _)) (pw_and1 (pt_cmpR op_ge (pe_fldK K (pv 0) rfl) (pe_glob (v := .int 3) rfl e_MOST_DRAWS ⟨t_MOST_DRAWS, rfl⟩) (nomark _)))))
      (pss_one (ps_ret pe_bl))
      pss_nil)
      (pss_cons (ps_if (PW.pt (pw_and (pt_cmpR op_eq (pv 1) pe_str (nomark _)) (pw_and1 (PW.pt (pw_or (pt_not (pt_val (pe_fldK K (pv 0) rfl))) (pw_or1 (pt_cmpR op_ge (pe_fldK K (pv 0) rfl) (pe_glob (v := .int 24) rfl e_MOST_USES ⟨t_MOST_USES, rfl⟩) (nomark _))))))))
      (pss_one (ps_ret pe_bl))
      pss_nil)
      (pss_one (ps_ret (pe_and (pe_cmpR (op_in_seqK K) (pv 1) (pe_tup (pa_cons pe_str (pa_cons pe_str (pa_cons pe_str pa_nil)))) rfl) (pe_one (pe_cmpR op_gt (pe_callB (call_lenK K) rfl (free_len D) PySem.boot_len (pa_cons (pe_fldK K (pv 0) rfl) pa_nil)) pe_int (nomark _)))))))))), ?_⟩
    have k0 := k _ _ (Gr.refl ok.sm)
    refine ⟨_, rfl, rfl, _, rfl, ?_⟩
    by_cases q1 : x = ("if" : Str)
    · refine ifT (by simpa using q1) ⟨_, rfl, _, _, rfl, rfl, ?_⟩
      have e : mayR c.ar x d r = decide ((d : Int) < 4) := by unfold mayR; rw [if_pos q1]; exact dec_lt.symm
      rw [e] at k0; exact k0
    refine ifF (by simpa using q1) ?_
    (try unfold tNext)
    (try dsimp only)
    refine ⟨_, rfl, rfl, _, rfl, ?_⟩
    by_cases q2 : x = ("say" : Str)
    · refine ifT (by simpa using q2) ⟨_, rfl, _, _, _, _, _, rfl, ok.hs, cls_Reader D, na_Reader_pressed D, lk_pressed, ?_⟩
      have e : mayR c.ar x d r = r.pressed := by unfold mayR; rw [if_neg q1, if_pos q2]
      rw [e] at k0; exact k0
    refine ifF (by simpa using q2) ?_
    (try unfold tNext)
    (try dsimp only)
    have e12 : mayR c.ar x d r = if x = "draw" ∧ 3 ≤ r.draws then false else if x = "use" ∧ (c.ar = false ∨ 24 ≤ r.uses) then false else decide (x ∈ (["set", "draw", "use"] : List Str)) && decide (0 < r.vars.length) := by
      unfold mayR; rw [if_neg q1, if_neg q2]
    rw [e12] at k k0
    refine seq_cut (fun σ' H' => σ' = [some (V.ref c.s), some (V.str x), some (V.int (d : Int))] ∧ H' = H ∧ ¬ (x = ("draw" : Str) ∧ 3 ≤ r.draws)) (fun nx q => ?_) ?_
    · refine ⟨_, rfl, rfl, _, rfl, ?_⟩
      by_cases q3 : x = ("draw" : Str)
      · refine ifT (by simpa using q3) ⟨_, rfl, _, _, _, _, _, rfl, ok.hs, cls_Reader D, na_Reader_draws D, lk_draws, _, _, rfl, rfl, _, rfl, ifD (fun h => ?_) (fun h => ?_)⟩
        · rw [if_pos ⟨q3, by omega⟩] at k0
          exact k0
        · exact q _ _ ⟨rfl, rfl, fun z => h (by have := z.2; omega)⟩
      · exact ifF (by simpa using q3) (q _ _ ⟨rfl, rfl, fun z => q3 z.1⟩)
    rintro σ' H' ⟨rfl, rfl, n3⟩
    rw [if_neg n3] at k k0
    refine seq_cut (fun σ' H1 => σ' = [some (V.ref c.s), some (V.str x), some (V.int (d : Int))] ∧ H1 = H' ∧ ¬ (x = ("use" : Str) ∧ (c.ar = false ∨ 24 ≤ r.uses))) (fun nx q => ?_) ?_
    · refine ⟨_, rfl, rfl, _, rfl, ?_⟩
      by_cases q3 : x = ("use" : Str)
      · refine ifT (by simpa using q3) ⟨_, rfl, _, _, _, _, _, rfl, ok.hs, cls_Reader D, na_Reader_around D, lk_around, _, rfl, ?_⟩
        cases ha : c.ar with
        | false =>
          rw [if_pos ⟨q3, .inl ha⟩] at k0
          exact ifT rfl k0
        | true =>
          refine ifF rfl ⟨_, rfl, _, _, _, _, _, rfl, ok.hs, cls_Reader D, na_Reader_uses D, lk_uses, _, _, rfl, rfl, _, rfl, ifD (fun h => ?_) (fun h => ?_)⟩
          · rw [if_pos ⟨q3, .inr (by omega)⟩] at k0
            exact k0
          · exact q _ _ ⟨rfl, rfl, fun z => z.2.elim (fun y => by rw [ha] at y; cases y) (fun y => h (by omega))⟩
      · exact ifF (by simpa using q3) (q _ _ ⟨rfl, rfl, fun z => q3 z.1⟩)
    rintro σ' H1 ⟨rfl, rfl, n4⟩
    rw [if_neg n4] at k k0
    obtain ⟨vs, hv, a2⟩ := ok.hv
    refine ⟨_, rfl, (by show 3 ≤ sizeLine; decide), fun t ht => ?_⟩
    have g1 := Gr.new (ms := []) (o := .tup [.str "set", .str "draw", .str "use"]) ok.sm ht
    have ok1 := ok.up0 g1
    have hv1 := g1.at hv (by simp)
    refine ⟨t, [.str "set", .str "draw", .str "use"], rfl, .inr (SqT.of upd_same), rfl, rfl, _, rfl, ?_⟩
    rw [if_neg Bool.false_ne_true]
    have ei : inV (V.str x) [.str "set", .str "draw", .str "use"] = decide (x ∈ (["set", "draw", "use"] : List Str)) := inV_strs x ["set", "draw", "use"]
    rw [ei]
    have k1 := k _ _ g1
    refine ifB (fun q => ?_) (fun q => ?_)
    · refine ⟨_, rfl, _, _, _, _, _, rfl, ok1.hs, cls_Reader D, na_Reader_variables D, lk_variables, _, _, rfl, .inl ⟨_, SqL.of hv1, rfl⟩, _, _, rfl, rfl, ?_⟩
      rw [q, Bool.true_and] at k1
      have e : decide ((vs.length : Int) > 0) = decide (0 < r.vars.length) := by rw [a2.len]; simp
      rw [← e] at k1
      exact k1
    · rw [q, Bool.false_and] at k1
      exact k1
end
end K

set_option Elab.async false
set_option linter.all false
set_option maxRecDepth 100000
set_option maxHeartbeats 4000000
namespace Tk
open PySem PySem.Spec PyProof.Rows L2
section
variable {P : Program} {w : World} {K : PySem.W.Frag} {mg : Str → Option Value} {base : Heap} {x qual : Str} {st : Stmt} {f : Addr} {fd : FuncData} {ps : List Str} {k : Nat}
/-- a def of which nothing is wanted -/
def spNever : Sp := fun _ _ _ _ => False
theorem has_neverN (F : FnQ K x qual st [] f fd) (b : Binds K fd ps []) : HasN P w K mg base k f ps [] spNever :=
  ⟨F.kp, fd, [], .nil, b, ⟨fun _ _ _ _ h => h.elim, fun _ _ _ _ _ _ _ _ _ _ _ _ _ h => h.elim⟩⟩
theorem has_never (F : FnQ K x qual st [] f fd) (b : Binds K fd ps []) : Has P w K mg base k f ps [] spNever :=
  ⟨F.kp, fd, [], .nil, b, ⟨fun _ _ _ _ h => h.elim, fun _ _ _ _ _ _ _ _ _ _ _ _ _ h => h.elim⟩⟩
end
end Tk
namespace K
open PySem PySem.Spec PyProof.Rows L2 Tk Hd Rd
section
variable {P : Program} {w : World} {K : PySem.W.Frag} {mg : Str → Option Value} {base : Heap}
def spLeaf (K : PySem.W.Frag) : Sp := fun vs H Q _ => ∃ (c : Rc) (I : Hp) (r : RS) (x : Str), vs = [.ref c.s, .str x] ∧ RdOk K c I H r ∧ x.length ≤ sizeLine ∧ ∀ I' H' v, Gr [] I H I' H' → (match Rd.leafOf r x with
  | some e => iEx I' v e
  | none => v = .non) → Q v H'
theorem sc_Readerleaf : FnScope ["self", "word", "number"] ["self", "word"] (defScope s_Reader__leaf) := ⟨rfl, rfl, rfl, by decide +kernel, rfl, by decide +kernel, by decide +kernel⟩
theorem ok_leaf (D : Dt K mg) : Has P w K mg base 2 (He.ma K (He.ga K "Reader") "_leaf") ["self", "word"] [] (spLeaf K) := by
  obtain ⟨fd, F⟩ := fd_Reader__leaf D
  have H_number_of := ok_number_of (P := P) (w := w) (base := base) D
  have H_Reader__is_variable := ok_is_variable (P := P) (w := w) (base := base) D
  refine hasN F (F.bindsN fun _ _ _ _ _ _ us hl => match us, hl with | [_, _], _ => rfl) sc_Readerleaf (fun vs H Q E h => ?_) (fun cdv A outer s H vs Q E hr h => ?_)
  · obtain ⟨c, I, r, x, rfl, _⟩ := h; rfl
  · obtain ⟨c, I, r, x, rfl, ok, hx, k⟩ := h
    obtain ⟨t_MOST_NUMBER, e_MOST_NUMBER⟩ := int_MOST_NUMBER D
    refine ⟨_, (pss_cons (ps_set (i := 2) sc_Readerleaf.nd rfl (Or.inl rfl) (pe_callH H_number_of (hr.mono (by omega)) rfl (glo_number_of D) passL (pa_cons (pv 1) (pa_cons (pe_glob (v := .int 65535) rfl e_MOST_NUMBER ⟨t_MOST_NUMBER, rfl⟩) pa_nil))))
      (pss_cons (ps_if (pt_cmpR op_notN (pv 2) pe_non (nomark _))
      (pss_one (ps_ret (pe_tup (pa_cons pe_str (pa_cons (pv 2) pa_nil)))))
      pss_nil)
      (pss_cons (ps_if (pt_val (pe_methH (pv 0) (cls_Reader (K := K) D) (me_Reader__is_variable (K := K) D) H_Reader__is_variable (hr.mono (by omega)) passL (pa_cons (pv 1) pa_nil)))
      (pss_one (ps_ret (pe_tup (pa_cons pe_str (pa_cons (pv 1) pa_nil)))))
      pss_nil)
      (pss_one (ps_ret (pe_ifExp (PW.pt (pw_and (pt_cmpR op_eq (pv 1) pe_str (nomark _)) (pw_and1 (pt_val (pe_fldK K (pv 0) rfl))))) (pe_tup (pa_cons pe_str pa_nil)) pe_non)))))), ?_⟩
    refine ⟨_, rfl, x, 65535, rfl, hx, by decide, ?_⟩
    unfold Rd.leafOf at k
    cases q : numOf x 65535 with
    | some n =>
      rw [q] at k
      refine ⟨_, rfl, rfl, _, rfl, ifT rfl ⟨_, rfl, (by show 2 ≤ sizeLine; decide), fun t ht => ?_⟩⟩
      exact k _ _ _ (Gr.new (o := .tup [.str "number", .int (n : Int)]) ok.sm ht) (dR_tup upd_same (dRs_cons dR_str (dRs_cons dR_int dRs_nil)))
    | none =>
      rw [q] at k
      refine ⟨_, rfl, rfl, _, rfl, ifF rfl ?_⟩
      (try unfold tNext)
      (try dsimp only)
      refine ⟨_, rfl, _, _, _, rfl, ok.hs, (by kernel_rfl), _, rfl, c, I, r, x, rfl, ok, fun I1 H1 g1 => ?_⟩
      have ok1 := ok.up0 g1
      refine ⟨_, rfl, ?_⟩
      cases q2 : hasV r x with
      | true =>
        rw [q2] at k
        refine ifT rfl ⟨_, rfl, (by show 2 ≤ sizeLine; decide), fun t ht => ?_⟩
        exact k _ _ _ (g1.trans (Gr.new (o := .tup [.str "variable", .str x]) g1.ih ht)) (dR_tup upd_same (dRs_cons dR_str (dRs_cons dR_str dRs_nil)))
      | false =>
        rw [q2] at k
        refine ifF rfl ?_
        (try unfold tNext)
        (try dsimp only)
        refine ⟨_, rfl, rfl, _, rfl, ?_⟩
        by_cases q3 : x = ("press" : Str)
        · refine ifT (by simpa using q3) ⟨_, rfl, _, _, _, _, _, rfl, ok1.hs, cls_Reader D, na_Reader_pressed D, lk_pressed, _, rfl, ?_⟩
          cases q4 : r.pressed with
          | true =>
            rw [q4] at k
            rw [if_neg Bool.false_ne_true, if_pos ⟨q3, rfl⟩] at k
            refine ifT rfl ⟨(by show 1 ≤ sizeLine; decide), fun t ht => ?_⟩
            exact k _ _ _ (g1.trans (Gr.new (o := .tup [.str "press"]) g1.ih ht)) (dR_tup upd_same (dRs_cons dR_str dRs_nil))
          | false =>
            rw [q4] at k
            rw [if_neg Bool.false_ne_true, if_neg (fun z => nomatch z.2)] at k
            exact ifF rfl (k _ _ _ g1 rfl)
        · rw [if_neg Bool.false_ne_true, if_neg (fun z => q3 z.1)] at k
          exact ifF (by simpa using q3) (k _ _ _ g1 rfl)
def spExpr (K : PySem.W.Frag) (j : Nat) : Sp := fun vs H Q E => ∃ (c : Rc) (I : Hp) (r : RS) (d : Nat), vs = [.ref c.s, .int (d : Int)] ∧ RdOk K c I H r ∧ d + j = 5 ∧ OutR K c iEx I H (exR c.ws j r) Q E
def spEs (K : PySem.W.Frag) : Nat → Sp
  | 0 => spNever
  | j + 1 => spExpr K j
theorem leaf_lt {ws : List Str} {r : RS} (hn : NmOk r.vars) {e : Ex} (h : Rd.leafOf r (here ws r) = some e) : r.pos < ws.length :=
  here_lt fun z => by
    rw [z] at h
    unfold Rd.leafOf at h
    rw [numOf_empty] at h
    replace h : (if hasV r Str.empty = true then some (Ex.var Str.empty) else if Str.empty = ("press" : Str) ∧ r.pressed = true then some Ex.press else none) = some e := h
    rw [if_neg (fun y => empty_var hn (hasV_iff.mp y)), if_neg (by rintro ⟨y, _⟩; revert y; decide +kernel)] at h
    cases h
theorem ops_lt {ws : List Str} {r : RS} (h : here ws r ∈ ops) : r.pos < ws.length :=
  here_lt fun z => by rw [z] at h; revert h; decide +kernel
theorem sc_Readerexpression : FnScope ["self", "depth", "word", "one", "leaf"] ["self", "depth"] (defScope s_Reader__expression) := ⟨rfl, rfl, rfl, by decide +kernel, rfl, by decide +kernel, by decide +kernel⟩
theorem ok_expr_step (D : Dt K mg) (j : Nat) (H_Reader__expression : HasN P w K mg base (j + 4) (He.ma K (He.ga K "Reader") "_expression") ["self", "depth"] [] (spEs K j)) : HasN P w K mg base (j + 5) (He.ma K (He.ga K "Reader") "_expression") ["self", "depth"] [] (spExpr K j) := by
  obtain ⟨fd, F⟩ := fd_Reader__expression D
  have H_Reader__here := ok_here (P := P) (w := w) (base := base) D
  have H_Reader__leaf := ok_leaf (P := P) (w := w) (base := base) D
  have H_Reader__go_on := ok_go_on (P := P) (w := w) (base := base) D
  refine hasXN F (F.bindsN fun _ _ _ _ _ _ us hl => match us, hl with | [_, _], _ => rfl) sc_Readerexpression (fun vs H Q E h => ?_) (fun cdv A outer s H vs Q E hr h => ?_)
  · obtain ⟨c, I, r, d, rfl, _⟩ := h; rfl
  · obtain ⟨c, I, r, d, rfl, ok, hd, k⟩ := h
    obtain ⟨t_DEEPEST_EXPRESSION, e_DEEPEST_EXPRESSION⟩ := int_DEEPEST_EXPRESSION D
    refine ⟨_, (pss_cons (ps_set (i := 2) sc_Readerexpression.nd rfl (Or.inl rfl) (pe_methH0 (pv 0) (cls_Reader (K := K) D) (me_Reader__here (K := K) D) H_Reader__here (hr.mono (by omega)) passL))
      (pss_cons (ps_if (PW.pt (pw_and (pt_cmpR (op_in_seqK K) (pv 2) (pe_glob (v := .ref (He.ga K "OPERATORS")) rfl (glo_OPERATORS D) rfl) rfl) (pw_and1 (pt_cmpR op_lt (pv 1) (pe_glob (v := .int 5) rfl e_DEEPEST_EXPRESSION ⟨t_DEEPEST_EXPRESSION, rfl⟩) (nomark _)))))
      (pss_cons (ps_fldaug (pv 0) pe_int in_add)
      (pss_cons (ps_set (i := 3) sc_Readerexpression.nd rfl (Or.inl rfl) (pe_methHN (pv 0) (cls_Reader (K := K) D) (me_Reader__expression (K := K) D) H_Reader__expression (hr.mono (by omega)) (L2N.passes_call (L2N.takes_of rfl rfl rfl rfl) fun _ _ _ _ h => h) (pa_cons (pe_op op_add (pv 1) pe_int) pa_nil)))
      (pss_one (ps_ret (pe_tup (pa_cons (pv 2) (pa_cons (pv 3) (pa_cons (pe_methHN (pv 0) (cls_Reader (K := K) D) (me_Reader__expression (K := K) D) H_Reader__expression (hr.mono (by omega)) (L2N.passes_call (L2N.takes_of rfl rfl rfl rfl) fun _ _ _ _ h => h) (pa_cons (pe_op op_add (pv 1) pe_int) pa_nil)) pa_nil))))))))
      pss_nil)
      (pss_cons (ps_set (i := 4) sc_Readerexpression.nd rfl (Or.inl rfl) (pe_methH (pv 0) (cls_Reader (K := K) D) (me_Reader__leaf (K := K) D) H_Reader__leaf (hr.mono (by omega)) passL (pa_cons (pv 2) pa_nil)))
      (pss_cons (ps_expr (pe_methHN (pv 0) (cls_Reader (K := K) D) (me_Reader__go_on (K := K) D) H_Reader__go_on (hr.mono (by omega)) (L2N.passes_call (L2N.takes_of rfl rfl rfl rfl) fun _ _ _ _ h => h) (pa_cons (pe_cmpR op_notN (pv 4) pe_non (nomark _)) pa_nil)))
      (pss_one (ps_ret (pv 4))))))), ?_⟩
    refine ⟨_, rfl, _, _, _, rfl, ok.hs, (by kernel_rfl), c, I, r, rfl, ok, ?_⟩
    (try dsimp only)
    have leaf : (j = 0 ∨ here c.ws r ∉ ops) → exR c.ws j r = leafR c.ws r := fun h => by
      cases j with
      | zero => rfl
      | succ j =>
        rw [exR, if_neg (fun y => h.elim (fun q => by cases q) (fun q => q y))]
    have hops : SqT K H (He.ga K "OPERATORS") (ops.map V.str) := tup_OPERATORS D H
    refine seq_cut (fun σ' H' => σ' = [some (V.ref c.s), some (V.int (d : Int)), some (V.str (here c.ws r)), none, none] ∧ H' = H ∧ exR c.ws j r = leafR c.ws r) (fun nx q => ?_) ?_
    · refine ⟨_, rfl, _, _, rfl, .inr hops, rfl, flat_strs _, _, rfl, ?_⟩
      rw [if_neg Bool.false_ne_true, inV_strs]
      refine ifD (fun q1 => ?_) (fun q1 => ?_)
      · refine ⟨_, rfl, _, _, rfl, rfl, _, rfl, ifD (fun q2 => ?_) (fun q2 => ?_)⟩
        · cases j with
          | zero => omega
          | succ j =>
            rw [exR, if_pos q1] at k
            have e1 : (r.pos : Int) + 1 = ((r.pos + 1 : Nat) : Int) := by omega
            refine ⟨_, rfl, _, _, _, _, _, rfl, ok.hs, cls_Reader D, na_Reader_at D, lk_at, _, _, rfl, rfl, _, _, ok.hs, rdF_len, ?_⟩
            rw [e1, pf_at]
            obtain ⟨ok2, g2⟩ := ok.put (r' := r.go) rfl
            have ed : V.ref c.s :: ([V.int ((d : Int) + 1)] ++ []) = [V.ref c.s, V.int ((d + 1 : Nat) : Int)] := by rw [show ((d + 1 : Nat) : Int) = (d : Int) + 1 from by omega]; rfl
            refine ⟨_, rfl, _, _, _, rfl, ok2.hs, (by kernel_rfl), _, rfl, _, _, rfl, rfl, c, I, r.go, d + 1, ed, ok2, by omega, (k.up g2).bind fun a r1 I1 H1 v1 ea g3 ok3 ra k3 => ?_⟩
            refine ⟨_, rfl, _, rfl, _, rfl, _, _, _, rfl, ok3.hs, (by kernel_rfl), _, rfl, _, _, rfl, rfl, c, I1, r1, d + 1, ed, ok3, by omega, k3.bind fun b r2 I2 H2 v2 eb g4 ok4 rb k4 => ⟨(by show 3 ≤ sizeLine; decide), fun t ht => ?_⟩⟩
            have g5 := Gr.new (ms := []) (o := .tup [.str (here c.ws r), v1, v2]) g4.ih ht
            exact k4.ok rfl _ _ _ g5.nil (ok4.up0 g5) (dR_tup upd_same (dRs_cons dR_str (dRs_cons (up (R := iEx) (g4.ii.trans g5.ii) ra) (dRs_cons (up (R := iEx) g5.ii rb) dRs_nil))))
        · exact q _ _ ⟨rfl, rfl, leaf (.inl (by omega))⟩
      · exact q _ _ ⟨rfl, rfl, leaf (.inr q1)⟩
    rintro σ' H' ⟨rfl, rfl, e⟩
    (try dsimp only)
    rw [e] at k
    refine ⟨_, rfl, _, _, _, rfl, ok.hs, (by kernel_rfl), _, rfl, c, I, r, _, rfl, ok, ok.hz, fun I1 H1 v1 g1 h1 => ?_⟩
    have ok1 := ok.up0 g1
    unfold leafR at k
    cases q : Rd.leafOf r (here c.ws r) with
    | none =>
      rw [q] at k h1
      subst h1
      refine ⟨_, rfl, _, _, _, rfl, ok1.hs, (by kernel_rfl), _, rfl, rfl, c, I1, r, _, rfl, ok1, (fun z => nomatch z), ?_⟩
      exact k.up g1.nil
    | some e =>
      rw [q] at k h1
      have hn : decide (v1 = V.non) = false := by
        cases e <;> · simp only [iEx, Ex.da, dR] at h1; obtain ⟨a, vs, rfl, _⟩ := h1; rfl
      refine ⟨_, rfl, _, _, _, rfl, ok1.hs, (by kernel_rfl), _, rfl, rfl, c, I1, r, _, rfl, ok1, (fun _ => leaf_lt ok.nm q), ?_⟩
      rw [hn, if_pos (show (!false) = true from rfl)]
      exact fun I' H' v g ok2 rv => ⟨_, rfl, k _ _ _ (g1.nil.trans g) ok2 (up g.ii h1)⟩
theorem ok_expr (D : Dt K mg) : ∀ j, HasN P w K mg base (j + 4) (He.ma K (He.ga K "Reader") "_expression") ["self", "depth"] [] (spEs K j)
  | 0 => by
    obtain ⟨fd, F⟩ := fd_Reader__expression D
    exact has_neverN F (F.bindsN fun _ _ _ _ _ _ us hl => match us, hl with | [_, _], _ => rfl)
  | j + 1 => ok_expr_step D j (ok_expr D j)
end
end K

set_option Elab.async false
set_option linter.all false
set_option maxRecDepth 100000
set_option maxHeartbeats 4000000
namespace K
open PySem PySem.Spec PyProof.Rows L2 Tk Hd Rd
section
variable {P : Program} {w : World} {K : PySem.W.Frag} {mg : Str → Option Value} {base : Heap}
/-! what the laws of boxes draw: numbers, names, expressions -/
theorem pick_str {l : List Str} {n : Nat} (h : n < l.length) : ∃ o, o ∈ l ∧ (l.map V.str)[n]? = some (V.str o) := ⟨l[n], List.getElem_mem h, by rw [List.getElem?_map, List.getElem?_eq_getElem h]; rfl⟩
theorem pick_int {a b c : Nat} {n m : Nat} (h : n < 3) (ha : a ≤ m) (hb : b ≤ m) (hc : c ≤ m) : ∃ o : Nat, o ≤ m ∧ ([V.int (a : Int), .int (b : Int), .int (c : Int)])[n]? = some (V.int (o : Int)) := by
  have : n = 0 ∨ n = 1 ∨ n = 2 := by omega
  rcases this with rfl | rfl | rfl
  · exact ⟨a, ha, rfl⟩
  · exact ⟨b, hb, rfl⟩
  · exact ⟨c, hc, rfl⟩
def spSpend : Sp := fun vs H Q _ => ∃ (I : Hp) (p : Addr), vs = [.ref p] ∧ Same I H ∧ PoolOk I H p ∧ ∀ b H', Gr [p] I H I H' → PoolOk I H' p → Q (.bl b) H'
theorem sc__law_spend : FnScope ["pool"] ["pool"] (defScope s__law_spend) := ⟨rfl, rfl, rfl, by decide +kernel, rfl, by decide +kernel, by decide +kernel⟩
theorem ok_spend (D : Dt K mg) : Has P w K mg base 1 (He.ga K "_law_spend") ["pool"] [] (spSpend) := by
  obtain ⟨fd, F⟩ := fd__law_spend D
  refine hasN F (F.bindsN fun _ _ _ _ _ _ us hl => match us, hl with | [_], _ => rfl) sc__law_spend (fun vs H Q E h => ?_) (fun cdv A outer s H vs Q E hr h => ?_)
  · obtain ⟨I, p, rfl, _⟩ := h; rfl
  · obtain ⟨I, p, rfl, s0, po, k⟩ := h
    refine ⟨_, (pss_cons (ps_asg (pe_op op_sub (pe_ix (ix_listK K) (pv 0) pe_int (fun _ _ => rfl)) pe_int) (pg_sub (pv 0) pe_int set_list))
      (pss_one (ps_ret (pe_cmpR op_ge (pe_ix (ix_listK K) (pv 0) pe_int (fun _ _ => rfl)) pe_int (nomark _))))), ?_⟩
    obtain ⟨hI, c, cells, pos, big, seed, left, bud, hc, hl, hpos, hp⟩ := po
    refine ⟨_, rfl, _, _, _, _, rfl, rfl, SqL.of hp, at_of (j := 5) rfl rfl, _, _, rfl, rfl, _, rfl, _, _, _, _, rfl, rfl, hp, (show ixN _ _ = some 5 from rfl), ?_⟩
    refine ⟨_, rfl, _, _, _, _, rfl, rfl, SqL.of upd_same, at_of (j := 5) rfl rfl, _, _, rfl, rfl, ?_⟩
    exact k _ _ (Gr.mut s0 hI (by simp)) ⟨hI, c, cells, pos, big, seed, left, bud - 1, hc, hl, hpos, upd_same⟩
/-- names that may stand in an expression -/
def NsOk (nm : List Str) (pr : Bool) (ns : List Str) : Prop := ∀ x ∈ ns, if x = ("press" : Str) then pr = true else x ∈ nm
def spVal (K : PySem.W.Frag) (j : Nat) : Sp := fun vs H Q _ => ∃ (I : Hp) (p l : Addr) (ns nm : List Str) (pr : Bool), vs = [.ref p, .ref l, .int (j : Int)] ∧ Same I H ∧ PoolOk I H p ∧ I l = some (.lst (ns.map V.str)) ∧ NsOk nm pr ns ∧ ns.length ≤ 100 ∧
  ∀ I' H' v e, Gr [p] I H I' H' → PoolOk I' H' p → iEx I' v e → okEx nm pr j e → Q v H'
def spVs (K : PySem.W.Frag) : Nat → Sp
  | 0 => spNever
  | j + 1 => spVal K j
theorem sc__law_value : FnScope ["pool", "names", "deep", "kind", "sign", "left", "name"] ["pool", "names", "deep"] (defScope s__law_value) := ⟨rfl, rfl, rfl, by decide +kernel, rfl, by decide +kernel, by decide +kernel⟩
theorem ok_val_step (D : Dt K mg) (j : Nat) (H__law_value : Has P w K mg base (j + 2) (He.ga K "_law_value") ["pool", "names", "deep"] [] (spVs K j)) : Has P w K mg base (j + 3) (He.ga K "_law_value") ["pool", "names", "deep"] [] (spVal K j) := by
  obtain ⟨fd, F⟩ := fd__law_value D
  have H__law_draw := ok_draw (P := P) (w := w) (base := base) D
  refine hasN F (F.bindsN fun _ _ _ _ _ _ us hl => match us, hl with | [_, _, _], _ => rfl) sc__law_value (fun vs H Q E h => ?_) (fun cdv A outer s H vs Q E hr h => ?_)
  · obtain ⟨I, p, l, ns, nm, pr, rfl, _⟩ := h; rfl
  · obtain ⟨I, p, l, ns, nm, pr, rfl, s0, po, hl, hns, hlen, k⟩ := h
    refine ⟨_, (pss_cons (ps_set (i := 3) sc__law_value.nd rfl (Or.inl rfl) (pe_callH H__law_draw (hr.mono (by omega)) rfl (glo__law_draw D) passL (pa_cons (pv 0) (pa_cons pe_int pa_nil))))
      (pss_cons (ps_if (PW.pt (pw_and (pt_cmpR op_lt (pv 3) pe_int (nomark _)) (pw_and1 (pt_cmpR op_gt (pv 2) pe_int (nomark _)))))
      (pss_cons (ps_set (i := 4) sc__law_value.nd rfl (Or.inl rfl) (pe_ix (ix_tupK K) (pe_tup (pa_cons pe_str (pa_cons pe_str (pa_cons pe_str (pa_cons pe_str (pa_cons pe_str (pa_cons pe_str (pa_cons pe_str pa_nil)))))))) (pe_callH H__law_draw (hr.mono (by omega)) rfl (glo__law_draw D) passL (pa_cons (pv 0) (pa_cons pe_int pa_nil))) (fun _ _ => rfl)))
      (pss_cons (ps_set (i := 5) sc__law_value.nd rfl (Or.inl rfl) (pe_callH H__law_value (hr.mono (by omega)) rfl (glo__law_value D) passL (pa_cons (pv 0) (pa_cons (pv 1) (pa_cons (pe_op op_sub (pv 2) pe_int) pa_nil)))))
      (pss_one (ps_ret (pe_tup (pa_cons (pv 4) (pa_cons (pv 5) (pa_cons (pe_callH H__law_value (hr.mono (by omega)) rfl (glo__law_value D) passL (pa_cons (pv 0) (pa_cons (pv 1) (pa_cons (pe_op op_sub (pv 2) pe_int) pa_nil)))) pa_nil))))))))
      pss_nil)
      (pss_cons (ps_if (PW.pt (pw_and (pt_cmpR op_lt (pv 3) pe_int (nomark _)) (pw_and1 (pt_cmpR op_gt (pe_callB (call_lenK K) rfl (free_len D) PySem.boot_len (pa_cons (pv 1) pa_nil)) pe_int (nomark _)))))
      (pss_cons (ps_set (i := 6) sc__law_value.nd rfl (Or.inl rfl) (pe_ix (ix_listK K) (pv 1) (pe_callH H__law_draw (hr.mono (by omega)) rfl (glo__law_draw D) passL (pa_cons (pv 0) (pa_cons (pe_callB (call_lenK K) rfl (free_len D) PySem.boot_len (pa_cons (pv 1) pa_nil)) pa_nil))) (fun _ _ => rfl)))
      (pss_cons (ps_if (pt_cmpR op_eq (pv 6) pe_str (nomark _))
      (pss_one (ps_ret (pe_tup (pa_cons (pv 6) pa_nil))))
      pss_nil)
      (pss_one (ps_ret (pe_tup (pa_cons pe_str (pa_cons (pv 6) pa_nil)))))))
      pss_nil)
      (pss_one (ps_ret (pe_tup (pa_cons pe_str (pa_cons (pe_ix (ix_tupK K) (pe_tup (pa_cons (pe_callH H__law_draw (hr.mono (by omega)) rfl (glo__law_draw D) passL (pa_cons (pv 0) (pa_cons pe_int pa_nil))) (pa_cons (pe_callH H__law_draw (hr.mono (by omega)) rfl (glo__law_draw D) passL (pa_cons (pv 0) (pa_cons pe_int pa_nil))) (pa_cons (pe_callH H__law_draw (hr.mono (by omega)) rfl (glo__law_draw D) passL (pa_cons (pv 0) (pa_cons pe_int pa_nil))) pa_nil)))) (pe_callH H__law_draw (hr.mono (by omega)) rfl (glo__law_draw D) passL (pa_cons (pv 0) (pa_cons pe_int pa_nil))) (fun _ _ => rfl)) pa_nil)))))))), ?_⟩
    refine ⟨_, rfl, I, p, 10, rfl, s0, po, by decide, by decide, fun kd H1 a0 a1 g1 po1 => ?_⟩
    (try dsimp only)
    refine seq_cut (fun σ' H' => σ' = [some (.ref p), some (.ref l), some (.int (j : Int)), some (.int kd), none, none, none] ∧ H' = H1) (fun nx q => ?_) ?_
    · refine ⟨_, rfl, _, _, rfl, rfl, _, rfl, ifD (fun q1 => ?_) (fun _ => iteF (q _ _ ⟨rfl, rfl⟩))⟩
      refine ⟨_, rfl, _, _, rfl, rfl, _, rfl, ifD (fun q2 => ?_) (fun _ => q _ _ ⟨rfl, rfl⟩)⟩
      cases j with
      | zero => omega
      | succ j =>
        refine ⟨(by show 7 ≤ sizeLine; decide), fun t ht => ?_⟩
        have g2 := Gr.new (ms := []) (o := .tup (ops.map V.str)) g1.ih ht
        have po2 := po1.up g2 (by simp)
        refine ⟨_, rfl, _, p, 7, rfl, g2.ih, po2, by decide, by decide, fun sd H3 b0 b1 g3 po3 => ?_⟩
        obtain ⟨sn, rfl⟩ := Int.eq_ofNat_of_zero_le b0
        obtain ⟨o, ho, hx⟩ := pick_str (l := ops) (n := sn) (by show sn < 7; omega)
        refine ⟨t, _, _, .str o, rfl, rfl, SqT.of (g3.ih _ _ upd_same), at_of (j := sn) rfl hx, ?_⟩
        have g13 := (g1.trans g2.nil).trans g3
        have ej : ((j + 1 : Nat) : Int) - 1 = (j : Int) := by omega
        refine ⟨_, rfl, _, rfl, _, rfl, _, _, rfl, rfl, _, p, l, ns, nm, pr, by rw [← ej]; rfl, g3.ih, po3, g13.ii _ _ hl, hns, hlen, fun I4 H4 v4 e4 g4 po4 r4 k4 => ?_⟩
        refine ⟨_, rfl, _, rfl, _, rfl, _, rfl, _, rfl, _, _, rfl, rfl, _, p, l, ns, nm, pr, by rw [← ej]; rfl, g4.ih, po4, (g13.trans g4).ii _ _ hl, hns, hlen, fun I5 H5 v5 e5 g5 po5 r5 k5 => ?_⟩
        refine ⟨(by show 3 ≤ sizeLine; decide), fun t6 ht6 => ?_⟩
        have g6 := Gr.new (ms := []) (o := .tup [.str o, v4, v5]) g5.ih ht6
        exact k _ _ _ (.op o e4 e5) (((g13.trans g4).trans g5).trans g6.nil) (po5.up g6 (by simp)) (dR_tup upd_same (dRs_cons dR_str (dRs_cons (up (R := iEx) (g5.ii.trans g6.ii) r4) (dRs_cons (up (R := iEx) g6.ii r5) dRs_nil)))) ⟨ho, k4, k5⟩
    rintro σ' H' ⟨rfl, rfl⟩
    (try dsimp only)
    have hl1 := s0 _ _ hl
    refine seq_cut (fun σ' H2 => ∃ w6, σ' = [some (.ref p), some (.ref l), some (.int (j : Int)), some (.int kd), none, none, w6] ∧ H2 = H') (fun nx q => ?_) ?_
    · refine ⟨_, rfl, _, _, rfl, rfl, _, rfl, ifD (fun q1 => ?_) (fun _ => iteF (q _ _ ⟨_, rfl, rfl⟩))⟩
      refine ⟨_, rfl, _, _, rfl, .inl ⟨_, SqL.of (g1.ih _ _ hl), rfl⟩, _, _, rfl, rfl, _, rfl, ifD (fun q2 => ?_) (fun _ => q _ _ ⟨_, rfl, rfl⟩)⟩
      rw [List.length_map] at q2
      refine ⟨_, rfl, _, rfl, _, rfl, _, _, rfl, .inl ⟨_, SqL.of (g1.ih _ _ hl), rfl⟩, I, p, _, rfl, g1.ih, po1, (by rw [List.length_map]; omega), (by rw [List.length_map]; omega), fun sd H3 b0 b1 g3 po3 => ?_⟩
      obtain ⟨sn, rfl⟩ := Int.eq_ofNat_of_zero_le b0
      rw [List.length_map] at b1
      obtain ⟨x, hxm, hx⟩ := pick_str (l := ns) (n := sn) (by omega)
      refine ⟨l, _, _, .str x, rfl, rfl, SqL.of (g3.ih _ _ hl), at_of (j := sn) rfl hx, ?_⟩
      have hnx := hns x hxm
      refine ⟨_, rfl, rfl, _, rfl, ?_⟩
      by_cases q3 : x = ("press" : Str)
      · refine ifT (by simpa using q3) ?_
        rw [if_pos q3] at hnx
        subst q3
        refine ⟨_, rfl, (by show 1 ≤ sizeLine; decide), fun t ht => ?_⟩
        have g4 := Gr.new (ms := []) (o := .tup [.str "press"]) g3.ih ht
        exact k _ _ _ .press ((g1.trans g3).trans g4.nil) (po3.up g4 (by simp)) (dR_tup upd_same (dRs_cons dR_str dRs_nil)) (by unfold okEx; exact hnx)
      · refine ifF (by simpa using q3) ?_
        rw [if_neg q3] at hnx
        (try unfold tNext)
        (try dsimp only)
        refine ⟨_, rfl, (by show 2 ≤ sizeLine; decide), fun t ht => ?_⟩
        have g4 := Gr.new (ms := []) (o := .tup [.str "variable", .str x]) g3.ih ht
        exact k _ _ _ (.var x) ((g1.trans g3).trans g4.nil) (po3.up g4 (by simp)) (dR_tup upd_same (dRs_cons dR_str (dRs_cons dR_str dRs_nil))) (by unfold okEx; exact hnx)
    rintro σ' H2 ⟨w6, rfl, rfl⟩
    (try dsimp only)
    refine ⟨_, rfl, I, p, 4, rfl, g1.ih, po1, by decide, by decide, fun n1 H3 b0 b1 g3 po3 => ?_⟩
    refine ⟨_, rfl, I, p, 9, rfl, g3.ih, po3, by decide, by decide, fun n2 H4 c0 c1 g4 po4 => ?_⟩
    refine ⟨_, rfl, I, p, 65536, rfl, g4.ih, po4, by decide, by decide, fun n3 H5 d0 d1 g5 po5 => ?_⟩
    obtain ⟨m1, rfl⟩ := Int.eq_ofNat_of_zero_le b0
    obtain ⟨m2, rfl⟩ := Int.eq_ofNat_of_zero_le c0
    obtain ⟨m3, rfl⟩ := Int.eq_ofNat_of_zero_le d0
    refine ⟨(by show 3 ≤ sizeLine; decide), fun t ht => ?_⟩
    have g6 := Gr.new (ms := []) (o := .tup [.int (m1 : Int), .int (m2 : Int), .int (m3 : Int)]) g5.ih ht
    have po6 := po5.up g6 (by simp)
    refine ⟨_, rfl, _, p, 3, rfl, g6.ih, po6, by decide, by decide, fun sd H7 e0 e1 g7 po7 => ?_⟩
    obtain ⟨sn, rfl⟩ := Int.eq_ofNat_of_zero_le e0
    obtain ⟨o, ho, hx⟩ := pick_int (a := m1) (b := m2) (c := m3) (n := sn) (m := 65535) (by omega) (by omega) (by omega) (by omega)
    refine ⟨t, _, _, .int (o : Int), rfl, rfl, SqT.of (g7.ih _ _ upd_same), at_of (j := sn) rfl hx, ?_⟩
    refine ⟨(by show 2 ≤ sizeLine; decide), fun t2 ht2 => ?_⟩
    have g8 := Gr.new (ms := []) (o := .tup [.str "number", .int (o : Int)]) g7.ih ht2
    exact k _ _ _ (.num o) ((((((g1.trans g3).trans g4).trans g5).trans g6.nil).trans g7).trans g8.nil) (po7.up g8 (by simp)) (dR_tup upd_same (dRs_cons dR_str (dRs_cons dR_int dRs_nil))) (by unfold okEx; exact ho)
theorem ok_val' (D : Dt K mg) : ∀ j, Has P w K mg base (j + 2) (He.ga K "_law_value") ["pool", "names", "deep"] [] (spVs K j)
  | 0 => by
    obtain ⟨fd, F⟩ := fd__law_value D
    exact has_never F (F.bindsN fun _ _ _ _ _ _ us hl => match us, hl with | [_, _, _], _ => rfl)
  | j + 1 => ok_val_step D j (ok_val' D j)
theorem ok_val (D : Dt K mg) (j : Nat) : Has P w K mg base (j + 3) (He.ga K "_law_value") ["pool", "names", "deep"] [] (spVal K j) := ok_val' D (j + 1)
end
end K

set_option Elab.async false
set_option linter.all false
set_option maxRecDepth 100000
set_option maxHeartbeats 4000000
/-! Reading goes forward. -/
namespace Rd
open PySem PyProof.Rows TL
section
variable {ws : List Str} {ar : Bool}
theorem takeR_pos {x : Str} {r r1 : RS} {u : Unit} (h : takeR ws x r = .ok u r1) : r1 = r.go := by
  unfold takeR at h; split at h <;> cases h; rfl
theorem varR_pos {r r1 : RS} {x : Str} (h : varR ws r = .ok x r1) : r1 = r.go ∧ x = here ws r ∧ hasV r (here ws r) = true := by
  unfold varR at h; split at h
  · rename_i c; cases h; exact ⟨rfl, rfl, c⟩
  · cases h
theorem numR_pos {lo hi : Nat} {r r1 : RS} {n : Nat} (h : numR ws lo hi r = .ok n r1) : r1 = r.go ∧ numOf (here ws r) hi = some n ∧ lo ≤ n := by
  unfold numR at h; split at h
  · rename_i m e
    split at h
    · rename_i c; cases h; exact ⟨rfl, e, c⟩
    · cases h
  · cases h
theorem leafR_pos {r r1 : RS} {e : Ex} (h : leafR ws r = .ok e r1) : r1 = r.go ∧ leafOf r (here ws r) = some e := by
  unfold leafR at h; split at h
  · rename_i m e; cases h; exact ⟨rfl, e⟩
  · cases h
theorem exR_pos : ∀ {k : Nat} {r r1 : RS} {e : Ex}, exR ws k r = .ok e r1 → r.pos < r1.pos ∧ r1.vars = r.vars ∧ r1.draws = r.draws ∧ r1.uses = r.uses ∧ r1.pressed = r.pressed
  | 0, r, r1, e, h => by
    obtain ⟨rfl, _⟩ := leafR_pos h
    exact ⟨Nat.lt_succ_self _, rfl, rfl, rfl, rfl⟩
  | k + 1, r, r1, e, h => by
    rw [exR] at h
    split at h
    · obtain ⟨a, r2, h1, h⟩ := bind_ok h
      obtain ⟨b, r3, h2, h⟩ := bind_ok h
      cases h
      have p1 := exR_pos h1
      have p2 := exR_pos h2
      obtain ⟨a1, a2, a3, a4, a5⟩ := p1
      obtain ⟨b1, b2, b3, b4, b5⟩ := p2
      have : r.pos < r.go.pos := Nat.lt_succ_self _
      exact ⟨by omega, b2.trans a2, b3.trans a3, b4.trans a4, b5.trans a5⟩
    · obtain ⟨rfl, _⟩ := leafR_pos h
      exact ⟨Nat.lt_succ_self _, rfl, rfl, rfl, rfl⟩
/-- on, with the same variables -/
def Fwd (r r1 : RS) : Prop := r.pos ≤ r1.pos ∧ r1.vars = r.vars ∧ r1.pressed = r.pressed
theorem Fwd.refl (r : RS) : Fwd r r := ⟨Nat.le_refl _, rfl, rfl⟩
theorem Fwd.trans {a b c : RS} (h : Fwd a b) (k : Fwd b c) : Fwd a c := ⟨Nat.le_trans h.1 k.1, k.2.1.trans h.2.1, k.2.2.trans h.2.2⟩
theorem Fwd.go (r : RS) : Fwd r r.go := ⟨Nat.le_succ _, rfl, rfl⟩
theorem Fwd.ex {k : Nat} {r r1 : RS} {e : Ex} (h : exR ws k r = .ok e r1) : Fwd r r1 := by
  obtain ⟨a, b, _, _, c⟩ := exR_pos h
  exact ⟨Nat.le_of_lt a, b, c⟩
theorem stmtR_fwd {ch : RS → Res Stm} (hc : ∀ r s r1, ch r = .ok s r1 → Fwd r r1) {r r1 : RS} {s : Stm} (h : stmtR ws ch r = .ok s r1) : Fwd r.go r1 := by
  unfold stmtR at h
  split at h
  · exact hc _ _ _ h
  · split at h
    · obtain ⟨e, r2, h1, h⟩ := bind_ok h
      cases h
      exact Fwd.ex h1
    · obtain ⟨x, r2, h1, h⟩ := bind_ok h
      obtain ⟨rfl, _, _⟩ := varR_pos h1
      split at h
      · obtain ⟨n, r3, h2, h⟩ := bind_ok h
        cases h
        obtain ⟨rfl, _⟩ := numR_pos h2
        exact ⟨Nat.le_trans (Nat.le_succ _) (Nat.le_succ _), rfl, rfl⟩
      · split at h
        · obtain ⟨e, r3, h2, h⟩ := bind_ok h
          cases h
          have f : Fwd r.go { r.go.go with uses := r.go.go.uses + 1 } := ⟨Nat.le_succ _, rfl, rfl⟩
          exact f.trans (Fwd.ex h2)
        · obtain ⟨e, r3, h2, h⟩ := bind_ok h
          cases h
          exact (Fwd.go _).trans (Fwd.ex h2)
theorem loopR_fwd {d : Nat} {ch : RS → Res Stm} (hc : ∀ r s r1, ch r = .ok s r1 → Fwd r r1) : ∀ {n : Nat} {acc : List Stm} {r r1 : RS} {l : List Stm}, loopR ws ar d ch n acc r = .ok l r1 → Fwd r r1
  | 0, acc, r, r1, l, h => by
    have h : Res.ok acc r = Res.ok l r1 := h
    cases h; exact Fwd.refl _
  | n + 1, acc, r, r1, l, h => by
    rw [loopR] at h
    split at h
    · obtain ⟨s, r2, h1, h⟩ := bind_ok h
      exact ((Fwd.go r).trans (stmtR_fwd hc h1)).trans (loopR_fwd hc h)
    · cases h; exact Fwd.refl _
theorem choice1_fwd {d : Nat} {ch : RS → Res Stm} (hc : ∀ r s r1, ch r = .ok s r1 → Fwd r r1) {r r1 : RS} {s : Stm} (h : choice1 ws ar d ch r = .ok s r1) : Fwd r r1 := by
  unfold choice1 stmtsR at h
  obtain ⟨e, r2, h1, h⟩ := bind_ok h
  obtain ⟨l, r3, h2, h⟩ := bind_ok h
  have f := (Fwd.ex h1).trans (loopR_fwd hc h2)
  split at h
  · obtain ⟨t, r4, h3, h⟩ := bind_ok h
    split at h
    · cases h
    · obtain ⟨u, r5, h4, h⟩ := bind_ok h
      cases h
      rw [takeR_pos h4]
      exact ((f.trans (Fwd.go _)).trans (loopR_fwd hc h3)).trans (Fwd.go _)
  · obtain ⟨u, r5, h4, h⟩ := bind_ok h
    cases h
    rw [takeR_pos h4]
    exact f.trans (Fwd.go _)
theorem chAt_fwd : ∀ (k : Nat) (r : RS) (s : Stm) (r1 : RS), chAt ws ar k r = .ok s r1 → Fwd r r1
  | 0, r, s, r1, h => by cases (show Res.bad r.pos = Res.ok s r1 from h)
  | k + 1, r, s, r1, h => by
    have h : choiceR ws ar k r = .ok s r1 := h
    rw [choiceR_eq] at h
    exact choice1_fwd (chAt_fwd k) h
theorem may_sts {w : Str} {d : Nat} {r : RS} (h : mayR ar w d r = true) : w ∈ sts := by
  by_cases q : w ∈ sts
  · exact q
  · rw [may_not q] at h; cases h
end
end Rd

set_option Elab.async false
set_option linter.all false
set_option maxRecDepth 100000
set_option maxHeartbeats 4000000
namespace K
open PySem PySem.Spec PyProof.Rows L2 Tk Hd Rd
section
variable {P : Program} {w : World} {K : PySem.W.Frag} {mg : Str → Option Value} {base : Heap}
theorem ok_expr4 (D : Dt K mg) : HasN P w K mg base 9 (He.ma K (He.ga K "Reader") "_expression") ["self", "depth"] [] (spExpr K 4) := ok_expr D 5
def spChoice (K : PySem.W.Frag) (k : Nat) : Sp := fun vs H Q E => ∃ (c : Rc) (I : Hp) (r : RS) (d : Nat), vs = [.ref c.s, .int (d : Int)] ∧ RdOk K c I H r ∧ d + k = 4 ∧ OutR K c iSt I H (choiceR c.ws c.ar k r) Q E
def spCh (K : PySem.W.Frag) : Nat → Sp
  | 0 => spNever
  | k + 1 => spChoice K k
def spStmt (K : PySem.W.Frag) (k : Nat) : Sp := fun vs H Q E => ∃ (c : Rc) (I : Hp) (r : RS) (d : Nat), vs = [.ref c.s, .int (d : Int)] ∧ RdOk K c I H r ∧ d + k = 4 ∧ mayR c.ar (here c.ws r) d r = true ∧ OutR K c iSt I H (stmtR c.ws (chAt c.ws c.ar k) r) Q E
theorem cast1 (n : Nat) : (n : Int) + 1 = ((n + 1 : Nat) : Int) := by omega
theorem args1 {s : Addr} {d : Nat} : V.ref s :: ([V.int ((d : Int) + 1)] ++ []) = [V.ref s, V.int ((d + 1 : Nat) : Int)] := by rw [cast1]; rfl
theorem sc_Readerstatement : FnScope ["self", "depth", "word", "name"] ["self", "depth"] (defScope s_Reader__statement) := ⟨rfl, rfl, rfl, by decide +kernel, rfl, by decide +kernel, by decide +kernel⟩
theorem ok_stmt_step (D : Dt K mg) (k : Nat) (H_Reader__choice : HasN P w K mg base (3 * k + 10) (He.ma K (He.ga K "Reader") "_choice") ["self", "depth"] [] (spCh K k)) : HasN P w K mg base (3 * k + 11) (He.ma K (He.ga K "Reader") "_statement") ["self", "depth"] [] (spStmt K k) := by
  obtain ⟨fd, F⟩ := fd_Reader__statement D
  have H_Reader__here := ok_here (P := P) (w := w) (base := base) D
  have H_Reader__expression := ok_expr4 (P := P) (w := w) (base := base) D
  have H_Reader__variable := ok_variable (P := P) (w := w) (base := base) D
  have H_Reader__number := ok_number (P := P) (w := w) (base := base) D
  refine hasXN F (F.bindsN fun _ _ _ _ _ _ us hl => match us, hl with | [_, _], _ => rfl) sc_Readerstatement (fun vs H Q E h => ?_) (fun cdv A outer s H vs Q E hr h => ?_)
  · obtain ⟨c, I, r, d, rfl, _⟩ := h; rfl
  · obtain ⟨c, I, r, d, rfl, ok, hd, hm, kk⟩ := h
    obtain ⟨t_MOST_DRAWN, e_MOST_DRAWN⟩ := int_MOST_DRAWN D
    refine ⟨_, (pss_cons (ps_set (i := 2) sc_Readerstatement.nd rfl (Or.inl rfl) (pe_methH0 (pv 0) (cls_Reader (K := K) D) (me_Reader__here (K := K) D) H_Reader__here (hr.mono (by omega)) passL))
      (pss_cons (ps_fldaug (pv 0) pe_int in_add)
      (pss_cons (ps_if (pt_cmpR op_eq (pv 2) pe_str (nomark _))
      (pss_one (ps_ret (pe_methHN (pv 0) (cls_Reader (K := K) D) (me_Reader__choice (K := K) D) H_Reader__choice (hr.mono (by omega)) (L2N.passes_call (L2N.takes_of rfl rfl rfl rfl) fun _ _ _ _ h => h) (pa_cons (pe_op op_add (pv 1) pe_int) pa_nil))))
      pss_nil)
      (pss_cons (ps_if (pt_cmpR op_eq (pv 2) pe_str (nomark _))
      (pss_one (ps_ret (pe_tup (pa_cons pe_str (pa_cons (pe_methHN (pv 0) (cls_Reader (K := K) D) (me_Reader__expression (K := K) D) H_Reader__expression (hr.mono (by omega)) (L2N.passes_call (L2N.takes_of rfl rfl rfl rfl) fun _ _ _ _ h => h) (pa_cons pe_int pa_nil)) pa_nil)))))
      pss_nil)
      (pss_cons (ps_set (i := 3) sc_Readerstatement.nd rfl (Or.inl rfl) (pe_methH0N (pv 0) (cls_Reader (K := K) D) (me_Reader__variable (K := K) D) H_Reader__variable (hr.mono (by omega)) (L2N.passes_call (L2N.takes_of rfl rfl rfl rfl) fun _ _ _ _ h => h)))
      (pss_cons (ps_if (pt_cmpR op_eq (pv 2) pe_str (nomark _))
      (pss_cons (ps_fldaug (pv 0) pe_int in_add)
      (pss_one (ps_ret (pe_tup (pa_cons pe_str (pa_cons (pv 3) (pa_cons (pe_methHN (pv 0) (cls_Reader (K := K) D) (me_Reader__number (K := K) D) H_Reader__number (hr.mono (by omega)) (L2N.passes_call (L2N.takes_of rfl rfl rfl rfl) fun _ _ _ _ h => h) (pa_cons pe_int (pa_cons (pe_glob (v := .int 6) rfl e_MOST_DRAWN ⟨t_MOST_DRAWN, rfl⟩) pa_nil))) pa_nil)))))))
      pss_nil)
      (pss_cons (ps_if (pt_cmpR op_eq (pv 2) pe_str (nomark _))
      (pss_one (ps_fldaug (pv 0) pe_int in_add))
      pss_nil)
      (pss_one (ps_ret (pe_tup (pa_cons (pv 2) (pa_cons (pv 3) (pa_cons (pe_methHN (pv 0) (cls_Reader (K := K) D) (me_Reader__expression (K := K) D) H_Reader__expression (hr.mono (by omega)) (L2N.passes_call (L2N.takes_of rfl rfl rfl rfl) fun _ _ _ _ h => h) (pa_cons pe_int pa_nil)) pa_nil))))))))))))), ?_⟩
    refine ⟨_, rfl, _, _, _, rfl, ok.hs, (by kernel_rfl), c, I, r, rfl, ok, ?_⟩
    refine ⟨_, rfl, _, _, _, _, _, rfl, ok.hs, cls_Reader D, na_Reader_at D, lk_at, _, _, rfl, rfl, _, _, ok.hs, rdF_len, ?_⟩
    rw [cast1, pf_at]
    obtain ⟨ok2, g2⟩ := ok.put (r' := r.go) rfl
    replace kk := kk.up g2
    have hsts := may_sts hm
    generalize hx : here c.ws r = x at *
    unfold stmtR at kk
    rw [hx] at kk
    (try dsimp only)
    refine ⟨_, rfl, rfl, _, rfl, ?_⟩
    by_cases q1 : x = ("if" : Str)
    · rw [if_pos q1] at kk
      cases k with
      | zero =>
        rw [q1] at hm
        have := may_if (ar := c.ar) (r := r) (d := d)
        rw [show mayR c.ar (wd "if") d r = true from hm] at this
        have := of_decide_eq_true this.symm
        omega
      | succ k =>
        refine ifT (by simpa using q1) ⟨_, rfl, _, _, _, rfl, ok2.hs, (by kernel_rfl), _, rfl, _, _, rfl, rfl, c, I, r.go, d + 1, args1, ok2, by omega, ?_⟩
        exact kk
    rw [if_neg q1] at kk
    refine ifF (by simpa using q1) ?_
    (try unfold tNext)
    (try dsimp only)
    refine ⟨_, rfl, rfl, _, rfl, ?_⟩
    by_cases q2 : x = ("say" : Str)
    · rw [if_pos q2] at kk
      refine ifT (by simpa using q2) ⟨_, rfl, _, _, _, rfl, ok2.hs, (by kernel_rfl), c, I, r.go, 1, rfl, ok2, rfl, kk.bind fun e r1 I1 H1 v1 ee g3 ok3 rv k3 => ⟨(by show 2 ≤ sizeLine; decide), fun t ht => ?_⟩⟩
      have g4 := Gr.new (ms := []) (o := .tup [.str "say", v1]) g3.ih ht
      exact k3.ok rfl _ _ _ g4.nil (ok3.up0 g4) (dR_tup upd_same (dRs_cons dR_str (dRs_cons (up (R := iEx) g4.ii rv) dRs_nil)))
    rw [if_neg q2] at kk
    refine ifF (by simpa using q2) ?_
    (try unfold tNext)
    (try dsimp only)
    refine ⟨_, rfl, _, _, _, rfl, ok2.hs, (by kernel_rfl), c, I, r.go, rfl, ok2, kk.bind fun y r1 I1 H1 v1 ey g3 ok3 rv k3 => ?_⟩
    have rv : v1 = .str y := rv
    subst rv
    replace k3 := k3
    (try dsimp only at k3)
    refine ⟨_, rfl, rfl, _, rfl, ?_⟩
    by_cases q3 : x = ("draw" : Str)
    · rw [if_pos q3] at k3
      refine ifT (by simpa using q3) ?_
      refine ⟨_, rfl, _, _, _, _, _, rfl, ok3.hs, cls_Reader D, na_Reader_draws D, lk_draws, _, _, rfl, rfl, _, _, ok3.hs, rdF_len, ?_⟩
      rw [cast1, pf_draws]
      obtain ⟨ok4, g4⟩ := ok3.put (r' := { r1 with draws := r1.draws + 1 }) rfl
      refine ⟨_, rfl, _, rfl, _, _, _, rfl, ok4.hs, (by kernel_rfl), c, I1, _, 1, 6, rfl, ok4, by decide, (k3.up g4).bind fun n r2 I2 H2 v2 en g5 ok5 rn k5 => ⟨(by show 3 ≤ sizeLine; decide), fun t ht => ?_⟩⟩
      have g6 := Gr.new (ms := []) (o := .tup [.str "draw", .str y, v2]) g5.ih ht
      have rn : v2 = .int (n : Int) := rn
      subst rn
      exact k5.ok rfl _ _ _ g6.nil (ok5.up0 g6) (dR_tup upd_same (dRs_cons dR_str (dRs_cons dR_str (dRs_cons dR_int dRs_nil))))
    rw [if_neg q3] at k3
    refine ifF (by simpa using q3) ?_
    (try unfold tNext)
    (try dsimp only)
    by_cases q4 : x = ("use" : Str)
    · rw [if_pos q4] at k3
      refine ⟨_, rfl, rfl, _, rfl, ifT (by simpa using q4) ?_⟩
      refine ⟨_, rfl, _, _, _, _, _, rfl, ok3.hs, cls_Reader D, na_Reader_uses D, lk_uses, _, _, rfl, rfl, _, _, ok3.hs, rdF_len, ?_⟩
      rw [cast1, pf_uses]
      obtain ⟨ok4, g4⟩ := ok3.put (r' := { r1 with uses := r1.uses + 1 }) rfl
      refine ⟨_, rfl, _, rfl, _, rfl, _, _, _, rfl, ok4.hs, (by kernel_rfl), c, I1, _, 1, rfl, ok4, rfl, (k3.up g4).bind fun e r2 I2 H2 v2 ee g5 ok5 re k5 => ⟨(by show 3 ≤ sizeLine; decide), fun t ht => ?_⟩⟩
      have g6 := Gr.new (ms := []) (o := .tup [.str x, .str y, v2]) g5.ih ht
      subst q4
      exact k5.ok rfl _ _ _ g6.nil (ok5.up0 g6) (dR_tup upd_same (dRs_cons dR_str (dRs_cons dR_str (dRs_cons (up (R := iEx) g6.ii re) dRs_nil))))
    · rw [if_neg q4] at k3
      refine ⟨_, rfl, rfl, _, rfl, ifF (by simpa using q4) ?_⟩
      (try unfold tNext)
      (try dsimp only)
      have q5 : x = ("set" : Str) := by
        simp only [sts, List.mem_cons, List.not_mem_nil, or_false] at hsts
        rcases hsts with h | h | h | h | h
        · exact h
        · exact absurd h q3
        · exact absurd h q4
        · exact absurd h q2
        · exact absurd h q1
      refine ⟨_, rfl, _, rfl, _, rfl, _, _, _, rfl, ok3.hs, (by kernel_rfl), c, I1, _, 1, rfl, ok3, rfl, k3.bind fun e r2 I2 H2 v2 ee g5 ok5 re k5 => ⟨(by show 3 ≤ sizeLine; decide), fun t ht => ?_⟩⟩
      have g6 := Gr.new (ms := []) (o := .tup [.str x, .str y, v2]) g5.ih ht
      subst q5
      exact k5.ok rfl _ _ _ g6.nil (ok5.up0 g6) (dR_tup upd_same (dRs_cons dR_str (dRs_cons dR_str (dRs_cons (up (R := iEx) g6.ii re) dRs_nil))))
end
end K

set_option Elab.async false
set_option linter.all false
set_option maxRecDepth 100000
set_option maxHeartbeats 4000000
namespace Tk
open PySem PySem.Spec PyProof.Rows L2
theorem wk_tupS {K : PySem.W.Frag} {I : Hp} {a : Addr} {vs : List V} (h : ∀ H, SqT K H a vs) : Wk (Itt K a) vs.length (gv vs) I :=
  ⟨fun i H s hi => ⟨vs, _, h H, gv_at hi⟩, fun H s => ⟨vs, h H, Nat.le_refl _⟩, fun i H x H' s hi y => ⟨(gv_of (y.2 vs (h H))).symm, y.1⟩⟩
theorem Gr.any {I I' H I1 H1 : Hp} (g : Gr [] I H I1 H1) (s : Same I' H) : Gr [] I' H I' H1 :=
  ⟨Same.refl _, fun a o e => g.hh a o (by simp) (s a o e), g.hh, g.th, fun a o e _ => e⟩
end Tk
namespace K
open PySem PySem.Spec PyProof.Rows L2 Tk Hd Rd
section
variable {P : Program} {w : World} {K : PySem.W.Frag} {mg : Str → Option Value} {base : Heap}
theorem RdOk.still {c : Rc} {I H : Hp} {r : RS} (ok : RdOk K c I H r) : ∃ I2, Same I I2 ∧ Same I2 H ∧ ∀ H', Same I2 H' → RdOk K c I H' r := by
  obtain ⟨vs, hv, a2⟩ := ok.hv
  have n1 : ∀ b o, I b = some o → b ≠ c.s := fun b o e z => by rw [z, ok.is] at e; cases e
  have n2 : ∀ b o, I b = some o → b ≠ c.vl := fun b o e z => by rw [z, ok.iv] at e; cases e
  refine ⟨upd (upd I c.s (.ins (CRd K) c.dx (rdF c r))) c.vl (.lst vs), fun b o e => by rw [upd_ne (n2 b o e), upd_ne (n1 b o e)]; exact e, same_now (same_now ok.sm ok.hs) hv, fun H' s => ?_⟩
  have hs : H' c.s = some (.ins (CRd K) c.dx (rdF c r)) := s _ _ (by rw [upd_ne ok.ne]; exact upd_same)
  have hv' : H' c.vl = some (.lst vs) := s _ _ upd_same
  exact ⟨fun b o e => s b o (by rw [upd_ne (n2 b o e), upd_ne (n1 b o e)]; exact e), ok.is, ok.iv, ok.ne, hs, ⟨vs, hv', a2⟩, ok.hw, ok.nm, ok.vn, ok.wn, ok.wz⟩
def spStmts (K : PySem.W.Frag) (k : Nat) : Sp := fun vs H Q E => ∃ (c : Rc) (I : Hp) (r : RS) (d : Nat), vs = [.ref c.s, .int (d : Int)] ∧ RdOk K c I H r ∧ d + k = 4 ∧ OutR K c (iL iSt) I H (stmtsR c.ws c.ar d (chAt c.ws c.ar k) r) Q E
theorem sc_Readerstatements : FnScope ["self", "depth", "found"] ["self", "depth"] (defScope s_Reader__statements) := ⟨rfl, rfl, rfl, by decide +kernel, rfl, by decide +kernel, by decide +kernel⟩
theorem ok_stmts_step (D : Dt K mg) (k : Nat) (H_Reader__statement : HasN P w K mg base (3 * k + 11) (He.ma K (He.ga K "Reader") "_statement") ["self", "depth"] [] (spStmt K k)) : HasN P w K mg base (3 * k + 12) (He.ma K (He.ga K "Reader") "_statements") ["self", "depth"] [] (spStmts K k) := by
  obtain ⟨fd, F⟩ := fd_Reader__statements D
  have H_Reader__here := ok_here (P := P) (w := w) (base := base) D
  have H_Reader__may_begin := ok_may_begin (P := P) (w := w) (base := base) D
  refine hasXN F (F.bindsN fun _ _ _ _ _ _ us hl => match us, hl with | [_, _], _ => rfl) sc_Readerstatements (fun vs H Q E h => ?_) (fun cdv A outer s H vs Q E hr h => ?_)
  · obtain ⟨c, I, r, d, rfl, _⟩ := h; rfl
  · obtain ⟨c, I, r, d, rfl, ok, hd, kk⟩ := h
    refine ⟨_, (pss_cons (ps_set (i := 2) sc_Readerstatements.nd rfl (Or.inl rfl) (pe_lst pa_nil))
      (pss_cons (ps_while (passes_of rfl) (pt_val (pe_methH (pv 0) (cls_Reader (K := K) D) (me_Reader__may_begin (K := K) D) H_Reader__may_begin (hr.mono (by omega)) passL (pa_cons (pe_methH0 (pv 0) (cls_Reader (K := K) D) (me_Reader__here (K := K) D) H_Reader__here (hr.mono (by omega)) passL) (pa_cons (pv 1) pa_nil))))
      (pss_one (ps_expr (pe_bm PySem.F.plainAttrs_list PySem.F.slot_list_append PySem.F.type_list_append mt_append (pv 2) (pa_cons (pe_methHN (pv 0) (cls_Reader (K := K) D) (me_Reader__statement (K := K) D) H_Reader__statement (hr.mono (by omega)) (L2N.passes_call (L2N.takes_of rfl rfl rfl rfl) fun _ _ _ _ h => h) (pa_cons (pv 1) pa_nil)) pa_nil)))))
      (pss_one (ps_ret (pv 2))))), ?_⟩
    refine ⟨by show 0 ≤ sizeLine; decide, fun f hf => ?_⟩
    have nfs : f ≠ c.s := fun z => by rw [z, ok.hs] at hf; cases hf
    have nfv : f ≠ c.vl := fun z => by obtain ⟨vs, hv, _⟩ := ok.hv; rw [z, hv] at hf; cases hf
    have g0 : Gr [] I H I (upd H f (.lst [])) := Gr.tmp ok.sm hf
    (try dsimp only)
    refine ⟨fun n σ' H' => σ' = [some (V.ref c.s), some (V.int (d : Int)), some (V.ref f)] ∧ ∃ I' acc vs r', Gr (f :: rms c) I H I' H' ∧ I' f = none ∧ H' f = some (.lst vs) ∧ All2 (iSt I') vs acc ∧ RdOk K c I' H' r' ∧
        stmtsR c.ws c.ar d (chAt c.ws c.ar k) r = loopR c.ws c.ar d (chAt c.ws c.ar k) n acc r' ∧ c.ws.length < n + r'.pos ∧ acc.length + n ≤ c.ws.length + 1,
      ⟨c.ws.length + 1, rfl, I, [], [], r, g0.nil, ok.sm.free hf, upd_same, .nil, ok.up0 g0, rfl, by omega, by simp⟩, ?_⟩
    rintro n σ' H' ⟨rfl, I', acc, vs, r', gg, hI, hf', a2, ok', el, hn, hal⟩
    refine ⟨_, rfl, _, _, _, rfl, ok'.hs, (by kernel_rfl), _, rfl, _, _, _, rfl, ok'.hs, (by kernel_rfl), c, I', r', rfl, ok', _, rfl, c, I', r', _, d, rfl, ok', fun I1 H1 g1 => ⟨_, rfl, ?_⟩⟩
    have ok1 := ok'.up0 g1
    have hf1 := g1.at hf' (by simp)
    have hI1 := g1.out hI hf'
    have gg1 := gg.trans g1.nil
    refine ifB (fun hm => ?_) (fun hm => ?_)
    · have hp : r'.pos < c.ws.length := here_lt fun z => by
        have := may_sts hm
        rw [z] at this
        exact empty_sts this
      cases n with
      | zero => omega
      | succ n =>
        rw [loopR, if_pos hm] at el
        refine ⟨fun σ' H' => σ' = [some (V.ref c.s), some (V.int (d : Int)), some (V.ref f)] ∧ ∃ I' acc vs r', Gr (f :: rms c) I H I' H' ∧ I' f = none ∧ H' f = some (.lst vs) ∧ All2 (iSt I') vs acc ∧ RdOk K c I' H' r' ∧
          stmtsR c.ws c.ar d (chAt c.ws c.ar k) r = loopR c.ws c.ar d (chAt c.ws c.ar k) n acc r' ∧ c.ws.length < n + r'.pos ∧ acc.length + n ≤ c.ws.length + 1, fun σ' H' h => ⟨n, by omega, h⟩, ?_⟩
        refine ⟨_, rfl, .inl ⟨rfl, _, SqL.of hf1⟩, _, rfl, _, _, _, rfl, ok1.hs, (by kernel_rfl), _, rfl, c, I1, r', d, rfl, ok1, hd, hm, OutR.of (fun s r2 es I2 H2 v2 g2 ok2 rv => ?_) (fun m em => ?_)⟩
        · have nf : f ∉ rms c := by simp [nfs, nfv]
          have hf2 := g2.at hf1 nf
          have hI2 := g2.out hI1 hf1
          have a3 := (a2.up (g1.ii.trans g2.ii)).snoc rv
          have wn := ok.wn
          have lv := a2.len
          refine ⟨f, vs, v2, rfl, rfl, hf2, (by have : sizeLine = 16777216 := rfl
                                                omega), ?_⟩
          have g3 : Gr (f :: rms c) I2 H2 I2 (upd H2 f (.lst (vs ++ [v2]))) := Gr.mut g2.ih hI2 (by simp)
          have hpos := (stmtR_fwd (chAt_fwd k) es).1
          have : r'.pos < r'.go.pos := Nat.lt_succ_self _
          refine ⟨rfl, I2, acc ++ [s], vs ++ [v2], r2, (gg1.trans (g2.mono fun _ z => List.mem_cons_of_mem _ z)).trans g3, hI2, upd_same, a3, ok2.up (Gr.mut (ms := [f]) g2.ih hI2 (by simp)) (by simpa using nfs.symm) (by simpa using nfv.symm), ?_, by omega, by rw [List.length_append]; show acc.length + 1 + n ≤ _; omega⟩
          rw [el, es]; rfl
        · have kb := kk.bad (n := m) (by rw [el, em]; rfl)
          exact fun I2 H2 dd g e => kb I2 H2 dd ((gg1.trans (g.mono fun _ z => List.mem_cons_of_mem _ z)).drop hf) e
    · refine ⟨_, rfl, ?_⟩
      rw [loop_stop hm] at el
      have nf1 : ∀ a ∈ rms c, a ≠ f := by
        intro a ha e
        subst e
        simp [nfs, nfv] at ha
      have g9 := gg1.frz ok.sm hf hf1
      have s9 : Same I1 (upd I1 f (.lst vs)) := sNew hI1
      have ok9 : RdOk K c (upd I1 f (.lst vs)) H1 r' := by
        obtain ⟨us, hv, b2⟩ := ok1.hv
        exact ⟨g9.ih, by rw [upd_ne nfs.symm]; exact ok1.is, by rw [upd_ne nfv.symm]; exact ok1.iv, ok1.ne, ok1.hs, ⟨us, hv, b2.up s9⟩, s9 _ _ ok1.hw, ok1.nm, ok1.vn, ok1.wn, ok1.wz⟩
      exact kk.ok el _ _ _ g9 ok9 ⟨f, vs, rfl, upd_same, (a2.up (g1.ii.trans s9))⟩
end
end K

set_option Elab.async false
set_option linter.all false
set_option maxRecDepth 100000
set_option maxHeartbeats 4000000
namespace K
open PySem PySem.Spec PyProof.Rows L2 Tk Hd Rd
section
variable {P : Program} {w : World} {K : PySem.W.Frag} {mg : Str → Option Value} {base : Heap}
theorem len_iff {n : Nat} : decide (V.int (n : Int) = V.int 0) = decide (n = 0) := by
  by_cases h : n = 0
  · subst h; rfl
  · rw [decide_eq_false h, decide_eq_false (fun z => h (by injection z with z; omega))]
theorem sc_Readerchoice : FnScope ["self", "depth", "asked", "chosen", "others", "word"] ["self", "depth"] (defScope s_Reader__choice) := ⟨rfl, rfl, rfl, by decide +kernel, rfl, by decide +kernel, by decide +kernel⟩
theorem ok_choice_step (D : Dt K mg) (k : Nat) (H_Reader__statements : HasN P w K mg base (3 * k + 12) (He.ma K (He.ga K "Reader") "_statements") ["self", "depth"] [] (spStmts K k)) : HasN P w K mg base (3 * k + 13) (He.ma K (He.ga K "Reader") "_choice") ["self", "depth"] [] (spChoice K k) := by
  obtain ⟨fd, F⟩ := fd_Reader__choice D
  have H_Reader__expression := ok_expr4 (P := P) (w := w) (base := base) D
  have H_Reader__may_begin := ok_may_begin (P := P) (w := w) (base := base) D
  have H_Reader__here := ok_here (P := P) (w := w) (base := base) D
  have H_BadText_init := ok_bt (P := P) (w := w) (base := base) D
  have H_Reader__take := ok_take (P := P) (w := w) (base := base) D
  refine hasXN F (F.bindsN fun _ _ _ _ _ _ us hl => match us, hl with | [_, _], _ => rfl) sc_Readerchoice (fun vs H Q E h => ?_) (fun cdv A outer s H vs Q E hr h => ?_)
  · obtain ⟨c, I, r, d, rfl, _⟩ := h; rfl
  · obtain ⟨c, I, r, d, rfl, ok, hd, kk⟩ := h
    refine ⟨_, (pss_cons (ps_set (i := 2) sc_Readerchoice.nd rfl (Or.inl rfl) (pe_methHN (pv 0) (cls_Reader (K := K) D) (me_Reader__expression (K := K) D) H_Reader__expression (hr.mono (by omega)) (L2N.passes_call (L2N.takes_of rfl rfl rfl rfl) fun _ _ _ _ h => h) (pa_cons pe_int pa_nil)))
      (pss_cons (ps_set (i := 3) sc_Readerchoice.nd rfl (Or.inl rfl) (pe_methHN (pv 0) (cls_Reader (K := K) D) (me_Reader__statements (K := K) D) H_Reader__statements (hr.mono (by omega)) (L2N.passes_call (L2N.takes_of rfl rfl rfl rfl) fun _ _ _ _ h => h) (pa_cons (pv 1) pa_nil)))
      (pss_cons (ps_set (i := 4) sc_Readerchoice.nd rfl (Or.inl rfl) (pe_lst pa_nil))
      (pss_cons (ps_if (PW.pt (pw_and (pt_cmpR op_eq (pe_methH0 (pv 0) (cls_Reader (K := K) D) (me_Reader__here (K := K) D) H_Reader__here (hr.mono (by omega)) passL) pe_str (nomark _)) (pw_and1 (pt_val (pe_callB (cr_anyK K rfl) rfl (free_any D) (by decide +kernel) (pa_cons (pe_lc (own := [("word", 5)]) (g := gName 5) rfl sc_Readerchoice.nd (pi_tupK K (pe_glob (v := .ref (He.ga K "STATEMENTS")) rfl (glo_STATEMENTS D) rfl)) (blkOk_by (own := [("word", 5)]) (N := ["self", "depth", "asked", "chosen", "others", "word"]) (by kernel_rfl)) (fun _ _ _ _ _ => (pg_name (i := 5) sc_Readerchoice.nd rfl (Or.inl rfl))) (fun _ _ _ _ _ => pts_nil) (fun _ _ _ _ _ => (pe_methH (pv 0) (cls_Reader (K := K) D) (me_Reader__may_begin (K := K) D) H_Reader__may_begin (hr.mono (by omega)) passL (pa_cons (pv 5) (pa_cons (pv 1) pa_nil))))) pa_nil))))))
      (pss_cons (ps_fldaug (pv 0) pe_int in_add)
      (pss_cons (ps_set (i := 4) sc_Readerchoice.nd rfl (Or.inl rfl) (pe_methHN (pv 0) (cls_Reader (K := K) D) (me_Reader__statements (K := K) D) H_Reader__statements (hr.mono (by omega)) (L2N.passes_call (L2N.takes_of rfl rfl rfl rfl) fun _ _ _ _ h => h) (pa_cons (pv 1) pa_nil)))
      (pss_one (ps_if (pt_cmpR op_eq (pe_callB (call_lenK K) rfl (free_len D) PySem.boot_len (pa_cons (pv 4) pa_nil)) pe_int (nomark _))
      (pss_one (L2N.ps_raise rfl (L2N.takes_of rfl rfl rfl rfl) (pmk_oexN (oex_BadText (K := K) D) H_BadText_init (hr.mono (by omega)) rfl (glo_BadText D) (pa_cons (pe_fldK K (pv 0) rfl) pa_nil))))
      pss_nil))))
      pss_nil)
      (pss_cons (ps_expr (pe_methHN (pv 0) (cls_Reader (K := K) D) (me_Reader__take (K := K) D) H_Reader__take (hr.mono (by omega)) (L2N.passes_call (L2N.takes_of rfl rfl rfl rfl) fun _ _ _ _ h => h) (pa_cons pe_str pa_nil)))
      (pss_one (ps_ret (pe_tup (pa_cons pe_str (pa_cons (pv 2) (pa_cons (pv 3) (pa_cons (pv 4) pa_nil)))))))))))), ?_⟩
    have hk : 4 - k = d := by omega
    rw [choiceR_eq, hk] at kk
    refine ⟨_, rfl, _, _, _, rfl, ok.hs, (by kernel_rfl), c, I, r, 1, rfl, ok, rfl, kk.bind fun e r1 I1 H1 v1 ee g1 ok1 rv1 k1 => ?_⟩
    refine ⟨_, rfl, _, _, _, rfl, ok1.hs, (by kernel_rfl), _, rfl, c, I1, r1, d, rfl, ok1, hd, k1.bind fun s r2 I2 H2 v2 es g2 ok2 rv2 k2 => ?_⟩
    refine ⟨by show 0 ≤ sizeLine; decide, fun o ho => ?_⟩
    have g3 := Gr.new (ms := []) (o := .lst []) g2.ih ho
    have ok3 := ok2.up0 g3
    have rv3 : iL iSt (upd I2 o (.lst [])) (.ref o) [] := ⟨o, [], rfl, upd_same, .nil⟩
    replace k2 := k2.up g3.nil
    (try dsimp only)
    refine seq_cut (fun σ' H' => ∃ I' v' t r3, σ' = [some (V.ref c.s), some (V.int (d : Int)), some v1, some v2, some v', none] ∧ Gr (rms c) (upd I2 o (.lst [])) (upd H2 o (.lst [])) I' H' ∧ RdOk K c I' H' r3 ∧ iL iSt I' v' t ∧ OutR K c iSt I' H' ((takeR c.ws "end" r3).bind fun _ r4 => .ok (.ite e s t) r4) Q E) (fun nx q => ?_) ?_
    · refine ⟨_, rfl, _, _, _, rfl, ok3.hs, (by kernel_rfl), c, _, r2, rfl, ok3, rfl, _, rfl, ?_⟩
      by_cases q1 : here c.ws r2 = ("else" : Str)
      rotate_left
      · rw [if_neg (fun z => q1 z.1)] at k2
        exact ifF (by simpa using q1) (q _ _ ⟨_, _, [], r2, rfl, (Gr.refl g3.ih), ok3, rv3, k2⟩)
      refine ifT (by simpa using q1) ?_
      obtain ⟨I4, s4, s5, st⟩ := ok3.still
      have hsts : ∀ H, SqT K H (He.ga K "STATEMENTS") (sts.map V.str) := fun H => tup_STATEMENTS D H
      refine ⟨He.ga K "STATEMENTS", rfl, ⟨_, hsts _⟩, fun l hD => lc_bool (K := K) (R := iS) (p := fun x => mayR c.ar x d r2 = true) (wk_tupS (I := I4) hsts) (All2.ofStrs sts) s5 hD (by decide) (fun i x I5 H5 Nx Qk hx rx s6 s7 k5 => ?_) (fun I5 H5 bs g5 hq _ e2 => ?_)⟩
      · have ok5 := st H5 (s6.trans s7)
        have rx : gv (sts.map V.str) i = .str x := rx
        rw [rx]
        refine ⟨rfl, _, rfl, _, _, _, rfl, ok5.hs, (by kernel_rfl), _, rfl, _, rfl, c, _, r2, x, d, rfl, ok5, fun I6 H6 g6 => ?_⟩
        have e : mayR c.ar x d r2 = decide (mayR c.ar x d r2 = true) := by cases mayR c.ar x d r2 <;> rfl
        rw [e]
        exact k5 _ _ (g6.any s7)
      · have g6 := g5.low s4
        have ok6 := ok3.up0 g6
        have ea : bs.any id = sts.any (fun x => mayR c.ar x d r2) := by
          rw [e2, Bool.eq_iff_iff, decide_eq_true_iff, List.any_eq_true]
        refine ⟨l, bs, rfl, hq, _, rfl, ?_⟩
        rw [ea]
        refine ifB (fun q2 => ?_) (fun q2 => ?_)
        · rw [if_pos ⟨q1, q2⟩] at k2
          replace k2 := k2.up g6.nil
          refine ⟨_, rfl, _, _, _, _, _, rfl, ok6.hs, cls_Reader D, na_Reader_at D, lk_at, _, _, rfl, rfl, _, _, ok6.hs, rdF_len, ?_⟩
          rw [cast1, pf_at]
          obtain ⟨ok7, g7⟩ := ok6.put (r' := r2.go) rfl
          refine ⟨_, rfl, _, _, _, rfl, ok7.hs, (by kernel_rfl), _, rfl, c, _, r2.go, d, rfl, ok7, hd, (k2.up g7).bind fun t r3 I8 H8 v8 et g8 ok8 rv8 k8 => ?_⟩
          obtain ⟨a8, vs8, rfl, ha8, a28⟩ := id rv8
          have l8 := a28.len
          refine ⟨_, rfl, _, _, rfl, .inl ⟨_, SqL.of (g8.ih _ _ ha8), rfl⟩, rfl, _, rfl, ?_⟩
          rw [l8, len_iff]
          refine ifD (fun q3 => ?_) (fun q3 => ?_)
          · rw [if_pos q3] at k8
            exact ⟨_, rfl, _, _, _, _, _, rfl, ok8.hs, cls_Reader D, na_Reader_at D, lk_at, (by show 1 ≤ 1000; decide), fun e he => ⟨e, _, rfl, upd_same, fun d hd ne => ⟨rfl, d, [("at", .int (r3.pos : Int))], upd_same, by rw [upd_ne ne]; exact upd_same, by rw [upd_ne ne] at hd; exact hd, raised_at (Gr.refl ok8.sm) k8 e he d hd ne⟩⟩⟩
          · rw [if_neg q3] at k8
            exact q _ _ ⟨_, _, t, r3, rfl, (g6.nil.trans g7).trans g8, ok8, rv8, k8⟩
        · rw [if_neg (fun z => by rw [q2] at z; cases z.2)] at k2
          exact q _ _ ⟨_, _, [], r2, rfl, g6.nil, ok6, up g6.ii rv3, k2.up g6.nil⟩
    rintro σ' H' ⟨I', v', t, r3, rfl, gg, ok', rv', k'⟩
    (try dsimp only)
    refine ⟨_, rfl, _, _, _, rfl, ok'.hs, (by kernel_rfl), c, I', r3, "end", rfl, ok', by decide +kernel, k'.bind fun u r4 I5 H5 v5 eu g5 ok5 _ k5 => ?_⟩
    refine ⟨_, rfl, _, rfl, _, rfl, (by show 4 ≤ sizeLine; decide), fun p hp => ?_⟩
    have g6 := Gr.new (ms := []) (o := .tup [.str "if", v1, v2, v']) g5.ih hp
    have toD : ∀ {H : Hp} {v : V} {l : List Stm}, iL iSt H v l → dR H v (.lst (blockDa .lst l)) := fun {H v l} h => by
      obtain ⟨a, vs, rfl, ha, a2⟩ := h
      rw [blockDa_map]
      exact dR_lst ha (all_dRs (All2.mapR a2))
    exact k5.ok rfl _ _ _ g6.nil (ok5.up0 g6) (dR_tup upd_same (dRs_cons dR_str (dRs_cons (up (R := iEx) (g2.ii.trans (g3.ii.trans (gg.ii.trans (g5.ii.trans g6.ii)))) rv1) (dRs_cons (toD (up (g3.ii.trans (gg.ii.trans (g5.ii.trans g6.ii))) rv2)) (dRs_cons (toD (up (g5.ii.trans g6.ii) rv')) dRs_nil)))))
theorem ok_ch (D : Dt K mg) : ∀ k, HasN P w K mg base (3 * k + 10) (He.ma K (He.ga K "Reader") "_choice") ["self", "depth"] [] (spCh K k)
  | 0 => by
    obtain ⟨fd, F⟩ := fd_Reader__choice D
    exact has_neverN F (F.bindsN fun _ _ _ _ _ _ us hl => match us, hl with | [_, _], _ => rfl)
  | k + 1 => ok_choice_step D k (ok_stmts_step D k (ok_stmt_step D k (ok_ch D k)))
theorem ok_stmts4 (D : Dt K mg) : HasN P w K mg base 24 (He.ma K (He.ga K "Reader") "_statements") ["self", "depth"] [] (spStmts K 4) := ok_stmts_step D 4 (ok_stmt_step D 4 (ok_ch D 4))
end
end K

set_option Elab.async false
set_option linter.all false
set_option maxRecDepth 100000
set_option maxHeartbeats 4000000
/-! What is read is right, and its words are those that were read. -/
namespace Rd
open PySem PyProof.Rows TL
section
variable {ws : List Str} {ar : Bool}
theorem here_lt' {r : RS} (h : here ws r ≠ Str.empty) : r.pos < ws.length := by
  by_cases q : r.pos < ws.length
  · exact q
  · exact absurd (by unfold here; rw [List.getD_eq_getElem?_getD, List.getElem?_eq_none (by omega)]; rfl) h
theorem drop_here {r : RS} (h : here ws r ≠ Str.empty) : ws.drop r.pos = here ws r :: ws.drop r.go.pos := by
  have hl := here_lt' h
  rw [List.drop_eq_getElem_cons hl]
  congr 1
  unfold here; rw [List.getD_eq_getElem?_getD, List.getElem?_eq_getElem hl]; rfl
theorem dec_ne (n : Nat) : dec n ≠ Str.empty := fun z => by
  have := congrArg tl z
  rw [tl_dec] at this
  exact numL_ne n this
theorem name_ne {x : Str} (h : isName x = true) : x ≠ Str.empty := fun z => by subst z; exact (name_facts h).2.2.1 rfl
theorem hasV_name {r : RS} (hn : NmOk r.vars) {x : Str} (h : hasV r x = true) : isName x = true := by
  obtain ⟨p, hp, rfl⟩ := List.mem_map.mp (hasV_iff.mp h)
  exact hn p hp
theorem leaf_sound {r : RS} (hn : NmOk r.vars) {x : Str} {e : Ex} (h : leafOf r x = some e) (k : Nat) : okEx (r.vars.map (·.1)) r.pressed k e ∧ e.words = [x] ∧ x ≠ Str.empty := by
  unfold leafOf at h
  split at h
  · rename_i n q
    cases h
    obtain ⟨rfl, hm⟩ := numOf_some.mp q
    exact ⟨by cases k <;> exact hm, rfl, dec_ne n⟩
  · split at h
    · rename_i c
      cases h
      exact ⟨by cases k <;> exact hasV_iff.mp c, rfl, name_ne (hasV_name hn c)⟩
    · split at h
      · rename_i c
        cases h
        exact ⟨by cases k <;> exact c.2, by rw [c.1]; rfl, by rw [c.1]; decide +kernel⟩
      · cases h
/-- what was read of words -/
structure Rdn (ws : List Str) (r r1 : RS) (l : List Str) : Prop where
  pos : r1.pos = r.pos + l.length
  dr : ws.drop r.pos = l ++ ws.drop r1.pos
theorem Rdn.nil (r r1 : RS) (h : r1.pos = r.pos) : Rdn ws r r1 [] := ⟨by simpa using h, by rw [h]; rfl⟩
theorem Rdn.one {r r1 : RS} {x : Str} (h : here ws r = x) (hx : x ≠ Str.empty) (hp : r1.pos = r.pos + 1) : Rdn ws r r1 [x] :=
  ⟨hp, by rw [drop_here (by rw [h]; exact hx), h, hp]; rfl⟩
theorem Rdn.app {r r1 r2 : RS} {l m : List Str} (a : Rdn ws r r1 l) (b : Rdn ws r1 r2 m) : Rdn ws r r2 (l ++ m) :=
  ⟨by rw [b.pos, a.pos, List.length_append]; omega, by rw [a.dr, b.dr, List.append_assoc]⟩
theorem ops_ne {x : Str} (h : x ∈ ops) : x ≠ Str.empty := fun z => by subst z; revert h; decide +kernel
theorem ex_sound : ∀ {k : Nat} {r r1 : RS} {e : Ex}, NmOk r.vars → exR ws k r = .ok e r1 → okEx (r.vars.map (·.1)) r.pressed k e ∧ Rdn ws r r1 e.words := by
  have leaf : ∀ (k : Nat) {r r1 : RS} {e : Ex}, NmOk r.vars → leafR ws r = .ok e r1 → okEx (r.vars.map (·.1)) r.pressed k e ∧ Rdn ws r r1 e.words := fun k {r r1 e} hn h => by
    obtain ⟨rfl, h2⟩ := leafR_pos h
    obtain ⟨a, b, c⟩ := leaf_sound hn h2 k
    exact ⟨a, by rw [b]; exact Rdn.one rfl c rfl⟩
  intro k
  induction k with
  | zero => intro r r1 e hn h; exact leaf 0 hn h
  | succ k ih =>
    intro r r1 e hn h
    rw [exR] at h
    split at h
    · rename_i c
      obtain ⟨a, r2, h1, h⟩ := bind_ok h
      obtain ⟨b, r3, h2, h⟩ := bind_ok h
      cases h
      obtain ⟨a1, a2⟩ := ih (r := r.go) hn h1
      obtain ⟨_, v1, _, _, v2⟩ := exR_pos h1
      obtain ⟨b1, b2⟩ := ih (r := r2) (by rw [v1]; exact hn) h2
      rw [v1, v2] at b1
      refine ⟨⟨c, a1, b1⟩, ?_⟩
      have := ((Rdn.one (ws := ws) (r := r) (r1 := r.go) rfl (ops_ne c) rfl).app a2).app b2
      rw [show (Ex.op (here ws r) a b).words = [here ws r] ++ a.words ++ b.words from by simp [Ex.words]]
      exact this
    · exact leaf (k + 1) hn h
/-- statements that were read -/
structure StOk (ws : List Str) (ar : Bool) (k : Nat) (r r1 : RS) (s : Stm) : Prop where
  ok : okSt (r.vars.map (·.1)) r.pressed ar k s
  rd : Rdn ws r r1 s.words
  nd : r1.draws = r.draws + Rd.nd s
  nu : r1.uses = r.uses + Rd.nu s
  dl : r1.draws ≤ 3
  ul : r1.uses ≤ 24
  vs : r1.vars = r.vars
  pr : r1.pressed = r.pressed
structure BlOk (ws : List Str) (ar : Bool) (k : Nat) (r r1 : RS) (l : List Stm) : Prop where
  ok : okBl (r.vars.map (·.1)) r.pressed ar k l
  rd : Rdn ws r r1 (blockWords l)
  nd : r1.draws = r.draws + Rd.nds l
  nu : r1.uses = r.uses + Rd.nus l
  dl : r1.draws ≤ 3
  ul : r1.uses ≤ 24
  vs : r1.vars = r.vars
  pr : r1.pressed = r.pressed
theorem stmt_sound {k : Nat} (hk : k ≤ 4) (hc : ∀ (r : RS) (r1 : RS) (s : Stm), NmOk r.vars → r.draws ≤ 3 → r.uses ≤ 24 → chAt ws ar k r = .ok s r1 →
      ∃ e s1 s2, s = .ite e s1 s2 ∧ 0 < k ∧ okEx (r.vars.map (·.1)) r.pressed 4 e ∧ okBl (r.vars.map (·.1)) r.pressed ar (k - 1) s1 ∧ okBl (r.vars.map (·.1)) r.pressed ar (k - 1) s2 ∧
        Rdn ws r r1 (e.words ++ (blockWords s1 ++ ((if s2.isEmpty = true then [] else wd "else" :: blockWords s2) ++ [wd "end"]))) ∧ r1.draws = r.draws + (nds s1 + nds s2) ∧ r1.uses = r.uses + (nus s1 + nus s2) ∧ r1.draws ≤ 3 ∧ r1.uses ≤ 24 ∧ r1.vars = r.vars ∧ r1.pressed = r.pressed)
    {r r1 : RS} {s : Stm} (hn : NmOk r.vars) (h3 : r.draws ≤ 3) (h24 : r.uses ≤ 24) (hm : mayR ar (here ws r) (4 - k) r = true) (h : stmtR ws (chAt ws ar k) r = .ok s r1) : StOk ws ar k r r1 s := by
  have hs := may_sts hm
  have hne : here ws r ≠ Str.empty := fun z => by rw [z] at hs; exact empty_sts hs
  have w1 : Rdn ws r r.go [here ws r] := Rdn.one rfl hne rfl
  unfold stmtR at h
  split at h
  · rename_i q
    obtain ⟨e, s1, s2, rfl, hk0, a1, a2, a3, a4, a5, a6, a7, a8, a9, a10⟩ := hc r.go r1 s hn h3 h24 h
    have w := w1.app a4
    rw [q] at w
    exact ⟨⟨hk0, a1, a2, a3⟩, w, a5, a6, a7, a8, a9, a10⟩
  · split at h
    · rename_i q0 q
      obtain ⟨e, r2, h1, h⟩ := bind_ok h
      cases h
      obtain ⟨a1, a2⟩ := ex_sound (r := r.go) hn h1
      obtain ⟨_, v1, v2, v3, v4⟩ := exR_pos h1
      have w := w1.app a2
      rw [q] at w hm
      rw [show mayR ar (Str.ofString "say") (4 - k) r = r.pressed from may_say] at hm
      exact ⟨⟨hm, a1⟩, w, v2, v3, by rw [v2]; exact h3, by rw [v3]; exact h24, v1, v4⟩
    · rename_i q0 q1
      obtain ⟨x, r2, h1, h⟩ := bind_ok h
      obtain ⟨rfl, hx, hv⟩ := varR_pos h1
      have hxn : isName x = true := by rw [hx]; exact hasV_name (r := r.go) hn hv
      have hxv : x ∈ r.vars.map (·.1) := by rw [hx]; exact hasV_iff.mp hv
      have w2 : Rdn ws r.go r.go.go [x] := Rdn.one hx.symm (name_ne hxn) rfl
      split at h
      · rename_i q
        obtain ⟨n, r3, h2, h⟩ := bind_ok h
        cases h
        obtain ⟨rfl, hq, hlo⟩ := numR_pos h2
        obtain ⟨hd, hhi⟩ := numOf_some.mp hq
        have w3 : Rdn ws r.go.go ({ r.go.go with draws := r.go.go.draws + 1 } : RS).go [dec n] := Rdn.one hd (dec_ne n) rfl
        have w := (w1.app w2).app w3
        rw [q] at w hm
        rw [show mayR ar (Str.ofString "draw") (4 - k) r = _ from may_draw] at hm
        have hm1 := of_decide_eq_true (Bool.and_eq_true_iff.mp hm).1
        exact ⟨⟨hxv, hlo, hhi⟩, w, rfl, rfl, by show r.draws + 1 ≤ 3; omega, h24, rfl, rfl⟩
      · split at h
        · rename_i q2 q
          obtain ⟨e, r3, h2, h⟩ := bind_ok h
          cases h
          obtain ⟨a1, a2⟩ := ex_sound (r := { r.go.go with uses := r.go.go.uses + 1 }) hn h2
          obtain ⟨_, v1, v2, v3, v4⟩ := exR_pos h2
          have a2' : Rdn ws r.go.go r1 e.words := ⟨a2.pos, a2.dr⟩
          have w := (w1.app w2).app a2'
          rw [q] at w hm
          rw [show mayR ar (Str.ofString "use") (4 - k) r = _ from may_use] at hm
          obtain ⟨hm1, hm2⟩ := Bool.and_eq_true_iff.mp hm
          have hm3 := of_decide_eq_true (Bool.and_eq_true_iff.mp hm2).1
          exact ⟨⟨hm1, hxv, a1⟩, w, v2, v3, by rw [v2]; exact h3, by rw [v3]; show r.uses + 1 ≤ 24; omega, v1, v4⟩
        · rename_i q2 q3
          obtain ⟨e, r3, h2, h⟩ := bind_ok h
          cases h
          obtain ⟨a1, a2⟩ := ex_sound (r := r.go.go) hn h2
          obtain ⟨_, v1, v2, v3, v4⟩ := exR_pos h2
          have w := (w1.app w2).app a2
          have q : here ws r = wd "set" := by
            simp only [sts, List.mem_cons, List.not_mem_nil, or_false] at hs
            rcases hs with h | h | h | h | h
            · exact h
            · exact absurd h q2
            · exact absurd h q3
            · exact absurd h q1
            · exact absurd h q0
          rw [q] at w
          exact ⟨⟨hxv, a1⟩, w, v2, v3, by rw [v2]; exact h3, by rw [v3]; exact h24, v1, v4⟩
theorem loop_sound {k : Nat} (hs : ∀ (r r1 : RS) (s : Stm), NmOk r.vars → r.draws ≤ 3 → r.uses ≤ 24 → mayR ar (here ws r) (4 - k) r = true → stmtR ws (chAt ws ar k) r = .ok s r1 → StOk ws ar k r r1 s) :
    ∀ {n : Nat} {acc l : List Stm} {r r1 : RS}, NmOk r.vars → r.draws ≤ 3 → r.uses ≤ 24 → loopR ws ar (4 - k) (chAt ws ar k) n acc r = .ok l r1 → ∃ b, l = acc ++ b ∧ BlOk ws ar k r r1 b
  | 0, acc, l, r, r1, hn, h3, h24, h => by
    have h : Res.ok acc r = Res.ok l r1 := h
    cases h
    exact ⟨[], by simp, trivial, Rdn.nil _ _ rfl, rfl, rfl, h3, h24, rfl, rfl⟩
  | n + 1, acc, l, r, r1, hn, h3, h24, h => by
    rw [loopR] at h
    split at h
    · rename_i hm
      obtain ⟨s, r2, h1, h⟩ := bind_ok h
      have S := hs r r2 s hn h3 h24 hm h1
      obtain ⟨b, rfl, B⟩ := loop_sound hs (by rw [S.vs]; exact hn) S.dl S.ul h
      have ob := B.ok
      rw [S.vs, S.pr] at ob
      exact ⟨s :: b, by simp, ⟨S.ok, ob⟩, S.rd.app B.rd, by rw [B.nd, S.nd, Nat.add_assoc]; rfl, by rw [B.nu, S.nu, Nat.add_assoc]; rfl, B.dl, B.ul, B.vs.trans S.vs, B.pr.trans S.pr⟩
    · cases h
      exact ⟨[], by simp, trivial, Rdn.nil _ _ rfl, rfl, rfl, h3, h24, rfl, rfl⟩
theorem take_sound {r r1 : RS} {x : Str} {u : Unit} (hx : x ≠ Str.empty) (h : takeR ws x r = .ok u r1) : r1 = r.go ∧ Rdn ws r r1 [x] := by
  unfold takeR at h
  split at h
  · rename_i c; cases h; exact ⟨rfl, Rdn.one c hx rfl⟩
  · cases h
theorem ch_sound : ∀ (k : Nat), k ≤ 4 → ∀ (r r1 : RS) (s : Stm), NmOk r.vars → r.draws ≤ 3 → r.uses ≤ 24 → chAt ws ar k r = .ok s r1 →
      ∃ e s1 s2, s = .ite e s1 s2 ∧ 0 < k ∧ okEx (r.vars.map (·.1)) r.pressed 4 e ∧ okBl (r.vars.map (·.1)) r.pressed ar (k - 1) s1 ∧ okBl (r.vars.map (·.1)) r.pressed ar (k - 1) s2 ∧
        Rdn ws r r1 (e.words ++ (blockWords s1 ++ ((if s2.isEmpty = true then [] else wd "else" :: blockWords s2) ++ [wd "end"]))) ∧ r1.draws = r.draws + (nds s1 + nds s2) ∧ r1.uses = r.uses + (nus s1 + nus s2) ∧ r1.draws ≤ 3 ∧ r1.uses ≤ 24 ∧ r1.vars = r.vars ∧ r1.pressed = r.pressed
  | 0, _, r, r1, s, _, _, _, h => by cases (show Res.bad r.pos = Res.ok s r1 from h)
  | k + 1, hk, r, r1, s, hn, h3, h24, h => by
    have hst := fun (r r1 : RS) (s : Stm) (a : NmOk r.vars) (b : r.draws ≤ 3) (c : r.uses ≤ 24) (m : mayR ar (here ws r) (4 - k) r = true) (e : stmtR ws (chAt ws ar k) r = .ok s r1) => stmt_sound (ws := ws) (ar := ar) (k := k) (by omega) (ch_sound k (by omega)) a b c m e
    have h : choiceR ws ar k r = .ok s r1 := h
    rw [choiceR_eq] at h
    unfold choice1 stmtsR at h
    obtain ⟨e, r2, h1, h⟩ := bind_ok h
    obtain ⟨l, r3, h2, h⟩ := bind_ok h
    obtain ⟨a1, a2⟩ := ex_sound hn h1
    obtain ⟨_, v1, v2, v3, v4⟩ := exR_pos h1
    obtain ⟨s1, e1, B⟩ := loop_sound hst (r := r2) (by rw [v1]; exact hn) (by rw [v2]; exact h3) (by rw [v3]; exact h24) h2
    have e1 : l = s1 := by simpa using e1
    subst e1
    have ob := B.ok
    rw [v1, v4] at ob
    split at h
    · rename_i q
      obtain ⟨t, r4, h4, h⟩ := bind_ok h
      obtain ⟨s2, e2, B2⟩ := loop_sound hst (r := r3.go) (by show NmOk r3.vars; rw [B.vs, v1]; exact hn) B.dl B.ul h4
      have e2 : t = s2 := by simpa using e2
      subst e2
      split at h
      · cases h
      · rename_i ht
        obtain ⟨u, r5, h5, h⟩ := bind_ok h
        cases h
        obtain ⟨rfl, w5⟩ := take_sound (by decide +kernel) h5
        have we : Rdn ws r3 r3.go [wd "else"] := Rdn.one q.1 (by decide +kernel) rfl
        have ob2 := B2.ok
        rw [show r3.go.vars = r.vars from B.vs.trans v1, show r3.go.pressed = r.pressed from B.pr.trans v4] at ob2
        have w := a2.app (B.rd.app ((we.app B2.rd).app w5))
        have hte : t.isEmpty = false := by cases t with
          | nil => exact absurd rfl ht
          | cons a b => rfl
        refine ⟨e, l, t, rfl, Nat.succ_pos _, a1, ob, ob2, ?_, ?_, ?_, B2.dl, B2.ul, ?_, ?_⟩
        · rw [hte, if_neg Bool.false_ne_true]; exact w
        · show r4.draws = _; rw [B2.nd, show r3.go.draws = r3.draws from rfl, B.nd, v2]; omega
        · show r4.uses = _; rw [B2.nu, show r3.go.uses = r3.uses from rfl, B.nu, v3]; omega
        · exact B2.vs.trans (B.vs.trans v1)
        · exact B2.pr.trans (B.pr.trans v4)
    · obtain ⟨u, r5, h5, h⟩ := bind_ok h
      cases h
      obtain ⟨rfl, w5⟩ := take_sound (by decide +kernel) h5
      refine ⟨e, l, [], rfl, Nat.succ_pos _, a1, ob, trivial, a2.app (B.rd.app w5), ?_, ?_, B.dl, B.ul, B.vs.trans v1, B.pr.trans v4⟩
      · show r3.draws = _; rw [B.nd, v2]; rfl
      · show r3.uses = _; rw [B.nu, v3]; rfl
theorem block_sound {k : Nat} (hk : k ≤ 4) {r r1 : RS} {l : List Stm} (hn : NmOk r.vars) (h3 : r.draws ≤ 3) (h24 : r.uses ≤ 24) (h : blockR ws ar k r = .ok l r1) : BlOk ws ar k r r1 l := by
  rw [blockR_eq] at h
  obtain ⟨b, e, B⟩ := loop_sound (fun r r1 s a b c m e => stmt_sound hk (ch_sound k hk) a b c m e) hn h3 h24 h
  have e : l = b := by simpa using e
  subst e
  exact B
theorem newR_pos {r r1 : RS} {x : Str} (h : newR ws r = .ok x r1) : r1 = r.go ∧ x = here ws r ∧ isName x = true ∧ x ∉ r.vars.map (·.1) := by
  unfold newR at h; split at h
  · rename_i c; cases h
    refine ⟨rfl, rfl, c.1, fun z => ?_⟩
    have := hasV_iff.mpr z
    rw [c.2] at this; cases this
  · cases h
theorem vars_sound : ∀ {n : Nat} {r r1 : RS} {u : Unit}, varsR ws n r = .ok u r1 → ∃ l, r1 = { r with pos := r1.pos, vars := r.vars ++ l } ∧ okVars (r.vars.map (·.1)) l ∧ Rdn ws r r1 (varWords l) ∧ l.length ≤ n ∧ (here ws r1 ≠ "var" ∨ l.length = n)
  | 0, r, r1, u, h => by
    have h : Res.ok () r = Res.ok u r1 := h
    cases h; exact ⟨[], by simp, trivial, Rdn.nil _ _ rfl, Nat.le_refl _, .inr rfl⟩
  | n + 1, r, r1, u, h => by
    rw [varsR] at h
    split at h
    · rename_i q
      obtain ⟨x, r2, h1, h⟩ := bind_ok h
      obtain ⟨m, r3, h2, h⟩ := bind_ok h
      obtain ⟨rfl, hx, hxn, hxv⟩ := newR_pos h1
      obtain ⟨rfl, hq, hlo⟩ := numR_pos h2
      obtain ⟨hd, hhi⟩ := numOf_some.mp hq
      obtain ⟨l, e, ol, w, hl, hs⟩ := vars_sound h
      have w1 : Rdn ws r r.go [wd "var"] := Rdn.one q (by decide +kernel) rfl
      have w2 : Rdn ws r.go r.go.go [x] := Rdn.one hx.symm (name_ne hxn) rfl
      have w3 : Rdn ws r.go.go ({ r.go.go.go with vars := r.go.go.go.vars ++ [(x, m)] } : RS) [dec m] := Rdn.one hd (dec_ne m) rfl
      refine ⟨(x, m) :: l, ?_, ⟨hxn, hxv, hlo, hhi, ?_⟩, ((w1.app w2).app w3).app w, by simpa using hl, hs.imp id (by intro z; simp [z])⟩
      · rw [e]; simp [RS.go]
      · rw [show ({ r.go.go.go with vars := r.go.go.go.vars ++ [(x, m)] } : RS).vars = r.vars ++ [(x, m)] from rfl, List.map_append] at ol
        exact ol
    · rename_i q
      cases h; exact ⟨[], by simp, trivial, Rdn.nil _ _ rfl, Nat.zero_le _, .inl q⟩
/-- what is read is a box that is right, and its words are all words -/
theorem read_sound {b : Bx} {r : RS} (h : readR ws ar = .ok b r) : okBx ar b ∧ b.words = ws ∧ r.vars = b.vars := by
  unfold readR at h
  obtain ⟨_, r1, h1, h⟩ := bind_ok h
  obtain ⟨bn, r2, h2, h⟩ := bind_ok h
  obtain ⟨_, r3, h3, h⟩ := bind_ok h
  obtain ⟨an, r4, h4, h⟩ := bind_ok h
  obtain ⟨_, r5, h5, h⟩ := bind_ok h
  obtain ⟨_, r6, h6, h⟩ := bind_ok h
  obtain ⟨s, r7, h7, h⟩ := bind_ok h
  obtain ⟨_, r8, h8, h⟩ := bind_ok h
  obtain ⟨t, r9, h9, h⟩ := bind_ok h
  split at h
  · cases h
  rename_i hp
  cases h
  obtain ⟨rfl, w1⟩ := take_sound (by decide +kernel) h1
  obtain ⟨rfl, q2, lo2⟩ := numR_pos h2
  obtain ⟨d2, hi2⟩ := numOf_some.mp q2
  have w2 : Rdn ws r0.go r0.go.go [dec bn] := Rdn.one d2 (dec_ne _) rfl
  obtain ⟨rfl, w3⟩ := take_sound (by decide +kernel) h3
  obtain ⟨rfl, q4, lo4⟩ := numR_pos h4
  obtain ⟨d4, hi4⟩ := numOf_some.mp q4
  have w4 : Rdn ws r0.go.go.go r0.go.go.go.go [dec an] := Rdn.one d4 (dec_ne _) rfl
  obtain ⟨l, e5, ol, w5, hl, _⟩ := vars_sound h5
  obtain ⟨rfl, w6⟩ := take_sound (by decide +kernel) h6
  have v5 : r5.vars = l := by rw [e5]; exact List.nil_append l
  have p5 : r5.pressed = false ∧ r5.draws = 0 ∧ r5.uses = 0 := by rw [e5]; exact ⟨rfl, rfl, rfl⟩
  have hn : NmOk r5.vars := by rw [v5]; exact nmOk_of ol
  have B := block_sound (k := 4) (by omega) (r := r5.go) hn (by show r5.draws ≤ 3; omega) (by show r5.uses ≤ 24; omega) h7
  obtain ⟨rfl, w8⟩ := take_sound (by decide +kernel) h8
  have v7 : r7.vars = l := B.vs.trans v5
  have B2 := block_sound (k := 4) (by omega) (r := { r7.go with pressed := true }) (by show NmOk r7.vars; rw [v7, ← v5]; exact hn) B.dl B.ul h9
  have ob := B.ok
  have ob2 := B2.ok
  rw [show r5.go.vars = l from v5, show r5.go.pressed = false from p5.1] at ob
  rw [show ({ r7.go with pressed := true } : RS).vars = l from v7] at ob2
  have v9 : r.vars = l := B2.vs.trans v7
  have w8' : Rdn ws r7 { r7.go with pressed := true } [wd "press"] := ⟨w8.pos, w8.dr⟩
  have W := w1.app (w2.app (w3.app (w4.app (w5.app (w6.app (B.rd.app (w8'.app B2.rd)))))))
  have e9 : ws.drop r.pos = [] := List.drop_eq_nil_of_le (by omega)
  have We : ws = _ := W.dr
  rw [e9, List.append_nil] at We
  have n1 := B.nd
  have n2 := B2.nd
  have n3 := B.nu
  have n4 := B2.nu
  have n5 := B2.dl
  have n6 := B2.ul
  refine ⟨⟨lo2, hi2, lo4, hi4, by rw [v9]; exact hl, by rw [v9]; exact ol, by rw [v9]; exact ob, by rw [v9]; exact ob2, ?_, ?_⟩, ?_, rfl⟩
  · rw [show ({ r7.go with pressed := true } : RS).draws = r7.draws from rfl] at n2
    rw [show r5.go.draws = 0 from p5.2.1] at n1
    show nds s + nds t ≤ 3
    omega
  · rw [show ({ r7.go with pressed := true } : RS).uses = r7.uses from rfl] at n4
    rw [show r5.go.uses = 0 from p5.2.2] at n3
    show nus s + nus t ≤ 24
    omega
  · refine Eq.trans ?_ We.symm
    show Bx.words ⟨bn, an, r.vars, s, t⟩ = _
    rw [v9]; rfl
end
end Rd

set_option Elab.async false
set_option linter.all false
set_option maxRecDepth 100000
set_option maxHeartbeats 4000000
namespace Rd
open PySem Tk
/-! lists become tuples -/
mutual
def kept : Da → Da
  | .lst l => .tup (kepts l)
  | .tup l => .tup (kepts l)
  | .non => .non
  | .bl b => .bl b
  | .int i => .int i
  | .str s => .str s
def kepts : List Da → List Da
  | [] => []
  | a :: r => kept a :: kepts r
end
theorem kepts_map : ∀ l : List Da, kepts l = l.map kept
  | [] => rfl
  | a :: r => by rw [kepts, kepts_map r, List.map_cons]
theorem kept_ex : ∀ e : Ex, kept e.da = e.da
  | .num n => rfl
  | .var x => rfl
  | .press => rfl
  | .op o a b => by
    show Da.tup [.str o, kept a.da, kept b.da] = _
    rw [kept_ex a, kept_ex b]; rfl
mutual
theorem kept_st : ∀ s : Stm, kept (s.da .lst) = s.da .tup ∧ kept (s.da .tup) = s.da .tup
  | .set x e => by
    have := kept_ex e
    constructor <;> (show Da.tup [_, _, kept e.da] = Da.tup [_, _, e.da]; rw [this]; rfl)
  | .draw x n => ⟨rfl, rfl⟩
  | .use x e => by
    have := kept_ex e
    constructor <;> (show Da.tup [_, _, kept e.da] = Da.tup [_, _, e.da]; rw [this]; rfl)
  | .say e => by
    have := kept_ex e
    constructor <;> (show Da.tup [_, kept e.da] = Da.tup [_, e.da]; rw [this]; rfl)
  | .ite e s t => by
    have h1 := kept_ex e
    obtain ⟨h2, h2'⟩ := kept_bl s
    obtain ⟨h3, h3'⟩ := kept_bl t
    constructor
    · show Da.tup [_, kept e.da, .tup (kepts (blockDa .lst s)), .tup (kepts (blockDa .lst t))] = _
      rw [h1, h2, h3]; rfl
    · show Da.tup [_, kept e.da, .tup (kepts (blockDa .tup s)), .tup (kepts (blockDa .tup t))] = _
      rw [h1, h2', h3']; rfl
theorem kept_bl : ∀ l : List Stm, kepts (blockDa .lst l) = blockDa .tup l ∧ kepts (blockDa .tup l) = blockDa .tup l
  | [] => ⟨rfl, rfl⟩
  | s :: r => by
    obtain ⟨h1, h1'⟩ := kept_st s
    obtain ⟨h2, h2'⟩ := kept_bl r
    exact ⟨by rw [blockDa, kepts, h1, h2, blockDa], by rw [blockDa, kepts, h1', h2']⟩
end
theorem dep_ex {nm : List Str} {pr : Bool} : ∀ {k : Nat} {e : Ex}, okEx nm pr k e → dep e.da ≤ k + 1
  | _, .num n, _ => by simp [Ex.da, dep, deps]
  | _, .var x, _ => by simp [Ex.da, dep, deps]
  | _, .press, _ => by simp [Ex.da, dep, deps]
  | 0, .op o a b, h => absurd h id
  | k + 1, .op o a b, h => by
    have h1 := dep_ex h.2.1
    have h2 := dep_ex h.2.2
    simp only [Ex.da, dep, deps]; omega
theorem tame_ex : ∀ e : Ex, tame e.da
  | .num n => by simp [Ex.da, tame, tames]
  | .var x => by simp [Ex.da, tame, tames]
  | .press => by simp [Ex.da, tame, tames]
  | .op o a b => by simp [Ex.da, tame, tames, tame_ex a, tame_ex b]
mutual
theorem dep_st {nm : List Str} {pr ar : Bool} {q : List Da → Da} (hq : ∀ l, dep (q l) = deps l + 1) : ∀ {k : Nat} {s : Stm}, okSt nm pr ar k s → dep (s.da q) ≤ 2 * k + 6
  | k, .set x e, h => by have := dep_ex h.2; simp only [Stm.da, dep, deps]; omega
  | k, .draw x n, h => by simp only [Stm.da, dep, deps]; omega
  | k, .use x e, h => by have := dep_ex h.2.2; simp only [Stm.da, dep, deps]; omega
  | k, .say e, h => by have := dep_ex h.2; simp only [Stm.da, dep, deps]; omega
  | k, .ite e s t, h => by
    obtain ⟨h0, h1, h2, h3⟩ := h
    have := dep_ex h1
    have := dep_bl hq h2
    have := dep_bl hq h3
    simp only [Stm.da, dep, deps, hq]; omega
theorem dep_bl {nm : List Str} {pr ar : Bool} {q : List Da → Da} (hq : ∀ l, dep (q l) = deps l + 1) : ∀ {k : Nat} {l : List Stm}, okBl nm pr ar k l → deps (blockDa q l) ≤ 2 * k + 6
  | k, [], h => by simp [blockDa, deps]
  | k, s :: r, h => by
    have := dep_st hq h.1
    have := dep_bl hq h.2
    simp only [blockDa, deps]; omega
end
mutual
theorem tame_st {q : List Da → Da} (hq : ∀ l, tame (q l) = (l.length ≤ 1000000 ∧ tames l)) : ∀ {s : Stm}, s.words.length ≤ 1000000 → tame (s.da q)
  | .set x e, h => by simp [Stm.da, tame, tames, tame_ex e]
  | .draw x n, h => by simp [Stm.da, tame, tames]
  | .use x e, h => by simp [Stm.da, tame, tames, tame_ex e]
  | .say e, h => by simp [Stm.da, tame, tames, tame_ex e]
  | .ite e s t, h => by
    have ht : (blockWords t).length ≤ ((if t.isEmpty = true then [] else wd "else" :: blockWords t) ++ [wd "end"]).length := by
      cases t with
      | nil => simp [blockWords]
      | cons a b => simp [List.isEmpty]; omega
    simp only [Stm.words, List.length_cons, List.length_append] at h ht
    have h1 := tames_bl hq (l := s) (by omega)
    have h2 := tames_bl hq (l := t) (by omega)
    simp only [Stm.da, tame, tames, hq, tame_ex e, and_true, true_and]
    exact ⟨by simp, h1, h2⟩
theorem tames_bl {q : List Da → Da} (hq : ∀ l, tame (q l) = (l.length ≤ 1000000 ∧ tames l)) : ∀ {l : List Stm}, (blockWords l).length ≤ 1000000 → (blockDa q l).length ≤ 1000000 ∧ tames (blockDa q l)
  | [], h => by simp [blockDa, tames]
  | s :: r, h => by
    have hp := words_pos s
    simp only [blockWords, List.length_append] at h
    have h1 := tame_st hq (s := s) (by omega)
    have h2 := tames_bl hq (l := r) (by omega)
    have h3 := len_le_words r
    refine ⟨?_, h1, h2.2⟩
    rw [blockDa_map, List.length_map]
    simp; omega
end
end Rd
namespace K
open PySem PySem.Spec PyProof.Rows L2 Tk Hd Rd
section
variable {P : Program} {w : World} {K : PySem.W.Frag} {mg : Str → Option Value} {base : Heap}
def spKept (n : Nat) : Sp := fun vs H Q _ => ∃ (I : Hp) (v : V) (d : Da), vs = [v] ∧ Same I H ∧ dR I v d ∧ dep d ≤ n ∧ tame d ∧ ∀ I' H' v', Gr [] I H I' H' → dR I' v' (kept d) → Q v' H'
def spKs : Nat → Sp
  | 0 => spNever
  | n + 1 => spKept n
theorem kit_lt {K : PySem.W.Frag} (d : Da) : PySem.W.kitAny K (.type (knd d)) [.type "list", .type "tuple"] = some (isT d "list" || isT d "tuple") := by
  simp only [PySem.W.kitAny, knd_list, knd_tuple]
  cases isT d "list" <;> cases isT d "tuple" <;> rfl
/-- a list, a tuple, or neither -/
theorem seq_or {I : Hp} {v : V} {d : Da} (rd : dR I v d) : ((isT d "list" || isT d "tuple") = false ∧ kept d = d) ∨ ((isT d "list" || isT d "tuple") = true ∧ ∃ l a us, v = .ref a ∧ (I a = some (.lst us) ∨ I a = some (.tup us)) ∧ dRs I us l ∧ kept d = .tup (kepts l) ∧ dep d = deps l + 1 ∧ (tame d → l.length ≤ 1000000 ∧ tames l) ∧ True) := by
  cases d with
  | lst l =>
    simp only [dR] at rd
    obtain ⟨a, us, e, h1, h2⟩ := rd
    exact .inr ⟨rfl, l, a, us, e, .inl h1, h2, rfl, rfl, id, trivial⟩
  | tup l =>
    simp only [dR] at rd
    obtain ⟨a, us, e, h1, h2⟩ := rd
    exact .inr ⟨rfl, l, a, us, e, .inr h1, h2, rfl, rfl, id, trivial⟩
  | _ => exact .inl ⟨rfl, rfl⟩
theorem sc__kept : FnScope ["value", "part"] ["value"] (defScope s__kept) := ⟨rfl, rfl, rfl, by decide +kernel, rfl, by decide +kernel, by decide +kernel⟩
theorem ok_kept_step (D : Dt K mg) (n : Nat) (H__kept : Has P w K mg base (n + 1) (He.ga K "_kept") ["value"] [] (spKs n)) : Has P w K mg base (n + 2) (He.ga K "_kept") ["value"] [] (spKept n) := by
  obtain ⟨fd, F⟩ := fd__kept D
  refine hasN F (F.bindsN fun _ _ _ _ _ _ us hl => match us, hl with | [_], _ => rfl) sc__kept (fun vs H Q E h => ?_) (fun cdv A outer s H vs Q E hr h => ?_)
  · obtain ⟨I, v, d, rfl, _⟩ := h; rfl
  · obtain ⟨I, v, d, rfl, s0, rd, hd, ht, k⟩ := h
    refine ⟨_, (pss_one (ps_ret (pe_ifExp (pt_val (pe_callB (call_isiTK K) rfl (free_isinstance D) (by decide +kernel) (pa_cons (pv 0) (pa_cons (pe_tup (pa_cons (pe_bltn (v := .ty "list") rfl (free_list D) (by decide +kernel) rfl) (pa_cons (pe_bltn (v := .ty "tuple") rfl (free_tuple D) (by decide +kernel) rfl) pa_nil))) pa_nil)))) (pe_callTy (call_tuple_ofK K) rfl (free_tuple D) (by decide +kernel) (pa_cons (pe_lc (own := [("part", 1)]) (g := gName 1) rfl sc__kept.nd (pi_ltK K (pv 0)) (blkOk_by (own := [("part", 1)]) (N := ["value", "part"]) (by kernel_rfl)) (fun _ _ _ _ _ => (pg_name (i := 1) sc__kept.nd rfl (Or.inl rfl))) (fun _ _ _ _ _ => pts_nil) (fun _ _ _ _ _ => (pe_callH H__kept (hr.mono (by omega)) rfl (glo__kept D) passL (pa_cons (pv 1) pa_nil)))) pa_nil)) (pv 0)))), ?_⟩
    refine ⟨_, rfl, (by show 2 ≤ sizeLine; decide), fun p hp => ?_⟩
    have g0 := Gr.new (ms := []) (o := .tup [.ty "list", .ty "tuple"]) s0 hp
    refine ⟨v, p, _, .type (knd d), [.type "list", .type "tuple"], _, rfl, upd_same, .cons (.ty _) (.cons (.ty _) .nil), knd_ty (dR_up g0.ih _ _ (dR_up g0.ii _ _ rd)), kit_lt d, _, rfl, ?_⟩
    rcases seq_or rd with ⟨e, ek⟩ | ⟨e, l, a, us, rfl, ha, r, ek, hdl, htl, hl⟩
    · rw [e]
      refine ifF rfl ⟨_, rfl, ?_⟩
      exact k _ _ _ g0 (by rw [ek]; exact dR_up g0.ii _ _ rd)
    · rw [e]
      cases n with
      | zero => omega
      | succ n =>
        have a2 := dRs_all r
        refine ifT rfl ⟨_, rfl, lt_of (ha.imp (g0.ii _ _) (g0.ii _ _)) g0.ih fun J W D hD => lc_map (R := iD) (Sy := iD) kept W (a2.up g0.ii) g0.ih hD (Nat.lt_of_le_of_lt (htl ht).1 (by decide)) (fun i x I1 H1 Nx Qk hx rx s1 s2 kk => ?_) (fun I1 H1 g1 r1 => ?_)⟩
        · refine ⟨rfl, _, rfl, I1, _, x, rfl, s2, rx, ?_, ?_, fun I2 H2 v2 g2 r2 => kk _ _ _ g2 r2⟩
          · have := deps_at hx
            omega
          · exact tames_at (htl ht).2 hx
        · refine tup_of (K := K) (R := iD) (iA.l r1) g1.ih fun I2 H2 v2 g2 r2 => ?_
          obtain ⟨b, ws, rfl, hb, b2⟩ := r2
          exact k _ _ _ (g0.trans (g1.trans g2)) (by rw [ek, kepts_map]; exact dR_tup hb (all_dRs b2))
theorem ok_kept' (D : Dt K mg) : ∀ n, Has P w K mg base (n + 1) (He.ga K "_kept") ["value"] [] (spKs n)
  | 0 => by
    obtain ⟨fd, F⟩ := fd__kept D
    exact has_never F (F.bindsN fun _ _ _ _ _ _ us hl => match us, hl with | [_], _ => rfl)
  | n + 1 => ok_kept_step D n (ok_kept' D n)
theorem ok_kept (D : Dt K mg) : Has P w K mg base 32 (He.ga K "_kept") ["value"] [] (spKept 30) := ok_kept' D 31
end
end K

set_option Elab.async false
set_option linter.all false
set_option maxRecDepth 100000
set_option maxHeartbeats 4000000
namespace K
open PySem PySem.Spec PyProof.Rows L2 Tk Hd Rd
section
variable {P : Program} {w : World} {K : PySem.W.Frag} {mg : Str → Option Value} {base : Heap}
theorem lt_sl {n : Nat} (h : n ≤ 1000000) : n < sizeLine := Nat.lt_of_le_of_lt h (by decide)
theorem upd_mid {H : Hp} {x y : Addr} {a b : HO} {l : HO} (n : y ≠ x) : upd (upd (upd H x a) y l) x b = upd (upd H y l) x b := by
  funext z
  by_cases h : z = x
  · subst h; rw [upd_same, upd_same]
  · rw [upd_ne h, upd_ne h]
    by_cases h2 : z = y
    · subst h2; rw [upd_same, upd_same]
    · rw [upd_ne h2, upd_ne h2, upd_ne h]
def spRInit (K : PySem.W.Frag) : Sp := fun vs H Q _ => ∃ (x dx wl : Addr) (ar : Bool), vs = [.ref x, .ref wl, .bl ar] ∧ H x = some (.ins (CRd K) dx []) ∧ ∀ vl, H vl = none → vl ≠ x → Q .non (upd (upd H vl (.lst [])) x (.ins (CRd K) dx (rdF ⟨x, dx, wl, vl, ar, []⟩ r0)))
theorem sc_Reader_init : FnScope ["self", "words", "around"] ["self", "words", "around"] (defScope s_Reader_init) := ⟨rfl, rfl, rfl, by decide +kernel, rfl, by decide +kernel, by decide +kernel⟩
theorem ok_rinit (D : Dt K mg) : Has P w K mg base 1 (He.ma K (He.ga K "Reader") "__init__") ["self", "words", "around"] [] (spRInit K) := by
  obtain ⟨fd, F⟩ := fd_Reader_init D
  refine hasN F (F.bindsN fun _ _ _ _ _ _ us hl => match us, hl with | [_, _, _], _ => rfl) sc_Reader_init (fun vs H Q E h => ?_) (fun cdv A outer s H vs Q E hr h => ?_)
  · obtain ⟨x, dx, wl, ar, rfl, _⟩ := h; rfl
  · obtain ⟨x, dx, wl, ar, rfl, hx, k⟩ := h
    refine ⟨_, (pss_cons (ps_fld (pv 0) (pv 1) rfl)
      (pss_cons (ps_fld (pv 0) pe_int rfl)
      (pss_cons (ps_fld (pv 0) (pv 2) rfl)
      (pss_cons (ps_fld (pv 0) (pe_lst pa_nil) rfl)
      (pss_cons (ps_fld (pv 0) pe_int rfl)
      (pss_cons (ps_fld (pv 0) pe_int rfl)
      (pss_one (ps_fld (pv 0) pe_bl rfl)))))))), ?_⟩
    refine ⟨_, rfl, _, rfl, x, _, dx, _, rfl, hx, cls_Reader D, na_Reader_words D, (by show 0 < 1000; decide), ?_⟩
    refine ⟨_, rfl, x, _, dx, _, rfl, upd_same, cls_Reader D, na_Reader_at D, (by show 1 < 1000; decide), ?_⟩
    refine ⟨_, rfl, _, rfl, x, _, dx, _, rfl, upd_same, cls_Reader D, na_Reader_around D, (by show 2 < 1000; decide), ?_⟩
    refine ⟨(by show 0 ≤ sizeLine; decide), fun vl hvl => ?_⟩
    rw [upd_upd, upd_upd] at hvl ⊢
    have nv : vl ≠ x := fun z => by rw [z, upd_same] at hvl; cases hvl
    rw [upd_ne nv] at hvl
    refine ⟨_, rfl, x, _, dx, _, rfl, (by rw [upd_ne nv.symm]; exact upd_same), cls_Reader D, na_Reader_variables D, (by show 3 < 1000; decide), ?_⟩
    refine ⟨_, rfl, x, _, dx, _, rfl, upd_same, cls_Reader D, na_Reader_draws D, (by show 4 < 1000; decide), ?_⟩
    refine ⟨_, rfl, x, _, dx, _, rfl, upd_same, cls_Reader D, na_Reader_uses D, (by show 5 < 1000; decide), ?_⟩
    refine ⟨_, rfl, x, _, dx, _, rfl, upd_same, cls_Reader D, na_Reader_pressed D, (by show 6 < 1000; decide), ?_⟩
    have := k vl hvl nv
    rw [upd_upd, upd_upd, upd_upd, upd_mid nv]
    exact this
def iBxT (c : Rc) : Rp Bx := fun H v b => ∃ t sv bv, v = .ref t ∧ H t = some (.tup [.int (b.buttons : Int), .int (b.answers : Int), .ref c.vl, sv, bv]) ∧ iL iSt H sv b.start ∧ iL iSt H bv b.block
def spRead (K : PySem.W.Frag) : Sp := fun vs H Q E => ∃ (c : Rc) (I : Hp), vs = [.ref c.s] ∧ RdOk K c I H r0 ∧ OutR K c (iBxT c) I H (readR c.ws c.ar) Q E
theorem RdOk.push {c : Rc} {I H : Hp} {r : RS} (ok : RdOk K c I H r) {t : Addr} {x : Str} {m : Nat} (ht : I t = some (.tup [.str x, .int (m : Int)])) (hx : isName x = true) (hv : r.vars.length < 4) {vs : List V} (e : H c.vl = some (.lst vs)) :
    RdOk K c I (upd H c.vl (.lst (vs ++ [.ref t]))) { r with vars := r.vars ++ [(x, m)] } ∧ Gr (rms c) I H I (upd H c.vl (.lst (vs ++ [.ref t]))) := by
  have g : Gr (rms c) I H I (upd H c.vl (.lst (vs ++ [.ref t]))) := Gr.mut ok.sm ok.iv (by simp)
  obtain ⟨us, hv', a2⟩ := ok.hv
  rw [e] at hv'
  cases hv'
  refine ⟨⟨g.ih, ok.is, ok.iv, ok.ne, by rw [upd_ne ok.ne]; exact ok.hs, ⟨_, upd_same, a2.snoc ⟨t, _, _, rfl, ht, rfl, rfl⟩⟩, ok.hw, ?_, by rw [List.length_append]; show r.vars.length + 1 ≤ 4; omega, ok.wn, ok.wz⟩, g⟩
  intro p hp
  rcases List.mem_append.mp hp with h | h
  · exact ok.nm p h
  · rw [List.mem_singleton.mp h]; exact hx
theorem sc_Reader_read : FnScope ["self", "buttons", "answers", "name", "start", "block"] ["self"] (defScope s_Reader_read) := ⟨rfl, rfl, rfl, by decide +kernel, rfl, by decide +kernel, by decide +kernel⟩
theorem ok_read (D : Dt K mg) : HasN P w K mg base 25 (He.ma K (He.ga K "Reader") "read") ["self"] [] (spRead K) := by
  obtain ⟨fd, F⟩ := fd_Reader_read D
  have H_Reader__take := ok_take (P := P) (w := w) (base := base) D
  have H_Reader__number := ok_number (P := P) (w := w) (base := base) D
  have H_Reader__here := ok_here (P := P) (w := w) (base := base) D
  have H_Reader__new_name := ok_new_name (P := P) (w := w) (base := base) D
  have H_Reader__statements := ok_stmts4 (P := P) (w := w) (base := base) D
  have H_BadText_init := ok_bt (P := P) (w := w) (base := base) D
  refine hasXN F (F.bindsN fun _ _ _ _ _ _ us hl => match us, hl with | [_], _ => rfl) sc_Reader_read (fun vs H Q E h => ?_) (fun cdv A outer s H vs Q E hr h => ?_)
  · obtain ⟨c, I, rfl, _⟩ := h; rfl
  · obtain ⟨c, I, rfl, ok, kk⟩ := h
    obtain ⟨t_MOST_ANSWERS, e_MOST_ANSWERS⟩ := int_MOST_ANSWERS D
    obtain ⟨t_MOST_BUTTONS, e_MOST_BUTTONS⟩ := int_MOST_BUTTONS D
    obtain ⟨t_MOST_SIZE, e_MOST_SIZE⟩ := int_MOST_SIZE D
    obtain ⟨t_MOST_VARIABLES, e_MOST_VARIABLES⟩ := int_MOST_VARIABLES D
    refine ⟨_, (pss_cons (ps_expr (pe_methHN (pv 0) (cls_Reader (K := K) D) (me_Reader__take (K := K) D) H_Reader__take (hr.mono (by omega)) (L2N.passes_call (L2N.takes_of rfl rfl rfl rfl) fun _ _ _ _ h => h) (pa_cons pe_str pa_nil)))
      (pss_cons (ps_set (i := 1) sc_Reader_read.nd rfl (Or.inl rfl) (pe_methHN (pv 0) (cls_Reader (K := K) D) (me_Reader__number (K := K) D) H_Reader__number (hr.mono (by omega)) (L2N.passes_call (L2N.takes_of rfl rfl rfl rfl) fun _ _ _ _ h => h) (pa_cons pe_int (pa_cons (pe_glob (v := .int 4) rfl e_MOST_BUTTONS ⟨t_MOST_BUTTONS, rfl⟩) pa_nil))))
      (pss_cons (ps_expr (pe_methHN (pv 0) (cls_Reader (K := K) D) (me_Reader__take (K := K) D) H_Reader__take (hr.mono (by omega)) (L2N.passes_call (L2N.takes_of rfl rfl rfl rfl) fun _ _ _ _ h => h) (pa_cons pe_str pa_nil)))
      (pss_cons (ps_set (i := 2) sc_Reader_read.nd rfl (Or.inl rfl) (pe_methHN (pv 0) (cls_Reader (K := K) D) (me_Reader__number (K := K) D) H_Reader__number (hr.mono (by omega)) (L2N.passes_call (L2N.takes_of rfl rfl rfl rfl) fun _ _ _ _ h => h) (pa_cons pe_int (pa_cons (pe_glob (v := .int 4) rfl e_MOST_ANSWERS ⟨t_MOST_ANSWERS, rfl⟩) pa_nil))))
      (pss_cons (ps_while (passes_of rfl) (PW.pt (pw_and (pt_cmpR op_eq (pe_methH0 (pv 0) (cls_Reader (K := K) D) (me_Reader__here (K := K) D) H_Reader__here (hr.mono (by omega)) passL) pe_str (nomark _)) (pw_and1 (pt_cmpR op_lt (pe_callB (call_lenK K) rfl (free_len D) PySem.boot_len (pa_cons (pe_fldK K (pv 0) rfl) pa_nil)) (pe_glob (v := .int 4) rfl e_MOST_VARIABLES ⟨t_MOST_VARIABLES, rfl⟩) (nomark _)))))
      (pss_cons (ps_fldaug (pv 0) pe_int in_add)
      (pss_cons (ps_set (i := 3) sc_Reader_read.nd rfl (Or.inl rfl) (pe_methH0N (pv 0) (cls_Reader (K := K) D) (me_Reader__new_name (K := K) D) H_Reader__new_name (hr.mono (by omega)) (L2N.passes_call (L2N.takes_of rfl rfl rfl rfl) fun _ _ _ _ h => h)))
      (pss_one (ps_expr (pe_bm PySem.F.plainAttrs_list PySem.F.slot_list_append PySem.F.type_list_append mt_append (pe_fldK K (pv 0) rfl) (pa_cons (pe_tup (pa_cons (pv 3) (pa_cons (pe_methHN (pv 0) (cls_Reader (K := K) D) (me_Reader__number (K := K) D) H_Reader__number (hr.mono (by omega)) (L2N.passes_call (L2N.takes_of rfl rfl rfl rfl) fun _ _ _ _ h => h) (pa_cons pe_int (pa_cons (pe_glob (v := .int 12) rfl e_MOST_SIZE ⟨t_MOST_SIZE, rfl⟩) pa_nil))) pa_nil))) pa_nil)))))))
      (pss_cons (ps_expr (pe_methHN (pv 0) (cls_Reader (K := K) D) (me_Reader__take (K := K) D) H_Reader__take (hr.mono (by omega)) (L2N.passes_call (L2N.takes_of rfl rfl rfl rfl) fun _ _ _ _ h => h) (pa_cons pe_str pa_nil)))
      (pss_cons (ps_set (i := 4) sc_Reader_read.nd rfl (Or.inl rfl) (pe_methHN (pv 0) (cls_Reader (K := K) D) (me_Reader__statements (K := K) D) H_Reader__statements (hr.mono (by omega)) (L2N.passes_call (L2N.takes_of rfl rfl rfl rfl) fun _ _ _ _ h => h) (pa_cons pe_int pa_nil)))
      (pss_cons (ps_expr (pe_methHN (pv 0) (cls_Reader (K := K) D) (me_Reader__take (K := K) D) H_Reader__take (hr.mono (by omega)) (L2N.passes_call (L2N.takes_of rfl rfl rfl rfl) fun _ _ _ _ h => h) (pa_cons pe_str pa_nil)))
      (pss_cons (ps_fld (pv 0) pe_bl rfl)
      (pss_cons (ps_set (i := 5) sc_Reader_read.nd rfl (Or.inl rfl) (pe_methHN (pv 0) (cls_Reader (K := K) D) (me_Reader__statements (K := K) D) H_Reader__statements (hr.mono (by omega)) (L2N.passes_call (L2N.takes_of rfl rfl rfl rfl) fun _ _ _ _ h => h) (pa_cons pe_int pa_nil)))
      (pss_cons (ps_if (pt_cmpR op_lt (pe_fldK K (pv 0) rfl) (pe_callB (call_lenK K) rfl (free_len D) PySem.boot_len (pa_cons (pe_fldK K (pv 0) rfl) pa_nil)) (nomark _))
      (pss_one (L2N.ps_raise rfl (L2N.takes_of rfl rfl rfl rfl) (pmk_oexN (oex_BadText (K := K) D) H_BadText_init (hr.mono (by omega)) rfl (glo_BadText D) (pa_cons (pe_fldK K (pv 0) rfl) pa_nil))))
      pss_nil)
      (pss_one (ps_ret (pe_tup (pa_cons (pv 1) (pa_cons (pv 2) (pa_cons (pe_fldK K (pv 0) rfl) (pa_cons (pv 4) (pa_cons (pv 5) pa_nil))))))))))))))))))), ?_⟩
    unfold readR at kk
    refine ⟨_, rfl, _, _, _, rfl, ok.hs, (by kernel_rfl), c, I, r0, "buttons", rfl, ok, by decide +kernel, kk.bind fun _ r1 I1 H1 u1 e1 g1 ok1 _ k1 => ?_⟩
    refine ⟨_, rfl, _, _, _, rfl, ok1.hs, (by kernel_rfl), c, I1, r1, 1, 4, rfl, ok1, by decide, k1.bind fun bn r2 I2 H2 u2 e2 g2 ok2 rb k2 => ?_⟩
    have rb : u2 = .int (bn : Int) := rb
    subst rb
    refine ⟨_, rfl, _, _, _, rfl, ok2.hs, (by kernel_rfl), c, I2, r2, "answers", rfl, ok2, by decide +kernel, k2.bind fun _ r3 I3 H3 u3 e3 g3 ok3 _ k3 => ?_⟩
    refine ⟨_, rfl, _, _, _, rfl, ok3.hs, (by kernel_rfl), c, I3, r3, 1, 4, rfl, ok3, by decide, k3.bind fun an r4 I4 H4 u4 e4 g4 ok4 ra k4 => ?_⟩
    have ra : u4 = .int (an : Int) := ra
    subst ra
    have v4 : r4.vars = [] := by
      have a1 := (takeR_pos e1); have a2 := (numR_pos e2).1; have a3 := takeR_pos e3; have a4 := (numR_pos e4).1
      rw [a4, a3, a2, a1]; rfl
    obtain ⟨X, hX⟩ : ∃ X, X = varsR c.ws 4 r4 := ⟨_, rfl⟩
    rw [← hX] at k4
    (try dsimp only)
    refine seq_cut (fun σ' H' => ∃ I' nv r', σ' = [some (V.ref c.s), some (V.int (bn : Int)), some (V.int (an : Int)), nv, none, none] ∧ RdOk K c I' H' r' ∧ Gr (rms c) I4 H4 I' H' ∧ X = .ok () r' ∧
      OutR K c (iBxT c) I' H' ((takeR c.ws "start" r').bind fun _ r => (blockR c.ws c.ar 4 r).bind fun s r => (takeR c.ws "press" r).bind fun _ r =>
        (blockR c.ws c.ar 4 { r with pressed := true }).bind fun t r => if r.pos < c.ws.length then .bad r.pos else .ok ⟨bn, an, r.vars, s, t⟩ r) Q E) (fun nx q => ?_) ?_
    · refine ⟨fun n σ' H' => ∃ I' nv r', σ' = [some (V.ref c.s), some (V.int (bn : Int)), some (V.int (an : Int)), nv, none, none] ∧ RdOk K c I' H' r' ∧ Gr (rms c) I4 H4 I' H' ∧ X = varsR c.ws n r' ∧ r'.vars.length + n = 4,
        ⟨4, I4, none, r4, rfl, ok4, Gr.refl ok4.sm, hX, by rw [v4]; rfl⟩, ?_⟩
      rintro n σ' H' ⟨I', nv, r', rfl, ok', gg, ev, hn⟩
      obtain ⟨vs, hv, a2⟩ := ok'.hv
      have lv := a2.len
      refine ⟨_, rfl, _, _, _, rfl, ok'.hs, (by kernel_rfl), c, I', r', rfl, ok', rfl, _, rfl, ?_⟩
      have out : X = .ok () r' → nx [some (V.ref c.s), some (V.int (bn : Int)), some (V.int (an : Int)), nv, none, none] H' := fun e => q _ _ ⟨I', nv, r', rfl, ok', gg, e, by rw [e] at k4; exact k4.up gg⟩
      by_cases q1 : here c.ws r' = ("var" : Str)
      rotate_left
      · refine ifF (by simpa using q1) ?_
        have ee : X = .ok () r' := by rw [ev]; exact varsR_stop q1
        first | exact out ee | exact ifF rfl (out ee)
      refine ifT (by simpa using q1) ⟨_, rfl, _, _, _, _, _, rfl, ok'.hs, cls_Reader D, na_Reader_variables D, lk_variables, _, _, rfl, .inl ⟨_, SqL.of hv, rfl⟩, _, _, rfl, rfl, _, rfl, ?_⟩
      refine ifD (fun q2 => ?_) (fun q2 => ?_)
      rotate_left
      · have : n = 0 := by omega
        subst this
        have ee : X = .ok () r' := by rw [ev]; rfl
        first | exact out ee | exact ifF rfl (out ee)
      first | refine ifT rfl ?_ | skip
      cases n with
      | zero => omega
      | succ n =>
        rw [varsR, if_pos q1] at ev
        refine ⟨fun σ' H' => ∃ I' nv r', σ' = [some (V.ref c.s), some (V.int (bn : Int)), some (V.int (an : Int)), nv, none, none] ∧ RdOk K c I' H' r' ∧ Gr (rms c) I4 H4 I' H' ∧ X = varsR c.ws n r' ∧ r'.vars.length + n = 4, fun σ' H' h => ⟨n, by omega, h⟩, ?_⟩
        refine ⟨_, rfl, _, _, _, _, _, rfl, ok'.hs, cls_Reader D, na_Reader_at D, lk_at, _, _, rfl, rfl, _, _, ok'.hs, rdF_len, ?_⟩
        rw [cast1, pf_at]
        obtain ⟨ok5, g5⟩ := ok'.put (r' := r'.go) rfl
        have gg5 := gg.trans g5
        refine ⟨_, rfl, _, _, _, rfl, ok5.hs, (by kernel_rfl), c, I', r'.go, rfl, ok5, OutR.of (fun x r6 e6 I6 H6 v6 g6 ok6 rx => ?_) (fun m em => ?_)⟩
        rotate_left
        · exact (k4.bad (n := m) (by rw [ev, em]; rfl)).up gg5
        have rx : v6 = .str x := rx
        subst rx
        obtain ⟨rfl, _, hxn, _⟩ := newR_pos e6
        obtain ⟨vs6, hv6, a26⟩ := ok6.hv
        refine ⟨_, rfl, _, _, _, _, _, rfl, ok6.hs, cls_Reader D, na_Reader_variables D, lk_variables, .inl ⟨rfl, _, SqL.of hv6⟩, _, rfl, _, rfl, _, _, _, rfl, ok6.hs, (by kernel_rfl), c, I6, _, 1, 12, rfl, ok6, by decide, OutR.of (fun m r7 e7 I7 H7 v7 g7 ok7 rm => ?_) (fun m em => ?_)⟩
        rotate_left
        · exact (k4.bad (n := m) (by rw [ev, e6, bind_mk, em]; rfl)).up (gg5.trans g6)
        have rm : v7 = .int (m : Int) := rm
        subst rm
        obtain ⟨rfl, _, _⟩ := numR_pos e7
        refine ⟨(by show 2 ≤ sizeLine; decide), fun t ht => ?_⟩
        have g8 := Gr.new (ms := []) (o := .tup [.str x, .int (m : Int)]) g7.ih ht
        have ok8 := ok7.up0 g8
        obtain ⟨vs8, hv8, a28⟩ := ok8.hv
        have l8 := a28.len
        have l8' : r'.go.go.go.vars.length = r'.vars.length := rfl
        refine ⟨c.vl, vs8, .ref t, rfl, rfl, hv8, lt_sl (by omega), ?_⟩
        obtain ⟨ok9, g9⟩ := ok8.push (t := t) (x := x) (m := m) upd_same hxn (by omega) hv8
        refine ⟨_, _, _, rfl, ok9, (((gg5.trans g6).trans g7).trans g8.nil).trans g9, ?_, ?_⟩
        · rw [ev, e6, bind_mk, e7, bind_mk]
        · show (r'.vars ++ [(x, m)]).length + n = 4
          rw [List.length_append]; show r'.vars.length + 1 + n = 4; omega
    rintro σ' H' ⟨I5, nv, r5, rfl, ok5, g5, e5, k5⟩
    (try dsimp only)
    refine ⟨_, rfl, _, _, _, rfl, ok5.hs, (by kernel_rfl), c, I5, r5, "start", rfl, ok5, by decide +kernel, k5.bind fun _ r6 I6 H6 u6 e6 g6 ok6 _ k6 => ?_⟩
    refine ⟨_, rfl, _, _, _, rfl, ok6.hs, (by kernel_rfl), c, I6, r6, 0, rfl, ok6, rfl, k6.bind fun s r7 I7 H7 v7 e7 g7 ok7 rs k7 => ?_⟩
    refine ⟨_, rfl, _, _, _, rfl, ok7.hs, (by kernel_rfl), c, I7, r7, "press", rfl, ok7, by decide +kernel, k7.bind fun _ r8 I8 H8 u8 e8 g8 ok8 _ k8 => ?_⟩
    refine ⟨_, rfl, c.s, _, c.dx, _, rfl, ok8.hs, cls_Reader D, na_Reader_pressed D, rdF_len, ?_⟩
    rw [pf_pressed]
    obtain ⟨ok9, g9⟩ := ok8.put (r' := { r8 with pressed := true }) rfl
    refine ⟨_, rfl, _, _, _, rfl, ok9.hs, (by kernel_rfl), c, I8, _, 0, rfl, ok9, rfl, (k8.up g9).bind fun t r10 I10 H10 v10 e10 g10 ok10 rt k10 => ?_⟩
    (try dsimp only)
    refine ⟨_, rfl, _, _, _, _, _, rfl, ok10.hs, cls_Reader D, na_Reader_at D, lk_at, _, rfl, _, _, _, _, _, rfl, ok10.hs, cls_Reader D, na_Reader_words D, lk_words, _, _, rfl, .inl ⟨_, ok10.wsl, rfl⟩, _, _, rfl, rfl, _, rfl, ?_⟩
    rw [List.length_map]
    refine ifD (fun q => ?_) (fun q => ?_)
    · rw [if_pos (Int.ofNat_lt.mp q)] at k10
      exact ⟨_, rfl, _, _, _, _, _, rfl, ok10.hs, cls_Reader D, na_Reader_at D, lk_at, (by show 1 ≤ 1000; decide), fun e he => ⟨e, _, rfl, upd_same, fun d hd ne => ⟨rfl, d, [("at", .int (r10.pos : Int))], upd_same, by rw [upd_ne ne]; exact upd_same, by rw [upd_ne ne] at hd; exact hd, raised_at (Gr.refl ok10.sm) k10 e he d hd ne⟩⟩⟩
    · rw [if_neg (fun z => q (Int.ofNat_lt.mpr z))] at k10
      refine ⟨_, rfl, _, rfl, _, rfl, _, _, _, _, _, rfl, ok10.hs, cls_Reader D, na_Reader_variables D, lk_variables, _, rfl, _, rfl, (by show 5 ≤ sizeLine; decide), fun p hp => ?_⟩
      have g11 := Gr.new (ms := []) (o := .tup [.int (bn : Int), .int (an : Int), .ref c.vl, v7, v10]) g10.ih hp
      exact k10.ok rfl _ _ _ g11.nil (ok10.up0 g11) ⟨p, v7, v10, rfl, upd_same, up (g8.ii.trans (g10.ii.trans g11.ii)) rs, up g11.ii rt⟩
end
end K

set_option Elab.async false
set_option linter.all false
set_option maxRecDepth 100000
set_option maxHeartbeats 4000000
namespace Rd
open PySem Tk TL
theorem spl_le (S : List Nat) : ∀ (l : List Nat) (k : Nat) (acc p : List Nat), p ∈ spl S k acc l → p.length ≤ acc.length + l.length
  | [], k, acc, p, h => by
    rw [spl_nil, List.mem_singleton] at h; rw [h]; simp
  | c :: r, 0, acc, p, h => by
    by_cases q : pre S (c :: r) = true
    · rw [spl_hit q] at h
      rcases List.mem_cons.mp h with rfl | h
      · simp
      · have := spl_le S r _ _ p h; simp at this ⊢; omega
    · rw [spl_miss (by simpa using q)] at h
      have := spl_le S r _ _ p h; simp at this ⊢; omega
  | c :: r, k + 1, acc, p, h => by
    have h : p ∈ spl S k acc r := h
    have := spl_le S r _ _ p h; simp; omega
theorem split_le {z x : Str} (h : x ∈ Txt.split z " ") : x.length ≤ z.length := by
  have e := split_spl z " " (by decide +kernel) (kind_ok (by decide +kernel))
  have : tl x ∈ (Txt.split z " ").map tl := List.mem_map.mpr ⟨x, h, rfl⟩
  rw [e] at this
  have := spl_le _ _ _ _ _ this
  rw [len_tl, len_tl]; simpa using this
def varsDa (q : List Da → Da) (l : List (Str × Nat)) : Da := q (l.map fun p => .tup [.str p.1, .int (p.2 : Int)])
theorem varWords_len : ∀ l : List (Str × Nat), l.length ≤ (varWords l).length
  | [] => Nat.le_refl _
  | (x, n) :: r => by have := varWords_len r; simp only [varWords, List.length_cons]; omega
end Rd
namespace K
open PySem PySem.Spec PyProof.Rows L2 Tk Hd Rd
section
variable {P : Program} {w : World} {K : PySem.W.Frag} {mg : Str → Option Value} {base : Heap}
theorem wordsOf_le {z x : Str} (h : x ∈ wordsOf z) : x.length ≤ z.length := by
  unfold wordsOf at h
  split at h
  · cases h
  · exact split_le h
abbrev CBx (K : PySem.W.Frag) : Addr := He.ga K "Box"
def bxF (b a : Int) (v s t : V) : List (Str × V) := [("buttons", .int b), ("answers", .int a), ("variables", v), ("start", s), ("block", t)]
def iBx (K : PySem.W.Frag) : Rp Bx := fun H v b => ∃ p dx va vs vb, v = .ref p ∧ H p = some (.ins (CBx K) dx (bxF b.buttons b.answers va vs vb)) ∧ dR H va (varsDa .tup b.vars) ∧ dR H vs (.tup (blockDa .tup b.start)) ∧ dR H vb (.tup (blockDa .tup b.block))
instance : Mono (iBx K) := ⟨fun s ⟨p, dx, va, vs, vb, e, h, h1, h2, h3⟩ => ⟨p, dx, va, vs, vb, e, s _ _ h, dR_up s _ _ h1, dR_up s _ _ h2, dR_up s _ _ h3⟩⟩
def spBInit (K : PySem.W.Frag) : Sp := fun vs H Q _ => ∃ (I : Hp) (x dx : Addr) (b a : Int) (v1 v2 v3 : V) (d1 d2 d3 : Da), vs = [.ref x, .int b, .int a, v1, v2, v3] ∧ Same I H ∧ I x = none ∧ H x = some (.ins (CBx K) dx []) ∧ dR I v1 d1 ∧ dR I v2 d2 ∧ dR I v3 d3 ∧
  (dep d1 ≤ 30 ∧ dep d2 ≤ 30 ∧ dep d3 ≤ 30) ∧ (tame d1 ∧ tame d2 ∧ tame d3) ∧ ∀ I' H' w1 w2 w3, Gr [x] I H I' H' → H' x = some (.ins (CBx K) dx (bxF b a w1 w2 w3)) → dR I' w1 (kept d1) → dR I' w2 (kept d2) → dR I' w3 (kept d3) → Q .non H'
theorem sc_Box_init : FnScope ["self", "buttons", "answers", "variables", "start", "block"] ["self", "buttons", "answers", "variables", "start", "block"] (defScope s_Box_init) := ⟨rfl, rfl, rfl, by decide +kernel, rfl, by decide +kernel, by decide +kernel⟩
theorem ok_binit (D : Dt K mg) : Has P w K mg base 33 (He.ma K (He.ga K "Box") "__init__") ["self", "buttons", "answers", "variables", "start", "block"] [] (spBInit K) := by
  obtain ⟨fd, F⟩ := fd_Box_init D
  have H__kept := ok_kept (P := P) (w := w) (base := base) D
  refine hasN F (F.bindsN fun _ _ _ _ _ _ us hl => match us, hl with | [_, _, _, _, _, _], _ => rfl) sc_Box_init (fun vs H Q E h => ?_) (fun cdv A outer s H vs Q E hr h => ?_)
  · obtain ⟨I, x, dx, b, a, v1, v2, v3, d1, d2, d3, rfl, _⟩ := h; rfl
  · obtain ⟨I, x, dx, b, a, v1, v2, v3, d1, d2, d3, rfl, s0, hI, hx, r1, r2, r3, hd, ht, k⟩ := h
    refine ⟨_, (pss_cons (ps_fld (pv 0) (pv 1) rfl)
      (pss_cons (ps_fld (pv 0) (pv 2) rfl)
      (pss_cons (ps_fld (pv 0) (pe_callH H__kept (hr.mono (by omega)) rfl (glo__kept D) passL (pa_cons (pv 3) pa_nil)) rfl)
      (pss_cons (ps_fld (pv 0) (pe_callH H__kept (hr.mono (by omega)) rfl (glo__kept D) passL (pa_cons (pv 4) pa_nil)) rfl)
      (pss_one (ps_fld (pv 0) (pe_callH H__kept (hr.mono (by omega)) rfl (glo__kept D) passL (pa_cons (pv 5) pa_nil)) rfl)))))), ?_⟩
    refine ⟨_, rfl, _, rfl, x, _, dx, _, rfl, hx, cls_Box D, na_Box_buttons D, (by show 0 < 1000; decide), ?_⟩
    refine ⟨_, rfl, _, rfl, x, _, dx, _, rfl, upd_same, cls_Box D, na_Box_answers D, (by show 1 < 1000; decide), ?_⟩
    rw [upd_upd]
    have g0 : Gr [x] I H I (upd H x (.ins (CBx K) dx (putF "answers" (.int a) (putF "buttons" (.int b) [])))) := Gr.mut s0 hI (by simp)
    refine ⟨_, rfl, I, _, d1, rfl, g0.ih, r1, hd.1, ht.1, fun I1 H1 w1 g1 q1 => ?_⟩
    have e1 := g1.at upd_same (by simp)
    have i1 := g1.out hI upd_same
    refine ⟨_, rfl, x, _, dx, _, rfl, e1, cls_Box D, na_Box_variables D, (by show 2 < 1000; decide), ?_⟩
    have G1 := (g0.trans (g1.mono (ns := [x]) fun _ z => nomatch z)).trans (Gr.mut (o := .ins (CBx K) dx (putF "variables" w1 (putF "answers" (.int a) (putF "buttons" (.int b) [])))) g1.ih i1 List.mem_cons_self)
    refine ⟨_, rfl, I1, _, d2, rfl, G1.ih, dR_up g1.ii _ _ r2, hd.2.1, ht.2.1, fun I2 H2 w2 g2 q2 => ?_⟩
    have e2 := g2.at upd_same (by simp)
    have i2 := g2.out i1 upd_same
    refine ⟨_, rfl, x, _, dx, _, rfl, e2, cls_Box D, na_Box_start D, (by show 3 < 1000; decide), ?_⟩
    have G2 := (G1.trans (g2.mono (ns := [x]) fun _ z => nomatch z)).trans (Gr.mut (o := .ins (CBx K) dx (putF "start" w2 (putF "variables" w1 (putF "answers" (.int a) (putF "buttons" (.int b) []))))) g2.ih i2 List.mem_cons_self)
    refine ⟨_, rfl, I2, _, d3, rfl, G2.ih, dR_up (g1.ii.trans g2.ii) _ _ r3, hd.2.2, ht.2.2, fun I3 H3 w3 g3 q3 => ?_⟩
    have e3 := g3.at upd_same (by simp)
    have i3 := g3.out i2 upd_same
    refine ⟨_, rfl, x, _, dx, _, rfl, e3, cls_Box D, na_Box_block D, (by show 4 < 1000; decide), ?_⟩
    have G3 := (G2.trans (g3.mono (ns := [x]) fun _ z => nomatch z)).trans (Gr.mut (o := .ins (CBx K) dx (putF "block" w3 (putF "start" w2 (putF "variables" w1 (putF "answers" (.int a) (putF "buttons" (.int b) [])))))) g3.ih i3 List.mem_cons_self)
    exact k I3 _ w1 w2 w3 G3 (upd_same.trans (by kernel_rfl)) (dR_up (g2.ii.trans g3.ii) _ _ q1) (dR_up g3.ii _ _ q2) q3
/-- what is read of a text -/
def spRd (K : PySem.W.Frag) (ar : Bool) : Sp := fun vs H Q E => ∃ (I : Hp) (z : Str), vs = [.str z] ∧ Same I H ∧ z.length + 2 ≤ sizeLine ∧ (wordsOf z).length ≤ 1000000 ∧ (match readR (wordsOf z) ar with
  | .ok b _ => Ret [] I H (iBx K) b Q
  | .bad n => RaisedAt [] I H (CBT K) n E)
def spRd2 (K : PySem.W.Frag) : Sp := fun vs H Q E => ∃ (I : Hp) (z : Str) (ar : Bool), vs = [.str z, .bl ar] ∧ Same I H ∧ z.length + 2 ≤ sizeLine ∧ (wordsOf z).length ≤ 1000000 ∧ (match readR (wordsOf z) ar with
  | .ok b _ => Ret [] I H (iBx K) b Q
  | .bad n => RaisedAt [] I H (CBT K) n E)
theorem hq_lst : ∀ l : List Da, dep (.lst l) = deps l + 1 := fun l => by simp only [dep]
theorem hq_tup : ∀ l : List Da, dep (.tup l) = deps l + 1 := fun l => by simp only [dep]
theorem tq_lst : ∀ l : List Da, tame (.lst l) = (l.length ≤ 1000000 ∧ tames l) := fun l => by simp only [tame]
theorem tq_tup : ∀ l : List Da, tame (.tup l) = (l.length ≤ 1000000 ∧ tames l) := fun l => by simp only [tame]
theorem varsDa_dep (l : List (Str × Nat)) : deps (l.map fun p => Da.tup [.str p.1, .int (p.2 : Int)]) ≤ 1 := by
  induction l with
  | nil => simp [deps]
  | cons p r ih => simp only [List.map_cons, deps, dep]; omega
theorem varsDa_tame (l : List (Str × Nat)) : tames (l.map fun p => Da.tup [.str p.1, .int (p.2 : Int)]) := by
  induction l with
  | nil => simp [tames]
  | cons p r ih => simp only [List.map_cons, tames, tame]; exact ⟨⟨by simp, trivial, trivial, trivial⟩, ih⟩
theorem varsDa_kept (l : List (Str × Nat)) (q : List Da → Da) (hq : ∀ l, kept (q l) = .tup (kepts l)) : kept (varsDa q l) = varsDa .tup l := by
  unfold varsDa
  rw [hq]
  congr 1
  induction l with
  | nil => rfl
  | cons p r ih => rw [List.map_cons, kepts, ih]; rfl
/-- a new box of what was read -/
theorem box_made {I H : Hp} {y dy : Addr} {b : Bx} {va vs vb : V} {ar : Bool} {qv q1 : List Da → Da} {Q : VK} (hqv : qv = .lst ∨ qv = .tup) (hq1 : q1 = .lst ∨ q1 = .tup) (s : Same I H) (ny : H y = none) (nd : H dy = none) (ne : dy ≠ y) (h : okBx ar b) (hB : b.words.length ≤ 1000000)
    (r1 : dR I va (varsDa qv b.vars)) (r2 : dR I vs (q1 (blockDa q1 b.start))) (r3 : dR I vb (q1 (blockDa q1 b.block))) (k : ∀ I' H', Gr [] I H I' H' → iBx K I' (.ref y) b → Q (.ref y) H') :
    spBInit K (.ref y :: [.int (b.buttons : Int), .int (b.answers : Int), va, vs, vb]) (upd (upd H dy (.own y)) y (.ins (CBx K) dy [])) (fun v H => v = .non ∧ Q (.ref y) H) E0 := by
  have g1 := Gr.new (ms := []) (o := .own y) s nd
  have ny1 : upd H dy (.own y) y = none := by rw [upd_ne ne.symm]; exact ny
  have g2 : Gr [y] I H (upd I dy (.own y)) (upd (upd H dy (.own y)) y (.ins (CBx K) dy [])) := g1.nil.trans (Gr.tmp g1.ih ny1)
  have vw := varWords_len b.vars
  have lw : b.words.length = (varWords b.vars).length + (blockWords b.start).length + (blockWords b.block).length + 6 := by
    simp [Bx.words]; omega
  have hl1 : ∀ {q : List Da → Da}, (q = .lst ∨ q = .tup) → (∀ l, dep (q l) = deps l + 1) ∧ (∀ l, tame (q l) = (l.length ≤ 1000000 ∧ tames l)) ∧ (∀ l, kept (q l) = .tup (kepts l)) := fun {q} h => by
    rcases h with rfl | rfl
    · exact ⟨hq_lst, tq_lst, fun _ => rfl⟩
    · exact ⟨hq_tup, tq_tup, fun _ => rfl⟩
  obtain ⟨p1, p2, p3⟩ := hl1 hqv
  obtain ⟨p4, p5, p6⟩ := hl1 hq1
  have dv := varsDa_dep b.vars
  have t2 := tames_bl p5 (l := b.start) (by omega)
  have t3 := tames_bl p5 (l := b.block) (by omega)
  have d2 := dep_bl p4 h.so
  have d3 := dep_bl p4 h.bo
  have kb : ∀ l : List Stm, kept (q1 (blockDa q1 l)) = .tup (blockDa .tup l) := fun l => by
    rw [p6]
    rcases hq1 with rfl | rfl
    · rw [(kept_bl l).1]
    · rw [(kept_bl l).2]
  refine ⟨_, y, dy, _, _, va, vs, vb, varsDa qv b.vars, q1 (blockDa q1 b.start), q1 (blockDa q1 b.block), rfl, g2.ih, by rw [upd_ne ne.symm]; exact s.free ny, upd_same, dR_up g1.ii _ _ r1, dR_up g1.ii _ _ r2, dR_up g1.ii _ _ r3,
    ⟨?_, ?_, ?_⟩, ⟨?_, ?_, ?_⟩, fun I' H' w1 w2 w3 g hy q1' q2' q3' => ⟨rfl, ?_⟩⟩
  · unfold varsDa; rw [p1]; omega
  · rw [p4]; omega
  · rw [p4]; omega
  · unfold varsDa; rw [p2, List.length_map]; exact ⟨by omega, varsDa_tame _⟩
  · rw [p5]; exact t2
  · rw [p5]; exact t3
  · have G := g2.trans g
    have iy : I' y = none := g.out (by rw [upd_ne ne.symm]; exact s.free ny) upd_same
    have G2 := G.frz s ny hy
    have s9 : Same I' (upd I' y (.ins (CBx K) dy (bxF b.buttons b.answers w1 w2 w3))) := sNew iy
    rw [varsDa_kept _ _ p3] at q1'
    rw [kb] at q2' q3'
    exact k _ _ G2 ⟨y, dy, w1, w2, w3, rfl, upd_same, dR_up s9 _ _ q1', dR_up s9 _ _ q2', dR_up s9 _ _ q3'⟩
theorem sc__read : FnScope ["text", "around", "buttons", "answers", "variables", "start", "block"] ["text", "around"] (defScope s__read) := ⟨rfl, rfl, rfl, by decide +kernel, rfl, by decide +kernel, by decide +kernel⟩
theorem ok_read2 (D : Dt K mg) : HasN P w K mg base 35 (He.ga K "_read") ["text", "around"] [] (spRd2 K) := by
  obtain ⟨fd, F⟩ := fd__read D
  have H_Reader_init := ok_rinit (P := P) (w := w) (base := base) D
  have H_words_of := ok_words_of (P := P) (w := w) (base := base) D
  have H_Reader_read := ok_read (P := P) (w := w) (base := base) D
  have H_Box_init := ok_binit (P := P) (w := w) (base := base) D
  refine hasXN F (F.bindsN fun _ _ _ _ _ _ us hl => match us, hl with | [_, _], _ => rfl) sc__read (fun vs H Q E h => ?_) (fun cdv A outer s H vs Q E hr h => ?_)
  · obtain ⟨I, z, ar, rfl, _⟩ := h; rfl
  · obtain ⟨I, z, ar, rfl, s0, hz, hw, kk⟩ := h
    refine ⟨_, (pss_cons (ps_asg (pe_methH0N (pe_makeH (mkr_Reader (K := K) D) H_Reader_init (hr.mono (by omega)) rfl (glo_Reader D) passL (pa_cons (pe_callH H_words_of (hr.mono (by omega)) rfl (glo_words_of D) passL (pa_cons (pv 0) pa_nil)) (pa_cons (pv 1) pa_nil))) (cls_Reader (K := K) D) (me_Reader_read (K := K) D) H_Reader_read (hr.mono (by omega)) (L2N.passes_call (L2N.takes_of rfl rfl rfl rfl) fun _ _ _ _ h => h)) (pg_tupK K rfl (pgs_cons (pg_name (i := 2) sc__read.nd rfl (Or.inl rfl)) (pgs_cons (pg_name (i := 3) sc__read.nd rfl (Or.inl rfl)) (pgs_cons (pg_name (i := 4) sc__read.nd rfl (Or.inl rfl)) (pgs_cons (pg_name (i := 5) sc__read.nd rfl (Or.inl rfl)) (pgs_cons (pg_name (i := 6) sc__read.nd rfl (Or.inl rfl)) pgs_nil)))))))
      (pss_one (ps_ret (pe_makeH (mkr_Box (K := K) D) H_Box_init (hr.mono (by omega)) rfl (glo_Box D) passL (pa_cons (pv 2) (pa_cons (pv 3) (pa_cons (pv 4) (pa_cons (pv 5) (pa_cons (pv 6) pa_nil))))))))), ?_⟩
    refine ⟨_, rfl, I, z, rfl, s0, hz, fun I1 H1 v1 g1 r1 => ?_⟩
    obtain ⟨wl, rfl, hwl⟩ := id r1
    refine ⟨_, rfl, fun x dx nx nd ne => ⟨x, dx, wl, ar, rfl, upd_same, fun vl hvl nvx => ⟨rfl, ?_⟩⟩⟩
    have nvd : vl ≠ dx := fun z => by rw [z, upd_ne ne, upd_same] at hvl; cases hvl
    have hv1 : H1 vl = none := by rw [upd_ne nvx, upd_ne nvd] at hvl; exact hvl
    have gA := Gr.new (ms := [x, vl]) (o := .own x) g1.ih nd
    have nxA : upd H1 dx (.own x) x = none := by rw [upd_ne ne.symm]; exact nx
    have gB := gA.trans (Gr.tmp (o := .ins (CRd K) dx []) gA.ih nxA)
    have gC := gB.trans (Gr.tmp (o := .lst []) gB.ih hvl)
    have ix : upd I1 dx (.own x) x = none := by rw [upd_ne ne.symm]; exact g1.ih.free nx
    have iv : upd I1 dx (.own x) vl = none := by rw [upd_ne nvd]; exact g1.ih.free hv1
    have gD := gC.trans (Gr.mut (o := .ins (CRd K) dx (rdF ⟨x, dx, wl, vl, ar, wordsOf z⟩ r0)) gC.ih ix (by simp))
    have okR : RdOk K ⟨x, dx, wl, vl, ar, wordsOf z⟩ (upd I1 dx (.own x)) _ r0 := ⟨gD.ih, ix, iv, nvx.symm, upd_same, ⟨[], by rw [upd_ne nvx]; exact upd_same, .nil⟩, gA.ii _ _ hwl, (fun p hp => nomatch hp), by decide, by show (wordsOf z).length ≤ 1000000; omega, fun y hy => by have := wordsOf_le hy; omega⟩
    refine ⟨x, dx, _, rfl, upd_same, (by kernel_rfl), ⟨x, dx, wl, vl, ar, wordsOf z⟩, _, rfl, okR, OutR.of (fun b r er I3 H3 v3 g3 ok3 r3 => ?_) (fun n er => ?_)⟩
    rotate_left
    · rw [show readR (wordsOf z) ar = _ from er] at kk
      exact fun I' H' d g e => kk I' H' d (g1.trans (((gD.trans g).drop nx).drop hv1)) e
    rw [show readR (wordsOf z) ar = _ from er] at kk
    obtain ⟨t, sv, bv, rfl, ht, rs, rb⟩ := r3
    obtain ⟨hok, hwords, hvars⟩ := read_sound er
    obtain ⟨us, hvl3, a3⟩ := ok3.hv
    have gE : Gr [] I1 H1 (upd I3 vl (.lst us)) H3 := (((gD.trans g3).mono (ns := [vl, x]) fun a ha => by simp only [List.mem_cons, List.not_mem_nil, or_false] at ha ⊢; exact ha.symm).frz g1.ih hv1 hvl3).drop nx
    have s3 : Same I3 (upd I3 vl (.lst us)) := sNew ok3.iv
    have rv : dR (upd I3 vl (.lst us)) (.ref vl) (varsDa .lst b.vars) := dR_lst upd_same (all_dRs (All2.mapR (by
      rw [← hvars]
      exact (a3.up s3).imp fun v p ⟨t, a, n, e, h, ha, hn⟩ => by
        have ha : a = .str p.1 := ha
        have hn : n = .int (p.2 : Int) := hn
        subst ha hn e
        exact dR_tup h (dRs_cons dR_str (dRs_cons dR_int dRs_nil)))))
    have toD : ∀ {v : V} {l : List Stm}, iL iSt I3 v l → dR (upd I3 vl (.lst us)) v (.lst (blockDa .lst l)) := fun {v l} h => by
      obtain ⟨a, vs, rfl, ha, a2⟩ := up (R := iL iSt) s3 h
      rw [blockDa_map]
      exact dR_lst ha (all_dRs (All2.mapR a2))
    refine ⟨t, _, rfl, SqT.of (ok3.sm _ _ ht), rfl, _, _, rfl, _, _, rfl, _, _, rfl, _, _, rfl, _, _, rfl, rfl, ?_⟩
    refine ⟨_, rfl, _, rfl, _, rfl, _, rfl, _, rfl, fun y dy ny ndy ney => ?_⟩
    exact box_made (qv := .lst) (q1 := .lst) (.inl rfl) (.inl rfl) gE.ih ny ndy ney hok (by rw [hwords]; exact hw) rv (toD rs) (toD rb) fun I' H' g r => kk _ _ _ (g1.trans (gE.trans g)) r
theorem sc_read_box : FnScope ["text"] ["text"] (defScope s_read_box) := ⟨rfl, rfl, rfl, by decide +kernel, rfl, by decide +kernel, by decide +kernel⟩
theorem ok_read_box (D : Dt K mg) : HasN P w K mg base 36 (He.ga K "read_box") ["text"] [] (spRd K false) := by
  obtain ⟨fd, F⟩ := fd_read_box D
  have H__read := ok_read2 (P := P) (w := w) (base := base) D
  refine hasXN F (F.bindsN fun _ _ _ _ _ _ us hl => match us, hl with | [_], _ => rfl) sc_read_box (fun vs H Q E h => ?_) (fun cdv A outer s H vs Q E hr h => ?_)
  · obtain ⟨I, z, rfl, _⟩ := h; rfl
  · obtain ⟨I, z, rfl, s0, hz, hw, kk⟩ := h
    refine ⟨_, (pss_one (ps_ret (pe_callHN H__read (hr.mono (by omega)) rfl (glo__read D) (L2N.passes_call (L2N.takes_of rfl rfl rfl rfl) fun _ _ _ _ h => h) (pa_cons (pv 0) (pa_cons pe_bl pa_nil))))), ?_⟩
    exact ⟨_, rfl, I, z, false, rfl, s0, hz, hw, kk⟩
theorem sc_read_around : FnScope ["text"] ["text"] (defScope s_read_around) := ⟨rfl, rfl, rfl, by decide +kernel, rfl, by decide +kernel, by decide +kernel⟩
theorem ok_read_around (D : Dt K mg) : HasN P w K mg base 36 (He.ga K "read_around") ["text"] [] (spRd K true) := by
  obtain ⟨fd, F⟩ := fd_read_around D
  have H__read := ok_read2 (P := P) (w := w) (base := base) D
  refine hasXN F (F.bindsN fun _ _ _ _ _ _ us hl => match us, hl with | [_], _ => rfl) sc_read_around (fun vs H Q E h => ?_) (fun cdv A outer s H vs Q E hr h => ?_)
  · obtain ⟨I, z, rfl, _⟩ := h; rfl
  · obtain ⟨I, z, rfl, s0, hz, hw, kk⟩ := h
    refine ⟨_, (pss_one (ps_ret (pe_callHN H__read (hr.mono (by omega)) rfl (glo__read D) (L2N.passes_call (L2N.takes_of rfl rfl rfl rfl) fun _ _ _ _ h => h) (pa_cons (pv 0) (pa_cons pe_bl pa_nil))))), ?_⟩
    exact ⟨_, rfl, I, z, true, rfl, s0, hz, hw, kk⟩
end
end K

set_option Elab.async false
set_option linter.all false
set_option maxRecDepth 100000
set_option maxHeartbeats 4000000
/-! Texts of words. -/
namespace Rd
open PySem PyProof.Rows TL
def jn (ws : List Str) : Str := Txt.join " " ws
def spc : Str := " "
theorem app_assoc (a b c : Str) : a ++ b ++ c = a ++ (b ++ c) := ext_tl (by simp only [tl_append, List.append_assoc])
theorem len_app (a b : Str) : (a ++ b).length = a.length + b.length := by rw [len_tl, len_tl, len_tl, tl_append, List.length_append]
theorem empty_app' (a : Str) : Str.empty ++ a = a := ext_tl (by rw [tl_append]; rfl)
theorem app_empty (a : Str) : a ++ Str.empty = a := ext_tl (by rw [tl_append]; exact List.append_nil _)
theorem jn_nil : jn [] = Str.empty := by unfold jn; rw [join_eq]; rfl
theorem jn_one (x : Str) : jn [x] = x := by unfold jn; rw [join_eq]; rfl
theorem jn_cons (x y : Str) (r : List Str) : jn (x :: y :: r) = x ++ (spc ++ jn (y :: r)) := by
  unfold jn; rw [join_eq, join_eq, ← app_assoc]; rfl
theorem jn_app : ∀ {xs ys : List Str}, xs ≠ [] → ys ≠ [] → jn (xs ++ ys) = jn xs ++ (spc ++ jn ys)
  | [], _, h, _ => absurd rfl h
  | [x], ys, _, h => by
    cases ys with
    | nil => exact absurd rfl h
    | cons y r => rw [List.singleton_append, jn_cons, jn_one]
  | x :: x2 :: xs, ys, _, h => by
    rw [List.cons_append, List.cons_append, jn_cons, ← List.cons_append, jn_app (by simp) h, jn_cons]
    simp only [app_assoc]
theorem jn_jn : ∀ {xss : List (List Str)}, (∀ x ∈ xss, x ≠ []) → jn (xss.map jn) = jn xss.flatten
  | [], _ => rfl
  | [x], _ => by rw [List.map_cons, List.map_nil, jn_one]; simp
  | x :: y :: r, h => by
    have ih := jn_jn (xss := y :: r) fun z hz => h z (List.mem_cons_of_mem _ hz)
    have hy := h y (List.mem_cons_of_mem _ List.mem_cons_self)
    have hne : (y :: r).flatten ≠ [] := fun z => by
      rw [List.flatten_cons] at z
      exact hy (List.append_eq_nil_iff.mp z).1
    rw [List.map_cons, List.map_cons, jn_cons, ← List.map_cons, ih, show (x :: y :: r).flatten = x ++ (y :: r).flatten from rfl, jn_app (h x List.mem_cons_self) hne]
theorem le_sum : ∀ {ws : List Str} {x : Str}, x ∈ ws → x.length ≤ (ws.map (·.length)).sum
  | y :: r, x, h => by
    rw [List.map_cons, List.sum_cons]
    rcases List.mem_cons.mp h with rfl | h
    · omega
    · have := le_sum h; omega
theorem jn_len : ∀ (ws : List Str), (jn ws).length + 1 = (ws.map (·.length)).sum + ws.length + (if ws = [] then 1 else 0)
  | [] => by rw [jn_nil]; rfl
  | [x] => by rw [jn_one]; simp
  | x :: y :: r => by
    have ih := jn_len (y :: r)
    rw [jn_cons, len_app, len_app, List.map_cons, List.sum_cons, List.length_cons]
    rw [if_neg (by simp)] at ih ⊢
    have : spc.length = 1 := by decide +kernel
    omega
theorem jn_le {ws : List Str} {x : Str} (h : x ∈ ws) : x.length ≤ (jn ws).length := by
  have h1 := jn_len ws
  have h2 : x.length ≤ (ws.map (·.length)).sum := le_sum h
  rw [if_neg (by rintro rfl; cases h)] at h1
  have : 0 < ws.length := List.length_pos_of_mem h
  omega
theorem jn_app_le {xs ys : List Str} : (jn xs).length ≤ (jn (xs ++ ys)).length ∧ (jn ys).length ≤ (jn (xs ++ ys)).length := by
  cases xs with
  | nil => rw [jn_nil]; exact ⟨Nat.zero_le _, Nat.le_refl _⟩
  | cons x r =>
    cases ys with
    | nil => rw [jn_nil, List.append_nil]; exact ⟨Nat.le_refl _, Nat.zero_le _⟩
    | cons y s =>
      rw [jn_app (by simp) (by simp), len_app, len_app]
      omega
theorem jn_cons_le {x : Str} {ys : List Str} : (jn ys).length ≤ (jn (x :: ys)).length := (jn_app_le (xs := [x]) (ys := ys)).2
theorem words_split {ws : List Str} (h1 : ws ≠ []) (h2 : ∀ p ∈ ws, 32 ∉ tl p) : Txt.split (jn ws) " " = ws :=
  split_join (y := " ") (s := 32) (S := []) (by decide +kernel) (by decide +kernel) h1 h2
theorem ex_words_ne (e : Ex) : e.words ≠ [] := by cases e <;> simp [Ex.words]
theorem st_words_ne (s : Stm) : s.words ≠ [] := by
  have := words_pos s
  intro z; rw [z] at this; simp at this
theorem block_flat : ∀ l : List Stm, blockWords l = (l.map Stm.words).flatten
  | [] => rfl
  | s :: r => by rw [blockWords, block_flat r]; rfl
end Rd

set_option Elab.async false
set_option linter.all false
set_option maxRecDepth 100000
set_option maxHeartbeats 4000000
namespace K
open PySem PySem.Spec PyProof.Rows L2 Tk Hd Rd
section
variable {P : Program} {w : World} {K : PySem.W.Frag} {mg : Str → Option Value} {base : Heap}
theorem nat_log {n : Nat} (h : n < 10 ^ 64) : (n : Int).natAbs.log2 < 1920 := by
  rw [Int.natAbs_natCast]
  by_cases h0 : n = 0
  · rw [h0]; decide
  · exact (Nat.log2_lt h0).mpr (Nat.lt_of_lt_of_le h (by decide +kernel))
theorem le_line {n : Nat} (h : n ≤ 10000000) : n ≤ sizeLine := Nat.le_trans h (by decide)
def spEt (k : Nat) : Sp := fun vs H Q _ => ∃ (I : Hp) (v : V) (e : Ex) (nm : List Str) (pr : Bool), vs = [v] ∧ Same I H ∧ dR I v e.da ∧ okEx nm pr k e ∧ (jn e.words).length ≤ 10000000 ∧ ∀ I' H', Gr [] I H I' H' → Q (.str (jn e.words)) H'
def spEts : Nat → Sp
  | 0 => spNever
  | k + 1 => spEt k
theorem dR_at {H : Hp} {v : V} {l : List Da} (h : dR H v (.tup l)) : ∃ a vs, v = .ref a ∧ H a = some (.tup vs) ∧ dRs H vs l := by simp only [dR] at h; exact h
theorem dRs_c {H : Hp} {vs : List V} {d : Da} {l : List Da} (h : dRs H vs (d :: l)) : ∃ v r, vs = v :: r ∧ dR H v d ∧ dRs H r l := by simp only [dRs] at h; exact h
theorem dRs_n {H : Hp} {vs : List V} (h : dRs H vs []) : vs = [] := by simp only [dRs] at h; exact h
theorem dR_s {H : Hp} {v : V} {z : Str} (h : dR H v (.str z)) : v = .str z := by simp only [dR] at h; exact h
theorem dR_i {H : Hp} {v : V} {z : Int} (h : dR H v (.int z)) : v = .int z := by simp only [dR] at h; exact h
theorem ops_not {o : Str} (h : o ∈ ops) : o ∉ (["number", "variable"] : List Str) ∧ o ≠ ("press" : Str) := by
  have : ∀ y ∈ ops, y ∉ (["number", "variable"] : List Str) ∧ y ≠ ("press" : Str) := by decide +kernel
  exact this o h
theorem sc__expression_text : FnScope ["expression", "word"] ["expression"] (defScope s__expression_text) := ⟨rfl, rfl, rfl, by decide +kernel, rfl, by decide +kernel, by decide +kernel⟩
theorem ok_et_step (D : Dt K mg) (k : Nat) (H__expression_text : Has P w K mg base (k + 1) (He.ga K "_expression_text") ["expression"] [] (spEts k)) : Has P w K mg base (k + 2) (He.ga K "_expression_text") ["expression"] [] (spEt k) := by
  obtain ⟨fd, F⟩ := fd__expression_text D
  refine hasN F (F.bindsN fun _ _ _ _ _ _ us hl => match us, hl with | [_], _ => rfl) sc__expression_text (fun vs H Q E h => ?_) (fun cdv A outer s H vs Q E hr h => ?_)
  · obtain ⟨I, v, e, nm, pr, rfl, _⟩ := h; rfl
  · obtain ⟨I, v, e, nm, pr, rfl, s0, rv, he, hl, kk⟩ := h
    refine ⟨_, (pss_cons (ps_set (i := 1) sc__expression_text.nd rfl (Or.inl rfl) (pe_ix (ix_tupK K) (pv 0) pe_int (fun _ _ => rfl)))
      (pss_cons (ps_if (pt_cmpR (op_in_seqK K) (pv 1) (pe_tup (pa_cons pe_str (pa_cons pe_str pa_nil))) rfl)
      (pss_one (ps_ret (pe_callTy call_strAny rfl (free_str D) (by decide +kernel) (pa_cons (pe_ix (ix_tupK K) (pv 0) pe_int (fun _ _ => rfl)) pa_nil))))
      pss_nil)
      (pss_cons (ps_if (pt_cmpR op_eq (pv 1) pe_str (nomark _))
      (pss_one (ps_ret pe_str))
      pss_nil)
      (pss_one (ps_ret (pe_joined (PJ.cons (pe_fmt (pv 1)) (PJ.cons pe_str (PJ.cons (pe_fmt (pe_callH H__expression_text (hr.mono (by omega)) rfl (glo__expression_text D) passL (pa_cons (pe_ix (ix_tupK K) (pv 0) pe_int (fun _ _ => rfl)) pa_nil))) (PJ.cons pe_str (PJ.cons (pe_fmt (pe_callH H__expression_text (hr.mono (by omega)) rfl (glo__expression_text D) passL (pa_cons (pe_ix (ix_tupK K) (pv 0) pe_int (fun _ _ => rfl)) pa_nil))) PJ.nil))))))))))), ?_⟩
    have two : ∀ (x : Str), (inV (.str x) [V.str "number", V.str "variable"]) = decide (x ∈ (["number", "variable"] : List Str)) := fun x => inV_strs x ["number", "variable"]
    cases e with
    | num n =>
      have he : n ≤ 65535 := by cases k <;> exact he
      obtain ⟨a, vs, rfl, ha, r⟩ := dR_at rv
      obtain ⟨v0, q0, rfl, h0, p0⟩ := dRs_c r
      obtain ⟨v1, q1, rfl, h1, p1⟩ := dRs_c p0
      obtain rfl := dR_s h0
      obtain rfl := dR_i h1
      obtain rfl := dRs_n p1
      refine ⟨_, rfl, _, _, _, _, rfl, rfl, SqT.of (s0 _ _ ha), at_of (j := 0) rfl rfl, _, rfl, (by show 2 ≤ sizeLine; decide), fun t ht => ?_⟩
      have g0 := Gr.new (ms := []) (o := .tup [.str "number", .str "variable"]) s0 ht
      refine ⟨t, _, rfl, .inr (SqT.of upd_same), rfl, rfl, _, rfl, ?_⟩
      rw [if_neg Bool.false_ne_true, two]
      refine ifT (by decide +kernel) ⟨_, rfl, _, _, _, _, rfl, rfl, SqT.of (g0.ih _ _ (g0.ii _ _ ha)), at_of (j := 1) rfl rfl, .inl ⟨_, rfl, nat_log (by omega), ?_⟩⟩
      have := kk _ _ g0
      rw [show (Ex.num n).words = [dec n] from rfl, jn_one] at this
      exact this
    | var x =>
      obtain ⟨a, vs, rfl, ha, r⟩ := dR_at rv
      obtain ⟨v0, q0, rfl, h0, p0⟩ := dRs_c r
      obtain ⟨v1, q1, rfl, h1, p1⟩ := dRs_c p0
      obtain rfl := dR_s h0
      obtain rfl := dR_s h1
      obtain rfl := dRs_n p1
      refine ⟨_, rfl, _, _, _, _, rfl, rfl, SqT.of (s0 _ _ ha), at_of (j := 0) rfl rfl, _, rfl, (by show 2 ≤ sizeLine; decide), fun t ht => ?_⟩
      have g0 := Gr.new (ms := []) (o := .tup [.str "number", .str "variable"]) s0 ht
      refine ⟨t, _, rfl, .inr (SqT.of upd_same), rfl, rfl, _, rfl, ?_⟩
      rw [if_neg Bool.false_ne_true, two]
      refine ifT (by decide +kernel) ⟨_, rfl, _, _, _, _, rfl, rfl, SqT.of (g0.ih _ _ (g0.ii _ _ ha)), at_of (j := 1) rfl rfl, .inr ⟨_, rfl, ?_⟩⟩
      have := kk _ _ g0
      rw [show (Ex.var x).words = [x] from rfl, jn_one] at this
      exact this
    | press =>
      obtain ⟨a, vs, rfl, ha, r⟩ := dR_at rv
      obtain ⟨v0, q0, rfl, h0, p0⟩ := dRs_c r
      obtain rfl := dR_s h0
      obtain rfl := dRs_n p0
      refine ⟨_, rfl, _, _, _, _, rfl, rfl, SqT.of (s0 _ _ ha), at_of (j := 0) rfl rfl, _, rfl, (by show 2 ≤ sizeLine; decide), fun t ht => ?_⟩
      have g0 := Gr.new (ms := []) (o := .tup [.str "number", .str "variable"]) s0 ht
      refine ⟨t, _, rfl, .inr (SqT.of upd_same), rfl, rfl, _, rfl, ?_⟩
      rw [if_neg Bool.false_ne_true, two]
      refine ifF (by decide +kernel) ?_
      (try unfold tNext)
      (try dsimp only)
      refine ⟨_, rfl, rfl, _, rfl, ifT (by decide +kernel) ?_⟩
      have := kk _ _ g0
      rw [show Ex.press.words = [wd "press"] from rfl, jn_one] at this
      exact this
    | op o x y =>
      cases k with
      | zero => exact absurd he id
      | succ k =>
        obtain ⟨ho, hx, hy⟩ := he
        obtain ⟨n1, n2⟩ := ops_not ho
        obtain ⟨a, vs, rfl, ha, r⟩ := dR_at rv
        obtain ⟨v0, q0, rfl, h0, p0⟩ := dRs_c r
        obtain ⟨v1, q1, rfl, h1, p1⟩ := dRs_c p0
        obtain ⟨v2, q2, rfl, h2, p2⟩ := dRs_c p1
        obtain rfl := dR_s h0
        obtain rfl := dRs_n p2
        have ew : jn (Ex.op o x y).words = o ++ (spc ++ (jn x.words ++ (spc ++ jn y.words))) := by
          rw [show (Ex.op o x y).words = [o] ++ (x.words ++ y.words) from rfl, jn_app (by simp) (by simp [ex_words_ne x]), jn_app (ex_words_ne x) (ex_words_ne y), jn_one]
        rw [ew] at hl
        rw [len_app, len_app, len_app, len_app] at hl
        have l1 : spc.length = 1 := by decide +kernel
        refine ⟨_, rfl, _, _, _, _, rfl, rfl, SqT.of (s0 _ _ ha), at_of (j := 0) rfl rfl, _, rfl, (by show 2 ≤ sizeLine; decide), fun t ht => ?_⟩
        have g0 := Gr.new (ms := []) (o := .tup [.str "number", .str "variable"]) s0 ht
        refine ⟨t, _, rfl, .inr (SqT.of upd_same), rfl, rfl, _, rfl, ?_⟩
        rw [if_neg Bool.false_ne_true, two]
        refine ifF (decide_eq_false n1) ?_
        (try unfold tNext)
        (try dsimp only)
        refine ⟨_, rfl, rfl, _, rfl, ifF (by simpa using n2) ?_⟩
        (try unfold tNext)
        (try dsimp only)
        have ha0 := g0.ii _ _ ha
        refine ⟨_, rfl, .inl ⟨o, rfl, le_line (by omega), o, rfl, le_line (by rw [empty_app']; omega), " ", rfl, le_line (by rw [empty_app', len_app]; show o.length + spc.length ≤ _; omega), ?_⟩⟩
        refine ⟨_, rfl, _, _, _, _, rfl, rfl, SqT.of (g0.ih _ _ ha0), at_of (j := 1) rfl rfl, _, _, x, nm, pr, rfl, g0.ih, dR_up g0.ii _ _ h1, hx, by omega, fun I1 H1 g1 => .inl ⟨_, rfl, le_line (by omega), _, rfl, le_line (by rw [empty_app', len_app, len_app]; show o.length + spc.length + _ ≤ _; omega), " ", rfl, le_line (by rw [empty_app', len_app, len_app, len_app]; show o.length + spc.length + _ + spc.length ≤ _; omega), ?_⟩⟩
        refine ⟨_, rfl, _, _, _, _, rfl, rfl, SqT.of (g1.ih _ _ (g1.ii _ _ ha0)), at_of (j := 2) rfl rfl, _, _, y, nm, pr, rfl, g1.ih, dR_up (g0.ii.trans g1.ii) _ _ h2, hy, by omega, fun I2 H2 g2 => .inl ⟨_, rfl, le_line (by omega), _, rfl, le_line (by rw [empty_app', len_app, len_app, len_app, len_app]; show o.length + spc.length + _ + spc.length + _ ≤ _; omega), ?_⟩⟩
        have := kk _ _ (g0.trans (g1.trans g2))
        rw [ew] at this
        have e9 : Str.empty ++ o ++ (" " : Str) ++ jn x.words ++ (" " : Str) ++ jn y.words = o ++ (spc ++ (jn x.words ++ (spc ++ jn y.words))) := by
          rw [empty_app', app_assoc, app_assoc, app_assoc]; rfl
        rw [← e9] at this
        exact this
theorem ok_et' (D : Dt K mg) : ∀ k, Has P w K mg base (k + 1) (He.ga K "_expression_text") ["expression"] [] (spEts k)
  | 0 => by
    obtain ⟨fd, F⟩ := fd__expression_text D
    exact has_never F (F.bindsN fun _ _ _ _ _ _ us hl => match us, hl with | [_], _ => rfl)
  | k + 1 => ok_et_step D k (ok_et' D k)
theorem ok_et (D : Dt K mg) : Has P w K mg base 6 (He.ga K "_expression_text") ["expression"] [] (spEt 4) := ok_et' D 5
end
end K

set_option Elab.async false
set_option linter.all false
set_option maxRecDepth 100000
set_option maxHeartbeats 4000000
namespace Rd
open PySem PyProof.Rows TL
theorem ex_len {nm : List Str} {pr : Bool} : ∀ {j : Nat} {e : Ex}, okEx nm pr j e → e.words.length + 1 ≤ 2 ^ (j + 1)
  | j, .num n, _ => by have : 2 ^ 1 ≤ 2 ^ (j + 1) := Nat.pow_le_pow_right (by decide) (by omega); simp [Ex.words]; omega
  | j, .var x, _ => by have : 2 ^ 1 ≤ 2 ^ (j + 1) := Nat.pow_le_pow_right (by decide) (by omega); simp [Ex.words]; omega
  | j, .press, _ => by have : 2 ^ 1 ≤ 2 ^ (j + 1) := Nat.pow_le_pow_right (by decide) (by omega); simp [Ex.words]; omega
  | 0, .op o a b, h => by unfold okEx at h; exact h.elim
  | j + 1, .op o a b, h => by
    unfold okEx at h
    have h1 := ex_len h.2.1
    have h2 := ex_len h.2.2
    simp only [Ex.words, List.length_cons, List.length_append]
    rw [Nat.pow_succ]; omega
theorem ex_len6 {nm : List Str} {pr : Bool} {j : Nat} {e : Ex} (h : okEx nm pr j e) (hj : j ≤ 5) : e.words.length ≤ 63 := by
  have h1 := ex_len h
  have h2 : 2 ^ (j + 1) ≤ 2 ^ 6 := Nat.pow_le_pow_right (by decide) (by omega)
  omega
end Rd
namespace K
open PySem PySem.Spec PyProof.Rows L2 Tk Hd Rd
section
variable {P : Program} {w : World} {K : PySem.W.Frag} {mg : Str → Option Value} {base : Heap}
def spVw (j : Nat) : Sp := fun vs H Q _ => ∃ (I : Hp) (v : V) (e : Ex) (nm : List Str) (pr : Bool), vs = [v] ∧ Same I H ∧ iEx I v e ∧ okEx nm pr j e ∧ j ≤ 5 ∧ ∀ I' H' v', Gr [] I H I' H' → iSs I' v' e.words → Q v' H'
def spVws : Nat → Sp
  | 0 => spNever
  | j + 1 => spVw j
theorem nat_log6 {n : Nat} (h : n ≤ 65535) : ((n : Int)).natAbs.log2 < 1920 := nat_log (by omega)
theorem sc__law_value_words : FnScope ["due"] ["due"] (defScope s__law_value_words) := ⟨rfl, rfl, rfl, by decide +kernel, rfl, by decide +kernel, by decide +kernel⟩
theorem ok_vw_step (D : Dt K mg) (j : Nat) (H__law_value_words : Has P w K mg base (j + 1) (He.ga K "_law_value_words") ["due"] [] (spVws j)) : Has P w K mg base (j + 2) (He.ga K "_law_value_words") ["due"] [] (spVw j) := by
  obtain ⟨fd, F⟩ := fd__law_value_words D
  refine hasN F (F.bindsN fun _ _ _ _ _ _ us hl => match us, hl with | [_], _ => rfl) sc__law_value_words (fun vs H Q E h => ?_) (fun cdv A outer s H vs Q E hr h => ?_)
  · obtain ⟨I, v, e, nm, pr, rfl, _⟩ := h; rfl
  · obtain ⟨I, v, e, nm, pr, rfl, s0, re, ok, hj, k⟩ := h
    refine ⟨_, (pss_cons (ps_if (pt_cmpR op_lt (pe_callB (call_lenK K) rfl (free_len D) PySem.boot_len (pa_cons (pv 0) pa_nil)) pe_int (nomark _))
      (pss_one (ps_ret (pe_lst (pa_cons (pe_callTy call_strAny rfl (free_str D) (by decide +kernel) (pa_cons (pe_ix (ix_tupK K) (pv 0) (pe_un un_neg pe_int) (fun _ _ => rfl)) pa_nil)) pa_nil))))
      pss_nil)
      (pss_one (ps_ret (pe_op op_cat (pe_op op_cat (pe_lst (pa_cons (pe_ix (ix_tupK K) (pv 0) pe_int (fun _ _ => rfl)) pa_nil)) (pe_callH H__law_value_words (hr.mono (by omega)) rfl (glo__law_value_words D) passL (pa_cons (pe_ix (ix_tupK K) (pv 0) pe_int (fun _ _ => rfl)) pa_nil))) (pe_callH H__law_value_words (hr.mono (by omega)) rfl (glo__law_value_words D) passL (pa_cons (pe_ix (ix_tupK K) (pv 0) pe_int (fun _ _ => rfl)) pa_nil)))))), ?_⟩
    cases e with
    | num n =>
      simp only [iEx, Ex.da] at re
      obtain ⟨t, vs, rfl, ht, r⟩ := dR_at re
      obtain ⟨v0, q0, rfl, h0, p0⟩ := dRs_c r
      obtain ⟨v1, q1, rfl, h1, p1⟩ := dRs_c p0
      obtain rfl := dRs_n p1
      obtain rfl := dR_i h1
      have ht' := s0 _ _ ht
      unfold okEx at ok
      refine ⟨_, rfl, _, _, rfl, .inr ⟨_, SqT.of ht', rfl⟩, _, _, rfl, rfl, _, rfl, ifT rfl ?_⟩
      refine ⟨_, rfl, _, rfl, t, _, _, .int (n : Int), rfl, rfl, SqT.of ht', rfl, .inl ⟨_, rfl, nat_log6 ok, (by show 1 ≤ sizeLine; decide), fun l hl => ?_⟩⟩
      exact k _ _ _ (Gr.new (o := .lst [.str (dec n)]) s0 hl) ⟨l, rfl, upd_same⟩
    | var x =>
      simp only [iEx, Ex.da] at re
      obtain ⟨t, vs, rfl, ht, r⟩ := dR_at re
      obtain ⟨v0, q0, rfl, h0, p0⟩ := dRs_c r
      obtain ⟨v1, q1, rfl, h1, p1⟩ := dRs_c p0
      obtain rfl := dRs_n p1
      obtain rfl := dR_s h1
      have ht' := s0 _ _ ht
      refine ⟨_, rfl, _, _, rfl, .inr ⟨_, SqT.of ht', rfl⟩, _, _, rfl, rfl, _, rfl, ifT rfl ?_⟩
      refine ⟨_, rfl, _, rfl, t, _, _, .str x, rfl, rfl, SqT.of ht', rfl, .inr ⟨_, rfl, (by show 1 ≤ sizeLine; decide), fun l hl => ?_⟩⟩
      exact k _ _ _ (Gr.new (o := .lst [.str x]) s0 hl) ⟨l, rfl, upd_same⟩
    | press =>
      simp only [iEx, Ex.da] at re
      obtain ⟨t, vs, rfl, ht, r⟩ := dR_at re
      obtain ⟨v0, q0, rfl, h0, p0⟩ := dRs_c r
      obtain rfl := dRs_n p0
      obtain rfl := dR_s h0
      have ht' := s0 _ _ ht
      refine ⟨_, rfl, _, _, rfl, .inr ⟨_, SqT.of ht', rfl⟩, _, _, rfl, rfl, _, rfl, ifT rfl ?_⟩
      refine ⟨_, rfl, _, rfl, t, _, _, .str (wd "press"), rfl, rfl, SqT.of ht', rfl, .inr ⟨_, rfl, (by show 1 ≤ sizeLine; decide), fun l hl => ?_⟩⟩
      exact k _ _ _ (Gr.new (o := .lst [.str (wd "press")]) s0 hl) ⟨l, rfl, upd_same⟩
    | op o a b =>
      cases j with
      | zero => unfold okEx at ok; exact ok.elim
      | succ j =>
        unfold okEx at ok
        simp only [iEx, Ex.da] at re
        obtain ⟨t, vs, rfl, ht, r⟩ := dR_at re
        obtain ⟨v0, q0, rfl, h0, p0⟩ := dRs_c r
        obtain ⟨v1, q1, rfl, h1, p1⟩ := dRs_c p0
        obtain ⟨v2, q2, rfl, h2, p2⟩ := dRs_c p1
        obtain rfl := dRs_n p2
        obtain rfl := dR_s h0
        have ht' := s0 _ _ ht
        have l1 := ex_len6 ok.2.1 (by omega)
        have l2 := ex_len6 ok.2.2 (by omega)
        refine ⟨_, rfl, _, _, rfl, .inr ⟨_, SqT.of ht', rfl⟩, _, _, rfl, rfl, _, rfl, ifF rfl ?_⟩
        (try unfold tNext)
        (try dsimp only)
        refine ⟨_, rfl, t, _, _, .str o, rfl, rfl, SqT.of ht', rfl, (by show 1 ≤ sizeLine; decide), fun a1 ha1 => ?_⟩
        have g1 := Gr.new (ms := []) (o := .lst [.str o]) s0 ha1
        refine ⟨_, rfl, t, _, _, v1, rfl, rfl, SqT.of (g1.ih _ _ (g1.ii _ _ ht)), rfl, _, v1, a, nm, pr, rfl, g1.ih, dR_up g1.ii _ _ h1, ok.2.1, by omega, fun I2 H2 x2 g2 r2 => ?_⟩
        obtain ⟨a2, rfl, ha2⟩ := r2
        refine ⟨a1, a2, _, _, rfl, rfl, g2.ih _ _ (g2.ii _ _ upd_same), g2.ih _ _ ha2, ?_, fun a3 ha3 => ?_⟩
        · rw [List.length_map]; exact le_line (by show 1 + a.words.length ≤ _; omega)
        have g3 := Gr.new (ms := []) (o := .lst ([.str o] ++ a.words.map V.str)) g2.ih ha3
        have g13 := (g1.trans g2).trans g3
        refine ⟨_, rfl, t, _, _, v2, rfl, rfl, SqT.of (g3.ih _ _ (g13.ii _ _ ht)), rfl, _, v2, b, nm, pr, rfl, g3.ih, dR_up g13.ii _ _ h2, ok.2.2, by omega, fun I4 H4 x4 g4 r4 => ?_⟩
        obtain ⟨a4, rfl, ha4⟩ := r4
        refine ⟨a3, a4, _, _, rfl, rfl, g4.ih _ _ (g4.ii _ _ upd_same), g4.ih _ _ ha4, ?_, fun a5 ha5 => ?_⟩
        · rw [List.length_append, List.length_map, List.length_map]; exact le_line (by show 1 + a.words.length + b.words.length ≤ _; omega)
        have g5 := Gr.new (ms := []) (o := .lst ([.str o] ++ a.words.map V.str ++ b.words.map V.str)) g4.ih ha5
        refine k _ _ _ ((g13.trans g4).trans g5) ⟨a5, rfl, ?_⟩
        rw [upd_same]; simp [Ex.words]
theorem ok_vw' (D : Dt K mg) : ∀ j, Has P w K mg base (j + 1) (He.ga K "_law_value_words") ["due"] [] (spVws j)
  | 0 => by
    obtain ⟨fd, F⟩ := fd__law_value_words D
    exact has_never F (F.bindsN fun _ _ _ _ _ _ us hl => match us, hl with | [_], _ => rfl)
  | j + 1 => ok_vw_step D j (ok_vw' D j)
theorem ok_vw (D : Dt K mg) (j : Nat) : Has P w K mg base (j + 2) (He.ga K "_law_value_words") ["due"] [] (spVw j) := ok_vw' D (j + 1)
end
end K

set_option Elab.async false
set_option linter.all false
set_option maxRecDepth 100000
set_option maxHeartbeats 4000000
namespace Rd
open PySem PyProof.Rows TL
/-- up to eight small letters -/
def lowS (x : Str) : Bool := decide (x.length ≤ 8) && (decide (tl x ≠ []) && (tl x).all isLow)
def ten : List Str := ["x", "y", "z", "ended", "i", "uses", "starts", "says", "presses", "abcdefgh"]
def six : List Str := ["aa", "bb", "cc", "dd", "ee", "ff"]
theorem ten_low : ∀ x ∈ ten, lowS x = true := by decide +kernel
theorem six_name : ∀ x ∈ six, isName x = true := by decide +kernel
theorem q_name : isName (wd "q") = true := by decide +kernel
theorem low_name {x : Str} (h : lowS x = true) (n : x ∉ resv) : isName x = true := by
  unfold lowS at h
  unfold isName
  simp only [Bool.and_eq_true] at h ⊢
  exact ⟨⟨h.1, by simpa using n⟩, h.2⟩
def pickN (ns : List Str) : List Str → Str → Str
  | [], x => x
  | o :: os, x => pickN ns os (if x ∈ ns then o else x)
theorem pick_in {ns : List Str} : ∀ {os : List Str} {x : Str}, pickN ns os x ∈ ns → x ∈ ns ∧ ∀ o ∈ os, o ∈ ns
  | [], x, h => ⟨h, fun _ z => by simp at z⟩
  | o :: os, x, h => by
    unfold pickN at h
    obtain ⟨h1, h2⟩ := pick_in h
    by_cases hx : x ∈ ns
    · rw [if_pos hx] at h1
      exact ⟨hx, fun y hy => (List.mem_cons.mp hy).elim (fun e => e ▸ h1) (h2 y)⟩
    · rw [if_neg hx] at h1; exact (hx h1).elim
theorem nodup_le : ∀ {os ns : List Str}, os.Nodup → (∀ o ∈ os, o ∈ ns) → os.length ≤ ns.length
  | [], _, _, _ => Nat.zero_le _
  | o :: os, ns, h, k => by
    rw [List.nodup_cons] at h
    have ho := k o (by simp)
    have h1 : os.length ≤ (ns.erase o).length := nodup_le h.2 fun y hy => (List.mem_erase_of_ne (fun e => h.1 (by rw [← e]; exact hy))).mpr (k y (by simp [hy]))
    have h2 := List.length_erase_of_mem ho
    have h3 : 0 < ns.length := List.length_pos_of_mem ho
    simp only [List.length_cons]; omega
theorem six_out {ns : List Str} {x : Str} (h : ns.length < 6) : pickN ns six x ∉ ns := fun z => by
  have := nodup_le (os := six) (by decide +kernel) (pick_in z).2
  have e : six.length = 6 := rfl
  omega
theorem low_snoc {x : Str} {m j : Nat} (hm : m < 26) (hl : x.length = j) (ha : (tl x).all isLow = true) : (x ++ (⟨#[97 + m]⟩ : Str)).length = j + 1 ∧ (tl (x ++ (⟨#[97 + m]⟩ : Str))).all isLow = true := by
  have e : tl (⟨#[97 + m]⟩ : Str) = [97 + m] := rfl
  rw [len_tl] at hl
  refine ⟨by rw [len_tl, tl_append, e, List.length_append, hl]; rfl, ?_⟩
  rw [tl_append, e, List.all_append, ha]
  simp only [List.all_cons, List.all_nil, Bool.and_true, Bool.true_and]
  exact isLow_iff.mpr (by omega)
structure NmsOk (ns : List Str) : Prop where
  nd : ns.Nodup
  nm : ∀ x ∈ ns, isName x = true
theorem NmsOk.snoc {ns : List Str} {x : Str} (h : NmsOk ns) (hx : isName x = true) (n : x ∉ ns) : NmsOk (ns ++ [x]) :=
  ⟨by rw [List.nodup_append]; exact ⟨h.nd, by simp, fun a ha b hb e => by rw [List.mem_singleton] at hb; subst hb; subst e; exact n ha⟩, fun y hy => (List.mem_append.mp hy).elim (h.nm y) (fun z => by rw [List.mem_singleton] at z; subst z; exact hx)⟩
end Rd
namespace K
open PySem PySem.Spec PyProof.Rows L2 Tk Hd Rd TL
section
variable {P : Program} {w : World} {K : PySem.W.Frag} {mg : Str → Option Value} {base : Heap}
/-- a list of words of one's own, under way -/
structure Wsl (I H : Hp) (p : Addr) (I' H' : Hp) (l : Addr) (ws : List Str) : Prop where
  g : Gr [p] I H I' H'
  po : PoolOk I' H' p
  il : I' l = none
  h0 : H l = none
  np : p ≠ l
  hl : H' l = some (.lst (ws.map V.str))
section
variable {I H I' H' I2 H2 : Hp} {p l t : Addr} {ws : List Str}
theorem pool_ne (po : PoolOk I' H' p) (h : H' l = none) : p ≠ l := fun z => by
  obtain ⟨_, c, cells, pos, b, sd, lf, bd, _, _, _, hp⟩ := po
  rw [← z, hp] at h; cases h
theorem Wsl.new {vs : List V} (g : Gr [p] I H I' H') (po : PoolOk I' H' p) (h : H' l = none) (e : vs = ws.map V.str) : Wsl I H p I' (upd H' l (.lst vs)) l ws := by
  subst e
  exact ⟨g.trans (Gr.tmp g.ih h), po.up (ms := []) (Gr.tmp g.ih h) (by simp), g.ih.free h, g.none h, pool_ne po h, upd_same⟩
theorem Wsl.step (w : Wsl I H p I' H' l ws) (g2 : Gr [p] I' H' I2 H2) (po2 : PoolOk I2 H2 p) : Wsl I H p I2 H2 l ws :=
  ⟨w.g.trans g2, po2, g2.out w.il w.hl, w.h0, w.np, g2.at w.hl (by simpa using w.np.symm)⟩
theorem Wsl.step0 (w : Wsl I H p I' H' l ws) (g2 : Gr [] I' H' I2 H2) : Wsl I H p I2 H2 l ws := w.step g2.nil (w.po.up g2 (by simp))
theorem Wsl.push (w : Wsl I H p I' H' l ws) (x : Str) : Wsl I H p I' (upd H' l (.lst (ws.map V.str ++ [.str x]))) l (ws ++ [x]) := by
  have g1 : Gr [l] I' H' I' (upd H' l (.lst (ws.map V.str ++ [.str x]))) := Gr.mut w.g.ih w.il (by simp)
  have g2 : Gr [l, p] I H I' (upd H' l (.lst (ws.map V.str ++ [.str x]))) := (w.g.mono fun _ z => List.mem_cons_of_mem _ z).trans (g1.mono fun a z => by simp at z; simp [z])
  exact ⟨g2.drop w.h0, w.po.up g1 (by simpa using w.np), w.il, w.h0, w.np, by rw [upd_same]; simp⟩
theorem Wsl.put {vs : List V} {ws2 : List Str} (w : Wsl I H p I' H' l ws) (e : vs = ws2.map V.str) : Wsl I H p I' (upd H' l (.lst vs)) l ws2 := by
  have g1 : Gr [l] I' H' I' (upd H' l (.lst vs)) := Gr.mut w.g.ih w.il (by simp)
  have g2 : Gr [l, p] I H I' (upd H' l (.lst vs)) := (w.g.mono fun _ z => List.mem_cons_of_mem _ z).trans (g1.mono fun a z => by simp at z; simp [z])
  exact ⟨g2.drop w.h0, w.po.up g1 (by simpa using w.np), w.il, w.h0, w.np, by rw [upd_same, e]⟩
theorem Wsl.freeze (w : Wsl I H p I' H' l ws) (s0 : Same I H) : ∃ I2, Gr [p] I H I2 H' ∧ PoolOk I2 H' p ∧ I2 l = some (.lst (ws.map V.str)) := by
  have g1 : Gr [l, p] I H I' H' := w.g.mono fun _ z => List.mem_cons_of_mem _ z
  have g2 := g1.frz s0 w.h0 w.hl
  have po2 : PoolOk (upd I' l (.lst (ws.map V.str))) H' p := by
    obtain ⟨i, c, cells, pos, b, sd, lf, bd, h1, h2, h3, h5⟩ := w.po
    exact ⟨by rw [upd_ne w.np]; exact i, c, cells, pos, b, sd, lf, bd, sNew w.il _ _ h1, h2, h3, h5⟩
  exact ⟨_, g2, po2, upd_same⟩
end
theorem abc_at {m : Nat} (h : m < 26) : atI (Str.cps ("abcdefghijklmnopqrstuvwxyz" : Str)).toList (m : Int) = some (97 + m) := by
  have : ∀ m : Nat, m < 26 → atI (Str.cps ("abcdefghijklmnopqrstuvwxyz" : Str)).toList (m : Int) = some (97 + m) := by decide +kernel
  exact this m h
def spNames : Sp := fun vs H Q _ => ∃ (I : Hp) (p : Addr) (n : Nat), vs = [.ref p, .int (n : Int)] ∧ Same I H ∧ PoolOk I H p ∧ n ≤ 4 ∧
  ∀ I' H' L ns, Gr [p] I H I' H' → PoolOk I' H' p → I' L = some (.lst (ns.map V.str)) → ns.length = n → NmsOk ns → Q (.ref L) H'
theorem sc__law_names : FnScope ["pool", "count", "names", "k", "name", "turn", "other"] ["pool", "count"] (defScope s__law_names) := ⟨rfl, rfl, rfl, by decide +kernel, rfl, by decide +kernel, by decide +kernel⟩
theorem ok_names (D : Dt K mg) : Has P w K mg base 2 (He.ga K "_law_names") ["pool", "count"] [] (spNames) := by
  obtain ⟨fd, F⟩ := fd__law_names D
  have H__law_draw := ok_draw (P := P) (w := w) (base := base) D
  refine hasN F (F.bindsN fun _ _ _ _ _ _ us hl => match us, hl with | [_, _], _ => rfl) sc__law_names (fun vs H Q E h => ?_) (fun cdv A outer s H vs Q E hr h => ?_)
  · obtain ⟨I, p, n, rfl, _⟩ := h; rfl
  · obtain ⟨I, p, n, rfl, s0, po, hn, k⟩ := h
    refine ⟨_, (pss_cons (ps_set (i := 2) sc__law_names.nd rfl (Or.inl rfl) (pe_lst pa_nil))
      (pss_cons (ps_for PassesOwn.never rfl (pi_range1 rfl (free_range D) (pa_cons (pv 1) pa_nil)) (pg_name (i := 3) sc__law_names.nd rfl (Or.inl rfl))
      (pss_cons (ps_set (i := 4) sc__law_names.nd rfl (Or.inl rfl) (pe_ix (ix_tupK K) (pe_tup (pa_cons pe_str (pa_cons pe_str (pa_cons pe_str (pa_cons pe_str (pa_cons pe_str (pa_cons pe_str (pa_cons pe_str (pa_cons pe_str (pa_cons pe_str (pa_cons pe_str pa_nil))))))))))) (pe_callH H__law_draw (hr.mono (by omega)) rfl (glo__law_draw D) passL (pa_cons (pv 0) (pa_cons pe_int pa_nil))) (fun _ _ => rfl)))
      (pss_cons (ps_if (pt_cmpR op_eq (pe_callH H__law_draw (hr.mono (by omega)) rfl (glo__law_draw D) passL (pa_cons (pv 0) (pa_cons pe_int pa_nil))) pe_int (nomark _))
      (pss_cons (ps_set (i := 4) sc__law_names.nd rfl (Or.inl rfl) pe_str)
      (pss_one (ps_for PassesOwn.never rfl (pi_range1 rfl (free_range D) (pa_cons (pe_op op_add pe_int (pe_callH H__law_draw (hr.mono (by omega)) rfl (glo__law_draw D) passL (pa_cons (pv 0) (pa_cons pe_int pa_nil)))) pa_nil)) (pg_name (i := 5) sc__law_names.nd rfl (Or.inl rfl))
      (pss_one (ps_set (i := 4) sc__law_names.nd rfl (Or.inl rfl) (pe_op op_add_str (pv 4) (pe_ix ix_str pe_str (pe_callH H__law_draw (hr.mono (by omega)) rfl (glo__law_draw D) passL (pa_cons (pv 0) (pa_cons pe_int pa_nil))) (fun _ _ => rfl))))))))
      pss_nil)
      (pss_cons (ps_if (pt_cmpR (op_in_seqK K) (pv 4) (pe_tup (pa_cons pe_str (pa_cons pe_str (pa_cons pe_str (pa_cons pe_str (pa_cons pe_str (pa_cons pe_str (pa_cons pe_str (pa_cons pe_str (pa_cons pe_str (pa_cons pe_str (pa_cons pe_str (pa_cons pe_str (pa_cons pe_str pa_nil)))))))))))))) rfl)
      (pss_one (ps_set (i := 4) sc__law_names.nd rfl (Or.inl rfl) pe_str))
      pss_nil)
      (pss_cons (ps_for PassesOwn.never rfl (pi_tupK K (pe_tup (pa_cons pe_str (pa_cons pe_str (pa_cons pe_str (pa_cons pe_str (pa_cons pe_str (pa_cons pe_str pa_nil)))))))) (pg_name (i := 6) sc__law_names.nd rfl (Or.inl rfl))
      (pss_one (ps_if (pt_cmpR (op_in_seqK K) (pv 4) (pv 2) rfl)
      (pss_one (ps_set (i := 4) sc__law_names.nd rfl (Or.inl rfl) (pv 6)))
      pss_nil)))
      (pss_one (ps_expr (pe_bm PySem.F.plainAttrs_list PySem.F.slot_list_append PySem.F.type_list_append mt_append (pv 2) (pa_cons (pv 4) pa_nil)))))))))
      (pss_one (ps_ret (pv 2))))), ?_⟩
    refine ⟨(by show 0 ≤ sizeLine; decide), fun L hL => ?_⟩
    have w1 : Wsl I H p I (upd H L (.lst [])) L [] := Wsl.new (Gr.refl s0) po hL rfl
    (try dsimp only)
    refine seq_cut (fun σ' H' => ∃ I' kv v4 v5 v6 ns, σ' = [some (.ref p), some (.int (n : Int)), some (.ref L), kv, v4, v5, v6] ∧ Wsl I H p I' H' L ns ∧ ns.length = n ∧ NmsOk ns) (fun nx q => ?_) ?_
    · refine ⟨_, rfl, _, rfl, by omega, by omega, ?_⟩
      refine for_rangeP (n := n) (fun σ' H' => ∃ I' kv v4 v5 v6 ns, σ' = [some (.ref p), some (.int (n : Int)), some (.ref L), kv, v4, v5, v6] ∧ Wsl I H p I' H' L ns ∧ ns.length = n ∧ NmsOk ns)
        (fun i σ' H' => ∃ I' kv v4 v5 v6 ns, σ' = [some (.ref p), some (.int (n : Int)), some (.ref L), kv, v4, v5, v6] ∧ Wsl I H p I' H' L ns ∧ ns.length = i ∧ NmsOk ns)
        ⟨I, none, none, none, none, [], rfl, w1, rfl, ⟨by simp, by simp⟩⟩ (fun nx q i σ' H2 hi h => ?_) (fun σ' H' h => h) q
      clear w1
      obtain ⟨I2, kv, v4, v5, v6, ns, rfl, w1, hns, ok⟩ := h
      refine seq_cut (fun σ' H' => ∃ I' x, σ' = [some (.ref p), some (.int (n : Int)), some (.ref L), some (.int ((0 : Int) + i)), some (.str x), v5, v6] ∧ Wsl I H p I' H' L ns ∧ lowS x = true) (fun nx q => ?_) ?_
      · refine ⟨(by show 10 ≤ sizeLine; decide), fun t ht => ?_⟩
        have w2 := w1.step0 (Gr.new (o := .tup (ten.map V.str)) w1.g.ih ht)
        refine ⟨_, rfl, _, p, 10, rfl, w2.g.ih, w2.po, by decide, by decide, fun v H3 b0 b1 g3 po3 => ?_⟩
        obtain ⟨sn, rfl⟩ := Int.eq_ofNat_of_zero_le b0
        have w3 := w2.step g3 po3
        obtain ⟨x, hx, e⟩ := pick_str (l := ten) (n := sn) (by show sn < 10; omega)
        exact ⟨t, _, _, .str x, rfl, rfl, SqT.of (g3.ih _ _ upd_same), at_of (j := sn) rfl e, q _ _ ⟨_, x, rfl, w3, ten_low x hx⟩⟩
      rintro σ' H3 ⟨I3, x, rfl, w3, hx⟩
      (try dsimp only)
      refine seq_cut (fun σ' H' => ∃ I' x v5, σ' = [some (.ref p), some (.int (n : Int)), some (.ref L), some (.int ((0 : Int) + i)), some (.str x), v5, v6] ∧ Wsl I H p I' H' L ns ∧ lowS x = true) (fun nx q => ?_) ?_
      · refine ⟨_, rfl, _, p, 3, rfl, w3.g.ih, w3.po, by decide, by decide, fun v H4 a0 a1 g4 po4 => ⟨rfl, _, rfl, ifB (fun _ => ?_) (fun _ => q _ _ ⟨_, x, _, rfl, w3.step g4 po4, hx⟩)⟩⟩
        have w4 := w3.step g4 po4
        (try dsimp only)
        refine ⟨_, rfl, _, p, 8, rfl, w4.g.ih, w4.po, by decide, by decide, fun v8 H5 b0 b1 g5 po5 => ?_⟩
        obtain ⟨m8, rfl⟩ := Int.eq_ofNat_of_zero_le b0
        have w5 := w4.step g5 po5
        refine ⟨_, _, rfl, rfl, _, rfl, by omega, by omega, ?_⟩
        refine for_rangeP (n := 1 + m8) (fun σ' H' => ∃ I' x v5, σ' = [some (.ref p), some (.int (n : Int)), some (.ref L), some (.int ((0 : Int) + i)), some (.str x), v5, v6] ∧ Wsl I H p I' H' L ns ∧ lowS x = true)
          (fun j σ' H' => ∃ I' x v5, σ' = [some (.ref p), some (.int (n : Int)), some (.ref L), some (.int ((0 : Int) + i)), some (.str x), v5, v6] ∧ Wsl I H p I' H' L ns ∧ x.length = j ∧ (tl x).all isLow = true)
          ⟨_, Str.empty, _, rfl, w5, rfl, rfl⟩ (fun nx2 q2 j σ' H6 hj h => ?_) (fun σ' H' h => ?_) q
        · obtain ⟨I6, y, v5', rfl, w6, hy, hy2⟩ := h
          refine ⟨_, rfl, _, rfl, _, p, 26, rfl, w6.g.ih, w6.po, by decide, by decide, fun m H7 c0 c1 g7 po7 => ?_⟩
          obtain ⟨m, rfl⟩ := Int.eq_ofNat_of_zero_le c0
          have hm : m < 26 := by omega
          have hz := low_snoc hm hy hy2
          refine ⟨"abcdefghijklmnopqrstuvwxyz", _, 97 + m, rfl, rfl, (by decide +kernel), abc_at hm, y, _, rfl, rfl, ?_, ?_⟩
          · rw [hy]; exact le_line (by show j + 1 ≤ _; omega)
          · exact ⟨_, _, _, rfl, w6.step g7 po7, hz.1, hz.2⟩
        · obtain ⟨I6, y, v5', rfl, w6, hy, hy2⟩ := h
          refine ⟨_, y, _, rfl, w6, ?_⟩
          unfold lowS
          rw [hy2, Bool.and_true, decide_eq_true (show y.length ≤ 8 by omega), decide_eq_true (show tl y ≠ [] from fun z => by rw [len_tl, z] at hy; simp at hy; omega)]; rfl
      clear w3 hx x v5
      rintro σ' H3 ⟨I3, x, v5, rfl, w3, hx⟩
      (try dsimp only)
      refine seq_cut (fun σ' H' => ∃ I' x, σ' = [some (.ref p), some (.int (n : Int)), some (.ref L), some (.int ((0 : Int) + i)), some (.str x), v5, v6] ∧ Wsl I H p I' H' L ns ∧ isName x = true) (fun nx q => ?_) ?_
      · refine ⟨_, rfl, (by show 13 ≤ sizeLine; decide), fun t ht => ⟨t, resv.map V.str, rfl, .inr (SqT.of upd_same), rfl, flat_strs resv, _, rfl, ?_⟩⟩
        have w4 := w3.step0 (Gr.new (o := .tup (resv.map V.str)) w3.g.ih ht)
        rw [if_neg Bool.false_ne_true, inV_strs]
        refine ifD (fun q1 => ?_) (fun q1 => ?_)
        · exact q _ _ ⟨_, _, rfl, w4, q_name⟩
        · exact q _ _ ⟨_, x, rfl, w4, low_name hx q1⟩
      clear w3 hx x
      rintro σ' H3 ⟨I3, x, rfl, w3, hx⟩
      (try dsimp only)
      refine seq_cut (fun σ' H' => ∃ I' x v6, σ' = [some (.ref p), some (.int (n : Int)), some (.ref L), some (.int ((0 : Int) + i)), some (.str x), v5, v6] ∧ Wsl I H p I' H' L ns ∧ isName x = true ∧ x ∉ ns) (fun nx q => ?_) ?_
      · refine ⟨(by show 6 ≤ sizeLine; decide), fun t ht => ⟨t, rfl, ⟨_, SqT.of upd_same⟩, ?_⟩⟩
        have g4 := Gr.new (ms := []) (o := .tup (six.map V.str)) w3.g.ih ht
        have w4 := w3.step0 g4
        refine for_wk (wk_tup (I := upd I3 t (.tup (six.map V.str))) (vs := six.map V.str) upd_same)
          (fun σ' H' => ∃ I' x v6, σ' = [some (.ref p), some (.int (n : Int)), some (.ref L), some (.int ((0 : Int) + i)), some (.str x), v5, v6] ∧ Wsl I H p I' H' L ns ∧ isName x = true ∧ x ∉ ns)
          (fun j σ' H' => ∃ y v6, σ' = [some (.ref p), some (.int (n : Int)), some (.ref L), some (.int ((0 : Int) + i)), some (.str y), v5, v6] ∧ H' = upd H3 t (.tup (six.map V.str)) ∧ isName y = true ∧ pickN ns (six.drop j) y = pickN ns six x)
          (fun j σ' H' h => by obtain ⟨y, v6, _, rfl, _⟩ := h; exact w4.g.ih)
          ⟨x, _, rfl, rfl, hx, rfl⟩ (fun nx2 q2 j σ' H5 hj h => ?_) (fun σ' H' h => ?_) q
        · obtain ⟨y, v6, rfl, rfl, hy, hp⟩ := h
          have hj6 : j < six.length := by simpa using hj
          have e1 : gv (six.map V.str) j = .str six[j] := by unfold gv; simp [List.getElem?_map, List.getElem?_eq_getElem hj6]
          have e2 : six.drop j = six[j] :: six.drop (j + 1) := List.drop_eq_getElem_cons hj6
          rw [e2] at hp
          rw [e1]
          refine ⟨_, rfl, _, rfl, L, _, rfl, .inl (SqL.of w4.hl), rfl, flat_strs ns, _, rfl, ?_⟩
          rw [if_neg Bool.false_ne_true, inV_strs]
          unfold pickN at hp
          refine ifD (fun q1 => ?_) (fun q1 => ?_)
          · rw [if_pos q1] at hp
            exact ⟨_, rfl, _, _, rfl, rfl, six_name _ (List.getElem_mem hj6), hp⟩
          · rw [if_neg q1] at hp
            exact ⟨_, _, rfl, rfl, hy, hp⟩
        · obtain ⟨y, v6, rfl, rfl, hy, hp⟩ := h
          have e : six.drop (six.map V.str).length = [] := by rw [List.length_map, List.drop_length]
          rw [e] at hp
          have hp' : y = pickN ns six x := hp
          refine ⟨_, y, _, rfl, w4, hy, ?_⟩
          rw [hp']; exact six_out (by omega)
      clear w3 hx x v6
      rintro σ' H3 ⟨I3, x, v6, rfl, w3, hx, hnx⟩
      (try dsimp only)
      refine ⟨_, rfl, .inl ⟨rfl, _, SqL.of w3.hl⟩, _, rfl, L, _, _, rfl, rfl, w3.hl, (by rw [List.length_map]; exact lt_sl (by omega)), ?_⟩
      exact ⟨_, _, _, _, _, _, rfl, w3.push x, by rw [List.length_append, hns]; rfl, ok.snoc hx hnx⟩
    clear w1
    rintro σ' H' ⟨I', kv, v4, v5, v6, ns, rfl, w9, hl, ok⟩
    obtain ⟨I2, g2, po2, h2⟩ := w9.freeze s0
    exact ⟨_, rfl, k _ _ L ns g2 po2 h2 hl ok⟩
end
end K

set_option Elab.async false
set_option linter.all false
set_option maxRecDepth 100000
set_option maxHeartbeats 4000000
namespace Rd
open PySem PyProof.Rows TL
def stB : Nat → Nat
  | 0 => 70
  | k + 1 => 70 + 5 * stB k
theorem stB_ge (k : Nat) : 70 ≤ stB k := by cases k <;> simp [stB]
theorem okEx_le {nm : List Str} {pr : Bool} : ∀ {j k : Nat} {e : Ex}, okEx nm pr j e → j ≤ k → okEx nm pr k e
  | j, k, .num n, h, _ => by unfold okEx at h ⊢; exact h
  | j, k, .var x, h, _ => by unfold okEx at h ⊢; exact h
  | j, k, .press, h, _ => by unfold okEx at h ⊢; exact h
  | 0, k, .op o a b, h, _ => by unfold okEx at h; exact h.elim
  | j + 1, 0, .op o a b, h, l => by omega
  | j + 1, k + 1, .op o a b, h, l => by unfold okEx at h ⊢; exact ⟨h.1, okEx_le h.2.1 (by omega), okEx_le h.2.2 (by omega)⟩
end Rd
namespace K
open PySem PySem.Spec PyProof.Rows L2 Tk Hd Rd
section
variable {P : Program} {w : World} {K : PySem.W.Frag} {mg : Str → Option Value} {base : Heap}
/-- the scope that a block is drawn in -/
def scK (L E : Addr) (d u : Nat) : List (Key × V) := [(.inr "names", .ref L), (.inr "extra", .ref E), (.inr "draws", .int (d : Int)), (.inr "uses", .int (u : Int)), (.inr "results", .int 6)]
section
variable {L E : Addr} {d u : Nat}
theorem sc_names : valV (scK L E d u) (.inr "names") = some (.ref L) := by kernel_rfl
theorem sc_extra : valV (scK L E d u) (.inr "extra") = some (.ref E) := by kernel_rfl
theorem sc_draws : valV (scK L E d u) (.inr "draws") = some (.int (d : Int)) := by kernel_rfl
theorem sc_uses : valV (scK L E d u) (.inr "uses") = some (.int (u : Int)) := by kernel_rfl
theorem sc_results : valV (scK L E d u) (.inr "results") = some (.int 6) := by kernel_rfl
theorem sp_draws : putK (scK L E (d + 1) u) (.inr "draws") (.int (d : Int)) = scK L E d u := by kernel_rfl
theorem sp_uses : putK (scK L E d (u + 1)) (.inr "uses") (.int (u : Int)) = scK L E d u := by kernel_rfl
theorem sp_extra {F : Addr} : putK (scK L E d u) (.inr "extra") (.ref F) = scK L F d u := by kernel_rfl
theorem sc_len : (scK L E d u).length < sizeLine := by show 5 < sizeLine; decide
end
structure Sw (I H : Hp) (p s : Addr) (I' H' : Hp) (L E : Addr) (d u : Nat) : Prop where
  g : Gr [p, s] I H I' H'
  po : PoolOk I' H' p
  il : I' s = none
  np : p ≠ s
  hs : H' s = some (.dK (scK L E d u))
section
variable {I H I' H' I2 H2 : Hp} {p s L E : Addr} {d u d2 u2 : Nat}
theorem Sw.step (w : Sw I H p s I' H' L E d u) (g2 : Gr [p] I' H' I2 H2) (po2 : PoolOk I2 H2 p) : Sw I H p s I2 H2 L E d u :=
  ⟨w.g.trans (g2.mono fun a z => by simp at z; simp [z]), po2, g2.out w.il w.hs, w.np, g2.at w.hs (by simpa using w.np.symm)⟩
theorem Sw.step0 (w : Sw I H p s I' H' L E d u) (g2 : Gr [] I' H' I2 H2) : Sw I H p s I2 H2 L E d u := w.step g2.nil (w.po.up g2 (by simp))
theorem Sw.put (w : Sw I H p s I' H' L E d u) {kvs : List (Key × V)} {F : Addr} (e : kvs = scK L F d2 u2) : Sw I H p s I' (upd H' s (.dK kvs)) L F d2 u2 := by
  subst e
  have g1 : Gr [s] I' H' I' (upd H' s (.dK (scK L F d2 u2))) := Gr.mut w.g.ih w.il (by simp)
  exact ⟨w.g.trans (g1.mono fun a z => by simp at z; simp [z]), w.po.up g1 (by simpa using w.np), w.il, w.np, upd_same⟩
theorem Sw.trans (w : Sw I H p s I' H' L E d u) (w2 : Sw I' H' p s I2 H2 L E d2 u2) : Sw I H p s I2 H2 L E d2 u2 := ⟨w.g.trans w2.g, w2.po, w2.il, w2.np, w2.hs⟩
theorem Sw.self (w : Sw I H p s I' H' L E d u) : Sw I' H' p s I' H' L E d u := ⟨Gr.refl w.g.ih, w.po, w.il, w.np, w.hs⟩
theorem Sw.names (w : Sw I H p s I' H' L E d u) : DGet H' s (.str "names") (some (.ref L)) := by have := DGet.k (k := Sum.inr "names") w.hs; rw [sc_names] at this; exact this
theorem Sw.extra (w : Sw I H p s I' H' L E d u) : DGet H' s (.str "extra") (some (.ref E)) := by have := DGet.k (k := Sum.inr "extra") w.hs; rw [sc_extra] at this; exact this
theorem Sw.draws (w : Sw I H p s I' H' L E d u) : DGet H' s (.str "draws") (some (.int (d : Int))) := by have := DGet.k (k := Sum.inr "draws") w.hs; rw [sc_draws] at this; exact this
theorem Sw.uses (w : Sw I H p s I' H' L E d u) : DGet H' s (.str "uses") (some (.int (u : Int))) := by have := DGet.k (k := Sum.inr "uses") w.hs; rw [sc_uses] at this; exact this
theorem Sw.results (w : Sw I H p s I' H' L E d u) : DGet H' s (.str "results") (some (.int 6)) := by have := DGet.k (k := Sum.inr "results") w.hs; rw [sc_results] at this; exact this
end
/-- what the drawing of a statement finds -/
structure Fnd (I : Hp) (L E : Addr) (nm ex : List Str) (pr ar : Bool) (d u : Nat) : Prop where
  hL : I L = some (.lst (nm.map V.str))
  hE : I E = some (.lst (ex.map V.str))
  ex : ex = if pr = true then [wd "press"] else []
  no : NmsOk nm
  nl : nm.length ≤ 4
  ar : 0 < u → ar = true
theorem Fnd.up {I I' : Hp} {L E : Addr} {nm ex : List Str} {pr ar : Bool} {d u d2 u2 : Nat} (f : Fnd I L E nm ex pr ar d u) (s : Same I I') (h : u2 ≤ u) : Fnd I' L E nm ex pr ar d2 u2 :=
  ⟨s _ _ f.hL, s _ _ f.hE, f.ex, f.no, f.nl, fun z => f.ar (by omega)⟩
theorem Fnd.ns {I : Hp} {L E : Addr} {nm ex : List Str} {pr ar : Bool} {d u : Nat} (f : Fnd I L E nm ex pr ar d u) : NsOk nm pr (nm ++ ex) := by
  intro x hx
  have np : x ∈ nm → x ≠ ("press" : Str) := fun h e => (name_facts (f.no.nm x h)).2.1 (by rw [e]; exact press_resv)
  rcases List.mem_append.mp hx with h | h
  · rw [if_neg (np h)]; exact h
  · rw [f.ex] at h
    cases pr with
    | true => rw [if_pos rfl, List.mem_singleton] at h; rw [if_pos (show x = ("press" : Str) from h)]
    | false => simp at h
theorem Fnd.el {I : Hp} {L E : Addr} {nm ex : List Str} {pr ar : Bool} {d u : Nat} (f : Fnd I L E nm ex pr ar d u) : ex.length ≤ 1 := by
  rw [f.ex]; split <;> simp
def oSt (I : Hp) (v : V) : Option Stm → Prop
  | none => v = .non
  | some st => dR I v (st.da Da.tup)
structure StR (nm : List Str) (pr ar : Bool) (k d u d2 u2 : Nat) (o : Option Stm) : Prop where
  dl : d2 ≤ d
  ul : u2 ≤ u
  ok : ∀ st, o = some st → okSt nm pr ar k st ∧ d2 + nd st ≤ d ∧ u2 + nu st ≤ u ∧ st.words.length ≤ stB k
structure BlR (nm : List Str) (pr ar : Bool) (k n d u d2 u2 : Nat) (l : List Stm) : Prop where
  ok : okBl nm pr ar k l
  dl : d2 + nds l ≤ d
  ul : u2 + nus l ≤ u
  w : (blockWords l).length ≤ n * stB k
  n : l.length ≤ n
def spSt (K : PySem.W.Frag) (k : Nat) : Sp := fun vs H Q _ => ∃ (I : Hp) (p s L E : Addr) (nm ex : List Str) (pr ar : Bool) (d u : Nat), vs = [.ref p, .ref s, .int (k : Int)] ∧ Sw I H p s I H L E d u ∧ Fnd I L E nm ex pr ar d u ∧
  ∀ I' H' v o d2 u2, Sw I H p s I' H' L E d2 u2 → oSt I' v o → StR nm pr ar k d u d2 u2 o → Q v H'
def spBl (K : PySem.W.Frag) (k : Nat) : Sp := fun vs H Q _ => ∃ (I : Hp) (p s L E : Addr) (nm ex : List Str) (pr ar : Bool) (d u n : Nat), vs = [.ref p, .ref s, .int (k : Int), .int (n : Int)] ∧ Sw I H p s I H L E d u ∧ Fnd I L E nm ex pr ar d u ∧ n ≤ 6 ∧
  ∀ I' H' v l d2 u2, Sw I H p s I' H' L E d2 u2 → dR I' v (.tup (blockDa Da.tup l)) → BlR nm pr ar k n d u d2 u2 l → Q v H'
def spBls (K : PySem.W.Frag) : Nat → Sp
  | 0 => spNever
  | j + 1 => spBl K j
theorem sc__law_statement : FnScope ["pool", "scope", "room", "kind", "names", "every", "test", "then"] ["pool", "scope", "room"] (defScope s__law_statement) := ⟨rfl, rfl, rfl, by decide +kernel, rfl, by decide +kernel, by decide +kernel⟩
theorem ok_st_step (D : Dt K mg) (k : Nat) (H__law_block : Has P w K mg base (2 * k + 8) (He.ga K "_law_block") ["pool", "scope", "room", "upper"] [] (spBls K k)) : Has P w K mg base (2 * k + 9) (He.ga K "_law_statement") ["pool", "scope", "room"] [] (spSt K k) := by
  obtain ⟨fd, F⟩ := fd__law_statement D
  have H__law_draw := ok_draw (P := P) (w := w) (base := base) D
  have H__law_value := ok_val (P := P) (w := w) (base := base) D 2
  have H__law_value4 := ok_val (P := P) (w := w) (base := base) D 4
  refine hasN F (F.bindsN fun _ _ _ _ _ _ us hl => match us, hl with | [_, _, _], _ => rfl) sc__law_statement (fun vs H Q E h => ?_) (fun cdv A outer s H vs Q E hr h => ?_)
  · obtain ⟨I, p, sa, L, Ea, nm, ex, pr, ar, d, u, rfl, _⟩ := h; rfl
  · obtain ⟨I, p, sa, L, Ea, nm, ex, pr, ar, d, u, rfl, w0, fn, kk⟩ := h
    refine ⟨_, (pss_cons (ps_set (i := 3) sc__law_statement.nd rfl (Or.inl rfl) (pe_callH H__law_draw (hr.mono (by omega)) rfl (glo__law_draw D) passL (pa_cons (pv 0) (pa_cons pe_int pa_nil))))
      (pss_cons (ps_set (i := 4) sc__law_statement.nd rfl (Or.inl rfl) (pe_dget (hu_of hr) (pv 1) pe_str (fun _ _ => rfl)))
      (pss_cons (ps_set (i := 5) sc__law_statement.nd rfl (Or.inl rfl) (pe_op op_cat (pv 4) (pe_dget (hu_of hr) (pv 1) pe_str (fun _ _ => rfl))))
      (pss_cons (ps_if (PW.pt (pw_and (pt_cmpR op_lt (pv 3) pe_int (nomark _)) (pw_and (pt_cmpR op_gt (pe_callB (call_lenK K) rfl (free_len D) PySem.boot_len (pa_cons (pv 4) pa_nil)) pe_int (nomark _)) (pw_and1 (pt_cmpR op_gt (pe_dget (hu_of hr) (pv 1) pe_str (fun _ _ => rfl)) pe_int (nomark _))))))
      (pss_cons (ps_dput (hu_of hr) (pv 1) pe_str (pe_op op_sub (pe_dget (hu_of hr) (pv 1) pe_str (fun _ _ => rfl)) pe_int) rfl)
      (pss_one (ps_ret (pe_tup (pa_cons pe_str (pa_cons (pe_ix (ix_listK K) (pv 4) (pe_callH H__law_draw (hr.mono (by omega)) rfl (glo__law_draw D) passL (pa_cons (pv 0) (pa_cons (pe_callB (call_lenK K) rfl (free_len D) PySem.boot_len (pa_cons (pv 4) pa_nil)) pa_nil))) (fun _ _ => rfl)) (pa_cons (pe_op op_add pe_int (pe_callH H__law_draw (hr.mono (by omega)) rfl (glo__law_draw D) passL (pa_cons (pv 0) (pa_cons (pe_dget (hu_of hr) (pv 1) pe_str (fun _ _ => rfl)) pa_nil)))) pa_nil)))))))
      pss_nil)
      (pss_cons (ps_if (PW.pt (pw_and (pt_cmpR op_lt (pv 3) pe_int (nomark _)) (pw_and (pt_cmpR op_gt (pe_callB (call_lenK K) rfl (free_len D) PySem.boot_len (pa_cons (pv 4) pa_nil)) pe_int (nomark _)) (pw_and1 (pt_cmpR op_gt (pe_dget (hu_of hr) (pv 1) pe_str (fun _ _ => rfl)) pe_int (nomark _))))))
      (pss_cons (ps_dput (hu_of hr) (pv 1) pe_str (pe_op op_sub (pe_dget (hu_of hr) (pv 1) pe_str (fun _ _ => rfl)) pe_int) rfl)
      (pss_one (ps_ret (pe_tup (pa_cons pe_str (pa_cons (pe_ix (ix_listK K) (pv 4) (pe_callH H__law_draw (hr.mono (by omega)) rfl (glo__law_draw D) passL (pa_cons (pv 0) (pa_cons (pe_callB (call_lenK K) rfl (free_len D) PySem.boot_len (pa_cons (pv 4) pa_nil)) pa_nil))) (fun _ _ => rfl)) (pa_cons (pe_callH H__law_value (hr.mono (by omega)) rfl (glo__law_value D) passL (pa_cons (pv 0) (pa_cons (pv 5) (pa_cons pe_int pa_nil)))) pa_nil)))))))
      pss_nil)
      (pss_cons (ps_if (PW.pt (pw_and (pt_cmpR op_lt (pv 3) pe_int (nomark _)) (pw_and1 (pt_cmpR op_gt (pe_callB (call_lenK K) rfl (free_len D) PySem.boot_len (pa_cons (pe_dget (hu_of hr) (pv 1) pe_str (fun _ _ => rfl)) pa_nil)) pe_int (nomark _)))))
      (pss_one (ps_ret (pe_tup (pa_cons pe_str (pa_cons (pe_callH H__law_value (hr.mono (by omega)) rfl (glo__law_value D) passL (pa_cons (pv 0) (pa_cons (pv 5) (pa_cons pe_int pa_nil)))) pa_nil)))))
      pss_nil)
      (pss_cons (ps_if (PW.pt (pw_and (pt_cmpR op_lt (pv 3) pe_int (nomark _)) (pw_and1 (pt_cmpR op_gt (pv 2) pe_int (nomark _)))))
      (pss_cons (ps_set (i := 6) sc__law_statement.nd rfl (Or.inl rfl) (pe_callH H__law_value (hr.mono (by omega)) rfl (glo__law_value D) passL (pa_cons (pv 0) (pa_cons (pv 5) (pa_cons pe_int pa_nil)))))
      (pss_cons (ps_set (i := 7) sc__law_statement.nd rfl (Or.inl rfl) (pe_callH H__law_block (hr.mono (by omega)) rfl (glo__law_block D) passL (pa_cons (pv 0) (pa_cons (pv 1) (pa_cons (pe_op op_sub (pv 2) pe_int) (pa_cons pe_int pa_nil))))))
      (pss_one (ps_ret (pe_tup (pa_cons pe_str (pa_cons (pv 6) (pa_cons (pv 7) (pa_cons (pe_callH H__law_block (hr.mono (by omega)) rfl (glo__law_block D) passL (pa_cons (pv 0) (pa_cons (pv 1) (pa_cons (pe_op op_sub (pv 2) pe_int) (pa_cons pe_int pa_nil))))) pa_nil)))))))))
      pss_nil)
      (pss_cons (ps_if (pt_cmpR op_gt (pe_callB (call_lenK K) rfl (free_len D) PySem.boot_len (pa_cons (pv 4) pa_nil)) pe_int (nomark _))
      (pss_one (ps_ret (pe_tup (pa_cons pe_str (pa_cons (pe_ix (ix_listK K) (pv 4) (pe_callH H__law_draw (hr.mono (by omega)) rfl (glo__law_draw D) passL (pa_cons (pv 0) (pa_cons (pe_callB (call_lenK K) rfl (free_len D) PySem.boot_len (pa_cons (pv 4) pa_nil)) pa_nil))) (fun _ _ => rfl)) (pa_cons (pe_callH H__law_value4 (hr.mono (by omega)) rfl (glo__law_value D) passL (pa_cons (pv 0) (pa_cons (pv 5) (pa_cons pe_int pa_nil)))) pa_nil))))))
      pss_nil)
      (pss_cons (ps_if (pt_cmpR op_gt (pv 2) pe_int (nomark _))
      (pss_one (ps_ret (pe_tup (pa_cons pe_str (pa_cons (pe_tup (pa_cons pe_str (pa_cons (pe_callH H__law_draw (hr.mono (by omega)) rfl (glo__law_draw D) passL (pa_cons (pv 0) (pa_cons pe_int pa_nil))) pa_nil))) (pa_cons (pe_tup pa_nil) (pa_cons (pe_tup pa_nil) pa_nil)))))))
      pss_nil)
      (pss_one (ps_ret pe_non))))))))))), ?_⟩
    refine ⟨_, rfl, I, p, 12, rfl, w0.g.ih, w0.po, by decide, by decide, fun kd H1 a0 a1 g1 po1 => ?_⟩
    have w1 := w0.step g1 po1
    (try dsimp only)
    refine seq_cut (fun σ' H' => H' = H1 ∧ σ' = [some (.ref p), some (.ref sa), some (.int (k : Int)), some (.int kd), some (.ref L), none, none, none]) (fun nx q => ?_) ?_
    · exact ⟨_, rfl, sa, _, rfl, w1.names, q _ _ ⟨rfl, rfl⟩⟩
    rintro σ' H1' ⟨rfl, rfl⟩
    (try dsimp only)
    refine seq_cut (fun σ' H' => ∃ I2 W, σ' = [some (.ref p), some (.ref sa), some (.int (k : Int)), some (.int kd), some (.ref L), some (.ref W), none, none] ∧ Sw I H p sa I2 H' L Ea d u ∧ Fnd I2 L Ea nm ex pr ar d u ∧ I2 W = some (.lst ((nm ++ ex).map V.str))) (fun nx q => ?_) ?_
    · refine ⟨_, rfl, _, rfl, sa, _, rfl, w1.extra, L, Ea, _, _, rfl, rfl, w1.g.ih _ _ fn.hL, w1.g.ih _ _ fn.hE, ?_, fun W hW => ?_⟩
      · rw [List.length_map, List.length_map]; exact le_line (by have := fn.nl; have := fn.el; omega)
      have g2 := Gr.new (ms := []) (o := .lst (nm.map V.str ++ ex.map V.str)) w1.g.ih hW
      exact q _ _ ⟨_, W, rfl, w1.step0 g2, fn.up g2.ii (Nat.le_refl _), by rw [upd_same, List.map_append]⟩
    clear w1 po1 g1
    rintro σ' H2 ⟨I2, W, rfl, w2, f2, hW⟩
    (try dsimp only)
    have sI : Same I2 H2 := w2.g.ih
    have hL2 := sI _ _ f2.hL
    have hE2 := sI _ _ f2.hE
    have hWl : (nm ++ ex).length ≤ 100 := by rw [List.length_append]; have := fn.nl; have := fn.el; omega
    have hnl := fn.nl
    have sb := stB_ge k
    -- a draw
    refine seq_cut (fun σ' H' => σ' = [some (.ref p), some (.ref sa), some (.int (k : Int)), some (.int kd), some (.ref L), some (.ref W), none, none] ∧ H' = H2) (fun nx q => ?_) ?_
    · refine ⟨_, rfl, _, _, rfl, rfl, _, rfl, ifD (fun q1 => ?_) (fun _ => iteF (q _ _ ⟨rfl, rfl⟩))⟩
      refine ⟨_, rfl, _, _, rfl, .inl ⟨_, SqL.of hL2, rfl⟩, _, _, rfl, rfl, _, rfl, ifD (fun q2 => ?_) (fun _ => iteF (q _ _ ⟨rfl, rfl⟩))⟩
      refine ⟨_, rfl, sa, _, rfl, w2.draws, _, _, rfl, rfl, _, rfl, ifD (fun q3 => ?_) (fun _ => q _ _ ⟨rfl, rfl⟩)⟩
      rw [List.length_map] at q2
      obtain ⟨d', rfl⟩ : ∃ d', d = d' + 1 := ⟨d - 1, by omega⟩
      have ed : ((d' + 1 : Nat) : Int) - 1 = (d' : Int) := by omega
      refine ⟨_, rfl, sa, _, rfl, w2.draws, _, _, rfl, rfl, _, rfl, sa, _, rfl, DPut.k (k := Sum.inr "draws") w2.hs sc_len, ?_⟩
      have w3 := w2.put (kvs := putK (scK L Ea (d' + 1) u) (.inr "draws") (.int (((d' + 1 : Nat) : Int) - 1))) (by rw [ed]; exact sp_draws)
      refine ⟨_, rfl, _, rfl, _, rfl, _, _, rfl, .inl ⟨_, SqL.of (w3.g.ih _ _ f2.hL), rfl⟩, I2, p, _, rfl, w3.g.ih, w3.po, (by rw [List.length_map]; omega), (by rw [List.length_map]; omega), fun v H4 b0 b1 g4 po4 => ?_⟩
      obtain ⟨sn, rfl⟩ := Int.eq_ofNat_of_zero_le b0
      rw [List.length_map] at b1
      obtain ⟨x, hxm, hx⟩ := pick_str (l := nm) (n := sn) (by omega)
      have w4 := w3.step g4 po4
      refine ⟨L, _, _, .str x, rfl, rfl, SqL.of (w4.g.ih _ _ f2.hL), at_of (j := sn) rfl hx, ?_⟩
      refine ⟨_, rfl, _, rfl, sa, _, rfl, w4.results, I2, p, 6, rfl, w4.g.ih, w4.po, by decide, by decide, fun v6 H5 c0 c1 g5 po5 => ?_⟩
      obtain ⟨m, rfl⟩ := Int.eq_ofNat_of_zero_le c0
      have w5 := w4.step g5 po5
      have em : (1 : Int) + (m : Int) = ((1 + m : Nat) : Int) := by omega
      refine ⟨_, _, rfl, rfl, (by show 3 ≤ sizeLine; decide), fun t ht => ?_⟩
      have g6 := Gr.new (ms := []) (o := .tup [.str "draw", .str x, .int ((1 : Int) + (m : Int))]) w5.g.ih ht
      refine kk _ _ _ (some (.draw x (1 + m))) d' u (w5.step0 g6) (dR_tup upd_same (dRs_cons dR_str (dRs_cons dR_str (dRs_cons (by rw [em]; exact dR_int) dRs_nil)))) ⟨by omega, Nat.le_refl _, fun st e => ?_⟩
      cases e
      exact ⟨by unfold okSt; exact ⟨hxm, by omega, by omega⟩, by simp [nd], by simp [nu], by simp only [Stm.words, List.length_cons, List.length_nil]; omega⟩
    rintro σ' H2' ⟨rfl, rfl⟩
    (try dsimp only)
    -- a use
    refine seq_cut (fun σ' H' => σ' = [some (.ref p), some (.ref sa), some (.int (k : Int)), some (.int kd), some (.ref L), some (.ref W), none, none] ∧ H' = H2') (fun nx q => ?_) ?_
    · refine ⟨_, rfl, _, _, rfl, rfl, _, rfl, ifD (fun q1 => ?_) (fun _ => iteF (q _ _ ⟨rfl, rfl⟩))⟩
      refine ⟨_, rfl, _, _, rfl, .inl ⟨_, SqL.of hL2, rfl⟩, _, _, rfl, rfl, _, rfl, ifD (fun q2 => ?_) (fun _ => iteF (q _ _ ⟨rfl, rfl⟩))⟩
      refine ⟨_, rfl, sa, _, rfl, w2.uses, _, _, rfl, rfl, _, rfl, ifD (fun q3 => ?_) (fun _ => q _ _ ⟨rfl, rfl⟩)⟩
      rw [List.length_map] at q2
      obtain ⟨u', rfl⟩ : ∃ u', u = u' + 1 := ⟨u - 1, by omega⟩
      have ed : ((u' + 1 : Nat) : Int) - 1 = (u' : Int) := by omega
      refine ⟨_, rfl, sa, _, rfl, w2.uses, _, _, rfl, rfl, _, rfl, sa, _, rfl, DPut.k (k := Sum.inr "uses") w2.hs sc_len, ?_⟩
      have w3 := w2.put (kvs := putK (scK L Ea d (u' + 1)) (.inr "uses") (.int (((u' + 1 : Nat) : Int) - 1))) (by rw [ed]; exact sp_uses)
      refine ⟨_, rfl, _, rfl, _, rfl, _, _, rfl, .inl ⟨_, SqL.of (w3.g.ih _ _ f2.hL), rfl⟩, I2, p, _, rfl, w3.g.ih, w3.po, (by rw [List.length_map]; omega), (by rw [List.length_map]; omega), fun v H4 b0 b1 g4 po4 => ?_⟩
      obtain ⟨sn, rfl⟩ := Int.eq_ofNat_of_zero_le b0
      rw [List.length_map] at b1
      obtain ⟨x, hxm, hx⟩ := pick_str (l := nm) (n := sn) (by omega)
      have w4 := w3.step g4 po4
      refine ⟨L, _, _, .str x, rfl, rfl, SqL.of (w4.g.ih _ _ f2.hL), at_of (j := sn) rfl hx, ?_⟩
      refine ⟨_, rfl, _, rfl, I2, p, W, nm ++ ex, nm, pr, rfl, w4.g.ih, w4.po, hW, f2.ns, hWl, fun I5 H5 v5 e5 g5 po5 r5 k5 => ?_⟩
      have w5 := w4.step g5 po5
      refine ⟨(by show 3 ≤ sizeLine; decide), fun t ht => ?_⟩
      have g6 := Gr.new (ms := []) (o := .tup [.str "use", .str x, v5]) w5.g.ih ht
      refine kk _ _ _ (some (.use x e5)) d u' (w5.step0 g6) (dR_tup upd_same (dRs_cons dR_str (dRs_cons dR_str (dRs_cons (dR_up g6.ii _ _ r5) dRs_nil)))) ⟨Nat.le_refl _, by omega, fun st e => ?_⟩
      cases e
      have l5 := ex_len6 k5 (by decide)
      exact ⟨by unfold okSt; exact ⟨fn.ar (by omega), hxm, okEx_le k5 (by decide)⟩, by simp [nd], by simp [nu], by simp only [Stm.words, List.length_cons]; omega⟩
    rintro σ' H2 ⟨rfl, rfl⟩
    (try dsimp only)
    -- what is said
    refine seq_cut (fun σ' H' => σ' = [some (.ref p), some (.ref sa), some (.int (k : Int)), some (.int kd), some (.ref L), some (.ref W), none, none] ∧ H' = H2) (fun nx q => ?_) ?_
    · refine ⟨_, rfl, _, _, rfl, rfl, _, rfl, ifD (fun q1 => ?_) (fun _ => iteF (q _ _ ⟨rfl, rfl⟩))⟩
      refine ⟨_, rfl, sa, _, rfl, w2.extra, _, _, rfl, .inl ⟨_, SqL.of hE2, rfl⟩, _, _, rfl, rfl, _, rfl, ifD (fun q2 => ?_) (fun _ => q _ _ ⟨rfl, rfl⟩)⟩
      rw [List.length_map] at q2
      have hpr : pr = true := by
        cases pr with
        | true => rfl
        | false => rw [fn.ex] at q2; simp at q2
      refine ⟨_, rfl, _, rfl, I2, p, W, nm ++ ex, nm, pr, rfl, w2.g.ih, w2.po, hW, f2.ns, hWl, fun I5 H5 v5 e5 g5 po5 r5 k5 => ?_⟩
      have w5 := w2.step g5 po5
      refine ⟨(by show 2 ≤ sizeLine; decide), fun t ht => ?_⟩
      have g6 := Gr.new (ms := []) (o := .tup [.str "say", v5]) w5.g.ih ht
      refine kk _ _ _ (some (.say e5)) d u (w5.step0 g6) (dR_tup upd_same (dRs_cons dR_str (dRs_cons (dR_up g6.ii _ _ r5) dRs_nil))) ⟨Nat.le_refl _, Nat.le_refl _, fun st e => ?_⟩
      cases e
      have l5 := ex_len6 k5 (by decide)
      exact ⟨by unfold okSt; exact ⟨hpr, okEx_le k5 (by decide)⟩, by simp [nd], by simp [nu], by simp only [Stm.words, List.length_cons]; omega⟩
    rintro σ' H2' ⟨rfl, rfl⟩
    (try dsimp only)
    -- a choice
    refine seq_cut (fun σ' H' => σ' = [some (.ref p), some (.ref sa), some (.int (k : Int)), some (.int kd), some (.ref L), some (.ref W), none, none] ∧ H' = H2') (fun nx q => ?_) ?_
    · refine ⟨_, rfl, _, _, rfl, rfl, _, rfl, ifD (fun q1 => ?_) (fun _ => iteF (q _ _ ⟨rfl, rfl⟩))⟩
      refine ⟨_, rfl, _, _, rfl, rfl, _, rfl, ifD (fun q2 => ?_) (fun _ => q _ _ ⟨rfl, rfl⟩)⟩
      obtain ⟨k', rfl⟩ : ∃ k', k = k' + 1 := ⟨k - 1, by omega⟩
      have ek : ((k' + 1 : Nat) : Int) - 1 = (k' : Int) := by omega
      refine ⟨_, rfl, _, rfl, I2, p, W, nm ++ ex, nm, pr, rfl, w2.g.ih, w2.po, hW, f2.ns, hWl, fun I5 H5 v5 e5 g5 po5 r5 k5 => ?_⟩
      have w5 := w2.step g5 po5
      have f5 : Fnd I5 L Ea nm ex pr ar d u := f2.up g5.ii (Nat.le_refl _)
      refine ⟨_, rfl, _, rfl, _, rfl, _, _, rfl, rfl, I5, p, sa, L, Ea, nm, ex, pr, ar, d, u, 3, by rw [← ek]; rfl, w5.self, f5, by decide, fun I6 H6 v6 l6 d6 u6 w6 r6 b6 => ?_⟩
      have f6 : Fnd I6 L Ea nm ex pr ar d6 u6 := f5.up w6.g.ii (by have := b6.ul; omega)
      refine ⟨_, rfl, _, rfl, _, rfl, _, rfl, _, rfl, _, _, rfl, rfl, I6, p, sa, L, Ea, nm, ex, pr, ar, d6, u6, 2, by rw [← ek]; rfl, w6.self, f6, by decide, fun I7 H7 v7 l7 d7 u7 w7 r7 b7 => ?_⟩
      refine ⟨(by show 4 ≤ sizeLine; decide), fun t ht => ?_⟩
      have g8 := Gr.new (ms := []) (o := .tup [.str "if", v5, v6, v7]) w7.g.ih ht
      refine kk _ _ _ (some (.ite e5 l6 l7)) d7 u7 ((w5.trans (w6.trans w7)).step0 g8) (dR_tup upd_same (dRs_cons dR_str (dRs_cons (dR_up ((w6.trans w7).g.ii.trans g8.ii) _ _ r5) (dRs_cons (dR_up (w7.g.ii.trans g8.ii) _ _ r6) (dRs_cons (dR_up g8.ii _ _ r7) dRs_nil))))) ⟨by have := b6.dl; have := b7.dl; omega, by have := b6.ul; have := b7.ul; omega, fun st e => ?_⟩
      cases e
      have l5 := ex_len6 k5 (by decide)
      have h1 := b6.w
      have h2 := b7.w
      refine ⟨by unfold okSt; exact ⟨by omega, okEx_le k5 (by decide), b6.ok, b7.ok⟩, ?_, ?_, ?_⟩
      · have := b6.dl; have := b7.dl; simp only [nd]; omega
      · have := b6.ul; have := b7.ul; simp only [nu]; omega
      · simp only [Stm.words, List.length_cons, List.length_append, List.length_nil, stB]
        split <;> simp only [List.length_nil, List.length_cons] <;> omega
    rintro σ' H2 ⟨rfl, rfl⟩
    (try dsimp only)
    -- a new value
    refine seq_cut (fun σ' H' => σ' = [some (.ref p), some (.ref sa), some (.int (k : Int)), some (.int kd), some (.ref L), some (.ref W), none, none] ∧ H' = H2) (fun nx q => ?_) ?_
    · refine ⟨_, rfl, _, _, rfl, .inl ⟨_, SqL.of hL2, rfl⟩, _, _, rfl, rfl, _, rfl, ifD (fun q2 => ?_) (fun _ => q _ _ ⟨rfl, rfl⟩)⟩
      rw [List.length_map] at q2
      refine ⟨_, rfl, _, rfl, _, rfl, _, _, rfl, .inl ⟨_, SqL.of (w2.g.ih _ _ f2.hL), rfl⟩, I2, p, _, rfl, w2.g.ih, w2.po, (by rw [List.length_map]; omega), (by rw [List.length_map]; omega), fun v H4 b0 b1 g4 po4 => ?_⟩
      obtain ⟨sn, rfl⟩ := Int.eq_ofNat_of_zero_le b0
      rw [List.length_map] at b1
      obtain ⟨x, hxm, hx⟩ := pick_str (l := nm) (n := sn) (by omega)
      have w4 := w2.step g4 po4
      refine ⟨L, _, _, .str x, rfl, rfl, SqL.of (w4.g.ih _ _ f2.hL), at_of (j := sn) rfl hx, ?_⟩
      refine ⟨_, rfl, _, rfl, I2, p, W, nm ++ ex, nm, pr, rfl, w4.g.ih, w4.po, hW, f2.ns, hWl, fun I5 H5 v5 e5 g5 po5 r5 k5 => ?_⟩
      have w5 := w4.step g5 po5
      refine ⟨(by show 3 ≤ sizeLine; decide), fun t ht => ?_⟩
      have g6 := Gr.new (ms := []) (o := .tup [.str "set", .str x, v5]) w5.g.ih ht
      refine kk _ _ _ (some (.set x e5)) d u (w5.step0 g6) (dR_tup upd_same (dRs_cons dR_str (dRs_cons dR_str (dRs_cons (dR_up g6.ii _ _ r5) dRs_nil)))) ⟨Nat.le_refl _, Nat.le_refl _, fun st e => ?_⟩
      cases e
      have l5 := ex_len6 k5 (by decide)
      exact ⟨by unfold okSt; exact ⟨hxm, okEx_le k5 (by decide)⟩, by simp [nd], by simp [nu], by simp only [Stm.words, List.length_cons]; omega⟩
    rintro σ' H2' ⟨rfl, rfl⟩
    (try dsimp only)
    -- an empty choice, or none
    refine seq_cut (fun σ' H' => σ' = [some (.ref p), some (.ref sa), some (.int (k : Int)), some (.int kd), some (.ref L), some (.ref W), none, none] ∧ H' = H2') (fun nx q => ?_) ?_
    · refine ⟨_, rfl, _, _, rfl, rfl, _, rfl, ifD (fun q2 => ?_) (fun _ => q _ _ ⟨rfl, rfl⟩)⟩
      refine ⟨_, rfl, I2, p, 2, rfl, w2.g.ih, w2.po, by decide, by decide, fun v H4 b0 b1 g4 po4 => ?_⟩
      obtain ⟨m, rfl⟩ := Int.eq_ofNat_of_zero_le b0
      have w4 := w2.step g4 po4
      refine ⟨(by show 2 ≤ sizeLine; decide), fun t1 ht1 => ?_⟩
      have g5 := Gr.new (ms := []) (o := .tup [.str "number", .int (m : Int)]) w4.g.ih ht1
      refine ⟨(by show 0 ≤ sizeLine; decide), fun t2 ht2 => ?_⟩
      have g6 := Gr.new (ms := []) (o := .tup []) g5.ih ht2
      refine ⟨(by show 0 ≤ sizeLine; decide), fun t3 ht3 => ?_⟩
      have g7 := Gr.new (ms := []) (o := .tup []) g6.ih ht3
      refine ⟨(by show 4 ≤ sizeLine; decide), fun t4 ht4 => ?_⟩
      have g8 := Gr.new (ms := []) (o := .tup [.str "if", .ref t1, .ref t2, .ref t3]) g7.ih ht4
      refine kk _ _ _ (some (.ite (.num m) [] [])) d u ((((w4.step0 g5).step0 g6).step0 g7).step0 g8)
        (dR_tup upd_same (dRs_cons dR_str (dRs_cons (dR_up ((g6.ii.trans g7.ii).trans g8.ii) _ _ (dR_tup upd_same (dRs_cons dR_str (dRs_cons dR_int dRs_nil)))) (dRs_cons (dR_up (g7.ii.trans g8.ii) _ _ (dR_tup upd_same dRs_nil)) (dRs_cons (dR_up g8.ii _ _ (dR_tup upd_same dRs_nil)) dRs_nil))))) ⟨Nat.le_refl _, Nat.le_refl _, fun st e => ?_⟩
      cases e
      refine ⟨by unfold okSt; exact ⟨by omega, by unfold okEx; omega, by unfold okBl; trivial, by unfold okBl; trivial⟩, by simp [nd, nds], by simp [nu, nus], ?_⟩
      simp only [Stm.words, Ex.words, blockWords, List.length_cons, List.length_append, List.length_nil, List.isEmpty_nil, if_pos]
      omega
    rintro σ' H2 ⟨rfl, rfl⟩
    (try dsimp only)
    exact kk _ _ _ none d u w2 rfl ⟨Nat.le_refl _, Nat.le_refl _, fun st e => nomatch e⟩
end
end K

set_option Elab.async false
set_option linter.all false
set_option maxRecDepth 100000
set_option maxHeartbeats 4000000
namespace Rd
open PySem PyProof.Rows TL
theorem blw_app : ∀ (a b : List Stm), blockWords (a ++ b) = blockWords a ++ blockWords b
  | [], b => rfl
  | s :: r, b => by rw [List.cons_append, blockWords, blockWords, blw_app r b, List.append_assoc]
theorem okBl_app {nm : List Str} {pr ar : Bool} {k : Nat} : ∀ {a b : List Stm}, okBl nm pr ar k a → okBl nm pr ar k b → okBl nm pr ar k (a ++ b)
  | [], _, _, h => h
  | s :: r, b, h, h2 => by
    rw [List.cons_append]; unfold okBl at h ⊢; exact ⟨h.1, okBl_app h.2 h2⟩
theorem nds_app : ∀ (a b : List Stm), nds (a ++ b) = nds a + nds b
  | [], b => by simp [nds]
  | s :: r, b => by rw [List.cons_append, nds, nds, nds_app r b]; omega
theorem nus_app : ∀ (a b : List Stm), nus (a ++ b) = nus a + nus b
  | [], b => by simp [nus]
  | s :: r, b => by rw [List.cons_append, nus, nus, nus_app r b]; omega
end Rd
namespace Tk
open PySem PySem.Spec PyProof.Rows L2
def nn (v : V) : Bool := !decide (v = .non)
/-- [x for x in xs if x is not None] -/
theorem lc_nn {J : It} {vs : List V} {I H1 : Hp} {g : TG} {tt : TT} {te : TE} {vz : List Nat} {σ : L2.St} {D : Addr} {Qd : Hp → Prop} (W : Wk J vs.length (gv vs) I) (s0 : Same I H1) (hD : H1 D = none) (hn : vs.length < sizeLine)
    (step : ∀ (v : V) (H' : Hp) (Nx : Hp → Prop) (Qk : VK), (nn v = true → Qk v H') → (nn v = false → Nx H') → g v (wipe σ vz) H' fun σ2 H2 => wipe σ2 vz = wipe σ vz ∧ tt σ2 H2 fun b H3 => if b = true then te σ2 H3 Qk else Nx H3)
    (hd : Qd (upd H1 D (.lst (vs.filter nn)))) : LcR J g tt te vz σ H1 D Qd := by
  refine ⟨fun i m H => m = vs.length - i ∧ i ≤ vs.length ∧ H = upd H1 D (.lst ((vs.take i).filter nn)), ⟨vs.length, rfl, Nat.zero_le _, by simp⟩, ?_⟩
  rintro i m H ⟨rfl, hi, rfl⟩
  have s : Same I (upd H1 D (.lst ((vs.take i).filter nn))) := s0.trans (sNew hD)
  by_cases hlt : i < vs.length
  · refine .inr ⟨W.go i _ s hlt, fun H' => i + 1 ≤ vs.length ∧ H' = upd H1 D (.lst ((vs.take (i + 1)).filter nn)), fun H' p => ⟨vs.length - (i + 1), by omega, rfl, p.1, p.2⟩, fun x H' y => ?_⟩
    obtain ⟨rfl, rfl⟩ := W.yld i _ x H' s hlt y
    have e1 : gv vs i = vs[i] := gv_of (List.getElem?_eq_getElem hlt)
    have e2 : vs.take (i + 1) = vs.take i ++ [vs[i]] := by rw [List.take_succ_eq_append_getElem hlt]
    have hl : ((vs.take i).filter nn).length ≤ i := Nat.le_trans (List.length_filter_le _ _) (by rw [List.length_take]; omega)
    rw [e1]
    refine step _ _ _ _ (fun h => ⟨_, upd_same, by omega, hlt, ?_⟩) (fun h => ⟨hlt, ?_⟩)
    · rw [upd_upd, e2, List.filter_append]; simp [h]
    · rw [e2, List.filter_append]; simp [h]
  · have e : i = vs.length := by omega
    subst e
    refine .inl ⟨W.stop _ s, ?_⟩
    rw [List.take_length]; exact hd
end Tk
namespace K
open PySem PySem.Spec PyProof.Rows L2 Tk Hd Rd
section
variable {P : Program} {w : World} {K : PySem.W.Frag} {mg : Str → Option Value} {base : Heap}
instance : Mono oSt := ⟨fun {_ _ v o} s h => by cases o with
  | none => exact h
  | some st => exact dR_up s _ _ h⟩
theorem Sw.mutB {I H I' H' : Hp} {p s L E B : Addr} {d u : Nat} {o : HO} (w : Sw I H p s I' H' L E d u) (h0 : H B = none) (iB : I' B = none) (np : p ≠ B) (ns : s ≠ B) : Sw I H p s I' (upd H' B o) L E d u := by
  have g1 : Gr [B] I' H' I' (upd H' B o) := Gr.mut w.g.ih iB (by simp)
  have g2 : Gr [B, p, s] I H I' (upd H' B o) := (w.g.mono fun _ z => List.mem_cons_of_mem _ z).trans (g1.mono fun a z => by simp at z; simp [z])
  exact ⟨g2.drop h0, w.po.up g1 (by simpa using np), w.il, w.np, by rw [upd_ne ns]; exact w.hs⟩
theorem Sw.freeze {I H I' H' : Hp} {p s L E B : Addr} {d u : Nat} {o : HO} (w : Sw I H p s I' H' L E d u) (s0 : Same I H) (h0 : H B = none) (iB : I' B = none) (np : p ≠ B) (ns : s ≠ B) (hB : H' B = some o) : Sw I H p s (upd I' B o) H' L E d u := by
  have g1 : Gr [B, p, s] I H I' H' := w.g.mono fun _ z => List.mem_cons_of_mem _ z
  refine ⟨g1.frz s0 h0 hB, ?_, by rw [upd_ne ns]; exact w.il, w.np, w.hs⟩
  obtain ⟨i, c, cells, pos, b, sd, lf, bd, h1, h2, h3, h5⟩ := w.po
  exact ⟨by rw [upd_ne np]; exact i, c, cells, pos, b, sd, lf, bd, sNew iB _ _ h1, h2, h3, h5⟩
theorem oSt_flt {I : Hp} : ∀ {vs : List V} {os : List (Option Stm)}, All2 (oSt I) vs os → All2 (iD I) (vs.filter nn) ((os.filterMap id).map (Stm.da Da.tup))
  | _, _, .nil => .nil
  | v :: vs, none :: os, .cons a t => by
    have : nn v = false := by cases (show v = .non from a); rfl
    rw [List.filter_cons, this, List.filterMap_cons]
    exact oSt_flt t
  | v :: vs, some st :: os, .cons a t => by
    have a' : dR I v (st.da Da.tup) := a
    have : nn v = true := by
      cases st <;> · simp only [Stm.da, dR] at a'; obtain ⟨b, xs, rfl, _⟩ := a'; rfl
    rw [List.filter_cons, this, List.filterMap_cons]
    exact .cons a' (oSt_flt t)
theorem sc__law_block : FnScope ["pool", "scope", "room", "upper", "block", "k", "due"] ["pool", "scope", "room", "upper"] (defScope s__law_block) := ⟨rfl, rfl, rfl, by decide +kernel, rfl, by decide +kernel, by decide +kernel⟩
theorem ok_bl_step (D : Dt K mg) (k : Nat) (H__law_statement : Has P w K mg base (2 * k + 9) (He.ga K "_law_statement") ["pool", "scope", "room"] [] (spSt K k)) : Has P w K mg base (2 * k + 10) (He.ga K "_law_block") ["pool", "scope", "room", "upper"] [] (spBl K k) := by
  obtain ⟨fd, F⟩ := fd__law_block D
  have H__law_draw := ok_draw (P := P) (w := w) (base := base) D
  have H__law_spend := ok_spend (P := P) (w := w) (base := base) D
  refine hasN F (F.bindsN fun _ _ _ _ _ _ us hl => match us, hl with | [_, _, _, _], _ => rfl) sc__law_block (fun vs H Q E h => ?_) (fun cdv A outer s H vs Q E hr h => ?_)
  · obtain ⟨I, p, sa, L, Ea, nm, ex, pr, ar, d, u, n, rfl, _⟩ := h; rfl
  · obtain ⟨I, p, sa, L, Ea, nm, ex, pr, ar, d, u, n, rfl, w0, fn, hn, kk⟩ := h
    refine ⟨_, (pss_cons (ps_set (i := 4) sc__law_block.nd rfl (Or.inl rfl) (pe_lst pa_nil))
      (pss_cons (ps_for PassesOwn.never rfl (pi_range1 rfl (free_range D) (pa_cons (pe_callH H__law_draw (hr.mono (by omega)) rfl (glo__law_draw D) passL (pa_cons (pv 0) (pa_cons (pe_op op_add (pv 3) pe_int) pa_nil))) pa_nil)) (pg_name (i := 5) sc__law_block.nd rfl (Or.inl rfl))
      (pss_one (ps_if (pt_val (pe_callH H__law_spend (hr.mono (by omega)) rfl (glo__law_spend D) passL (pa_cons (pv 0) pa_nil)))
      (pss_one (ps_expr (pe_bm PySem.F.plainAttrs_list PySem.F.slot_list_append PySem.F.type_list_append mt_append (pv 4) (pa_cons (pe_callH H__law_statement (hr.mono (by omega)) rfl (glo__law_statement D) passL (pa_cons (pv 0) (pa_cons (pv 1) (pa_cons (pv 2) pa_nil)))) pa_nil))))
      pss_nil)))
      (pss_one (ps_ret (pe_callTy (call_tuple_ofK K) rfl (free_tuple D) (by decide +kernel) (pa_cons (pe_lc (own := [("due", 6)]) (g := gName 6) rfl sc__law_block.nd (pi_listK K (pv 4)) (blkOk_by (own := [("due", 6)]) (N := ["pool", "scope", "room", "upper", "block", "k", "due"]) (by kernel_rfl)) (fun _ _ _ _ _ => (pg_name (i := 6) sc__law_block.nd rfl (Or.inl rfl))) (fun _ _ _ _ _ => (pts_one (pt_cmpR op_notN (pv 6) pe_non (nomark _)))) (fun _ _ _ _ _ => (pv 6))) pa_nil)))))), ?_⟩
    refine ⟨(by show 0 ≤ sizeLine; decide), fun B hB => ?_⟩
    have s0 : Same I H := w0.g.ih
    have nps : sa ≠ B := ne_of_none w0.hs hB
    have npp : p ≠ B := pool_ne w0.po hB
    have w1 : Sw I H p sa I (upd H B (.lst [])) L Ea d u := w0.mutB hB (s0.free hB) npp nps
    (try dsimp only)
    refine seq_cut (fun σ' H' => ∃ I' kv vs os d2 u2, σ' = [some (.ref p), some (.ref sa), some (.int (k : Int)), some (.int (n : Int)), some (.ref B), kv, none] ∧ Sw I H p sa I' H' L Ea d2 u2 ∧ I' B = none ∧ H' B = some (.lst vs) ∧ All2 (oSt I') vs os ∧ os.length ≤ n ∧ u2 ≤ u ∧ BlR nm pr ar k n d u d2 u2 (os.filterMap id)) (fun nx q => ?_) ?_
    · refine ⟨_, rfl, _, rfl, _, _, rfl, rfl, I, p, _, rfl, w1.g.ih, w1.po, by omega, by omega, fun v H2 a0 a1 g2 po2 => ?_⟩
      obtain ⟨m, rfl⟩ := Int.eq_ofNat_of_zero_le a0
      have w2 := w1.step g2 po2
      refine ⟨_, rfl, by omega, by omega, ?_⟩
      have hm : m ≤ n := by omega
      refine for_rangeP (n := m) (fun σ' H' => ∃ I' kv vs os d2 u2, σ' = [some (.ref p), some (.ref sa), some (.int (k : Int)), some (.int (n : Int)), some (.ref B), kv, none] ∧ Sw I H p sa I' H' L Ea d2 u2 ∧ I' B = none ∧ H' B = some (.lst vs) ∧ All2 (oSt I') vs os ∧ os.length ≤ n ∧ u2 ≤ u ∧ BlR nm pr ar k n d u d2 u2 (os.filterMap id))
        (fun i σ' H' => ∃ I' kv vs os d2 u2, σ' = [some (.ref p), some (.ref sa), some (.int (k : Int)), some (.int (n : Int)), some (.ref B), kv, none] ∧ Sw I H p sa I' H' L Ea d2 u2 ∧ I' B = none ∧ H' B = some (.lst vs) ∧ All2 (oSt I') vs os ∧ os.length ≤ i ∧ u2 ≤ u ∧ BlR nm pr ar k i d u d2 u2 (os.filterMap id))
        ⟨I, none, [], [], d, u, rfl, w2, s0.free hB, g2.at upd_same (by simpa using npp.symm), .nil, Nat.zero_le _, Nat.le_refl _, ⟨by unfold okBl; trivial, by simp [nds], by simp [nus], by simp [blockWords], by simp⟩⟩ (fun nx2 q2 i σ' H3 hi h => ?_) (fun σ' H' h => ?_) q
      · clear w1 w2
        obtain ⟨I3, kv, vs, os, d3, u3, rfl, w3, iB, hB3, a3, ol, ul, br⟩ := h
        refine ⟨_, rfl, I3, p, rfl, w3.g.ih, w3.po, fun b H4 g4 po4 => ⟨_, rfl, ?_⟩⟩
        have w4 := w3.step g4 po4
        have hB4 : H4 B = some (.lst vs) := g4.at hB3 (by simpa using npp.symm)
        cases b with
        | false =>
          refine ifF rfl ⟨_, _, vs, os, d3, u3, rfl, w4, iB, hB4, a3, by omega, ul, br.ok, br.dl, br.ul, Nat.le_trans br.w (Nat.mul_le_mul (by omega) (Nat.le_refl _)), by have := br.n; omega⟩
        | true =>
          refine ifT rfl ⟨_, rfl, .inl ⟨rfl, _, SqL.of hB4⟩, _, rfl, _, rfl, _, rfl, I3, p, sa, L, Ea, nm, ex, pr, ar, d3, u3, rfl, w4.self, fn.up w4.g.ii ul, fun I5 H5 v5 o5 d5 u5 w5 r5 b5 => ?_⟩
          have hB5 : H5 B = some (.lst vs) := w5.g.at hB4 (by simp; exact ⟨npp.symm, nps.symm⟩)
          have iB5 : I5 B = none := w5.g.out iB hB4
          refine ⟨B, _, _, rfl, rfl, hB5, lt_sl (by rw [a3.len]; omega), ?_⟩
          have wf := (w4.trans w5).mutB (o := .lst (vs ++ [v5])) hB iB5 npp nps
          have al : All2 (oSt I5) (vs ++ [v5]) (os ++ [o5]) := (a3.up w5.g.ii).snoc r5
          refine ⟨_, _, vs ++ [v5], os ++ [o5], d5, u5, rfl, wf, iB5, upd_same, al, by simp; omega, by have := b5.ul; omega, ?_⟩
          rw [List.filterMap_append]
          cases o5 with
          | none =>
            have e : [(none : Option Stm)].filterMap id = [] := rfl
            rw [e, List.append_nil]
            exact ⟨br.ok, by have := br.dl; have := b5.dl; omega, by have := br.ul; have := b5.ul; omega, Nat.le_trans br.w (Nat.mul_le_mul (by omega) (Nat.le_refl _)), by have := br.n; omega⟩
          | some st =>
            have e : [some st].filterMap id = [st] := rfl
            obtain ⟨c1, c2, c3, c4⟩ := b5.ok st rfl
            rw [e]
            refine ⟨okBl_app br.ok (by unfold okBl; exact ⟨c1, by unfold okBl; trivial⟩), ?_, ?_, ?_, by have := br.n; simp; omega⟩
            · have := br.dl; rw [nds_app]; simp only [nds]; omega
            · have := br.ul; rw [nus_app]; simp only [nus]; omega
            · have := br.w; rw [blw_app, List.length_append]; simp only [blockWords, List.append_nil]; rw [Nat.succ_mul]; omega
      · obtain ⟨I3, kv, vs, os, d3, u3, rfl, w3, iB, hB3, a3, ol, ul, br⟩ := h
        exact ⟨I3, kv, vs, os, d3, u3, rfl, w3, iB, hB3, a3, by omega, ul, br.ok, br.dl, br.ul, Nat.le_trans br.w (Nat.mul_le_mul hm (Nat.le_refl _)), by have := br.n; omega⟩
    clear w1
    rintro σ' H3 ⟨I3, kv, vs, os, d3, u3, rfl, w3, iB, hB3, a3, ol, ul, br⟩
    (try dsimp only)
    have w4 := w3.freeze s0 hB iB npp nps hB3
    have a4 : All2 (oSt (upd I3 B (.lst vs))) vs os := a3.up (sNew iB)
    have hvl : vs.length ≤ 6 := by rw [a3.len]; omega
    refine ⟨_, rfl, B, rfl, ⟨_, SqL.of hB3⟩, fun m hm => lc_nn (wk_list (I := upd I3 B (.lst vs)) upd_same) w4.g.ih hm (Nat.lt_of_le_of_lt hvl (by decide)) (fun v H' Nx Qk k1 k2 => ?_) ?_⟩
    · refine ⟨rfl, _, rfl, rfl, _, rfl, ?_⟩
      cases hv : nn v with
      | true => exact ifT hv ⟨_, rfl, k1 hv⟩
      | false => exact ifF hv (k2 hv)
    · have g5 := Gr.tmp (ms := []) (o := .lst (vs.filter nn)) w4.g.ih hm
      have w5 := w4.step0 g5
      refine ⟨⟨m, vs.filter nn, rfl, .inl ⟨SqL.of upd_same, fun t ht => ?_⟩⟩⟩
      have g6 := Gr.new (ms := []) (o := .tup (vs.filter nn)) w5.g.ih ht
      refine kk _ _ _ (os.filterMap id) d3 u3 (w5.step0 g6) (dR_tup upd_same ?_) br
      rw [blockDa_map]
      exact all_dRs ((oSt_flt a4).up g6.ii)
/-- statements of any depth -/
theorem ok_bls (D : Dt K mg) : ∀ k, Has P w K mg base (2 * k + 8) (He.ga K "_law_block") ["pool", "scope", "room", "upper"] [] (spBls K k)
  | 0 => by
    obtain ⟨fd, F⟩ := fd__law_block D
    exact has_never F (F.bindsN fun _ _ _ _ _ _ us hl => match us, hl with | [_, _, _, _], _ => rfl)
  | k + 1 => ok_bl_step D k (ok_st_step D k (ok_bls D k))
theorem ok_bl4 (D : Dt K mg) : Has P w K mg base 18 (He.ga K "_law_block") ["pool", "scope", "room", "upper"] [] (spBl K 4) := ok_bls D 5
end
end K

set_option Elab.async false
set_option linter.all false
set_option maxRecDepth 100000
set_option maxHeartbeats 4000000
namespace Tk
open PySem PySem.Spec PyProof.Rows L2
/-- the elements of a list or a tuple -/
theorem seqs_of {α : Type} {R : Rp α} {I H : Hp} {v : V} {xs : List α} (h : iL R I v xs) (s : Same I H) : ∃ a vs, v = .ref a ∧ H a = some (.lst vs) ∧ All2 (R I) vs xs := by
  obtain ⟨a, vs, e, ha, a2⟩ := h
  exact ⟨a, vs, e, s _ _ ha, a2⟩
end Tk
namespace K
open PySem PySem.Spec PyProof.Rows L2 Tk Hd Rd
section
variable {P : Program} {w : World} {K : PySem.W.Frag} {mg : Str → Option Value} {base : Heap}
def btx (l : List Stm) : List Str := l.map fun s => jn s.words
def spBw (k : Nat) : Sp := fun vs H Q _ => ∃ (I : Hp) (v : V) (l : List Stm) (nm : List Str) (pr ar : Bool), vs = [v] ∧ Same I H ∧ dR I v (.tup (blockDa .tup l)) ∧ okBl nm pr ar k l ∧ (jn (blockWords l)).length ≤ 10000000 ∧ (blockWords l).length ≤ 1000000 ∧ Ret [] I H (iL iS) (btx l) Q
def spBws : Nat → Sp
  | 0 => spNever
  | k + 1 => spBw k
def spStt (k : Nat) : Sp := fun vs H Q _ => ∃ (I : Hp) (v : V) (s : Stm) (nm : List Str) (pr ar : Bool), vs = [v] ∧ Same I H ∧ dR I v (s.da .tup) ∧ okSt nm pr ar k s ∧ (jn s.words).length ≤ 10000000 ∧ s.words.length ≤ 1000000 ∧ ∀ I' H', Gr [] I H I' H' → Q (.str (jn s.words)) H'
def spCt (k : Nat) : Sp := fun vs H Q _ => ∃ (I : Hp) (v : V) (e : Ex) (s t : List Stm) (nm : List Str) (pr ar : Bool), vs = [v] ∧ Same I H ∧ dR I v ((Stm.ite e s t).da .tup) ∧ okSt nm pr ar k (.ite e s t) ∧ (jn (Stm.ite e s t).words).length ≤ 10000000 ∧ (Stm.ite e s t).words.length ≤ 1000000 ∧ ∀ I' H', Gr [] I H I' H' → Q (.str (jn (Stm.ite e s t).words)) H'
theorem btx_jn (l : List Stm) : (jn (blockWords l)) = jn (btx l) := by
  rw [block_flat, ← jn_jn (fun x hx => by obtain ⟨s, _, rfl⟩ := List.mem_map.mp hx; exact st_words_ne s)]
  unfold btx; rw [List.map_map]; rfl
/-- the words of a choice, part by part -/
def iteParts (e : Ex) (s t : List Stm) : List Str := [wd "if", jn e.words] ++ btx s ++ (if t.isEmpty = true then [] else wd "else" :: btx t) ++ [wd "end"]
theorem ite_jn (e : Ex) (s t : List Stm) : jn (Stm.ite e s t).words = jn (iteParts e s t) := by
  have h : ∀ xss : List (List Str), (∀ x ∈ xss, x ≠ []) → iteParts e s t = xss.map jn → (Stm.ite e s t).words = xss.flatten → jn (Stm.ite e s t).words = jn (iteParts e s t) := fun xss h1 h2 h3 => by rw [h2, h3, jn_jn h1]
  refine h ([[wd "if"], e.words] ++ s.map Stm.words ++ (if t.isEmpty = true then [] else [wd "else"] :: t.map Stm.words) ++ [[wd "end"]]) ?_ ?_ ?_
  · intro x hx
    have hs : ∀ l : List Stm, x ∈ l.map Stm.words → x ≠ [] := fun l hl => by obtain ⟨s, _, rfl⟩ := List.mem_map.mp hl; exact st_words_ne s
    simp only [List.mem_append, List.mem_cons, List.not_mem_nil, or_false] at hx
    rcases hx with (((rfl | rfl) | h) | h) | rfl
    · simp
    · exact ex_words_ne e
    · exact hs _ h
    · split at h
      · cases h
      · rcases List.mem_cons.mp h with rfl | h
        · simp
        · exact hs _ h
    · simp
  · unfold iteParts btx
    cases t with
    | nil => simp [jn_one, Function.comp_def]
    | cons a b => simp [jn_one, Function.comp_def]
  · cases t with
    | nil => simp [Stm.words, block_flat]
    | cons a b => simp [Stm.words, block_flat]
theorem btx_len (l : List Stm) : (btx l).length = l.length := by unfold btx; simp
theorem sc__choice_text : FnScope ["statement", "_", "asked", "chosen", "others", "words"] ["statement"] (defScope s__choice_text) := ⟨rfl, rfl, rfl, by decide +kernel, rfl, by decide +kernel, by decide +kernel⟩
theorem ok_ct_step (D : Dt K mg) (k : Nat) (H__block_words : Has P w K mg base (3 * k + 10) (He.ga K "_block_words") ["block"] [] (spBws k)) : Has P w K mg base (3 * k + 11) (He.ga K "_choice_text") ["statement"] [] (spCt k) := by
  obtain ⟨fd, F⟩ := fd__choice_text D
  have H__expression_text := ok_et (P := P) (w := w) (base := base) D
  refine hasN F (F.bindsN fun _ _ _ _ _ _ us hl => match us, hl with | [_], _ => rfl) sc__choice_text (fun vs H Q E h => ?_) (fun cdv A outer s H vs Q E hr h => ?_)
  · obtain ⟨I, v, e, s, t, nm, pr, ar, rfl, _⟩ := h; rfl
  · obtain ⟨I, v, e, s, t, nm, pr, ar, rfl, s0, rv, ho, hl, hw, kk⟩ := h
    refine ⟨_, (pss_cons (ps_asg (pv 0) (pg_tupK K rfl (pgs_cons (pg_name (i := 1) sc__choice_text.nd rfl (Or.inl rfl)) (pgs_cons (pg_name (i := 2) sc__choice_text.nd rfl (Or.inl rfl)) (pgs_cons (pg_name (i := 3) sc__choice_text.nd rfl (Or.inl rfl)) (pgs_cons (pg_name (i := 4) sc__choice_text.nd rfl (Or.inl rfl)) pgs_nil))))))
      (pss_cons (ps_set (i := 5) sc__choice_text.nd rfl (Or.inl rfl) (pe_lst (pa_cons pe_str (pa_cons (pe_callH H__expression_text (hr.mono (by omega)) rfl (glo__expression_text D) passL (pa_cons (pv 2) pa_nil)) (pa_starK K (pe_callH H__block_words (hr.mono (by omega)) rfl (glo__block_words D) passL (pa_cons (pv 3) pa_nil)) pa_nil)))))
      (pss_cons (ps_if (pt_cmpR op_gt (pe_callB (call_lenK K) rfl (free_len D) PySem.boot_len (pa_cons (pv 4) pa_nil)) pe_int (nomark _))
      (pss_one (ps_expr (pe_bm PySem.F.plainAttrs_list PySem.F.slot_list_extend PySem.F.type_list_extend mt_extend (pv 5) (pa_cons (pe_lst (pa_cons pe_str (pa_starK K (pe_callH H__block_words (hr.mono (by omega)) rfl (glo__block_words D) passL (pa_cons (pv 4) pa_nil)) pa_nil))) pa_nil))))
      pss_nil)
      (pss_one (ps_ret (pe_bm PySem.F.plainAttrs_str PySem.F.slot_str_join PySem.F.type_str_join mt_join pe_str (pa_cons (pe_lst (pa_starK K (pv 5) (pa_cons pe_str pa_nil))) pa_nil))))))), ?_⟩
    obtain ⟨hk, he, hs, ht⟩ := ho
    cases k with
    | zero => omega
    | succ k =>
    rw [ite_jn] at hl kk
    obtain ⟨a, vs, rfl, ha, r⟩ := dR_at rv
    obtain ⟨v0, q0, rfl, h0, p0⟩ := dRs_c r
    obtain ⟨v1, q1, rfl, h1, p1⟩ := dRs_c p0
    obtain ⟨v2, q2, rfl, h2, p2⟩ := dRs_c p1
    obtain ⟨v3, q3, rfl, h3, p3⟩ := dRs_c p2
    obtain rfl := dRs_n p3
    have hl1 : (jn [wd "if", jn e.words]).length ≤ 10000000 ∧ (jn (btx s)).length ≤ 10000000 ∧ (jn (btx t)).length ≤ 10000000 := by
      have a1 := (jn_app_le (xs := [wd "if", jn e.words] ++ btx s ++ (if t.isEmpty = true then [] else wd "else" :: btx t)) (ys := [wd "end"])).1
      have a2 := (jn_app_le (xs := [wd "if", jn e.words] ++ btx s) (ys := (if t.isEmpty = true then [] else wd "else" :: btx t)))
      have a3 := (jn_app_le (xs := [wd "if", jn e.words]) (ys := btx s))
      have a4 : (jn (btx t)).length ≤ (jn (if t.isEmpty = true then [] else wd "else" :: btx t)).length := by
        cases t with
        | nil => exact Nat.le_refl _
        | cons x y => exact jn_cons_le
      have : (jn ([wd "if", jn e.words] ++ btx s ++ (if t.isEmpty = true then [] else wd "else" :: btx t) ++ [wd "end"])).length ≤ 10000000 := hl
      refine ⟨?_, ?_, ?_⟩ <;> omega
    have hle : (jn e.words).length ≤ 10000000 := Nat.le_trans (jn_cons_le (x := wd "if") (ys := [jn e.words])) hl1.1
    have hws : (blockWords s).length ≤ 1000000 ∧ (blockWords t).length ≤ 1000000 ∧ s.length + t.length + 10 ≤ 10000000 := by
      have b1 := len_le_words s
      have b2 := len_le_words t
      have b3 : (blockWords t).length ≤ ((if t.isEmpty = true then [] else wd "else" :: blockWords t) ++ [wd "end"]).length := by
        cases t with
        | nil => simp [blockWords]
        | cons a b => simp [List.isEmpty]; omega
      have hw : (Stm.ite e s t).words.length ≤ 1000000 := hw
      simp only [Stm.words, List.length_cons, List.length_append] at hw b3
      refine ⟨?_, ?_, ?_⟩ <;> omega
    refine ⟨_, rfl, a, _, rfl, SqT.of (s0 _ _ ha), rfl, _, _, rfl, _, _, rfl, _, _, rfl, _, _, rfl, rfl, ?_⟩
    refine ⟨_, rfl, I, _, e, nm, pr, rfl, s0, h1, he, hle, fun I1 H1 g1 => ?_⟩
    refine ⟨_, rfl, I1, _, s, nm, pr, ar, rfl, g1.ih, dR_up g1.ii _ _ h2, hs, by rw [btx_jn]; exact hl1.2.1, hws.1, fun I2 H2 w2 g2 r2 => ?_⟩
    obtain ⟨b2, us2, rfl, hb2, a2⟩ := seqs_of r2 g2.ih
    obtain rfl := a2.strs
    have lb : (btx s).length = s.length := btx_len s
    have lbt : (btx t).length = t.length := btx_len t
    refine ⟨b2, _, rfl, .inr (SqL.of hb2), (by simp only [List.length_cons, List.length_append, List.length_map, List.length_nil]; exact le_line (by omega)), fun l hlz => ?_⟩
    have gl : Gr [l] I2 H2 I2 (upd H2 l (.lst (.str (wd "if") :: .str (jn e.words) :: ((btx s).map V.str ++ [])))) := Gr.tmp g2.ih hlz
    have il : I2 l = none := g2.ih.free hlz
    (try dsimp only)
    have G0 := (g1.trans g2)
    refine seq_cut (fun σ' H' => ∃ I', σ' = [some (V.ref a), some v0, some v1, some v2, some v3, some (.ref l)] ∧ Gr [l] I2 H2 I' H' ∧ I' l = none ∧ H' l = some (.lst (([wd "if", jn e.words] ++ btx s ++ (if t.isEmpty = true then [] else wd "else" :: btx t)).map V.str))) (fun nx q => ?_) ?_
    · obtain ⟨a3, us3, rfl, ha3, r3⟩ := dR_at h3
      have l3 := dRs_len r3
      rw [blockDa_map, List.length_map] at l3
      have s2 : Same I H2 := G0.ii.trans G0.ih
      refine ⟨_, rfl, _, _, rfl, .inr ⟨_, SqT.of (gl.ih _ _ (g2.ii _ _ (g1.ii _ _ ha3))), rfl⟩, _, _, rfl, rfl, _, rfl, ?_⟩
      refine ifD (fun c => ?_) (fun c => ?_)
      · have ht0 : t.isEmpty = false := by
          cases t with
          | nil => simp at l3; rw [l3] at c; simp at c
          | cons x y => rfl
        refine ⟨_, rfl, .inl ⟨rfl, _, SqL.of upd_same⟩, ?_⟩
        refine ⟨_, rfl, I2, _, t, nm, pr, ar, rfl, gl.ih, dR_up G0.ii _ _ h3, ht, by rw [btx_jn]; exact hl1.2.2, hws.2.1, fun I4 H4 w4 g4 r4 => ?_⟩
        obtain ⟨b4, us4, rfl, hb4, a4⟩ := seqs_of r4 g4.ih
        obtain rfl := a4.strs
        refine ⟨b4, _, rfl, .inr (SqL.of hb4), (by simp only [List.length_cons, List.length_append, List.length_map, List.length_nil]; exact le_line (by omega)), fun m hm => ?_⟩
        have hl4 := g4.at upd_same (by simp)
        have nlm : l ≠ m := fun z => by rw [← z, hl4] at hm; cases hm
        refine ⟨l, m, _, _, rfl, rfl, (by rw [upd_ne nlm]; exact hl4), upd_same, (by simp only [List.length_cons, List.length_append, List.length_map, List.length_nil]; exact le_line (by omega)), ?_⟩
        have gm := Gr.new (ms := [l]) (o := .lst (.str (wd "else") :: ((btx t).map V.str ++ []))) g4.ih hm
        have i4 := g4.out il upd_same
        have im : upd I4 m (.lst (.str (wd "else") :: ((btx t).map V.str ++ []))) l = none := by rw [upd_ne nlm]; exact i4
        have gx := Gr.mut (ms := [l]) (o := .lst (.str (wd "if") :: .str (jn e.words) :: ((btx s).map V.str ++ []) ++ (.str (wd "else") :: ((btx t).map V.str ++ [])))) gm.ih im (by simp)
        refine q _ _ ⟨_, rfl, ((gl.trans (g4.mono fun _ z => nomatch z)).trans gm).trans gx, im, ?_⟩
        rw [upd_same, ht0, if_neg Bool.false_ne_true]
        simp
        exact ⟨rfl, rfl⟩
      · have ht0 : t = [] := by
          cases t with
          | nil => rfl
          | cons x y => exact absurd (by rw [l3]; simp) c
        subst ht0
        refine q _ _ ⟨_, rfl, gl, il, ?_⟩
        rw [upd_same]; simp
        rfl
    rintro σ' H' ⟨I', rfl, gg, hI, hH⟩
    (try dsimp only)
    have lit : (if t.isEmpty = true then [] else wd "else" :: btx t).length ≤ t.length + 1 := by split <;> simp [btx_len]
    refine ⟨rfl, _, rfl, l, _, rfl, .inr (SqL.of hH), ?_, fun m hm => ?_⟩
    · simp only [List.length_cons, List.length_append, List.length_map, List.length_nil]
      exact le_line (by omega)
    have e9 : ([wd "if", jn e.words] ++ btx s ++ (if t.isEmpty = true then [] else wd "else" :: btx t)).map V.str ++ [V.str "end"] = (iteParts e s t).map V.str := by
      unfold iteParts; rw [List.map_append (l₁ := _ ++ _ ++ _)]; rfl
    refine ⟨" ", m, iteParts e s t, rfl, rfl, .inl (SqL.of (upd_same.trans (congrArg (fun x => some (HO.lst x)) e9))), ?_, ?_⟩
    · have := jn_len (iteParts e s t)
      rw [if_neg (by unfold iteParts; simp)] at this
      have l1 : Str.length (" " : Str) = 1 := by decide +kernel
      rw [l1]; omega
    · exact kk _ _ (G0.trans ((gg.trans (Gr.new gg.ih hm)).drop hlz))
theorem sc__statement_text : FnScope ["statement", "word"] ["statement"] (defScope s__statement_text) := ⟨rfl, rfl, rfl, by decide +kernel, rfl, by decide +kernel, by decide +kernel⟩
theorem ok_stt_step (D : Dt K mg) (k : Nat) (H__choice_text : Has P w K mg base (3 * k + 11) (He.ga K "_choice_text") ["statement"] [] (spCt k)) : Has P w K mg base (3 * k + 12) (He.ga K "_statement_text") ["statement"] [] (spStt k) := by
  obtain ⟨fd, F⟩ := fd__statement_text D
  have H__expression_text := ok_et (P := P) (w := w) (base := base) D
  refine hasN F (F.bindsN fun _ _ _ _ _ _ us hl => match us, hl with | [_], _ => rfl) sc__statement_text (fun vs H Q E h => ?_) (fun cdv A outer s H vs Q E hr h => ?_)
  · obtain ⟨I, v, s, nm, pr, ar, rfl, _⟩ := h; rfl
  · obtain ⟨I, v, s, nm, pr, ar, rfl, s0, rv, ho, hl, hw, kk⟩ := h
    refine ⟨_, (pss_cons (ps_set (i := 1) sc__statement_text.nd rfl (Or.inl rfl) (pe_ix (ix_tupK K) (pv 0) pe_int (fun _ _ => rfl)))
      (pss_cons (ps_if (pt_cmpR op_eq (pv 1) pe_str (nomark _))
      (pss_one (ps_ret (pe_callH H__choice_text (hr.mono (by omega)) rfl (glo__choice_text D) passL (pa_cons (pv 0) pa_nil))))
      pss_nil)
      (pss_cons (ps_if (pt_cmpR op_eq (pv 1) pe_str (nomark _))
      (pss_one (ps_ret (pe_joined (PJ.cons pe_str (PJ.cons (pe_fmt (pe_callH H__expression_text (hr.mono (by omega)) rfl (glo__expression_text D) passL (pa_cons (pe_ix (ix_tupK K) (pv 0) pe_int (fun _ _ => rfl)) pa_nil))) PJ.nil)))))
      pss_nil)
      (pss_cons (ps_if (pt_cmpR op_eq (pv 1) pe_str (nomark _))
      (pss_one (ps_ret (pe_joined (PJ.cons pe_str (PJ.cons (pe_fmt (pe_ix (ix_tupK K) (pv 0) pe_int (fun _ _ => rfl))) (PJ.cons pe_str (PJ.cons (pe_fmt (pe_ix (ix_tupK K) (pv 0) pe_int (fun _ _ => rfl))) PJ.nil)))))))
      pss_nil)
      (pss_one (ps_ret (pe_joined (PJ.cons (pe_fmt (pv 1)) (PJ.cons pe_str (PJ.cons (pe_fmt (pe_ix (ix_tupK K) (pv 0) pe_int (fun _ _ => rfl))) (PJ.cons pe_str (PJ.cons (pe_fmt (pe_callH H__expression_text (hr.mono (by omega)) rfl (glo__expression_text D) passL (pa_cons (pe_ix (ix_tupK K) (pv 0) pe_int (fun _ _ => rfl)) pa_nil))) PJ.nil)))))))))))), ?_⟩
    have l1 : spc.length = 1 := by decide +kernel
    cases s with
    | ite e s t =>
      obtain ⟨a, vs, rfl, ha, r⟩ := dR_at rv
      obtain ⟨v0, q0, rfl, h0, p0⟩ := dRs_c r
      obtain rfl := dR_s h0
      refine ⟨_, rfl, _, _, _, _, rfl, rfl, SqT.of (s0 _ _ ha), at_of (j := 0) rfl rfl, _, rfl, rfl, _, rfl, ifT (by decide +kernel) ?_⟩
      exact ⟨_, rfl, I, _, e, s, t, nm, pr, ar, rfl, s0, rv, ho, hl, hw, kk⟩
    | say e =>
      obtain ⟨a, vs, rfl, ha, r⟩ := dR_at rv
      obtain ⟨v0, q0, rfl, h0, p0⟩ := dRs_c r
      obtain ⟨v1, q1, rfl, h1, p1⟩ := dRs_c p0
      obtain rfl := dR_s h0
      obtain rfl := dRs_n p1
      have ew : jn (Stm.say e).words = wd "say" ++ (spc ++ jn e.words) := by
        rw [show (Stm.say e).words = [wd "say"] ++ e.words from rfl, jn_app (by simp) (ex_words_ne e), jn_one]
      rw [ew] at hl kk
      rw [len_app, len_app] at hl
      have l7 : Str.length (wd "say") = 3 := by decide +kernel
      refine ⟨_, rfl, _, _, _, _, rfl, rfl, SqT.of (s0 _ _ ha), at_of (j := 0) rfl rfl, _, rfl, rfl, _, rfl, ifF (by decide +kernel) ?_⟩
      (try unfold tNext)
      (try dsimp only)
      refine ⟨_, rfl, rfl, _, rfl, ifT (by decide +kernel) ?_⟩
      refine ⟨"say ", rfl, (by decide +kernel), _, rfl, _, _, _, _, rfl, rfl, SqT.of (s0 _ _ ha), at_of (j := 1) rfl rfl, I, _, e, nm, pr, rfl, s0, h1, ho.2, by omega, fun I1 H1 g1 => .inl ⟨_, rfl, le_line (by omega), _, rfl, ?_, ?_⟩⟩
      · rw [empty_app', len_app]; exact le_line (by have : Str.length ("say " : Str) = 4 := by decide +kernel
                                                    omega)
      · have := kk _ _ g1
        have e9 : Str.empty ++ ("say " : Str) ++ jn e.words = wd "say" ++ (spc ++ jn e.words) := by
          rw [empty_app', ← app_assoc]; rfl
        rw [← e9] at this; exact this
    | draw x n =>
      obtain ⟨a, vs, rfl, ha, r⟩ := dR_at rv
      obtain ⟨v0, q0, rfl, h0, p0⟩ := dRs_c r
      obtain ⟨v1, q1, rfl, h1, p1⟩ := dRs_c p0
      obtain ⟨v2, q2, rfl, h2, p2⟩ := dRs_c p1
      obtain rfl := dR_s h0
      obtain rfl := dR_s h1
      obtain rfl := dR_i h2
      obtain rfl := dRs_n p2
      have ew : jn (Stm.draw x n).words = wd "draw" ++ (spc ++ (x ++ (spc ++ dec n))) := by
        rw [show (Stm.draw x n).words = [wd "draw"] ++ ([x] ++ [dec n]) from rfl, jn_app (by simp) (by simp), jn_app (by simp) (by simp), jn_one, jn_one, jn_one]
      rw [ew] at hl kk
      rw [len_app, len_app, len_app, len_app] at hl
      refine ⟨_, rfl, _, _, _, _, rfl, rfl, SqT.of (s0 _ _ ha), at_of (j := 0) rfl rfl, _, rfl, rfl, _, rfl, ifF (by decide +kernel) ?_⟩
      (try unfold tNext)
      (try dsimp only)
      refine ⟨_, rfl, rfl, _, rfl, ifF (by decide +kernel) ?_⟩
      (try unfold tNext)
      (try dsimp only)
      refine ⟨_, rfl, rfl, _, rfl, ifT (by decide +kernel) ?_⟩
      have l5 : Str.length ("draw " : Str) = 5 := by decide +kernel
      have l7 : Str.length (wd "draw") = 4 := by decide +kernel
      have l6 : Str.length (" " : Str) = 1 := by decide +kernel
      have hn := ho.2.2
      refine ⟨"draw ", rfl, (by decide +kernel), _, rfl, _, _, _, _, rfl, rfl, SqT.of (s0 _ _ ha), at_of (j := 1) rfl rfl, .inl ⟨x, rfl, le_line (by omega), x, rfl, (by rw [empty_app', len_app]; exact le_line (by omega)), " ", rfl, (by rw [empty_app', len_app, len_app]; exact le_line (by omega)), _, rfl, _, _, _, _, rfl, rfl, SqT.of (s0 _ _ ha), at_of (j := 2) rfl rfl, .inr ⟨_, rfl, nat_log (by omega), _, rfl, ?_, ?_⟩⟩⟩
      · show (Str.empty ++ ("draw " : Str) ++ x ++ (" " : Str) ++ dec n).length ≤ sizeLine
        rw [empty_app', len_app, len_app, len_app]; exact le_line (by omega)
      · have := kk _ _ (Gr.refl s0)
        have e9 : Str.empty ++ ("draw " : Str) ++ x ++ (" " : Str) ++ dec n = wd "draw" ++ (spc ++ (x ++ (spc ++ dec n))) := by
          rw [empty_app', app_assoc, app_assoc, ← app_assoc (wd "draw")]; rfl
        rw [← e9] at this; exact this
    | set x e =>
      obtain ⟨a, vs, rfl, ha, r⟩ := dR_at rv
      obtain ⟨v0, q0, rfl, h0, p0⟩ := dRs_c r
      obtain ⟨v1, q1, rfl, h1, p1⟩ := dRs_c p0
      obtain ⟨v2, q2, rfl, h2, p2⟩ := dRs_c p1
      obtain rfl := dR_s h0
      obtain rfl := dR_s h1
      obtain rfl := dRs_n p2
      have ew : jn (Stm.set x e).words = wd "set" ++ (spc ++ (x ++ (spc ++ jn e.words))) := by
        rw [show (Stm.set x e).words = [wd "set"] ++ ([x] ++ e.words) from rfl, jn_app (by simp) (by simp), jn_app (by simp) (ex_words_ne e), jn_one, jn_one]
      rw [ew] at hl kk
      rw [len_app, len_app, len_app, len_app] at hl
      refine ⟨_, rfl, _, _, _, _, rfl, rfl, SqT.of (s0 _ _ ha), at_of (j := 0) rfl rfl, _, rfl, rfl, _, rfl, ifF (by decide +kernel) ?_⟩
      (try unfold tNext)
      (try dsimp only)
      refine ⟨_, rfl, rfl, _, rfl, ifF (by decide +kernel) ?_⟩
      (try unfold tNext)
      (try dsimp only)
      refine ⟨_, rfl, rfl, _, rfl, ifF (by decide +kernel) ?_⟩
      (try unfold tNext)
      (try dsimp only)
      have l5 : Str.length (wd "set") = 3 := by decide +kernel
      have l6 : Str.length (" " : Str) = 1 := by decide +kernel
      refine ⟨_, rfl, .inl ⟨wd "set", rfl, (by decide +kernel), wd "set", rfl, (by decide +kernel), " ", rfl, (by decide +kernel), _, rfl, _, _, _, _, rfl, rfl, SqT.of (s0 _ _ ha), at_of (j := 1) rfl rfl, .inl ⟨x, rfl, le_line (by omega), x, rfl, (by rw [empty_app', len_app, len_app]; exact le_line (by omega)), " ", rfl, (by rw [empty_app', len_app, len_app, len_app]; exact le_line (by omega)), _, rfl, _, _, _, _, rfl, rfl, SqT.of (s0 _ _ ha), at_of (j := 2) rfl rfl, I, _, e, nm, pr, rfl, s0, h2, ho.2, by omega, fun I1 H1 g1 => .inl ⟨_, rfl, le_line (by omega), _, rfl, ?_, ?_⟩⟩⟩⟩
      · rw [empty_app', len_app, len_app, len_app, len_app]; exact le_line (by omega)
      · have := kk _ _ g1
        have e9 : Str.empty ++ wd "set" ++ (" " : Str) ++ x ++ (" " : Str) ++ jn e.words = wd "set" ++ (spc ++ (x ++ (spc ++ jn e.words))) := by
          rw [empty_app', app_assoc, app_assoc, app_assoc]; rfl
        rw [← e9] at this; exact this
    | use x e =>
      obtain ⟨a, vs, rfl, ha, r⟩ := dR_at rv
      obtain ⟨v0, q0, rfl, h0, p0⟩ := dRs_c r
      obtain ⟨v1, q1, rfl, h1, p1⟩ := dRs_c p0
      obtain ⟨v2, q2, rfl, h2, p2⟩ := dRs_c p1
      obtain rfl := dR_s h0
      obtain rfl := dR_s h1
      obtain rfl := dRs_n p2
      have ew : jn (Stm.use x e).words = wd "use" ++ (spc ++ (x ++ (spc ++ jn e.words))) := by
        rw [show (Stm.use x e).words = [wd "use"] ++ ([x] ++ e.words) from rfl, jn_app (by simp) (by simp), jn_app (by simp) (ex_words_ne e), jn_one, jn_one]
      rw [ew] at hl kk
      rw [len_app, len_app, len_app, len_app] at hl
      refine ⟨_, rfl, _, _, _, _, rfl, rfl, SqT.of (s0 _ _ ha), at_of (j := 0) rfl rfl, _, rfl, rfl, _, rfl, ifF (by decide +kernel) ?_⟩
      (try unfold tNext)
      (try dsimp only)
      refine ⟨_, rfl, rfl, _, rfl, ifF (by decide +kernel) ?_⟩
      (try unfold tNext)
      (try dsimp only)
      refine ⟨_, rfl, rfl, _, rfl, ifF (by decide +kernel) ?_⟩
      (try unfold tNext)
      (try dsimp only)
      have l5 : Str.length (wd "use") = 3 := by decide +kernel
      have l6 : Str.length (" " : Str) = 1 := by decide +kernel
      refine ⟨_, rfl, .inl ⟨wd "use", rfl, (by decide +kernel), wd "use", rfl, (by decide +kernel), " ", rfl, (by decide +kernel), _, rfl, _, _, _, _, rfl, rfl, SqT.of (s0 _ _ ha), at_of (j := 1) rfl rfl, .inl ⟨x, rfl, le_line (by omega), x, rfl, (by rw [empty_app', len_app, len_app]; exact le_line (by omega)), " ", rfl, (by rw [empty_app', len_app, len_app, len_app]; exact le_line (by omega)), _, rfl, _, _, _, _, rfl, rfl, SqT.of (s0 _ _ ha), at_of (j := 2) rfl rfl, I, _, e, nm, pr, rfl, s0, h2, ho.2.2, by omega, fun I1 H1 g1 => .inl ⟨_, rfl, le_line (by omega), _, rfl, ?_, ?_⟩⟩⟩⟩
      · rw [empty_app', len_app, len_app, len_app, len_app]; exact le_line (by omega)
      · have := kk _ _ g1
        have e9 : Str.empty ++ wd "use" ++ (" " : Str) ++ x ++ (" " : Str) ++ jn e.words = wd "use" ++ (spc ++ (x ++ (spc ++ jn e.words))) := by
          rw [empty_app', app_assoc, app_assoc, app_assoc]; rfl
        rw [← e9] at this; exact this
theorem st_in {l : List Stm} {s : Stm} (h : s ∈ l) : s.words.length ≤ (blockWords l).length ∧ (jn s.words).length ≤ (jn (blockWords l)).length := by
  induction l with
  | nil => cases h
  | cons x r ih =>
    have e : blockWords (x :: r) = x.words ++ blockWords r := by rw [blockWords]
    rw [e]
    rcases List.mem_cons.mp h with rfl | h
    · exact ⟨by simp, (jn_app_le (xs := s.words) (ys := blockWords r)).1⟩
    · obtain ⟨a, b⟩ := ih h
      exact ⟨by simp; omega, Nat.le_trans b (jn_app_le (xs := x.words) (ys := blockWords r)).2⟩
theorem okBl_in {nm : List Str} {pr ar : Bool} {k : Nat} : ∀ {l : List Stm} {s : Stm}, okBl nm pr ar k l → s ∈ l → okSt nm pr ar k s
  | x :: r, s, h, hs => by
    rcases List.mem_cons.mp hs with rfl | hs
    · exact h.1
    · exact okBl_in h.2 hs
def iStt : Rp Stm := fun H v s => dR H v (s.da .tup)
instance : Mono iStt := ⟨fun s h => dR_up s _ _ h⟩
theorem sc__block_words : FnScope ["block", "statement"] ["block"] (defScope s__block_words) := ⟨rfl, rfl, rfl, by decide +kernel, rfl, by decide +kernel, by decide +kernel⟩
theorem ok_bw_step (D : Dt K mg) (k : Nat) (H__statement_text : Has P w K mg base (3 * k + 12) (He.ga K "_statement_text") ["statement"] [] (spStt k)) : Has P w K mg base (3 * k + 13) (He.ga K "_block_words") ["block"] [] (spBw k) := by
  obtain ⟨fd, F⟩ := fd__block_words D
  refine hasN F (F.bindsN fun _ _ _ _ _ _ us hl => match us, hl with | [_], _ => rfl) sc__block_words (fun vs H Q E h => ?_) (fun cdv A outer s H vs Q E hr h => ?_)
  · obtain ⟨I, v, l, nm, pr, ar, rfl, _⟩ := h; rfl
  · obtain ⟨I, v, l, nm, pr, ar, rfl, s0, rv, ho, hl, hw, kk⟩ := h
    refine ⟨_, (pss_one (ps_ret (pe_lc (own := [("statement", 1)]) (g := gName 1) rfl sc__block_words.nd (pi_tupK K (pv 0)) (blkOk_by (own := [("statement", 1)]) (N := ["block", "statement"]) (by kernel_rfl)) (fun _ _ _ _ _ => (pg_name (i := 1) sc__block_words.nd rfl (Or.inl rfl))) (fun _ _ _ _ _ => pts_nil) (fun _ _ _ _ _ => (pe_callH H__statement_text (hr.mono (by omega)) rfl (glo__statement_text D) passL (pa_cons (pv 1) pa_nil)))))), ?_⟩
    obtain ⟨a, vs, rfl, ha, r⟩ := dR_at rv
    rw [blockDa_map] at r
    have a2 : All2 (iStt I) vs l := All2.ofMap (R := iD I) (f := Stm.da .tup) (dRs_all r)
    have ll := len_le_words l
    refine ⟨_, rfl, a, rfl, ⟨_, SqT.of (s0 _ _ ha)⟩, fun p hD => lc_map (R := iStt) (Sy := iS) (fun s => jn s.words) (wk_tup ha) a2 s0 hD (lt_sl (by omega)) (fun i s I1 H1 Nx Qk hs rs s1 s2 k9 => ?_) (fun I1 H1 g1 r1 => kk _ _ _ g1 r1)⟩
    have hm := List.mem_of_getElem? hs
    obtain ⟨b1, b2⟩ := st_in hm
    refine ⟨rfl, _, rfl, I1, _, s, nm, pr, ar, rfl, s2, rs, okBl_in ho hm, by omega, by omega, fun I2 H2 g2 => k9 _ _ _ g2 rfl⟩
theorem ok_bw' (D : Dt K mg) : ∀ k, Has P w K mg base (3 * k + 10) (He.ga K "_block_words") ["block"] [] (spBws k)
  | 0 => by
    obtain ⟨fd, F⟩ := fd__block_words D
    exact has_never F (F.bindsN fun _ _ _ _ _ _ us hl => match us, hl with | [_], _ => rfl)
  | k + 1 => ok_bw_step D k (ok_stt_step D k (ok_ct_step D k (ok_bw' D k)))
theorem ok_bw (D : Dt K mg) : Has P w K mg base 25 (He.ga K "_block_words") ["block"] [] (spBw 4) := ok_bw' D 5
end
end K

set_option Elab.async false
set_option linter.all false
set_option maxRecDepth 100000
set_option maxHeartbeats 4000000
namespace K
open PySem PySem.Spec PyProof.Rows L2 Tk Hd Rd
section
variable {P : Program} {w : World} {K : PySem.W.Frag} {mg : Str → Option Value} {base : Heap}
def vtx (p : Str × Nat) : Str := wd "var" ++ (spc ++ (p.1 ++ (spc ++ dec p.2)))
def iVar : Rp (Str × Nat) := fun H v p => dR H v (.tup [.str p.1, .int (p.2 : Int)])
instance : Mono iVar := ⟨fun s h => dR_up s _ _ h⟩
def headT (b : Bx) : Str := wd "buttons" ++ (spc ++ (dec b.buttons ++ (spc ++ (wd "answers" ++ (spc ++ dec b.answers)))))
def bxParts (b : Bx) : List Str := [headT b] ++ b.vars.map vtx ++ (wd "start" :: (btx b.start ++ wd "press" :: btx b.block))
theorem var_flat : ∀ l : List (Str × Nat), varWords l = (l.map fun p => [wd "var", p.1, dec p.2]).flatten
  | [] => rfl
  | (x, n) :: r => by rw [varWords, var_flat r]; rfl
theorem box_jn (b : Bx) : jn b.words = jn (bxParts b) := by
  have h : ∀ xss : List (List Str), (∀ x ∈ xss, x ≠ []) → bxParts b = xss.map jn → b.words = xss.flatten → jn b.words = jn (bxParts b) := fun xss h1 h2 h3 => by rw [h2, h3, jn_jn h1]
  refine h ([[wd "buttons", dec b.buttons, wd "answers", dec b.answers]] ++ (b.vars.map fun p => [wd "var", p.1, dec p.2]) ++ ([wd "start"] :: (b.start.map Stm.words ++ [wd "press"] :: b.block.map Stm.words))) ?_ ?_ ?_
  · intro x hx
    have hs : ∀ l : List Stm, x ∈ l.map Stm.words → x ≠ [] := fun l hl => by obtain ⟨s, _, rfl⟩ := List.mem_map.mp hl; exact st_words_ne s
    simp only [List.mem_append, List.mem_cons, List.not_mem_nil, or_false] at hx
    rcases hx with (rfl | h) | rfl | h | rfl | h
    · simp
    · obtain ⟨p, _, rfl⟩ := List.mem_map.mp h; simp
    · simp
    · exact hs _ h
    · simp
    · exact hs _ h
  · have e1 : jn [wd "buttons", dec b.buttons, wd "answers", dec b.answers] = headT b := by
      rw [jn_cons, jn_cons, jn_cons, jn_one]; rfl
    have e2 : (b.vars.map fun p => [wd "var", p.1, dec p.2]).map jn = b.vars.map vtx := by
      rw [List.map_map]
      refine List.map_congr_left fun p _ => ?_
      show jn [wd "var", p.1, dec p.2] = _
      rw [jn_cons, jn_cons, jn_one]; rfl
    unfold bxParts btx
    rw [List.map_append, List.map_append, e2, List.map_cons, List.map_nil, e1, List.map_cons, List.map_append, List.map_cons, jn_one, jn_one, List.map_map, List.map_map]
    rfl
  · simp [Bx.words, var_flat, block_flat]
def spBoxText (K : PySem.W.Frag) : Sp := fun vs H Q _ => ∃ (I : Hp) (v : V) (b : Bx) (ar : Bool), vs = [v] ∧ Same I H ∧ iBx K I v b ∧ okBx ar b ∧ (jn b.words).length ≤ 10000000 ∧ b.words.length ≤ 1000000 ∧ ∀ I' H', Gr [] I H I' H' → Q (.str (jn b.words)) H'
theorem bf_b {b a : Int} {v s t : V} : (bxF b a v s t).lookup ("buttons" : Str) = some (.int b) := by kernel_rfl
theorem bf_a {b a : Int} {v s t : V} : (bxF b a v s t).lookup ("answers" : Str) = some (.int a) := by kernel_rfl
theorem bf_v {b a : Int} {v s t : V} : (bxF b a v s t).lookup ("variables" : Str) = some v := by kernel_rfl
theorem bf_s {b a : Int} {v s t : V} : (bxF b a v s t).lookup ("start" : Str) = some s := by kernel_rfl
theorem bf_t {b a : Int} {v s t : V} : (bxF b a v s t).lookup ("block" : Str) = some t := by kernel_rfl
theorem sc_box_text : FnScope ["box", "words", "name", "size"] ["box"] (defScope s_box_text) := ⟨rfl, rfl, rfl, by decide +kernel, rfl, by decide +kernel, by decide +kernel⟩
theorem ok_box_text (D : Dt K mg) : Has P w K mg base 26 (He.ga K "box_text") ["box"] [] (spBoxText K) := by
  obtain ⟨fd, F⟩ := fd_box_text D
  have H__block_words := ok_bw (P := P) (w := w) (base := base) D
  refine hasN F (F.bindsN fun _ _ _ _ _ _ us hl => match us, hl with | [_], _ => rfl) sc_box_text (fun vs H Q E h => ?_) (fun cdv A outer s H vs Q E hr h => ?_)
  · obtain ⟨I, v, b, ar, rfl, _⟩ := h; rfl
  · obtain ⟨I, v, b, ar, rfl, s0, rv, ho, hl, hw, kk⟩ := h
    refine ⟨_, (pss_cons (ps_set (i := 1) sc_box_text.nd rfl (Or.inl rfl) (pe_lst (pa_cons (pe_joined (PJ.cons pe_str (PJ.cons (pe_fmt (pe_fldK K (pv 0) rfl)) (PJ.cons pe_str (PJ.cons (pe_fmt (pe_fldK K (pv 0) rfl)) PJ.nil))))) pa_nil)))
      (pss_cons (ps_expr (pe_bm PySem.F.plainAttrs_list PySem.F.slot_list_extend PySem.F.type_list_extend mt_extend (pv 1) (pa_cons (pe_lc (own := [("name", 2), ("size", 3)]) (g := gTup K 2 (gCons (gName 2) (gCons (gName 3) gNil))) rfl sc_box_text.nd (pi_tupK K (pe_fldK K (pv 0) rfl)) (blkOk_by (own := [("name", 2), ("size", 3)]) (N := ["box", "words", "name", "size"]) (by kernel_rfl)) (fun _ _ _ _ _ => (pg_tupK K rfl (pgs_cons (pg_name (i := 2) sc_box_text.nd rfl (Or.inl rfl)) (pgs_cons (pg_name (i := 3) sc_box_text.nd rfl (Or.inl rfl)) pgs_nil)))) (fun _ _ _ _ _ => pts_nil) (fun _ _ _ _ _ => (pe_joined (PJ.cons pe_str (PJ.cons (pe_fmt (pv 2)) (PJ.cons pe_str (PJ.cons (pe_fmt (pv 3)) PJ.nil))))))) pa_nil)))
      (pss_one (ps_ret (pe_bm PySem.F.plainAttrs_str PySem.F.slot_str_join PySem.F.type_str_join mt_join pe_str (pa_cons (pe_lst (pa_starK K (pv 1) (pa_cons pe_str (pa_starK K (pe_callH H__block_words (hr.mono (by omega)) rfl (glo__block_words D) passL (pa_cons (pe_fldK K (pv 0) rfl) pa_nil)) (pa_cons pe_str (pa_starK K (pe_callH H__block_words (hr.mono (by omega)) rfl (glo__block_words D) passL (pa_cons (pe_fldK K (pv 0) rfl) pa_nil)) pa_nil)))))) pa_nil)))))), ?_⟩
    obtain ⟨p, dx, va, vs, vb, rfl, hp, r1, r2, r3⟩ := rv
    have lw : b.words.length = (varWords b.vars).length + (blockWords b.start).length + (blockWords b.block).length + 6 := by
      simp [Bx.words]; omega
    have e0 : b.words = wd "buttons" :: dec b.buttons :: wd "answers" :: dec b.answers :: (varWords b.vars ++ wd "start" :: (blockWords b.start ++ wd "press" :: blockWords b.block)) := rfl
    have ls : (jn (blockWords b.start)).length ≤ 10000000 ∧ (jn (blockWords b.block)).length ≤ 10000000 := by
      have a1 := jn_cons_le (x := wd "press") (ys := blockWords b.block)
      have a2 := jn_app_le (xs := blockWords b.start) (ys := wd "press" :: blockWords b.block)
      have a3 := jn_cons_le (x := wd "start") (ys := blockWords b.start ++ wd "press" :: blockWords b.block)
      have a4 := (jn_app_le (xs := varWords b.vars) (ys := wd "start" :: (blockWords b.start ++ wd "press" :: blockWords b.block))).2
      have a5 := jn_app_le (xs := [wd "buttons", dec b.buttons, wd "answers", dec b.answers]) (ys := varWords b.vars ++ wd "start" :: (blockWords b.start ++ wd "press" :: blockWords b.block))
      have e1 : [wd "buttons", dec b.buttons, wd "answers", dec b.answers] ++ (varWords b.vars ++ wd "start" :: (blockWords b.start ++ wd "press" :: blockWords b.block)) = b.words := rfl
      rw [e1] at a5
      omega
    rw [box_jn] at kk hl
    have b2 := ho.b2
    have a2 := ho.a2
    have db : (dec b.buttons).length ≤ 64 := dec_len (by omega)
    have da : (dec b.answers).length ≤ 64 := dec_len (by omega)
    have c1 : Str.length ("buttons " : Str) = 8 := by decide +kernel
    have c2 : Str.length (" answers " : Str) = 9 := by decide +kernel
    have hp0 := s0 _ _ hp
    refine ⟨"buttons ", rfl, (by decide +kernel), _, rfl, _, _, _, _, _, rfl, hp0, cls_Box D, na_Box_buttons D, bf_b, .inr ⟨_, rfl, nat_log (by omega), dec b.buttons, rfl, ?_, " answers ", rfl, ?_, _, rfl, _, _, _, _, _, rfl, hp0, cls_Box D, na_Box_answers D, bf_a, .inr ⟨_, rfl, nat_log (by omega), dec b.answers, rfl, ?_, ?_⟩⟩⟩
    · show (Str.empty ++ ("buttons " : Str) ++ dec b.buttons).length ≤ sizeLine
      rw [empty_app', len_app]; exact le_line (by omega)
    · show (Str.empty ++ ("buttons " : Str) ++ dec b.buttons ++ (" answers " : Str)).length ≤ sizeLine
      rw [empty_app', len_app, len_app]; exact le_line (by omega)
    · show (Str.empty ++ ("buttons " : Str) ++ dec b.buttons ++ (" answers " : Str) ++ dec b.answers).length ≤ sizeLine
      rw [empty_app', len_app, len_app, len_app]; exact le_line (by omega)
    have eh : Str.empty ++ ("buttons " : Str) ++ dec b.buttons ++ (" answers " : Str) ++ dec b.answers = headT b := by
      have x1 : ("buttons " : Str) = wd "buttons" ++ spc := by decide +kernel
      have x2 : (" answers " : Str) = spc ++ (wd "answers" ++ spc) := by decide +kernel
      unfold headT
      rw [empty_app', x1, x2]
      simp only [app_assoc]
    refine ⟨by show 1 ≤ sizeLine; decide, fun l hlz => ?_⟩
    rw [eh]
    have gl : Gr [l] I H I (upd H l (.lst [.str (headT b)])) := Gr.tmp s0 hlz
    have il := s0.free hlz
    have vl := ho.vl
    have lvx : (b.vars.map vtx).length ≤ 4 := by rw [List.length_map]; exact vl
    (try dsimp only)
    refine seq_cut (fun σ' H' => ∃ I', σ' = [some (V.ref p), some (V.ref l), none, none] ∧ Gr [l] I H I' H' ∧ H' l = some (.lst (([headT b] ++ b.vars.map vtx).map V.str))) (fun nx q => ?_) ?_
    · obtain ⟨av, us, rfl, hav, rav⟩ := dR_at r1
      have a3 : All2 (iVar I) us b.vars := All2.ofMap (R := iD I) (f := fun p : Str × Nat => Da.tup [.str p.1, .int (p.2 : Int)]) (dRs_all rav)
      have vo := nmOk_of ho.vo
      refine ⟨_, rfl, .inl ⟨rfl, _, SqL.of upd_same⟩, _, rfl, _, _, _, _, _, rfl, gl.ih _ _ hp, cls_Box D, na_Box_variables D, bf_v, av, rfl, ⟨_, SqT.of (gl.ih _ _ hav)⟩, fun m hm => lc_map (te := fun σ H Q => tJs [tC (V.str "var "), tFmt (tVar 2), tC (V.str " "), tFmt (tVar 3)] Str.empty σ H fun out H1 => Q (V.str out) H1) (R := iVar) (Sy := iS) vtx (wk_tup hav) a3 gl.ih hm (Nat.lt_of_le_of_lt vl (by decide)) (fun i x I1 H1 Nx Qk hx rx s1 s2 k9 => ?_) (fun I1 H1 g1 r9 => ?_)⟩
      · obtain ⟨xa, xs, ex, hxa, rx2⟩ := dR_at rx
        obtain ⟨v0, q0, rfl, h0, p0⟩ := dRs_c rx2
        obtain ⟨v1, q1, rfl, h1, p1⟩ := dRs_c p0
        obtain rfl := dR_s h0
        obtain rfl := dR_i h1
        obtain rfl := dRs_n p1
        have hmem := List.mem_of_getElem? hx
        have nx8 := (name_facts (vo x hmem)).1
        have n12 : x.2 < 10 ^ 64 := by
          have : ∀ {l : List (Str × Nat)} {nm : List Str}, okVars nm l → x ∈ l → x.2 ≤ 12 := by
            intro l
            induction l with
            | nil => intro nm _ h; cases h
            | cons y r ih =>
              intro nm h hy
              rcases List.mem_cons.mp hy with rfl | hy
              · exact h.2.2.2.1
              · exact ih h.2.2.2.2 hy
          have := this ho.vo hmem
          omega
        have dl := dec_len n12
        have c3 : Str.length ("var " : Str) = 4 := by decide +kernel
        have c4 : Str.length (" " : Str) = 1 := by decide +kernel
        rw [ex]
        refine ⟨xa, _, rfl, SqT.of (s2 _ _ hxa), rfl, _, _, rfl, _, _, rfl, rfl, rfl, "var ", rfl, (by decide +kernel), _, rfl, .inl ⟨x.1, rfl, le_line (by omega), x.1, rfl, ?_, " ", rfl, ?_, _, rfl, .inr ⟨_, rfl, nat_log n12, dec x.2, rfl, ?_, ?_⟩⟩⟩
        · rw [empty_app', len_app]; exact le_line (by omega)
        · rw [empty_app', len_app, len_app]; exact le_line (by omega)
        · rw [empty_app', len_app, len_app, len_app]; exact le_line (by omega)
        · refine k9 _ _ _ (Gr.refl s2) ?_
          have x1 : ("var " : Str) = wd "var" ++ spc := by decide +kernel
          show V.str _ = V.str _
          unfold vtx
          rw [empty_app', x1]
          simp only [app_assoc]
          rfl
      · obtain ⟨m', zs, e9, hm', z2⟩ := r9
        cases e9
        obtain rfl := z2.strs
        have hl1 := g1.at upd_same (by simp)
        have i1 := g1.out il upd_same
        refine ⟨l, m, _, _, rfl, rfl, hl1, g1.ih _ _ hm', (by simp only [List.length_cons, List.length_nil, List.length_map] at lvx ⊢; exact le_line (by omega)), ?_⟩
        refine q _ _ ⟨I1, rfl, (gl.trans (g1.mono fun _ z => nomatch z)).trans (Gr.mut g1.ih i1 (by simp)), ?_⟩
        rw [upd_same]; simp
    rintro σ' H' ⟨I', rfl, gg, hH⟩
    (try dsimp only)
    have lbs := btx_len b.start
    have lbt := btx_len b.block
    have ll1 := len_le_words b.start
    have ll2 := len_le_words b.block
    refine ⟨rfl, _, rfl, l, _, rfl, .inr (SqL.of hH), ?_⟩
    refine ⟨_, rfl, _, _, _, _, _, rfl, gg.ih _ _ (gg.ii _ _ hp), cls_Box D, na_Box_start D, bf_s, I', _, b.start, _, _, _, rfl, gg.ih, dR_up gg.ii _ _ r2, ho.so, ls.1, by omega, fun I1 H1 w1 g1 r4 => ?_⟩
    obtain ⟨b1, us1, rfl, hb1, a1⟩ := seqs_of r4 g1.ih
    obtain rfl := a1.strs
    refine ⟨b1, _, rfl, .inr (SqL.of hb1), ?_⟩
    refine ⟨_, rfl, _, _, _, _, _, rfl, g1.ih _ _ (g1.ii _ _ (gg.ii _ _ hp)), cls_Box D, na_Box_block D, bf_t, I1, _, b.block, _, _, _, rfl, g1.ih, dR_up (gg.ii.trans g1.ii) _ _ r3, ho.bo, ls.2, by omega, fun I2 H2 w2 g2 r5 => ?_⟩
    obtain ⟨b5, us2, rfl, hb5, a5⟩ := seqs_of r5 g2.ih
    obtain rfl := a5.strs
    refine ⟨b5, _, rfl, .inr (SqL.of hb5), ?_, fun m hm => ?_⟩
    · simp only [List.length_cons, List.length_append, List.length_map, List.length_nil]
      exact le_line (by omega)
    have e9 : ([headT b] ++ b.vars.map vtx).map V.str ++ (V.str "start" :: ((btx b.start).map V.str ++ (V.str "press" :: ((btx b.block).map V.str ++ [])))) = (bxParts b).map V.str := by
      unfold bxParts
      simp only [List.map_append, List.map_cons, List.map_nil, List.append_nil]; rfl
    refine ⟨" ", m, bxParts b, rfl, rfl, .inl (SqL.of (upd_same.trans (congrArg (fun x => some (HO.lst x)) e9))), ?_, ?_⟩
    · have := jn_len (bxParts b)
      rw [if_neg (by unfold bxParts; simp)] at this
      have l1 : Str.length (" " : Str) = 1 := by decide +kernel
      rw [l1]; omega
    · exact kk _ _ ((gg.drop hlz).trans (g1.trans (g2.trans (Gr.new g2.ih hm))))
end
end K

set_option Elab.async false
set_option linter.all false
set_option maxRecDepth 100000
set_option maxHeartbeats 4000000
namespace Rd
open PySem PyProof.Rows TL Tk
theorem okVars_of : ∀ {zs : List (Str × Nat)} {nm : List Str}, (∀ z ∈ zs, isName z.1 = true ∧ 1 ≤ z.2 ∧ z.2 ≤ 12) → (nm ++ zs.map (·.1)).Nodup → okVars nm zs
  | [], _, _, _ => trivial
  | (x, n) :: r, nm, h, nd => by
    have h0 := h (x, n) (by simp)
    rw [List.map_cons] at nd
    have e : nm ++ x :: r.map (·.1) = nm ++ [x] ++ r.map (·.1) := by simp
    refine ⟨h0.1, fun hx => ?_, h0.2.1, h0.2.2, okVars_of (fun z hz => h z (by simp [hz])) (by rw [← e]; exact nd)⟩
    rw [List.nodup_append] at nd
    exact nd.2.2 x hx x (by simp) rfl
/-- the data of a box, as the laws make it -/
def bxDa (b : Bx) : Da := .tup [.int (b.buttons : Int), .int (b.answers : Int), .tup (b.vars.map fun p => .tup [.str p.1, .int (p.2 : Int)]), .tup (blockDa Da.tup b.start), .tup (blockDa Da.tup b.block)]
/-- as okBx, with at most d draws -/
structure okBd (d : Nat) (ar : Bool) (b : Bx) : Prop where
  b1 : 1 ≤ b.buttons
  b2 : b.buttons ≤ 4
  a1 : 1 ≤ b.answers
  a2 : b.answers ≤ 4
  vl : b.vars.length ≤ 4
  vo : okVars [] b.vars
  so : okBl (b.vars.map (·.1)) false ar 4 b.start
  bo : okBl (b.vars.map (·.1)) true ar 4 b.block
  dl : nds b.start + nds b.block ≤ d
  ul : nus b.start + nus b.block ≤ 24
theorem okBd.bx {d : Nat} {ar : Bool} {b : Bx} (h : okBd d ar b) (hd : d ≤ 3) : okBx ar b := ⟨h.b1, h.b2, h.a1, h.a2, h.vl, h.vo, h.so, h.bo, Nat.le_trans h.dl hd, h.ul⟩
structure BoxR (ar : Bool) (S d : Nat) (b : Bx) : Prop where
  ok : okBd d ar b
  sw : (blockWords b.start).length ≤ 3 * stB 4
  bw : (blockWords b.block).length ≤ 6 * stB 4
  sz : ∀ z ∈ b.vars, z.2 ≤ S
  two : S < 12 → b.vars.length ≤ 2
end Rd
namespace K
open PySem PySem.Spec PyProof.Rows L2 Tk Hd Rd
section
variable {P : Program} {w : World} {K : PySem.W.Frag} {mg : Str → Option Value} {base : Heap}
theorem pool_mut {I H : Hp} {p l : Addr} {o : HO} (n : p ≠ l) (h : PoolOk I H p) : PoolOk I (upd H l o) p := by
  obtain ⟨i, c, cells, pos, b, sd, lf, bd, h1, h2, h3, h5⟩ := h
  exact ⟨i, c, cells, pos, b, sd, lf, bd, h1, h2, h3, by rw [upd_ne n]; exact h5⟩
theorem pool_frz {I H : Hp} {p l : Addr} {o : HO} (n : p ≠ l) (hI : I l = none) (h : PoolOk I H p) : PoolOk (upd I l o) H p := by
  obtain ⟨i, c, cells, pos, b, sd, lf, bd, h1, h2, h3, h5⟩ := h
  exact ⟨by rw [upd_ne n]; exact i, c, cells, pos, b, sd, lf, bd, sNew hI _ _ h1, h2, h3, h5⟩
theorem stb_pool {p l : Addr} (n : p ≠ l) : Stb (fun I H => PoolOk I H p) l := ⟨fun hI h => pool_mut n h, fun hI h => pool_frz n hI h⟩
theorem cut2 : ∀ {ns : List Str}, ns.length ≤ 4 → cutV (ns.map V.str) none (some 2) = (ns.take 2).map V.str
  | [], _ => rfl
  | [_], _ => rfl
  | [_, _], _ => rfl
  | [_, _, _], _ => rfl
  | [_, _, _, _], _ => rfl
  | _ :: _ :: _ :: _ :: _ :: _, h => by simp at h
theorem merge_sc {L E : Addr} {d u : Nat} : mergeK [] (scK L E d u) = scK L E d u := by kernel_rfl
def spBox : Sp := fun vs H Q _ => ∃ (I : Hp) (p : Addr) (S d u : Nat) (ar : Bool), vs = [.ref p, .int (S : Int), .int (d : Int), .int (u : Int), .int 6] ∧ Same I H ∧ PoolOk I H p ∧ 1 ≤ S ∧ S ≤ 12 ∧ d ≤ 1000 ∧ u ≤ 24 ∧ (0 < u → ar = true) ∧
  ∀ I' H' v b, Gr [p] I H I' H' → PoolOk I' H' p → dR I' v (bxDa b) → BoxR ar S d b → Q v H'
theorem sc__law_box : FnScope ["pool", "sizes", "draws", "uses", "results", "names", "variables", "name", "scope", "start"] ["pool", "sizes", "draws", "uses", "results"] (defScope s__law_box) := ⟨rfl, rfl, rfl, by decide +kernel, rfl, by decide +kernel, by decide +kernel⟩
theorem ok_box (D : Dt K mg) : Has P w K mg base 19 (He.ga K "_law_box") ["pool", "sizes", "draws", "uses", "results"] [] spBox := by
  obtain ⟨fd, F⟩ := fd__law_box D
  have H__law_draw := ok_draw (P := P) (w := w) (base := base) D
  have H__law_names := ok_names (P := P) (w := w) (base := base) D
  have H__law_block := ok_bl4 (P := P) (w := w) (base := base) D
  refine hasN F (F.bindsN fun _ _ _ _ _ _ us hl => match us, hl with | [_, _, _, _, _], _ => rfl) sc__law_box (fun vs H Q E h => ?_) (fun cdv A outer s H vs Q E hr h => ?_)
  · obtain ⟨I, p, S, d, u, ar, rfl, _⟩ := h; rfl
  · obtain ⟨I, p, S, d, u, ar, rfl, s0, po, hS1, hS2, hd, hu, har, kk⟩ := h
    refine ⟨_, (pss_cons (ps_set (i := 5) sc__law_box.nd rfl (Or.inl rfl) (pe_callH H__law_names (hr.mono (by omega)) rfl (glo__law_names D) passL (pa_cons (pv 0) (pa_cons (pe_callH H__law_draw (hr.mono (by omega)) rfl (glo__law_draw D) passL (pa_cons (pv 0) (pa_cons pe_int pa_nil))) pa_nil))))
      (pss_cons (ps_if (pt_cmpR op_lt (pv 1) pe_int (nomark _))
      (pss_one (ps_set (i := 5) sc__law_box.nd rfl (Or.inl rfl) (pe_slice (sl_listK K) (pv 5) po_none (po_some pe_int))))
      pss_nil)
      (pss_cons (ps_setLc (own := [("name", 7)]) (g := gName 7) (i := 6) rfl sc__law_box.nd rfl rfl (sw_true rfl rfl rfl (by decide +kernel)) (pi_listK K (pv 5)) (blkOk_by (own := [("name", 7)]) (N := ["pool", "sizes", "draws", "uses", "results", "names", "variables", "name", "scope", "start"]) (by kernel_rfl)) (fun _ _ _ _ _ => (pg_name (i := 7) sc__law_box.nd rfl (Or.inl rfl))) (fun _ _ _ _ _ => pts_nil) (fun _ _ _ _ _ => (pe_tup (pa_cons (pv 7) (pa_cons (pe_op op_add pe_int (pe_callH H__law_draw (hr.mono (by omega)) rfl (glo__law_draw D) passL (pa_cons (pv 0) (pa_cons (pv 1) pa_nil)))) pa_nil)))))
      (pss_cons (ps_set (i := 8) sc__law_box.nd rfl (Or.inl rfl) (pe_disp (pps_cons pe_str (pv 5) (pps_cons pe_str (pe_lst pa_nil) (pps_cons pe_str (pv 2) (pps_cons pe_str (pv 3) (pps_cons pe_str (pv 4) pps_nil))))) rfl rfl (fun h => nomatch h) (by decide)))
      (pss_cons (ps_set (i := 9) sc__law_box.nd rfl (Or.inl rfl) (pe_callH H__law_block (hr.mono (by omega)) rfl (glo__law_block D) passL (pa_cons (pv 0) (pa_cons (pv 8) (pa_cons pe_int (pa_cons pe_int pa_nil))))))
      (pss_cons (ps_dput (hu_of hr) (pv 8) pe_str (pe_lst (pa_cons pe_str pa_nil)) rfl)
      (pss_one (ps_ret (pe_tup (pa_cons (pe_op op_add pe_int (pe_callH H__law_draw (hr.mono (by omega)) rfl (glo__law_draw D) passL (pa_cons (pv 0) (pa_cons pe_int pa_nil)))) (pa_cons (pe_op op_add pe_int (pe_callH H__law_draw (hr.mono (by omega)) rfl (glo__law_draw D) passL (pa_cons (pv 0) (pa_cons pe_int pa_nil)))) (pa_cons (pe_callTy (call_tuple_ofK K) rfl (free_tuple D) (by decide +kernel) (pa_cons (pv 6) pa_nil)) (pa_cons (pv 9) (pa_cons (pe_callH H__law_block (hr.mono (by omega)) rfl (glo__law_block D) passL (pa_cons (pv 0) (pa_cons (pv 8) (pa_cons pe_int (pa_cons pe_int pa_nil))))) pa_nil)))))))))))))), ?_⟩
    refine seq_cut (fun σ' H' => ∃ I' L ns, σ' = [some (.ref p), some (.int (S : Int)), some (.int (d : Int)), some (.int (u : Int)), some (.int 6), some (.ref L), none, none, none, none] ∧ Gr [p] I H I' H' ∧ PoolOk I' H' p ∧ I' L = some (.lst (ns.map V.str)) ∧ ns.length ≤ 4 ∧ NmsOk ns) (fun nx q => ?_) ?_
    · refine ⟨_, rfl, _, rfl, I, p, 5, rfl, s0, po, by decide, by decide, fun v H1 a0 a1 g1 po1 => ?_⟩
      obtain ⟨m, rfl⟩ := Int.eq_ofNat_of_zero_le a0
      exact ⟨I, p, m, rfl, g1.ih, po1, by omega, fun I2 H2 L ns g2 po2 hL hl ok => q _ _ ⟨I2, L, ns, rfl, g1.trans g2, po2, hL, by omega, ok⟩⟩
    rintro σ' H1 ⟨I1, L, ns, rfl, g1, po1, hL, hnl, ok⟩
    (try dsimp only)
    refine seq_cut (fun σ' H' => ∃ I' L ns, σ' = [some (.ref p), some (.int (S : Int)), some (.int (d : Int)), some (.int (u : Int)), some (.int 6), some (.ref L), none, none, none, none] ∧ Gr [p] I H I' H' ∧ PoolOk I' H' p ∧ I' L = some (.lst (ns.map V.str)) ∧ ns.length ≤ 4 ∧ NmsOk ns ∧ (S < 12 → ns.length ≤ 2)) (fun nx q => ?_) ?_
    · refine ⟨_, rfl, _, _, rfl, rfl, _, rfl, ifD (fun q1 => ?_) (fun q1 => ?_)⟩
      · refine ⟨_, rfl, _, rfl, L, _, rfl, SqL.of (g1.ih _ _ hL), fun L2 hL2 => ?_⟩
        have g2 := Gr.new (ms := []) (o := .lst (cutV (ns.map V.str) none (some 2))) g1.ih hL2
        exact q _ _ ⟨_, L2, ns.take 2, rfl, g1.trans g2.nil, po1.up g2 (by simp), by rw [upd_same, cut2 hnl], by rw [List.length_take]; omega, ⟨ok.nd.sublist (List.take_sublist 2 ns), fun x hx => ok.nm x (List.mem_of_mem_take hx)⟩, fun _ => by rw [List.length_take]; omega⟩
      · exact q _ _ ⟨I1, L, ns, rfl, g1, po1, hL, hnl, ok, fun z => absurd z (by omega)⟩
    clear g1 po1 hL hnl ok
    rintro σ' H1' ⟨I1, L, ns, rfl, g1, po1, hL, hnl, ok, h2n⟩
    (try dsimp only)
    -- the variables
    refine seq_cut (fun σ' H' => ∃ I' V1 zs, σ' = [some (.ref p), some (.int (S : Int)), some (.int (d : Int)), some (.int (u : Int)), some (.int 6), some (.ref L), some V1, none, none, none] ∧ Gr [p] I H I' H' ∧ PoolOk I' H' p ∧ I' L = some (.lst (ns.map V.str)) ∧ iL iVar I' V1 zs ∧ zs.map (·.1) = ns ∧ ∀ z ∈ zs, 1 ≤ z.2 ∧ z.2 ≤ S) (fun nx q => ?_) ?_
    · refine ⟨_, rfl, L, rfl, ⟨_, SqL.of (g1.ih _ _ hL)⟩, fun l hD => ?_⟩
      have npl := pool_ne po1 hD
      refine lc_wk [p] iVar (fun i z => ns[i]? = some z.1 ∧ 1 ≤ z.2 ∧ z.2 ≤ S) (fun I H => PoolOk I H p) (wk_list hL) g1.ih hD (by simpa using npl.symm) (by rw [List.length_map]; exact lt_sl (by omega)) (stb_pool npl) po1 (fun j I6 H6 Nx Qk hj s6 s7 po6 k9 => ?_) (fun I6 H6 ys6 zs g6 hD' b2 hz rl po6 => ?_)
      · rw [List.length_map] at hj
        have e1 : gv (ns.map V.str) j = .str ns[j] := gv_of (by rw [List.getElem?_map, List.getElem?_eq_getElem hj]; rfl)
        rw [e1]
        refine ⟨rfl, _, rfl, _, rfl, _, rfl, I6, p, _, rfl, s7, po6, by omega, by omega, fun v1 H7 a0 a1 g7 po7 => ⟨_, _, rfl, rfl, (by show 2 ≤ sizeLine; decide), fun t' ht' => ?_⟩⟩
        obtain ⟨m1, rfl⟩ := Int.eq_ofNat_of_zero_le a0
        have g8 := Gr.new (ms := []) (o := .tup [.str ns[j], .int ((1 : Int) + (m1 : Int))]) g7.ih ht'
        have em : (1 : Int) + (m1 : Int) = ((1 + m1 : Nat) : Int) := by omega
        exact k9 _ _ _ (ns[j], 1 + m1) (g7.trans g8.nil) (po7.up g8 (by simp)) (dR_tup upd_same (dRs_cons dR_str (dRs_cons (by rw [em]; exact dR_int) dRs_nil))) ⟨List.getElem?_eq_getElem hj, by simp, by simp; omega⟩
      · refine q _ _ ⟨I6, _, zs, rfl, g1.trans g6, po6, g6.ii _ _ hL, ⟨l, ys6, rfl, hD', b2⟩, ?_, fun z hz' => ?_⟩
        · rw [List.length_map] at hz
          refine List.ext_getElem? fun i => ?_
          rw [List.getElem?_map]
          cases e : zs[i]? with
          | none => rw [List.getElem?_eq_none_iff] at e; rw [List.getElem?_eq_none (by omega)]; rfl
          | some z => rw [(rl i z e).1]; rfl
        · obtain ⟨j, hj, e⟩ := List.getElem_of_mem hz'
          have := rl j _ (List.getElem?_eq_getElem hj)
          rw [e] at this; exact this.2
    clear g1 po1 hL
    rintro σ' H2 ⟨I2, V1, zs, rfl, g1, po1, hL, rv, hzs, hsz⟩
    (try dsimp only)
    -- the scope
    refine seq_cut (fun σ' H' => ∃ I' E sa, σ' = [some (.ref p), some (.int (S : Int)), some (.int (d : Int)), some (.int (u : Int)), some (.int 6), some (.ref L), some V1, none, some (.ref sa), none] ∧ H2 sa = none ∧ Gr [p] I2 H2 I' H' ∧ Sw I' H' p sa I' H' L E d u ∧ I' E = some (.lst [])) (fun nx q => ?_) ?_
    · refine fun sa hsa => ?_
      have g3 := Gr.tmp (ms := []) (o := .dK []) g1.ih hsa
      refine ⟨_, rfl, (by show 0 ≤ sizeLine; decide), fun E hE => ?_⟩
      have g4 := Gr.new (ms := []) (o := .lst []) g3.ih hE
      refine ⟨_, rfl, _, rfl, _, rfl, g4.hh _ _ (by simp) upd_same, scK L E d u, rfl, (by show 5 ≤ 15; decide), ?_⟩
      have nsE : sa ≠ E := ne_of_none upd_same hE
      have nps := pool_ne po1 hsa
      have po4 := po1.up (g3.trans g4) (by simp)
      have isa : (upd I2 E (.lst [])) sa = none := by rw [upd_ne nsE]; exact g1.ih.free hsa
      have gm : Gr [sa] I2 H2 _ (upd (upd (upd H2 sa (.dK [])) E (.lst [])) sa (.dK (mergeK [] (scK L E d u)))) := (g3.trans g4).nil.trans (Gr.mut g4.ih isa (by simp))
      have gf : Gr [p] I2 H2 _ (upd (upd (upd H2 sa (.dK [])) E (.lst [])) sa (.dK (mergeK [] (scK L E d u)))) := (gm.drop hsa).nil
      refine q _ _ ⟨_, E, sa, rfl, hsa, gf, ⟨Gr.refl gf.ih, pool_mut nps po4, isa, nps, by rw [upd_same, merge_sc]⟩, upd_same⟩
    rintro σ' H3 ⟨I3, E, sa, rfl, hsa, g3, w3, hE⟩
    (try dsimp only)
    have hL3 : I3 L = some (.lst (ns.map V.str)) := g3.ii _ _ hL
    refine ⟨_, rfl, _, rfl, I3, p, sa, L, E, ns, [], false, ar, d, u, 3, rfl, w3, ⟨hL3, hE, rfl, ok, hnl, har⟩, by decide, fun I4 H4 v4 l4 d4 u4 w4 r4 b4 => ?_⟩
    (try dsimp only)
    have f4 : ∀ {I' : Hp} {F : Addr}, Same I4 I' → I' F = some (.lst ([wd "press"].map V.str)) → Fnd I' L F ns [wd "press"] true ar d4 u4 := fun s e => ⟨s _ _ (w4.g.ii _ _ hL3), e, rfl, ok, hnl, fun z => har (by have := b4.ul; omega)⟩
    refine ⟨(by show 1 ≤ sizeLine; decide), fun F hF => ?_⟩
    have g5 := Gr.new (ms := []) (o := .lst [.str "press"]) w4.g.ih hF
    have w5 := w4.step0 g5
    refine ⟨_, rfl, sa, _, rfl, DPut.k (k := Sum.inr "extra") w5.hs sc_len, ?_⟩
    have w6 := w5.put (kvs := putK (scK L E d4 u4) (.inr "extra") (.ref F)) sp_extra
    have hF6 : (upd I4 F (.lst [.str "press"])) F = some (.lst ([wd "press"].map V.str)) := upd_same
    (try dsimp only)
    refine ⟨_, rfl, _, p, 4, rfl, w6.g.ih, w6.po, by decide, by decide, fun x1 H7 a0 a1 g7 po7 => ⟨_, _, rfl, rfl, ?_⟩⟩
    have w7 := w6.step g7 po7
    refine ⟨_, rfl, _, p, 4, rfl, w7.g.ih, w7.po, by decide, by decide, fun x2 H8 b0 b1 g8 po8 => ⟨_, _, rfl, rfl, ?_⟩⟩
    have w8 := w7.step g8 po8
    obtain ⟨m1, rfl⟩ := Int.eq_ofNat_of_zero_le a0
    obtain ⟨m2, rfl⟩ := Int.eq_ofNat_of_zero_le b0
    have rv8 : iL iVar (upd I4 F (.lst [.str "press"])) V1 zs := up ((g3.ii.trans w4.g.ii).trans g5.ii) rv
    refine ⟨_, rfl, tup_of (iA.l rv8) w8.g.ih fun I9 H9 v9 g9 r9 => ?_⟩
    have w9 := w8.step0 g9
    refine ⟨_, rfl, _, rfl, _, rfl, I9, p, sa, L, F, ns, [wd "press"], true, ar, d4, u4, 6, rfl, w9.self, f4 (g5.ii.trans g9.ii) (g9.ii _ _ hF6), by decide, fun I10 H10 v10 l10 d10 u10 w10 r10 b10 => ?_⟩
    refine ⟨(by show 5 ≤ sizeLine; decide), fun t ht => ?_⟩
    have g11 := Gr.new (ms := []) (o := .tup [.int ((1 : Int) + (m1 : Int)), .int ((1 : Int) + (m2 : Int)), v9, v4, v10]) w10.g.ih ht
    have w11 := (w9.trans w10).step0 g11
    have e1 : (1 : Int) + (m1 : Int) = ((1 + m1 : Nat) : Int) := by omega
    have e2 : (1 : Int) + (m2 : Int) = ((1 + m2 : Nat) : Int) := by omega
    have gall : Gr [sa, p] I H _ _ := ((g1.trans g3).mono (ns := [sa, p]) fun a z => by simp at z; simp [z]).trans (w11.g.mono fun a z => by simp at z; simp; exact z.symm)
    obtain ⟨tv, us, rfl, htv, av⟩ := r9
    refine kk _ _ _ ⟨1 + m1, 1 + m2, zs, l4, l10⟩ (gall.drop (g1.none hsa)) w11.po (dR_tup upd_same (dRs_cons (by rw [e1]; exact dR_int) (dRs_cons (by rw [e2]; exact dR_int) (dRs_cons ?_ (dRs_cons (dR_up (((g5.ii.trans g9.ii).trans w10.g.ii).trans g11.ii) _ _ r4) (dRs_cons (dR_up g11.ii _ _ r10) dRs_nil)))))) ?_
    · exact dR_tup (g11.ii _ _ (w10.g.ii _ _ htv)) (all_dRs (All2.mapR (av.up (w10.g.ii.trans g11.ii))))
    · have hnm : zs.length ≤ 4 := by rw [← hzs, List.length_map] at hnl; exact hnl
      refine ⟨⟨by simp, by simp; omega, by simp, by simp; omega, hnm, ?_, by rw [hzs]; exact b4.ok, by rw [hzs]; exact b10.ok, by have := b4.dl; have := b10.dl; simp only []; omega, by have := b4.ul; have := b10.ul; simp only []; omega⟩, b4.w, b10.w, fun z hz => (hsz z hz).2, fun z => by rw [← hzs, List.length_map] at h2n; exact h2n z⟩
      refine okVars_of (fun z hz => ⟨ok.nm z.1 (by rw [← hzs]; exact List.mem_map_of_mem hz), (hsz z hz).1, Nat.le_trans (hsz z hz).2 hS2⟩) ?_
      rw [hzs]; exact ok.nd
end
end K

set_option Elab.async false
set_option linter.all false
set_option maxRecDepth 100000
set_option maxHeartbeats 4000000
namespace Tk
open PySem PySem.Spec PyProof.Rows L2
theorem sl_tupK {X : Cx} (K : PySem.W.Frag) (hK : X.K = K := by rfl) : SlR X (rSlT K) := hK ▸ sl_tup
end Tk
namespace K
open PySem PySem.Spec PyProof.Rows L2 Tk Hd Rd
section
variable {P : Program} {w : World} {K : PySem.W.Frag} {mg : Str → Option Value} {base : Heap}
/-- a list of words of one's own, nothing else changes -/
structure Wl (I H I' H' : Hp) (l : Addr) (ws : List Str) : Prop where
  g : Gr [] I H I' H'
  il : I' l = none
  h0 : H l = none
  hl : H' l = some (.lst (ws.map V.str))
section
variable {I H I' H' I2 H2 : Hp} {l : Addr} {ws : List Str}
theorem Wl.new {vs : List V} (g : Gr [] I H I' H') (h : H' l = none) (e : vs = ws.map V.str) : Wl I H I' (upd H' l (.lst vs)) l ws := by
  subst e; exact ⟨g.trans (Gr.tmp g.ih h), g.ih.free h, g.none h, upd_same⟩
theorem Wl.step (w : Wl I H I' H' l ws) (g2 : Gr [] I' H' I2 H2) : Wl I H I2 H2 l ws := ⟨w.g.trans g2, g2.out w.il w.hl, w.h0, g2.at w.hl (by simp)⟩
theorem Wl.push (w : Wl I H I' H' l ws) (x : Str) : Wl I H I' (upd H' l (.lst (ws.map V.str ++ [.str x]))) l (ws ++ [x]) := by
  have g1 : Gr [l] I' H' I' (upd H' l (.lst (ws.map V.str ++ [.str x]))) := Gr.mut w.g.ih w.il (by simp)
  exact ⟨(w.g.nil.trans g1).drop w.h0, w.il, w.h0, by rw [upd_same]; simp⟩
theorem Wl.freeze (w : Wl I H I' H' l ws) (s0 : Same I H) : Gr [] I H (upd I' l (.lst (ws.map V.str))) H' := Gr.frz (w.g.nil) s0 w.h0 w.hl
end
theorem all2_at {α : Type} {R : V → α → Prop} : ∀ {vs : List V} {xs : List α} {i : Nat}, All2 R vs xs → i < xs.length → ∃ x, xs[i]? = some x ∧ R (gv vs i) x
  | _, _, _, .nil, h => by simp at h
  | v :: vs, x :: xs, 0, .cons a t, _ => ⟨x, rfl, a⟩
  | v :: vs, x :: xs, i + 1, .cons a t, h => by
    obtain ⟨y, e, r⟩ := all2_at (i := i) t (by simpa using h)
    exact ⟨y, by simpa using e, r⟩
theorem okBl_at {nm : List Str} {pr ar : Bool} {k : Nat} : ∀ {l : List Stm} {i : Nat} {st : Stm}, okBl nm pr ar k l → l[i]? = some st → okSt nm pr ar k st
  | [], _, _, _, h => by simp at h
  | s :: r, 0, st, h, e => by unfold okBl at h; simp at e; subst e; exact h.1
  | s :: r, i + 1, st, h, e => by unfold okBl at h; exact okBl_at (i := i) h.2 (by simpa using e)
theorem take_snoc {α : Type} {l : List α} {i : Nat} {x : α} (h : l[i]? = some x) : l.take (i + 1) = l.take i ++ [x] := by
  have hi : i < l.length := (List.getElem?_eq_some_iff.mp h).1
  rw [List.take_succ_eq_append_getElem hi]
  have : l[i] = x := (List.getElem?_eq_some_iff.mp h).2
  rw [this]
theorem bw_le {l : List Stm} (i : Nat) : (blockWords (l.take i)).length ≤ (blockWords l).length := by
  have := congrArg List.length (blw_app (l.take i) (l.drop i))
  rw [List.take_append_drop, List.length_append] at this; omega
def spLbw (k : Nat) : Sp := fun vs H Q _ => ∃ (I : Hp) (v : V) (l : List Stm) (nm : List Str) (pr ar : Bool), vs = [v] ∧ Same I H ∧ dR I v (.tup (blockDa Da.tup l)) ∧ okBl nm pr ar k l ∧ (blockWords l).length ≤ 1000000 ∧
  ∀ I' H' v', Gr [] I H I' H' → iSs I' v' (blockWords l) → Q v' H'
def spLbws : Nat → Sp
  | 0 => spNever
  | k + 1 => spLbw k
theorem sc__law_block_words : FnScope ["block", "words", "due"] ["block"] (defScope s__law_block_words) := ⟨rfl, rfl, rfl, by decide +kernel, rfl, by decide +kernel, by decide +kernel⟩
theorem ok_lbw_step (D : Dt K mg) (k : Nat) (H__law_block_words : Has P w K mg base (k + 7) (He.ga K "_law_block_words") ["block"] [] (spLbws k)) : Has P w K mg base (k + 8) (He.ga K "_law_block_words") ["block"] [] (spLbw k) := by
  obtain ⟨fd, F⟩ := fd__law_block_words D
  have H__law_value_words := ok_vw (P := P) (w := w) (base := base) D 4
  refine hasN F (F.bindsN fun _ _ _ _ _ _ us hl => match us, hl with | [_], _ => rfl) sc__law_block_words (fun vs H Q E h => ?_) (fun cdv A outer s H vs Q E hr h => ?_)
  · obtain ⟨I, v, l, nm, pr, ar, rfl, _⟩ := h; rfl
  · obtain ⟨I, v, l, nm, pr, ar, rfl, s0, rl, ok, hw, kk⟩ := h
    refine ⟨_, (pss_cons (ps_set (i := 1) sc__law_block_words.nd rfl (Or.inl rfl) (pe_lst pa_nil))
      (pss_cons (ps_for PassesOwn.never rfl (pi_tupK K (pv 0)) (pg_name (i := 2) sc__law_block_words.nd rfl (Or.inl rfl))
      (pss_one (ps_if (pt_cmpR op_eq (pe_ix (ix_tupK K) (pv 2) pe_int (fun _ _ => rfl)) pe_str (nomark _))
      (pss_cons (ps_set (i := 1) sc__law_block_words.nd rfl (Or.inl rfl) (pe_op op_cat (pe_op op_cat (pe_op op_cat (pv 1) (pe_lst (pa_cons pe_str pa_nil))) (pe_callH H__law_value_words (hr.mono (by omega)) rfl (glo__law_value_words D) passL (pa_cons (pe_ix (ix_tupK K) (pv 2) pe_int (fun _ _ => rfl)) pa_nil))) (pe_callH H__law_block_words (hr.mono (by omega)) rfl (glo__law_block_words D) passL (pa_cons (pe_ix (ix_tupK K) (pv 2) pe_int (fun _ _ => rfl)) pa_nil))))
      (pss_cons (ps_if (pt_cmpR op_gt (pe_callB (call_lenK K) rfl (free_len D) PySem.boot_len (pa_cons (pe_ix (ix_tupK K) (pv 2) pe_int (fun _ _ => rfl)) pa_nil)) pe_int (nomark _))
      (pss_one (ps_set (i := 1) sc__law_block_words.nd rfl (Or.inl rfl) (pe_op op_cat (pe_op op_cat (pv 1) (pe_lst (pa_cons pe_str pa_nil))) (pe_callH H__law_block_words (hr.mono (by omega)) rfl (glo__law_block_words D) passL (pa_cons (pe_ix (ix_tupK K) (pv 2) pe_int (fun _ _ => rfl)) pa_nil)))))
      pss_nil)
      (pss_one (ps_expr (pe_bm PySem.F.plainAttrs_list PySem.F.slot_list_append PySem.F.type_list_append mt_append (pv 1) (pa_cons pe_str pa_nil))))))
      (pss_one (ps_if (pt_cmpR op_eq (pe_ix (ix_tupK K) (pv 2) pe_int (fun _ _ => rfl)) pe_str (nomark _))
      (pss_one (ps_set (i := 1) sc__law_block_words.nd rfl (Or.inl rfl) (pe_op op_cat (pv 1) (pe_lst (pa_cons pe_str (pa_cons (pe_ix (ix_tupK K) (pv 2) pe_int (fun _ _ => rfl)) (pa_cons (pe_callTy call_strAny rfl (free_str D) (by decide +kernel) (pa_cons (pe_ix (ix_tupK K) (pv 2) pe_int (fun _ _ => rfl)) pa_nil)) pa_nil)))))))
      (pss_one (ps_set (i := 1) sc__law_block_words.nd rfl (Or.inl rfl) (pe_op op_cat (pe_op op_cat (pv 1) (pe_callTy (call_list_ofK K) rfl (free_list D) (by decide +kernel) (pa_cons (pe_slice (sl_tupK K) (pv 2) po_none (po_some (pe_un un_neg pe_int))) pa_nil))) (pe_callH H__law_value_words (hr.mono (by omega)) rfl (glo__law_value_words D) passL (pa_cons (pe_ix (ix_tupK K) (pv 2) (pe_un un_neg pe_int) (fun _ _ => rfl)) pa_nil))))))))))
      (pss_one (ps_ret (pv 1))))), ?_⟩
    obtain ⟨b, us, rfl, hb, ru⟩ := dR_at rl
    rw [blockDa_map] at ru
    have au : All2 (fun v x => iD I v (Stm.da Da.tup x)) us l := All2.ofMap (dRs_all ru)
    refine ⟨(by show 0 ≤ sizeLine; decide), fun L hL => ?_⟩
    have w1 : Wl I H I (upd H L (.lst [])) L (blockWords (l.take 0)) := Wl.new (Gr.refl s0) hL rfl
    (try dsimp only)
    refine seq_cut (fun σ' H' => ∃ I' L v2, σ' = [some (.ref b), some (.ref L), v2] ∧ Wl I H I' H' L (blockWords l)) (fun nx q => ?_) ?_
    · refine ⟨_, rfl, b, rfl, ⟨_, SqT.of (w1.g.ih _ _ hb)⟩, ?_⟩
      refine for_wk (wk_tup hb) (fun σ' H' => ∃ I' L v2, σ' = [some (.ref b), some (.ref L), v2] ∧ Wl I H I' H' L (blockWords l))
        (fun i σ' H' => ∃ I' L v2, σ' = [some (.ref b), some (.ref L), v2] ∧ Wl I H I' H' L (blockWords (l.take i)))
        (fun i σ' H' h => by obtain ⟨I', _, _, _, w⟩ := h; exact w.g.ii.trans w.g.ih)
        ⟨I, L, none, rfl, w1⟩ (fun nx2 q2 i σ' H2 hi h => ?_) (fun σ' H' h => ?_) q
      · clear w1
        obtain ⟨I2, L2, v2, rfl, w2⟩ := h
        have hil : i < l.length := by rw [← au.len]; exact hi
        obtain ⟨st, est, rst⟩ := all2_at au hil
        have oks := okBl_at ok est
        have et : blockWords (l.take (i + 1)) = blockWords (l.take i) ++ st.words := by rw [take_snoc est, blw_app]; simp [blockWords]
        have hle := bw_le (l := l) (i + 1)
        rw [et, List.length_append] at hle
        generalize gv us i = dv at rst
        have ht0 : ∀ {t vs}, I t = some (.tup vs) → H2 t = some (.tup vs) := fun e => w2.g.ih _ _ (w2.g.ii _ _ e)
        have simple : ∀ (o x : Str) (e : Ex) (t : Addr) (v2 : V), (o = wd "set" ∨ o = wd "use") → I t = some (.tup [.str o, .str x, v2]) → iEx I v2 e → okEx nm pr 4 e → st.words = o :: x :: e.words → True := fun _ _ _ _ _ _ _ _ _ _ => trivial
        clear simple
        cases st with
        | ite e s t' =>
          unfold okSt at oks
          obtain ⟨hk0, oke, oks1, okt⟩ := oks
          obtain ⟨k', rfl⟩ : ∃ k', k = k' + 1 := ⟨k - 1, by omega⟩
          obtain ⟨t, vs, rfl, ht, r⟩ := dR_at (show dR I dv (.tup [.str (wd "if"), e.da, .tup (blockDa Da.tup s), .tup (blockDa Da.tup t')]) from rst)
          obtain ⟨v0, q0, rfl, h0, p0⟩ := dRs_c r
          obtain ⟨v1, q1, rfl, h1, p1⟩ := dRs_c p0
          obtain ⟨v2, q2, rfl, h2, p2⟩ := dRs_c p1
          obtain ⟨v3, q3, rfl, h3, p3⟩ := dRs_c p2
          obtain rfl := dRs_n p3
          obtain rfl := dR_s h0
          have eW : (Stm.ite e s t').words.length = 2 + e.words.length + (blockWords s).length + (if t'.isEmpty = true then ([] : List Str) else wd "else" :: blockWords t').length := by
            simp only [Stm.words, List.length_cons, List.length_append, List.length_nil]; omega
          rw [eW] at hle
          refine ⟨_, rfl, t, _, _, .str (wd "if"), rfl, rfl, SqT.of (ht0 ht), rfl, rfl, _, rfl, ifT (decide_eq_true rfl) ?_⟩
          (try dsimp only)
          refine seq_cut (fun σ' H' => ∃ I' L3, σ' = [some (.ref b), some (.ref L3), some (.ref t)] ∧ Wl I H I' H' L3 (blockWords (l.take i) ++ wd "if" :: (e.words ++ blockWords s))) (fun nx q => ?_) ?_
          · refine ⟨_, rfl, (by show 1 ≤ sizeLine; decide), fun a1 ha1 => ?_⟩
            have w3 := w2.step (Gr.new (o := .lst [.str "if"]) w2.g.ih ha1)
            refine ⟨L2, a1, _, _, rfl, rfl, w3.hl, upd_same, ?_, fun a2 ha2 => ?_⟩
            · rw [List.length_map]; exact le_line (by show (blockWords (l.take i)).length + 1 ≤ _; omega)
            have w4 := w3.step (Gr.new (o := .lst ((blockWords (l.take i)).map V.str ++ [.str "if"])) w3.g.ih ha2)
            refine ⟨_, rfl, t, _, _, v1, rfl, rfl, SqT.of (w4.g.ih _ _ (w4.g.ii _ _ ht)), rfl, _, v1, e, nm, pr, rfl, w4.g.ih, dR_up w4.g.ii _ _ h1, oke, by decide, fun I5 H5 x5 g5 r5 => ?_⟩
            obtain ⟨a5, rfl, ha5⟩ := r5
            have w5 := w4.step g5
            refine ⟨a2, a5, _, _, rfl, rfl, g5.ih _ _ (g5.ii _ _ upd_same), g5.ih _ _ ha5, ?_, fun a6 ha6 => ?_⟩
            · rw [List.length_append, List.length_map, List.length_map]; exact le_line (by show (blockWords (l.take i)).length + 1 + e.words.length ≤ _; omega)
            have w6 := w5.step (Gr.new (o := .lst ((blockWords (l.take i)).map V.str ++ [.str "if"] ++ e.words.map V.str)) w5.g.ih ha6)
            refine ⟨_, rfl, t, _, _, v2, rfl, rfl, SqT.of (w6.g.ih _ _ (w6.g.ii _ _ ht)), rfl, _, v2, s, nm, pr, ar, rfl, w6.g.ih, dR_up w6.g.ii _ _ h2, oks1, by omega, fun I7 H7 x7 g7 r7 => ?_⟩
            obtain ⟨a7, rfl, ha7⟩ := r7
            have w7 := w6.step g7
            refine ⟨a6, a7, _, _, rfl, rfl, g7.ih _ _ (g7.ii _ _ upd_same), g7.ih _ _ ha7, ?_, fun a8 ha8 => ?_⟩
            · rw [List.length_append, List.length_append, List.length_map, List.length_map, List.length_map]; exact le_line (by show (blockWords (l.take i)).length + 1 + e.words.length + (blockWords s).length ≤ _; omega)
            exact q _ _ ⟨_, a8, rfl, Wl.new w7.g ha8 (by simp only [List.map_append, List.map_cons, List.append_assoc, List.cons_append, List.nil_append] <;> rfl)⟩
          clear w2 ht0
          rintro σ' H3 ⟨I3, L3, rfl, w3⟩
          (try dsimp only)
          obtain ⟨c, us3, rfl, hc, ru3⟩ := dR_at h3
          have l3 : us3.length = t'.length := by
            have := dRs_len ru3
            rw [blockDa_map, List.length_map] at this; exact this
          refine seq_cut (fun σ' H' => ∃ I' L3, σ' = [some (.ref b), some (.ref L3), some (.ref t)] ∧ Wl I H I' H' L3 (blockWords (l.take i) ++ wd "if" :: (e.words ++ (blockWords s ++ (if t'.isEmpty = true then ([] : List Str) else wd "else" :: blockWords t'))))) (fun nx q => ?_) ?_
          · refine ⟨_, rfl, t, _, _, .ref c, rfl, rfl, SqT.of (w3.g.ih _ _ (w3.g.ii _ _ ht)), rfl, _, _, rfl, .inr ⟨_, SqT.of (w3.g.ih _ _ (w3.g.ii _ _ hc)), rfl⟩, _, _, rfl, rfl, _, rfl, ifD (fun q1 => ?_) (fun q1 => ?_)⟩
            · have hne : t'.isEmpty = false := by cases t' with
                | nil => simp at l3; subst l3; simp at q1
                | cons _ _ => rfl
              rw [hne, if_neg Bool.false_ne_true, List.length_cons] at hle
              rw [hne, if_neg Bool.false_ne_true] at q
              refine ⟨_, rfl, (by show 1 ≤ sizeLine; decide), fun a1 ha1 => ?_⟩
              have w4 := w3.step (Gr.new (o := .lst [.str "else"]) w3.g.ih ha1)
              refine ⟨L3, a1, _, _, rfl, rfl, w4.hl, upd_same, ?_, fun a2 ha2 => ?_⟩
              · rw [List.length_map, List.length_append, List.length_cons, List.length_append]; exact le_line (by show (blockWords (l.take i)).length + (e.words.length + (blockWords s).length + 1) + 1 ≤ _; omega)
              have w5 := w4.step (Gr.new (o := .lst ((blockWords (l.take i) ++ wd "if" :: (e.words ++ blockWords s)).map V.str ++ [.str "else"])) w4.g.ih ha2)
              refine ⟨_, rfl, t, _, _, .ref c, rfl, rfl, SqT.of (w5.g.ih _ _ (w5.g.ii _ _ ht)), rfl, _, .ref c, t', nm, pr, ar, rfl, w5.g.ih, dR_up w5.g.ii _ _ h3, okt, by omega, fun I7 H7 x7 g7 r7 => ?_⟩
              obtain ⟨a7, rfl, ha7⟩ := r7
              have w7 := w5.step g7
              refine ⟨a2, a7, _, _, rfl, rfl, g7.ih _ _ (g7.ii _ _ upd_same), g7.ih _ _ ha7, ?_, fun a8 ha8 => ?_⟩
              · rw [List.length_append, List.length_map, List.length_map, List.length_append, List.length_cons, List.length_append]; exact le_line (by show (blockWords (l.take i)).length + (e.words.length + (blockWords s).length + 1) + 1 + (blockWords t').length ≤ _; omega)
              exact q _ _ ⟨_, a8, rfl, Wl.new w7.g ha8 (by simp only [List.map_append, List.map_cons, List.append_assoc, List.cons_append, List.nil_append] <;> rfl)⟩
            · have hne : t'.isEmpty = true := by cases t' with
                | nil => rfl
                | cons _ _ => simp at l3; omega
              rw [hne, if_pos rfl] at q
              exact q _ _ ⟨_, L3, rfl, by rw [List.append_nil]; exact w3⟩
          clear w3
          rintro σ' H4 ⟨I4, L4, rfl, w4⟩
          (try dsimp only)
          refine ⟨_, rfl, .inl ⟨rfl, _, SqL.of w4.hl⟩, L4, _, _, rfl, rfl, w4.hl, ?_, ?_⟩
          · rw [List.length_map, List.length_append, List.length_cons, List.length_append, List.length_append]; exact lt_sl (by omega)
          · refine ⟨I4, L4, _, rfl, ?_⟩
            rw [et]
            have w5 := w4.push (wd "end")
            have e9 : blockWords (l.take i) ++ (Stm.ite e s t').words = blockWords (l.take i) ++ wd "if" :: (e.words ++ (blockWords s ++ (if t'.isEmpty = true then ([] : List Str) else wd "else" :: blockWords t'))) ++ [wd "end"] := by
              simp only [Stm.words, List.append_assoc, List.cons_append]
            rw [e9]; exact w5
        | draw x n =>
          unfold okSt at oks
          obtain ⟨t, vs, rfl, ht, r⟩ := dR_at (show dR I dv (.tup [.str (wd "draw"), .str x, .int (n : Int)]) from rst)
          obtain ⟨v0, q0, rfl, h0, p0⟩ := dRs_c r
          obtain ⟨v1, q1, rfl, h1, p1⟩ := dRs_c p0
          obtain ⟨v2, q2, rfl, h2, p2⟩ := dRs_c p1
          obtain rfl := dRs_n p2
          obtain rfl := dR_s h0
          obtain rfl := dR_s h1
          obtain rfl := dR_i h2
          have eW : (Stm.draw x n).words.length = 3 := rfl
          rw [eW] at hle
          refine ⟨_, rfl, t, _, _, .str (wd "draw"), rfl, rfl, SqT.of (ht0 ht), rfl, rfl, _, rfl, ifF (by decide +kernel) ?_⟩
          refine ⟨_, rfl, t, _, _, .str (wd "draw"), rfl, rfl, SqT.of (ht0 ht), rfl, rfl, _, rfl, ifT (decide_eq_true rfl) ?_⟩
          (try dsimp only)
          refine ⟨_, rfl, _, rfl, t, _, _, .str x, rfl, rfl, SqT.of (ht0 ht), rfl, _, rfl, t, _, _, .int (n : Int), rfl, rfl, SqT.of (ht0 ht), rfl, .inl ⟨_, rfl, nat_log6 (by omega), (by show 3 ≤ sizeLine; decide), fun a1 ha1 => ?_⟩⟩
          have w3 := w2.step (Gr.new (o := .lst [.str "draw", .str x, .str (dec n)]) w2.g.ih ha1)
          refine ⟨L2, a1, _, _, rfl, rfl, w3.hl, upd_same, ?_, fun a2 ha2 => ?_⟩
          · rw [List.length_map]; exact le_line (by show (blockWords (l.take i)).length + 3 ≤ _; omega)
          refine ⟨upd I2 a1 (.lst [.str "draw", .str x, .str (dec n)]), a2, _, rfl, ?_⟩
          rw [et]
          exact Wl.new w3.g ha2 (by simp only [Stm.words, List.map_append, List.map_cons, List.map_nil] <;> rfl)
        | set x e =>
          unfold okSt at oks
          
          obtain ⟨t, vs, rfl, ht, r⟩ := dR_at (show dR I dv (.tup [.str (wd "set"), .str x, e.da]) from rst)
          obtain ⟨v0, q0, rfl, h0, p0⟩ := dRs_c r
          obtain ⟨v1, q1, rfl, h1, p1⟩ := dRs_c p0
          obtain ⟨v2, q2, rfl, h2, p2⟩ := dRs_c p1
          obtain rfl := dRs_n p2
          obtain rfl := dR_s h0
          obtain rfl := dR_s h1
          have eW : (Stm.set x e).words.length = 2 + e.words.length := by simp only [Stm.words, List.length_cons]; omega
          rw [eW] at hle
          refine ⟨_, rfl, t, _, _, .str (wd "set"), rfl, rfl, SqT.of (ht0 ht), rfl, rfl, _, rfl, ifF (by decide +kernel) ?_⟩
          refine ⟨_, rfl, t, _, _, .str (wd "set"), rfl, rfl, SqT.of (ht0 ht), rfl, rfl, _, rfl, ifF (by decide +kernel) ?_⟩
          (try dsimp only)
          refine ⟨_, rfl, _, rfl, _, rfl, _, rfl, t, _, rfl, SqT.of (ht0 ht), (show ¬ (HT.sIx 3 0 none = 0 ∧ HT.sIx 3 3 (some (-1)) = 3) by decide), fun a1 ha1 => ?_⟩
          have w3 := w2.step (Gr.new (o := .tup [.str (wd "set"), .str x]) w2.g.ih ha1)
          refine ⟨a1, _, rfl, .inr (SqT.of upd_same), fun a2 ha2 => ?_⟩
          have w4 := w3.step (Gr.new (o := .lst [.str (wd "set"), .str x]) w3.g.ih ha2)
          refine ⟨L2, a2, _, _, rfl, rfl, w4.hl, upd_same, ?_, fun a3 ha3 => ?_⟩
          · rw [List.length_map]; exact le_line (by show (blockWords (l.take i)).length + 2 ≤ _; omega)
          have w5 := w4.step (Gr.new (o := .lst ((blockWords (l.take i)).map V.str ++ [.str (wd "set"), .str x])) w4.g.ih ha3)
          refine ⟨_, rfl, _, rfl, t, _, _, v2, rfl, rfl, SqT.of (w5.g.ih _ _ (w5.g.ii _ _ ht)), rfl, _, v2, e, nm, pr, rfl, w5.g.ih, dR_up w5.g.ii _ _ h2, oks.2, by decide, fun I6 H6 x6 g6 r6 => ?_⟩
          obtain ⟨a6, rfl, ha6⟩ := r6
          have w6 := w5.step g6
          refine ⟨a3, a6, _, _, rfl, rfl, g6.ih _ _ (g6.ii _ _ upd_same), g6.ih _ _ ha6, ?_, fun a7 ha7 => ?_⟩
          · rw [List.length_append, List.length_map, List.length_map]; exact le_line (by show (blockWords (l.take i)).length + 2 + e.words.length ≤ _; omega)
          refine ⟨I6, a7, _, rfl, ?_⟩
          rw [et]
          exact Wl.new w6.g ha7 (by simp only [Stm.words, List.map_append, List.map_cons, List.append_assoc, List.cons_append, List.nil_append])
        | use x e =>
          unfold okSt at oks
          
          obtain ⟨t, vs, rfl, ht, r⟩ := dR_at (show dR I dv (.tup [.str (wd "use"), .str x, e.da]) from rst)
          obtain ⟨v0, q0, rfl, h0, p0⟩ := dRs_c r
          obtain ⟨v1, q1, rfl, h1, p1⟩ := dRs_c p0
          obtain ⟨v2, q2, rfl, h2, p2⟩ := dRs_c p1
          obtain rfl := dRs_n p2
          obtain rfl := dR_s h0
          obtain rfl := dR_s h1
          have eW : (Stm.use x e).words.length = 2 + e.words.length := by simp only [Stm.words, List.length_cons]; omega
          rw [eW] at hle
          refine ⟨_, rfl, t, _, _, .str (wd "use"), rfl, rfl, SqT.of (ht0 ht), rfl, rfl, _, rfl, ifF (by decide +kernel) ?_⟩
          refine ⟨_, rfl, t, _, _, .str (wd "use"), rfl, rfl, SqT.of (ht0 ht), rfl, rfl, _, rfl, ifF (by decide +kernel) ?_⟩
          (try dsimp only)
          refine ⟨_, rfl, _, rfl, _, rfl, _, rfl, t, _, rfl, SqT.of (ht0 ht), (show ¬ (HT.sIx 3 0 none = 0 ∧ HT.sIx 3 3 (some (-1)) = 3) by decide), fun a1 ha1 => ?_⟩
          have w3 := w2.step (Gr.new (o := .tup [.str (wd "use"), .str x]) w2.g.ih ha1)
          refine ⟨a1, _, rfl, .inr (SqT.of upd_same), fun a2 ha2 => ?_⟩
          have w4 := w3.step (Gr.new (o := .lst [.str (wd "use"), .str x]) w3.g.ih ha2)
          refine ⟨L2, a2, _, _, rfl, rfl, w4.hl, upd_same, ?_, fun a3 ha3 => ?_⟩
          · rw [List.length_map]; exact le_line (by show (blockWords (l.take i)).length + 2 ≤ _; omega)
          have w5 := w4.step (Gr.new (o := .lst ((blockWords (l.take i)).map V.str ++ [.str (wd "use"), .str x])) w4.g.ih ha3)
          refine ⟨_, rfl, _, rfl, t, _, _, v2, rfl, rfl, SqT.of (w5.g.ih _ _ (w5.g.ii _ _ ht)), rfl, _, v2, e, nm, pr, rfl, w5.g.ih, dR_up w5.g.ii _ _ h2, oks.2.2, by decide, fun I6 H6 x6 g6 r6 => ?_⟩
          obtain ⟨a6, rfl, ha6⟩ := r6
          have w6 := w5.step g6
          refine ⟨a3, a6, _, _, rfl, rfl, g6.ih _ _ (g6.ii _ _ upd_same), g6.ih _ _ ha6, ?_, fun a7 ha7 => ?_⟩
          · rw [List.length_append, List.length_map, List.length_map]; exact le_line (by show (blockWords (l.take i)).length + 2 + e.words.length ≤ _; omega)
          refine ⟨I6, a7, _, rfl, ?_⟩
          rw [et]
          exact Wl.new w6.g ha7 (by simp only [Stm.words, List.map_append, List.map_cons, List.append_assoc, List.cons_append, List.nil_append])
        | say e =>
          unfold okSt at oks
          
          obtain ⟨t, vs, rfl, ht, r⟩ := dR_at (show dR I dv (.tup [.str (wd "say"), e.da]) from rst)
          obtain ⟨v0, q0, rfl, h0, p0⟩ := dRs_c r
          obtain ⟨v1, q1, rfl, h1, p1⟩ := dRs_c p0
          obtain rfl := dRs_n p1
          obtain rfl := dR_s h0
          have eW : (Stm.say e).words.length = 1 + e.words.length := by simp only [Stm.words, List.length_cons]; omega
          rw [eW] at hle
          refine ⟨_, rfl, t, _, _, .str (wd "say"), rfl, rfl, SqT.of (ht0 ht), rfl, rfl, _, rfl, ifF (by decide +kernel) ?_⟩
          refine ⟨_, rfl, t, _, _, .str (wd "say"), rfl, rfl, SqT.of (ht0 ht), rfl, rfl, _, rfl, ifF (by decide +kernel) ?_⟩
          (try dsimp only)
          refine ⟨_, rfl, _, rfl, _, rfl, _, rfl, t, _, rfl, SqT.of (ht0 ht), (show ¬ (HT.sIx 2 0 none = 0 ∧ HT.sIx 2 2 (some (-1)) = 2) by decide), fun a1 ha1 => ?_⟩
          have w3 := w2.step (Gr.new (o := .tup [.str (wd "say")]) w2.g.ih ha1)
          refine ⟨a1, _, rfl, .inr (SqT.of upd_same), fun a2 ha2 => ?_⟩
          have w4 := w3.step (Gr.new (o := .lst [.str (wd "say")]) w3.g.ih ha2)
          refine ⟨L2, a2, _, _, rfl, rfl, w4.hl, upd_same, ?_, fun a3 ha3 => ?_⟩
          · rw [List.length_map]; exact le_line (by show (blockWords (l.take i)).length + 1 ≤ _; omega)
          have w5 := w4.step (Gr.new (o := .lst ((blockWords (l.take i)).map V.str ++ [.str (wd "say")])) w4.g.ih ha3)
          refine ⟨_, rfl, _, rfl, t, _, _, v1, rfl, rfl, SqT.of (w5.g.ih _ _ (w5.g.ii _ _ ht)), rfl, _, v1, e, nm, pr, rfl, w5.g.ih, dR_up w5.g.ii _ _ h1, oks.2, by decide, fun I6 H6 x6 g6 r6 => ?_⟩
          obtain ⟨a6, rfl, ha6⟩ := r6
          have w6 := w5.step g6
          refine ⟨a3, a6, _, _, rfl, rfl, g6.ih _ _ (g6.ii _ _ upd_same), g6.ih _ _ ha6, ?_, fun a7 ha7 => ?_⟩
          · rw [List.length_append, List.length_map, List.length_map]; exact le_line (by show (blockWords (l.take i)).length + 1 + e.words.length ≤ _; omega)
          refine ⟨I6, a7, _, rfl, ?_⟩
          rw [et]
          exact Wl.new w6.g ha7 (by simp only [Stm.words, List.map_append, List.map_cons, List.append_assoc, List.cons_append, List.nil_append])
      · obtain ⟨I2, L2, v2, rfl, w2⟩ := h
        rw [au.len, List.take_length] at w2
        exact ⟨I2, L2, v2, rfl, w2⟩
    clear w1
    rintro σ' H2 ⟨I2, L2, v2, rfl, w2⟩
    exact ⟨_, rfl, kk _ _ _ (w2.freeze s0) ⟨L2, rfl, upd_same⟩⟩
theorem ok_lbw' (D : Dt K mg) : ∀ k, Has P w K mg base (k + 7) (He.ga K "_law_block_words") ["block"] [] (spLbws k)
  | 0 => by
    obtain ⟨fd, F⟩ := fd__law_block_words D
    exact has_never F (F.bindsN fun _ _ _ _ _ _ us hl => match us, hl with | [_], _ => rfl)
  | k + 1 => ok_lbw_step D k (ok_lbw' D k)
theorem ok_lbw (D : Dt K mg) : Has P w K mg base 12 (He.ga K "_law_block_words") ["block"] [] (spLbw 4) := ok_lbw' D 5
theorem vw_app : ∀ (a b : List (Str × Nat)), varWords (a ++ b) = varWords a ++ varWords b
  | [], b => rfl
  | (x, n) :: r, b => by rw [List.cons_append, varWords, varWords, vw_app r b]; rfl
theorem vw_len : ∀ (a : List (Str × Nat)), (varWords a).length = 3 * a.length
  | [] => rfl
  | (x, n) :: r => by rw [varWords, List.length_cons, List.length_cons, List.length_cons, vw_len r, List.length_cons]; omega
theorem stB4 : stB 4 = 54670 := by decide +kernel
def spLw : Sp := fun vs H Q _ => ∃ (I : Hp) (v : V) (b : Bx) (S d : Nat) (ar : Bool), vs = [v] ∧ Same I H ∧ dR I v (bxDa b) ∧ BoxR ar S d b ∧ ∀ I' H' v', Gr [] I H I' H' → iSs I' v' b.words → Q v' H'
theorem sc__law_words : FnScope ["box", "words", "name", "size"] ["box"] (defScope s__law_words) := ⟨rfl, rfl, rfl, by decide +kernel, rfl, by decide +kernel, by decide +kernel⟩
theorem ok_lw (D : Dt K mg) : Has P w K mg base 13 (He.ga K "_law_words") ["box"] [] spLw := by
  obtain ⟨fd, F⟩ := fd__law_words D
  have H__law_block_words := ok_lbw (P := P) (w := w) (base := base) D
  refine hasN F (F.bindsN fun _ _ _ _ _ _ us hl => match us, hl with | [_], _ => rfl) sc__law_words (fun vs H Q E h => ?_) (fun cdv A outer s H vs Q E hr h => ?_)
  · obtain ⟨I, v, b, S, d0, ar, rfl, _⟩ := h; rfl
  · obtain ⟨I, v, b, S, d0, ar, rfl, s0, rb, ok, kk⟩ := h
    refine ⟨_, (pss_cons (ps_set (i := 1) sc__law_words.nd rfl (Or.inl rfl) (pe_lst (pa_cons pe_str (pa_cons (pe_callTy call_str_int rfl (free_str D) (by decide +kernel) (pa_cons (pe_ix (ix_tupK K) (pv 0) pe_int (fun _ _ => rfl)) pa_nil)) (pa_cons pe_str (pa_cons (pe_callTy call_str_int rfl (free_str D) (by decide +kernel) (pa_cons (pe_ix (ix_tupK K) (pv 0) pe_int (fun _ _ => rfl)) pa_nil)) pa_nil))))))
      (pss_cons (ps_for PassesOwn.never rfl (pi_tupK K (pe_ix (ix_tupK K) (pv 0) pe_int (fun _ _ => rfl))) (pg_tupK K rfl (pgs_cons (pg_name (i := 2) sc__law_words.nd rfl (Or.inl rfl)) (pgs_cons (pg_name (i := 3) sc__law_words.nd rfl (Or.inl rfl)) pgs_nil)))
      (pss_one (ps_set (i := 1) sc__law_words.nd rfl (Or.inl rfl) (pe_op op_cat (pv 1) (pe_lst (pa_cons pe_str (pa_cons (pv 2) (pa_cons (pe_callTy call_str_int rfl (free_str D) (by decide +kernel) (pa_cons (pv 3) pa_nil)) pa_nil))))))))
      (pss_one (ps_ret (pe_op op_cat (pe_op op_cat (pe_op op_cat (pe_op op_cat (pv 1) (pe_lst (pa_cons pe_str pa_nil))) (pe_callH H__law_block_words (hr.mono (by omega)) rfl (glo__law_block_words D) passL (pa_cons (pe_ix (ix_tupK K) (pv 0) pe_int (fun _ _ => rfl)) pa_nil))) (pe_lst (pa_cons pe_str pa_nil))) (pe_callH H__law_block_words (hr.mono (by omega)) rfl (glo__law_block_words D) passL (pa_cons (pe_ix (ix_tupK K) (pv 0) pe_int (fun _ _ => rfl)) pa_nil))))))), ?_⟩
    obtain ⟨t, vs, rfl, ht, r⟩ := dR_at rb
    obtain ⟨v0, q0, rfl, h0, p0⟩ := dRs_c r
    obtain ⟨v1, q1, rfl, h1, p1⟩ := dRs_c p0
    obtain ⟨v2, q2, rfl, h2, p2⟩ := dRs_c p1
    obtain ⟨v3x, q3, rfl, h3, p3⟩ := dRs_c p2
    obtain ⟨v4x, q4, rfl, h4, p4⟩ := dRs_c p3
    obtain rfl := dRs_n p4
    obtain rfl := dR_i h0
    obtain rfl := dR_i h1
    obtain ⟨c, us, rfl, hc, ru⟩ := dR_at h2
    have au : All2 (iVar I) us b.vars := All2.ofMap (R := iD I) (f := fun p : Str × Nat => Da.tup [.str p.1, .int (p.2 : Int)]) (dRs_all ru)
    have ht0 := s0 _ _ ht
    have e4 := stB4
    have lv := ok.ok.vl
    have lsw := ok.sw
    have lbw := ok.bw
    rw [e4] at lsw lbw
    have n64 : ∀ {n : Nat}, n ≤ 12 → n < 10 ^ 64 := fun h => by omega
    refine seq_cut (fun σ' H' => ∃ I' L, σ' = [some (.ref t), some (.ref L), none, none] ∧ Wl I H I' H' L [wd "buttons", dec b.buttons, wd "answers", dec b.answers]) (fun nx q => ?_) ?_
    · refine ⟨_, rfl, t, _, _, .int (b.buttons : Int), rfl, rfl, SqT.of ht0, rfl, _, rfl, nat_log (n64 (by have := ok.ok.b2; omega)), _, rfl, t, _, _, .int (b.answers : Int), rfl, rfl, SqT.of ht0, rfl, _, rfl, nat_log (n64 (by have := ok.ok.a2; omega)), (by show 4 ≤ sizeLine; decide), fun L hL => ?_⟩
      exact q _ _ ⟨I, L, rfl, Wl.new (Gr.refl s0) hL rfl⟩
    rintro σ' H1 ⟨I1, L1, rfl, w1⟩
    (try dsimp only)
    refine seq_cut (fun σ' H' => ∃ I' L v2 v3, σ' = [some (.ref t), some (.ref L), v2, v3] ∧ Wl I H I' H' L (wd "buttons" :: dec b.buttons :: wd "answers" :: dec b.answers :: varWords b.vars)) (fun nx q => ?_) ?_
    · refine ⟨_, rfl, t, _, _, .ref c, rfl, rfl, SqT.of (w1.g.ih _ _ (w1.g.ii _ _ ht)), rfl, c, rfl, ⟨_, SqT.of (w1.g.ih _ _ (w1.g.ii _ _ hc))⟩, ?_⟩
      refine for_wk (wk_tup hc) (fun σ' H' => ∃ I' L v2 v3, σ' = [some (.ref t), some (.ref L), v2, v3] ∧ Wl I H I' H' L (wd "buttons" :: dec b.buttons :: wd "answers" :: dec b.answers :: varWords b.vars))
        (fun i σ' H' => ∃ I' L v2 v3, σ' = [some (.ref t), some (.ref L), v2, v3] ∧ Wl I H I' H' L (wd "buttons" :: dec b.buttons :: wd "answers" :: dec b.answers :: varWords (b.vars.take i)))
        (fun i σ' H' h => by obtain ⟨I', _, _, _, _, w⟩ := h; exact w.g.ii.trans w.g.ih)
        ⟨I1, L1, none, none, rfl, w1⟩ (fun nx2 q2 i σ' H2 hi h => ?_) (fun σ' H' h => ?_) q
      · clear w1
        obtain ⟨I2, L2, v2, v3, rfl, w2⟩ := h
        have hil : i < b.vars.length := by rw [← au.len]; exact hi
        obtain ⟨z, ez, rz⟩ := all2_at au hil
        obtain ⟨tt, zs, ett, htt, rr⟩ := dR_at rz
        obtain ⟨y0, j0, rfl, k0, o0⟩ := dRs_c rr
        obtain ⟨y1, j1, rfl, k1, o1⟩ := dRs_c o0
        obtain rfl := dRs_n o1
        obtain rfl := dR_s k0
        obtain rfl := dR_i k1
        rw [ett]
        have z12 : z.2 ≤ 12 := by
          have hz := List.mem_of_getElem? ez
          have : ∀ {l : List (Str × Nat)} {nm : List Str}, okVars nm l → z ∈ l → z.2 ≤ 12 := by
            intro l; induction l with
            | nil => intro nm _ h; simp at h
            | cons y r ih => intro nm h hm; obtain ⟨x, n⟩ := y; unfold okVars at h; rcases List.mem_cons.mp hm with e | e
                             · subst e; exact h.2.2.2.1
                             · exact ih h.2.2.2.2 e
          exact this ok.ok.vo hz
        refine ⟨tt, _, rfl, SqT.of (w2.g.ih _ _ (w2.g.ii _ _ htt)), rfl, _, _, rfl, _, _, rfl, rfl, ?_⟩
        refine ⟨_, rfl, _, rfl, _, rfl, _, rfl, nat_log (n64 z12), (by show 3 ≤ sizeLine; decide), fun a1 ha1 => ?_⟩
        have w3 := w2.step (Gr.new (o := .lst [.str "var", .str z.1, .str (dec z.2)]) w2.g.ih ha1)
        have hvl : (varWords (b.vars.take i)).length ≤ 12 := by rw [vw_len, List.length_take]; omega
        refine ⟨L2, a1, _, _, rfl, rfl, w3.hl, upd_same, ?_, fun a2 ha2 => ?_⟩
        · rw [List.length_map]; exact le_line (by show (varWords (b.vars.take i)).length + 1 + 1 + 1 + 1 + 3 ≤ _; omega)
        refine ⟨upd I2 a1 (.lst [.str "var", .str z.1, .str (dec z.2)]), a2, _, _, rfl, ?_⟩
        rw [take_snoc ez, vw_app]
        exact Wl.new w3.g ha2 (by simp only [List.map_append, List.map_cons, List.map_nil, List.cons_append, varWords] <;> rfl)
      · obtain ⟨I2, L2, v2, v3, rfl, w2⟩ := h
        rw [au.len, List.take_length] at w2
        exact ⟨I2, L2, v2, v3, rfl, w2⟩
    clear w1
    rintro σ' H2 ⟨I2, L2, v2, v3, rfl, w2⟩
    (try dsimp only)
    generalize hW1 : wd "buttons" :: dec b.buttons :: wd "answers" :: dec b.answers :: varWords b.vars = W1 at w2
    have lW1 : W1.length ≤ 16 := by rw [← hW1]; simp only [List.length_cons, vw_len]; omega
    refine ⟨_, rfl, (by show 1 ≤ sizeLine; decide), fun a1 ha1 => ?_⟩
    have w3 := w2.step (Gr.new (o := .lst [.str "start"]) w2.g.ih ha1)
    refine ⟨L2, a1, _, _, rfl, rfl, w3.hl, upd_same, ?_, fun a2 ha2 => ?_⟩
    · rw [List.length_map]; exact le_line (by show W1.length + 1 ≤ _; omega)
    have w4 := w3.step (Gr.new (o := .lst (W1.map V.str ++ [.str "start"])) w3.g.ih ha2)
    refine ⟨_, rfl, t, _, _, v3x, rfl, rfl, SqT.of (w4.g.ih _ _ (w4.g.ii _ _ ht)), rfl, _, v3x, b.start, b.vars.map (·.1), false, ar, rfl, w4.g.ih, dR_up w4.g.ii _ _ h3, ok.ok.so, by omega, fun I5 H5 x5 g5 r5 => ?_⟩
    obtain ⟨a5, rfl, ha5⟩ := r5
    have w5 := w4.step g5
    refine ⟨a2, a5, _, _, rfl, rfl, g5.ih _ _ (g5.ii _ _ upd_same), g5.ih _ _ ha5, ?_, fun a6 ha6 => ?_⟩
    · rw [List.length_append, List.length_map, List.length_map]; exact le_line (by show W1.length + 1 + (blockWords b.start).length ≤ _; omega)
    have w6 := w5.step (Gr.new (o := .lst (W1.map V.str ++ [.str "start"] ++ (blockWords b.start).map V.str)) w5.g.ih ha6)
    refine ⟨(by show 1 ≤ sizeLine; decide), fun a7 ha7 => ?_⟩
    have g7 := Gr.new (ms := []) (o := .lst [.str "press"]) w6.g.ih ha7
    have w7 := w6.step g7
    refine ⟨a6, a7, _, _, rfl, rfl, g7.ih _ _ (g7.ii _ _ upd_same), upd_same, ?_, fun a8 ha8 => ?_⟩
    · rw [List.length_append, List.length_append, List.length_map, List.length_map]; exact le_line (by show W1.length + 1 + (blockWords b.start).length + 1 ≤ _; omega)
    have w8 := w7.step (Gr.new (o := .lst (W1.map V.str ++ [.str "start"] ++ (blockWords b.start).map V.str ++ [.str "press"])) w7.g.ih ha8)
    refine ⟨_, rfl, t, _, _, v4x, rfl, rfl, SqT.of (w8.g.ih _ _ (w8.g.ii _ _ ht)), rfl, _, v4x, b.block, b.vars.map (·.1), true, ar, rfl, w8.g.ih, dR_up w8.g.ii _ _ h4, ok.ok.bo, by omega, fun I9 H9 x9 g9 r9 => ?_⟩
    obtain ⟨a9, rfl, ha9⟩ := r9
    have w9 := w8.step g9
    refine ⟨a8, a9, _, _, rfl, rfl, g9.ih _ _ (g9.ii _ _ upd_same), g9.ih _ _ ha9, ?_, fun a10 ha10 => ?_⟩
    · rw [List.length_append, List.length_append, List.length_append, List.length_map, List.length_map, List.length_map]; exact le_line (by show W1.length + 1 + (blockWords b.start).length + 1 + (blockWords b.block).length ≤ _; omega)
    refine kk _ _ _ (w9.g.trans (Gr.new (o := .lst (W1.map V.str ++ [.str "start"] ++ (blockWords b.start).map V.str ++ [.str "press"] ++ (blockWords b.block).map V.str)) w9.g.ih ha10)) ⟨a10, rfl, ?_⟩
    rw [upd_same]
    have eb : b.words = W1 ++ wd "start" :: (blockWords b.start ++ wd "press" :: blockWords b.block) := by rw [← hW1]; rfl
    rw [eb]
    simp only [List.map_append, List.map_cons, List.append_assoc, List.cons_append, List.nil_append] <;> rfl
end
end K

set_option Elab.async false
set_option linter.all false
set_option maxRecDepth 100000
set_option maxHeartbeats 4000000
/-! Words told by what is open before each word; it says what the reader says. -/
namespace Rd
open PySem PyProof.Rows TL
inductive Kd where | start | thn | els | emp | top
  deriving DecidableEq
inductive En where | word (w : Str) | one | num (lo hi : Nat) | val (nm : List Str) (room : Nat) | blk (room : Nat) (k : Kd) | head | new
structure Sc where
  names : List Str
  pr : Bool
  draws : Nat
  uses : Nat
structure Ms where
  st : List En
  sc : Sc
def Sc.all (s : Sc) : List Str := s.names ++ (if s.pr = true then [wd "press"] else [])
def numB (w : Str) (lo hi : Nat) : Bool := match numOf w hi with
  | some n => decide (lo ≤ n)
  | none => false
def aft (k : Kd) : Kd := if k = .emp then .els else k
def blkS (room : Nat) (k : Kd) (st : List En) (sc : Sc) (w : Str) : Option Ms :=
  if w = wd "end" ∧ (k = .thn ∨ k = .els) then some ⟨st, sc⟩
  else if w = wd "else" ∧ k = .thn ∧ (0 < sc.all.length ∨ 0 < room) then some ⟨.blk room .emp :: st, sc⟩
  else if w = wd "press" ∧ k = .start then some ⟨.blk 4 .top :: st, { sc with pr := true }⟩
  else if w = wd "draw" ∧ 0 < sc.names.length ∧ 0 < sc.draws then some ⟨.one :: .num 1 6 :: .blk room (aft k) :: st, { sc with draws := sc.draws - 1 }⟩
  else if w = wd "use" ∧ 0 < sc.names.length ∧ 0 < sc.uses then some ⟨.one :: .val sc.all 5 :: .blk room (aft k) :: st, { sc with uses := sc.uses - 1 }⟩
  else if w = wd "set" ∧ 0 < sc.names.length then some ⟨.one :: .val sc.all 5 :: .blk room (aft k) :: st, sc⟩
  else if w = wd "say" ∧ sc.pr = true then some ⟨.val sc.all 5 :: .blk room (aft k) :: st, sc⟩
  else if w = wd "if" ∧ 0 < room then some ⟨.val sc.all 5 :: .blk (room - 1) .thn :: .blk room (aft k) :: st, sc⟩
  else none
def stepM (w : Str) (M : Ms) : Option Ms := match M.st with
  | [] => none
  | .word x :: st => if w = x then some ⟨st, M.sc⟩ else none
  | .one :: st => if w ∈ M.sc.names then some ⟨st, M.sc⟩ else none
  | .num lo hi :: st => if numB w lo hi = true then some ⟨st, M.sc⟩ else none
  | .val nm room :: st => if w ∈ ops ∧ 1 < room then some ⟨.val nm (room - 1) :: .val nm (room - 1) :: st, M.sc⟩ else if w ∈ nm ∨ numB w 0 65535 = true then some ⟨st, M.sc⟩ else none
  | .blk room k :: st => blkS room k st M.sc w
  | .head :: st => if w = wd "var" ∧ M.sc.names.length < 4 then some ⟨.new :: .num 1 12 :: .head :: st, M.sc⟩ else if w = wd "start" then some ⟨.blk 4 .start :: st, M.sc⟩ else none
  | .new :: st => if w ∉ M.sc.names ∧ isName w = true then some ⟨st, { M.sc with names := M.sc.names ++ [w] }⟩ else none
def accM (M : Ms) : Bool := match M.st with
  | [.blk _ .top] => true
  | _ => false
def lp : List Str → Nat → Ms → Option Nat
  | [], i, M => if accM M = true then none else some i
  | w :: r, i, M => match stepM w M with
    | some M' => lp r (i + 1) M'
    | none => some i
def M0 (u : Nat) : Ms := ⟨[.word (wd "buttons"), .num 1 4, .word (wd "answers"), .num 1 4, .head], ⟨[], false, 3, u⟩⟩
/-! the reader in steps -/
def CP {α : Type} (x : Res α) (k : α → RS → Option Nat) : Option Nat := match x with
  | .ok a r => k a r
  | .bad n => some n
theorem CP_bind {α β : Type} (x : Res α) (f : α → RS → Res β) (k : β → RS → Option Nat) : CP (x.bind f) k = CP x fun a r => CP (f a r) k := by
  cases x <;> rfl
theorem CP_eq {α : Type} {x : Res α} {k k' : α → RS → Option Nat} (h : ∀ a r, x = .ok a r → k a r = k' a r) : CP x k = CP x k' := by
  cases x with
  | ok a r => exact h a r rfl
  | bad n => rfl
section
variable (ws : List Str) (ar : Bool)
def hr (p : Nat) : Str := ws.getD p Str.empty
def LL (p : Nat) (sc : Sc) (st : List En) : Option Nat := lp (ws.drop p) p ⟨st, sc⟩
def scOf (r : RS) : Sc := ⟨r.vars.map (·.1), r.pressed, 3 - r.draws, (if ar = true then 24 else 0) - r.uses⟩
abbrev LR (r : RS) (st : List En) : Option Nat := LL ws r.pos (scOf ar r) st
end
section
variable {ws : List Str} {ar : Bool}
theorem LL_step {p : Nat} {sc : Sc} {st : List En} {M : Ms} (h : stepM (hr ws p) ⟨st, sc⟩ = some M) (hne : hr ws p ≠ Str.empty) : LL ws p sc st = LL ws (p + 1) M.sc M.st := by
  have hl : p < ws.length := here_lt' (r := ⟨p, [], 0, 0, false⟩) hne
  have e : ws.drop p = hr ws p :: ws.drop (p + 1) := drop_here (r := ⟨p, [], 0, 0, false⟩) hne
  unfold LL
  rw [e, lp, h]
theorem LL_fail {p : Nat} {sc : Sc} {st : List En} (h : stepM (hr ws p) ⟨st, sc⟩ = none) (ha : accM ⟨st, sc⟩ = false) : LL ws p sc st = some p := by
  unfold LL
  by_cases hl : p < ws.length
  · have e : ws.drop p = hr ws p :: ws.drop (p + 1) := by
      rw [List.drop_eq_getElem_cons hl]
      congr 1
      unfold hr; rw [List.getD_eq_getElem?_getD, List.getElem?_eq_getElem hl]; rfl
    rw [e, lp, h]
  · rw [List.drop_eq_nil_of_le (by omega), lp, ha]; rfl
theorem LL_fail2 {p : Nat} {sc : Sc} {st : List En} (h : stepM (hr ws p) ⟨st, sc⟩ = none) (hl : p < ws.length) : LL ws p sc st = some p := by
  unfold LL
  have e : ws.drop p = hr ws p :: ws.drop (p + 1) := by
    rw [List.drop_eq_getElem_cons hl]
    congr 1
    unfold hr; rw [List.getD_eq_getElem?_getD, List.getElem?_eq_getElem hl]; rfl
  rw [e, lp, h]
theorem numB_empty {lo hi : Nat} : numB Str.empty lo hi = false := by
  unfold numB
  cases e : numOf Str.empty hi with
  | none => rfl
  | some n => exact (dec_ne n (numOf_some.mp e).1.symm).elim
theorem num_sim {p : Nat} {sc : Sc} {S : List En} {lo hi : Nat} : LL ws p sc (.num lo hi :: S) = if numB (hr ws p) lo hi = true then LL ws (p + 1) sc S else some p := by
  by_cases h : numB (hr ws p) lo hi = true
  · rw [if_pos h]
    refine LL_step (M := ⟨S, sc⟩) (by simp only [stepM]; rw [if_pos h]) fun z => ?_
    rw [z, numB_empty] at h; cases h
  · rw [if_neg h]
    exact LL_fail (by simp only [stepM]; rw [if_neg h]) rfl
theorem word_sim {p : Nat} {sc : Sc} {S : List En} {x : Str} (hx : x ≠ Str.empty) : LL ws p sc (.word x :: S) = if hr ws p = x then LL ws (p + 1) sc S else some p := by
  by_cases h : hr ws p = x
  · rw [if_pos h]
    exact LL_step (M := ⟨S, sc⟩) (by simp only [stepM]; rw [if_pos h]) (by rw [h]; exact hx)
  · rw [if_neg h]
    exact LL_fail (by simp only [stepM]; rw [if_neg h]) rfl
theorem one_sim {p : Nat} {sc : Sc} {S : List En} (hn : ∀ x ∈ sc.names, isName x = true) : LL ws p sc (.one :: S) = if hr ws p ∈ sc.names then LL ws (p + 1) sc S else some p := by
  by_cases h : hr ws p ∈ sc.names
  · rw [if_pos h]
    exact LL_step (M := ⟨S, sc⟩) (by simp only [stepM]; rw [if_pos h]) (name_ne (hn _ h))
  · rw [if_neg h]
    exact LL_fail (by simp only [stepM]; rw [if_neg h]) rfl
theorem CP_num {lo hi : Nat} {r : RS} {k : Nat → RS → Option Nat} {y : Option Nat} (h : numB (here ws r) lo hi = true → ∀ n, k n r.go = y) : CP (numR ws lo hi r) k = if numB (here ws r) lo hi = true then y else some r.pos := by
  unfold numR numB at *
  cases e : numOf (here ws r) hi with
  | none => rfl
  | some n =>
    by_cases q : lo ≤ n
    · simp only [e] at h
      simp only [q, if_true, decide_true, CP]
      exact h (by simp [q]) n
    · simp only [q, if_false, decide_false, CP]; rfl
theorem scOf_names {r : RS} (hn : NmOk r.vars) : ∀ x ∈ (scOf ar r).names, isName x = true := fun x hx => by
  obtain ⟨z, hz, rfl⟩ := List.mem_map.mp hx
  exact hn z hz
theorem leaf_iff {r : RS} {w : Str} : (w ∈ (scOf ar r).all ∨ numB w 0 65535 = true) ↔ ∃ e, leafOf r w = some e := by
  unfold leafOf numB Sc.all scOf
  cases e : numOf w 65535 with
  | some n => simp
  | none =>
    simp only [Bool.false_eq_true, or_false, List.mem_append]
    constructor
    · rintro (h | h)
      · rw [if_pos (hasV_iff.mpr h)]; exact ⟨_, rfl⟩
      · by_cases q : hasV r w = true
        · rw [if_pos q]; exact ⟨_, rfl⟩
        · rw [if_neg q]
          by_cases hp : r.pressed = true
          · rw [if_pos hp] at h
            simp at h
            rw [if_pos ⟨h, hp⟩]; exact ⟨_, rfl⟩
          · rw [if_neg hp] at h; simp at h
    · rintro ⟨e, h⟩
      by_cases q : hasV r w = true
      · exact .inl (hasV_iff.mp q)
      · rw [if_neg q] at h
        by_cases c : w = "press" ∧ r.pressed = true
        · right; rw [if_pos c.2]; simp; exact c.1
        · rw [if_neg c] at h; cases h
theorem all_ne {r : RS} (hn : NmOk r.vars) : Str.empty ∉ (scOf ar r).all := fun h => by
  unfold Sc.all at h
  rcases List.mem_append.mp h with h | h
  · exact name_ne (scOf_names hn _ h) rfl
  · split at h
    · simp at h; revert h; decide +kernel
    · simp at h
theorem leaf_sim {r : RS} {S : List En} {room : Nat} (hn : NmOk r.vars) (hno : ¬ (here ws r ∈ ops ∧ 1 < room)) : LR ws ar r (.val (scOf ar r).all room :: S) = CP (leafR ws r) fun _ r' => LR ws ar r' S := by
  have hno : ¬ (hr ws r.pos ∈ ops ∧ 1 < room) := hno
  unfold leafR
  cases e : leafOf r (here ws r) with
  | some x =>
    have h : hr ws r.pos ∈ (scOf ar r).all ∨ numB (hr ws r.pos) 0 65535 = true := (leaf_iff (ar := ar)).mpr ⟨x, e⟩
    refine LL_step (M := ⟨S, scOf ar r⟩) ?_ ?_
    · simp only [stepM]
      rw [if_neg hno, if_pos h]
    · intro z
      rw [z, numB_empty] at h
      exact h.elim (all_ne hn) (by simp)
  | none =>
    refine LL_fail ?_ rfl
    simp only [stepM]
    rw [if_neg hno, if_neg]
    intro h
    obtain ⟨x, q⟩ := (leaf_iff (ar := ar)).mp h
    rw [show leafOf r (hr ws r.pos) = none from e] at q; cases q
theorem ex_sim : ∀ {k : Nat} {r : RS} {S : List En}, NmOk r.vars → LR ws ar r (.val (scOf ar r).all (k + 1) :: S) = CP (exR ws k r) fun _ r' => LR ws ar r' S
  | 0, r, S, hn => leaf_sim hn (by omega)
  | k + 1, r, S, hn => by
    rw [exR]
    by_cases c : here ws r ∈ ops
    · rw [if_pos c]
      have e1 : LR ws ar r (.val (scOf ar r).all (k + 1 + 1) :: S) = LR ws ar r.go (.val (scOf ar r).all (k + 1) :: .val (scOf ar r).all (k + 1) :: S) :=
        LL_step (M := ⟨.val (scOf ar r).all (k + 1) :: .val (scOf ar r).all (k + 1) :: S, scOf ar r⟩) (by
          simp only [stepM]
          rw [if_pos ⟨c, by omega⟩]; rfl) (ops_ne c)
      rw [e1, CP_bind]
      have i1 := ex_sim (k := k) (r := r.go) (S := .val (scOf ar r).all (k + 1) :: S) hn
      rw [show (scOf ar r.go).all = (scOf ar r).all from rfl] at i1
      rw [i1]
      refine CP_eq fun a r1 h1 => ?_
      obtain ⟨_, v1, v2, v3, v4⟩ := exR_pos h1
      have e2 : (scOf ar r).all = (scOf ar r1).all := by unfold Sc.all scOf; rw [v1, v4]; rfl
      rw [CP_bind, e2, ex_sim (k := k) (r := r1) (S := S) (by rw [v1]; exact hn)]
      rfl
    · rw [if_neg c]
      exact leaf_sim hn (fun z => c z.1)
/-! statements -/
theorem may_sc {w : Str} {k : Nat} {r : RS} (hk : k ≤ 4) (hm : mayR ar w (4 - k) r = true) :
    (w = wd "draw" ∧ 0 < (scOf ar r).names.length ∧ r.draws < 3) ∨ (w = wd "use" ∧ 0 < (scOf ar r).names.length ∧ ar = true ∧ r.uses < 24) ∨ (w = wd "set" ∧ 0 < (scOf ar r).names.length) ∨ (w = wd "say" ∧ r.pressed = true) ∨ (w = wd "if" ∧ 0 < k) := by
  have hs := may_sts hm
  have ln : (scOf ar r).names.length = r.vars.length := by unfold scOf; simp
  rw [ln]
  simp only [sts, List.mem_cons, List.not_mem_nil, or_false] at hs
  rcases hs with rfl | rfl | rfl | rfl | rfl
  · rw [show mayR ar (Str.ofString "set") (4 - k) r = _ from may_set] at hm
    exact .inr (.inr (.inl ⟨rfl, of_decide_eq_true hm⟩))
  · rw [show mayR ar (Str.ofString "draw") (4 - k) r = _ from may_draw, Bool.and_eq_true] at hm
    exact .inl ⟨rfl, of_decide_eq_true hm.2, of_decide_eq_true hm.1⟩
  · rw [show mayR ar (Str.ofString "use") (4 - k) r = _ from may_use, Bool.and_eq_true, Bool.and_eq_true] at hm
    exact .inr (.inl ⟨rfl, of_decide_eq_true hm.2.2, hm.1, of_decide_eq_true hm.2.1⟩)
  · rw [show mayR ar (Str.ofString "say") (4 - k) r = _ from may_say] at hm
    exact .inr (.inr (.inr (.inl ⟨rfl, hm⟩)))
  · rw [show mayR ar (Str.ofString "if") (4 - k) r = _ from may_if] at hm
    exact .inr (.inr (.inr (.inr ⟨rfl, by have := of_decide_eq_true hm; omega⟩)))
theorem not_may_sc {w : Str} {k : Nat} {r : RS} (hk : k ≤ 4) (hm : mayR ar w (4 - k) r = false) :
    ¬ (w = wd "draw" ∧ 0 < (scOf ar r).names.length ∧ 0 < (scOf ar r).draws) ∧ ¬ (w = wd "use" ∧ 0 < (scOf ar r).names.length ∧ 0 < (scOf ar r).uses) ∧ ¬ (w = wd "set" ∧ 0 < (scOf ar r).names.length) ∧ ¬ (w = wd "say" ∧ r.pressed = true) ∧ ¬ (w = wd "if" ∧ 0 < k) := by
  have ln : (scOf ar r).names.length = r.vars.length := by unfold scOf; simp
  have ld : (scOf ar r).draws = 3 - r.draws := rfl
  have lu : (scOf ar r).uses = (if ar = true then 24 else 0) - r.uses := rfl
  rw [ln, ld, lu]
  refine ⟨?_, ?_, ?_, ?_, ?_⟩
  · rintro ⟨rfl, h1, h2⟩
    rw [may_draw, decide_eq_true h1, decide_eq_true (by omega : r.draws < 3)] at hm; cases hm
  · rintro ⟨rfl, h1, h2⟩
    cases ar with
    | false => simp at h2
    | true => rw [if_pos rfl] at h2; rw [may_use, decide_eq_true h1, decide_eq_true (by omega : r.uses < 24)] at hm; cases hm
  · rintro ⟨rfl, h1⟩
    rw [may_set, decide_eq_true h1] at hm; cases hm
  · rintro ⟨rfl, h1⟩
    rw [may_say, h1] at hm; cases hm
  · rintro ⟨rfl, h1⟩
    rw [may_if, decide_eq_true (by omega : 4 - k < 4)] at hm; cases hm
theorem kd_ne : wd "draw" ≠ wd "end" ∧ wd "draw" ≠ wd "else" ∧ wd "draw" ≠ wd "press" ∧ wd "use" ≠ wd "end" ∧ wd "use" ≠ wd "else" ∧ wd "use" ≠ wd "press" ∧ wd "set" ≠ wd "end" ∧ wd "set" ≠ wd "else" ∧ wd "set" ≠ wd "press" ∧ wd "say" ≠ wd "end" ∧ wd "say" ≠ wd "else" ∧ wd "say" ≠ wd "press" ∧ wd "if" ≠ wd "end" ∧ wd "if" ≠ wd "else" ∧ wd "if" ≠ wd "press" := by decide +kernel
theorem ks_ne : wd "use" ≠ wd "draw" ∧ wd "set" ≠ wd "draw" ∧ wd "set" ≠ wd "use" ∧ wd "say" ≠ wd "draw" ∧ wd "say" ≠ wd "use" ∧ wd "say" ≠ wd "set" ∧ wd "if" ≠ wd "draw" ∧ wd "if" ≠ wd "use" ∧ wd "if" ≠ wd "set" ∧ wd "if" ≠ wd "say" := by decide +kernel
theorem ke_ne : wd "draw" ≠ Str.empty ∧ wd "use" ≠ Str.empty ∧ wd "set" ≠ Str.empty ∧ wd "say" ≠ Str.empty ∧ wd "if" ≠ Str.empty ∧ wd "end" ≠ Str.empty ∧ wd "else" ≠ Str.empty ∧ wd "press" ≠ Str.empty ∧ wd "var" ≠ Str.empty ∧ wd "start" ≠ Str.empty := by decide +kernel
theorem ke2_ne : wd "else" ≠ wd "end" ∧ wd "press" ≠ wd "end" ∧ wd "press" ≠ wd "else" ∧ wd "start" ≠ wd "var" := by decide +kernel
/-- a word that begins no statement, in a block -/
theorem blk_not {k : Nat} {kd : Kd} {r : RS} {st : List En} (hk : k ≤ 4) (hm : mayR ar (here ws r) (4 - k) r = false) (h1 : ¬ (here ws r = wd "end" ∧ (kd = .thn ∨ kd = .els))) (h2 : ¬ (here ws r = wd "else" ∧ kd = .thn ∧ (0 < (scOf ar r).all.length ∨ 0 < k))) (h3 : ¬ (here ws r = wd "press" ∧ kd = .start)) :
    stepM (hr ws r.pos) ⟨.blk k kd :: st, scOf ar r⟩ = none := by
  obtain ⟨q1, q2, q3, q4, q5⟩ := not_may_sc hk hm
  have e : here ws r = hr ws r.pos := rfl
  rw [e] at h1 h2 h3 q1 q2 q3 q4 q5
  have q4 : ¬ (hr ws r.pos = wd "say" ∧ (scOf ar r).pr = true) := q4
  simp only [stepM, blkS]
  rw [if_neg h1, if_neg h2, if_neg h3, if_neg q1, if_neg q2, if_neg q3, if_neg q4, if_neg q5]
theorem blk_acc {k : Nat} {kd : Kd} {S : List En} {sc : Sc} (h : S ≠ [] ∨ kd ≠ .top) : accM ⟨.blk k kd :: S, sc⟩ = false := by
  unfold accM
  cases S with
  | nil => cases kd <;> first | rfl | simp at h
  | cons a b => cases kd <;> rfl
/-- one statement -/
theorem stmt_sim {k : Nat} {kd : Kd} {r : RS} {S : List En} (hk : k ≤ 4) (hn : NmOk r.vars) (hm : mayR ar (here ws r) (4 - k) r = true)
    (hc : 0 < k → ∀ (r : RS) (S : List En), NmOk r.vars → r.draws ≤ 3 → r.uses ≤ 24 → r.pos ≤ ws.length → LR ws ar r (.val (scOf ar r).all 5 :: .blk (k - 1) .thn :: S) = CP (chAt ws ar k r) fun _ r' => LR ws ar r' S) (h3 : r.draws ≤ 3) (h24 : r.uses ≤ 24) :
    LR ws ar r (.blk k kd :: S) = CP (stmtR ws (chAt ws ar k) r) fun _ r' => LR ws ar r' (.blk k (aft kd) :: S) := by
  have hne : here ws r ≠ Str.empty := fun z => by have := may_sts hm; rw [z] at this; exact empty_sts this
  have hlt := here_lt' hne
  have K := kd_ne
  have Ks := ks_ne
  have e : here ws r = hr ws r.pos := rfl
  obtain ⟨n1, n2, n3, n4, n5, n6, n7, n8, n9, n10, n11, n12, n13, n14, n15⟩ := K
  obtain ⟨s1, s2, s3, s4, s5, s6, s7, s8, s9, s10⟩ := Ks
  have var : ∀ (sc : Sc) (S : List En) (K : Str → RS → Option Nat), sc.names = r.vars.map (·.1) → (∀ x, K x r.go.go = LL ws r.go.go.pos sc S) → LL ws r.go.pos sc (.one :: S) = CP (varR ws r.go) K := fun sc S K h1 h2 => by
    rw [one_sim (by rw [h1]; exact scOf_names (ar := ar) hn)]
    unfold varR
    by_cases c : hasV r.go (here ws r.go) = true
    · rw [if_pos c, if_pos (by rw [h1]; exact hasV_iff.mp c)]
      exact (h2 _).symm
    · rw [if_neg c, if_neg (by rw [h1]; exact fun z => c (hasV_iff.mpr z))]; rfl
  unfold stmtR
  rcases may_sc hk hm with ⟨q, h1, h2⟩ | ⟨q, h1, h2, h4⟩ | ⟨q, h1⟩ | ⟨q, h1⟩ | ⟨q, h1⟩
  · -- draw
    have st : LR ws ar r (.blk k kd :: S) = LL ws r.go.pos { scOf ar r with draws := (scOf ar r).draws - 1 } (.one :: .num 1 6 :: .blk k (aft kd) :: S) := by
      refine LL_step (M := ⟨.one :: .num 1 6 :: .blk k (aft kd) :: S, { scOf ar r with draws := (scOf ar r).draws - 1 }⟩) ?_ hne
      rw [e] at q
      have hd : 0 < (scOf ar r).draws := by show 0 < 3 - r.draws; omega
      simp only [stepM, blkS]
      rw [q, if_neg (fun z => n1 z.1), if_neg (fun z => n2 z.1), if_neg (fun z => n3 z.1), if_pos ⟨rfl, h1, hd⟩]
    rw [st, if_neg (by rw [q]; exact fun z => s7 z.symm), if_neg (by rw [q]; exact fun z => s4 z.symm), CP_bind]
    refine var { scOf ar r with draws := (scOf ar r).draws - 1 } _ _ rfl fun x => ?_
    rw [if_pos (show here ws r = "draw" from q), CP_bind]
    have e9 : scOf ar { r.go.go with draws := r.go.go.draws + 1 } = { scOf ar r with draws := (scOf ar r).draws - 1 } := by
      unfold scOf; simp only [Sc.mk.injEq, true_and, and_true]; exact ⟨rfl, rfl, by show 3 - (r.draws + 1) = 3 - r.draws - 1; omega, rfl⟩
    rw [num_sim]
    refine CP_num (r := { r.go.go with draws := r.go.go.draws + 1 }) (y := LL ws (r.go.go.pos + 1) { scOf ar r with draws := (scOf ar r).draws - 1 } (.blk k (aft kd) :: S)) fun _ n => ?_
    rw [← e9]; rfl
  · -- use
    have st : LR ws ar r (.blk k kd :: S) = LL ws r.go.pos { scOf ar r with uses := (scOf ar r).uses - 1 } (.one :: .val (scOf ar r).all 5 :: .blk k (aft kd) :: S) := by
      refine LL_step (M := ⟨.one :: .val (scOf ar r).all 5 :: .blk k (aft kd) :: S, { scOf ar r with uses := (scOf ar r).uses - 1 }⟩) ?_ hne
      rw [e] at q
      have hd : 0 < (scOf ar r).uses := by show 0 < (if ar = true then 24 else 0) - r.uses; rw [if_pos h2]; omega
      simp only [stepM, blkS]
      rw [q, if_neg (fun z => n4 z.1), if_neg (fun z => n5 z.1), if_neg (fun z => n6 z.1), if_neg (fun z => s1 z.1), if_pos ⟨rfl, h1, hd⟩]
    rw [st, if_neg (by rw [q]; exact fun z => s8 z.symm), if_neg (by rw [q]; exact fun z => s5 z.symm), CP_bind]
    refine var { scOf ar r with uses := (scOf ar r).uses - 1 } _ _ rfl fun x => ?_
    rw [if_neg (show ¬ here ws r = "draw" from by rw [q]; exact s1), if_pos (show here ws r = "use" from q), CP_bind]
    have e9 : scOf ar { r.go.go with uses := r.go.go.uses + 1 } = { scOf ar r with uses := (scOf ar r).uses - 1 } := by
      unfold scOf; simp only [Sc.mk.injEq, true_and, and_true]; exact ⟨rfl, rfl, rfl, by show _ - (r.uses + 1) = _ - r.uses - 1; omega⟩
    have i := ex_sim (ws := ws) (ar := ar) (k := 4) (r := { r.go.go with uses := r.go.go.uses + 1 }) (S := .blk k (aft kd) :: S) hn
    rw [e9] at i
    exact i.symm
  · -- set
    have st : LR ws ar r (.blk k kd :: S) = LL ws r.go.pos (scOf ar r) (.one :: .val (scOf ar r).all 5 :: .blk k (aft kd) :: S) := by
      refine LL_step (M := ⟨.one :: .val (scOf ar r).all 5 :: .blk k (aft kd) :: S, scOf ar r⟩) ?_ hne
      rw [e] at q
      simp only [stepM, blkS]
      rw [q, if_neg (fun z => n7 z.1), if_neg (fun z => n8 z.1), if_neg (fun z => n9 z.1), if_neg (fun z => s2 z.1), if_neg (fun z => s3 z.1), if_pos ⟨rfl, h1⟩]
    rw [st, if_neg (by rw [q]; exact fun z => s9 z.symm), if_neg (by rw [q]; exact fun z => s6 z.symm), CP_bind]
    refine var (scOf ar r) _ _ rfl fun x => ?_
    rw [if_neg (show ¬ here ws r = "draw" from by rw [q]; exact s2), if_neg (show ¬ here ws r = "use" from by rw [q]; exact s3), CP_bind]
    exact (ex_sim (ws := ws) (ar := ar) (k := 4) (r := r.go.go) (S := .blk k (aft kd) :: S) hn).symm
  · -- say
    have st : LR ws ar r (.blk k kd :: S) = LL ws r.go.pos (scOf ar r) (.val (scOf ar r).all 5 :: .blk k (aft kd) :: S) := by
      refine LL_step (M := ⟨.val (scOf ar r).all 5 :: .blk k (aft kd) :: S, scOf ar r⟩) ?_ hne
      rw [e] at q
      have hp : (scOf ar r).pr = true := h1
      simp only [stepM, blkS]
      rw [q, if_neg (fun z => n10 z.1), if_neg (fun z => n11 z.1), if_neg (fun z => n12 z.1), if_neg (fun z => s4 z.1), if_neg (fun z => s5 z.1), if_neg (fun z => s6 z.1), if_pos ⟨rfl, hp⟩]
    rw [st, if_neg (by rw [q]; exact fun z => s10 z.symm), if_pos (show here ws r = "say" from q), CP_bind]
    exact ex_sim (ws := ws) (ar := ar) (k := 4) (r := r.go) (S := .blk k (aft kd) :: S) hn
  · -- if
    have st : LR ws ar r (.blk k kd :: S) = LL ws r.go.pos (scOf ar r) (.val (scOf ar r).all 5 :: .blk (k - 1) .thn :: .blk k (aft kd) :: S) := by
      refine LL_step (M := ⟨.val (scOf ar r).all 5 :: .blk (k - 1) .thn :: .blk k (aft kd) :: S, scOf ar r⟩) ?_ hne
      rw [e] at q
      simp only [stepM, blkS]
      rw [q, if_neg (fun z => n13 z.1), if_neg (fun z => n14 z.1), if_neg (fun z => n15 z.1), if_neg (fun z => s7 z.1), if_neg (fun z => s8 z.1), if_neg (fun z => s9 z.1), if_neg (fun z => s10 z.1), if_pos ⟨rfl, h1⟩]
    rw [st, if_pos (show here ws r = "if" from q)]
    exact hc h1 r.go _ hn h3 h24 (by show r.pos + 1 ≤ _; omega)
end
end Rd

set_option Elab.async false
set_option linter.all false
set_option maxRecDepth 100000
set_option maxHeartbeats 4000000
namespace Rd
open PySem PyProof.Rows TL
section
variable {ws : List Str} {ar : Bool}
structure Fa (ws : List Str) (r r1 : RS) : Prop where
  vs : r1.vars = r.vars
  pr : r1.pressed = r.pressed
  dl : r1.draws ≤ 3
  ul : r1.uses ≤ 24
  pl : r1.pos ≤ ws.length
theorem Fa.trans {a b c : RS} (h : Fa ws a b) (k : Fa ws b c) : Fa ws a c := ⟨k.vs.trans h.vs, k.pr.trans h.pr, k.dl, k.ul, k.pl⟩
theorem Rdn.le {r r1 : RS} {l : List Str} (h : Rdn ws r r1 l) (hp : r.pos ≤ ws.length) : r1.pos ≤ ws.length := by
  have h1 := congrArg List.length h.dr
  have h2 := h.pos
  rw [List.length_append, List.length_drop, List.length_drop] at h1
  omega
abbrev ChS (ws : List Str) (ar : Bool) (k : Nat) : Prop := 0 < k → ∀ (r : RS) (S : List En), NmOk r.vars → r.draws ≤ 3 → r.uses ≤ 24 → r.pos ≤ ws.length → LR ws ar r (.val (scOf ar r).all 5 :: .blk (k - 1) .thn :: S) = CP (chAt ws ar k r) fun _ r' => LR ws ar r' S
theorem loop_sim {k : Nat} {kd : Kd} {S : List En} (hk : k ≤ 4) (hkd : aft kd = kd) (hc : ChS ws ar k) : ∀ {n : Nat} {acc : List Stm} {r : RS} {K : List Stm → RS → Option Nat}, NmOk r.vars → r.draws ≤ 3 → r.uses ≤ 24 → r.pos ≤ ws.length → ws.length + 1 ≤ n + r.pos →
    (∀ l r1, (∃ b, l = acc ++ b) → Fa ws r r1 → mayR ar (here ws r1) (4 - k) r1 = false → LR ws ar r1 (.blk k kd :: S) = K l r1) → LR ws ar r (.blk k kd :: S) = CP (loopR ws ar (4 - k) (chAt ws ar k) n acc r) K
  | 0, acc, r, K, hn, h3, h24, hp, hl, hK => by omega
  | n + 1, acc, r, K, hn, h3, h24, hp, hl, hK => by
    rw [loopR]
    by_cases hm : mayR ar (here ws r) (4 - k) r = true
    · rw [if_pos hm, stmt_sim hk hn hm hc h3 h24, hkd, CP_bind]
      refine CP_eq fun s r1 h1 => ?_
      have T := stmt_sound hk (ch_sound k hk) hn h3 h24 hm h1
      have f : Fa ws r r1 := ⟨T.vs, T.pr, T.dl, T.ul, T.rd.le hp⟩
      have hpos := T.rd.pos
      have hw := words_pos s
      refine loop_sim hk hkd hc (by rw [f.vs]; exact hn) f.dl f.ul f.pl (by omega) fun l r2 hb f2 hm2 => hK l r2 ?_ (f.trans f2) hm2
      obtain ⟨b, rfl⟩ := hb
      exact ⟨s :: b, by simp⟩
    · rw [if_neg hm]
      exact hK acc r ⟨[], by simp⟩ ⟨rfl, rfl, h3, h24, hp⟩ (by simpa using hm)
theorem emp_sim {k : Nat} {S : List En} (hk : k ≤ 4) (hc : ChS ws ar k) {r : RS} {K : List Stm → RS → Option Nat} (hn : NmOk r.vars) (h3 : r.draws ≤ 3) (h24 : r.uses ≤ 24) (hp : r.pos ≤ ws.length)
    (hK : ∀ l r1, l ≠ [] → Fa ws r r1 → mayR ar (here ws r1) (4 - k) r1 = false → LR ws ar r1 (.blk k .els :: S) = K l r1) (h0 : K [] r = some r.pos) : LR ws ar r (.blk k .emp :: S) = CP (stmtsR ws ar (4 - k) (chAt ws ar k) r) K := by
  unfold stmtsR
  rw [loopR]
  by_cases hm : mayR ar (here ws r) (4 - k) r = true
  · rw [if_pos hm, stmt_sim hk hn hm hc h3 h24, CP_bind]
    refine CP_eq fun s r1 h1 => ?_
    have T := stmt_sound hk (ch_sound k hk) hn h3 h24 hm h1
    have f : Fa ws r r1 := ⟨T.vs, T.pr, T.dl, T.ul, T.rd.le hp⟩
    have hpos := T.rd.pos
    have hw := words_pos s
    refine loop_sim hk rfl hc (by rw [f.vs]; exact hn) f.dl f.ul f.pl (by omega) fun l r2 hb f2 hm2 => hK l r2 ?_ (f.trans f2) hm2
    obtain ⟨b, rfl⟩ := hb
    simp
  · rw [if_neg hm]
    show _ = K [] r
    rw [h0]
    exact LL_fail (blk_not hk (by simpa using hm) (by rintro ⟨_, h | h⟩ <;> cases h) (by rintro ⟨_, h, _⟩; cases h) (by rintro ⟨_, h⟩; cases h)) (blk_acc (.inr (by decide)))
theorem any_may {k : Nat} (hk : k ≤ 4) {r : RS} : sts.any (fun w => mayR ar w (4 - k) r) = true ↔ (0 < (scOf ar r).all.length ∨ 0 < k) := by
  have e1 : mayR ar (Str.ofString "set") (4 - k) r = _ := may_set
  have e2 : mayR ar (Str.ofString "draw") (4 - k) r = _ := may_draw
  have e3 : mayR ar (Str.ofString "use") (4 - k) r = _ := may_use
  have e4 : mayR ar (Str.ofString "say") (4 - k) r = _ := may_say
  have e5 : mayR ar (Str.ofString "if") (4 - k) r = _ := may_if
  unfold sts Sc.all scOf
  simp only [List.any_cons, List.any_nil, e1, e2, e3, e4, e5, Bool.or_false, Bool.or_eq_true, Bool.and_eq_true, decide_eq_true_eq, List.length_append, List.length_map]
  cases hp : r.pressed with
  | true => simp
  | false =>
    simp
    constructor
    · rintro (h | h | h | h)
      · exact .inl h
      · exact .inl h.2
      · exact .inl h.2.2
      · right; omega
    · rintro (h | h)
      · exact .inl h
      · right; right; right; omega
theorem end_step {k : Nat} {kd : Kd} {S : List En} {r : RS} (h : here ws r = wd "end") (hkd : kd = .thn ∨ kd = .els) : LR ws ar r (.blk k kd :: S) = LR ws ar r.go S :=
  LL_step (M := ⟨S, scOf ar r⟩) (by
    have h : hr ws r.pos = wd "end" := h
    simp only [stepM, blkS]
    rw [if_pos ⟨h, hkd⟩]) (by show here ws r ≠ _; rw [h]; exact ke_ne.2.2.2.2.2.1)
theorem end_sim {k : Nat} (hk : k ≤ 4) {kd : Kd} {S : List En} {r : RS} (hkd : kd = .thn ∨ kd = .els) (hm : mayR ar (here ws r) (4 - k) r = false) (he : ¬ (here ws r = wd "else" ∧ kd = .thn ∧ (0 < (scOf ar r).all.length ∨ 0 < k))) {s : Stm} :
    LR ws ar r (.blk k kd :: S) = CP ((takeR ws "end" r).bind fun _ r4 => .ok s r4) fun _ r' => LR ws ar r' S := by
  rw [CP_bind]
  unfold takeR
  by_cases h : here ws r = "end"
  · rw [if_pos h]
    exact end_step h hkd
  · rw [if_neg h]
    refine LL_fail (blk_not hk hm (fun z => h z.1) he ?_) (blk_acc (.inr ?_))
    · rintro ⟨_, q⟩; subst q; rcases hkd with h | h <;> cases h
    · rintro q; subst q; rcases hkd with h | h <;> cases h
theorem ch_sim : ∀ (k : Nat), k ≤ 4 → ChS ws ar k
  | 0, _, h => absurd h (Nat.lt_irrefl 0)
  | k + 1, hk, _ => by
    intro r S hn h3 h24 hp
    have hc := ch_sim k (by omega)
    show _ = CP (choiceR ws ar k r) _
    rw [choiceR_eq]
    unfold choice1
    rw [CP_bind, Nat.add_sub_cancel, ex_sim (k := 4) hn]
    refine CP_eq fun e r1 h1 => ?_
    obtain ⟨_, v1, v2, v3, v4⟩ := exR_pos h1
    obtain ⟨_, w1⟩ := ex_sound hn h1
    have p1 := w1.le hp
    rw [CP_bind]
    unfold stmtsR
    refine loop_sim (by omega) rfl hc (by rw [v1]; exact hn) (by rw [v2]; exact h3) (by rw [v3]; exact h24) p1 (by omega) fun s r2 _ f2 hm2 => ?_
    have hn2 : NmOk r2.vars := by rw [f2.vs, v1]; exact hn
    have am := any_may (ar := ar) (k := k) (by omega) (r := r2)
    by_cases c : here ws r2 = "else" ∧ sts.any (fun w => mayR ar w (4 - k) r2) = true
    · rw [if_pos c]
      have st : LR ws ar r2 (.blk k .thn :: S) = LR ws ar r2.go (.blk k .emp :: S) := by
        refine LL_step (M := ⟨.blk k .emp :: S, scOf ar r2⟩) ?_ ?_
        · have q : hr ws r2.pos = wd "else" := c.1
          simp only [stepM, blkS]
          rw [if_neg (by rw [q]; exact fun z => ke2_ne.1 z.1), if_pos ⟨q, trivial, am.mp c.2⟩]
        · show here ws r2 ≠ _; rw [c.1]; exact ke_ne.2.2.2.2.2.2.1
      have hlt : r2.pos < ws.length := here_lt' (by rw [c.1]; exact ke_ne.2.2.2.2.2.2.1)
      rw [st, CP_bind]
      refine emp_sim (by omega) hc (r := r2.go) hn2 f2.dl f2.ul (by show r2.pos + 1 ≤ _; omega) (fun l r3 hl f3 hm3 => ?_) ?_
      · rw [if_neg (fun z => hl (List.length_eq_zero_iff.mp z))]
        exact end_sim (by omega) (.inr rfl) hm3 (by rintro ⟨_, h, _⟩; cases h)
      · rfl
    · rw [if_neg c]
      exact end_sim (by omega) (.inl rfl) hm2 (fun z => c ⟨z.1, am.mpr z.2.2⟩)
theorem take_sim {x : Str} (hx : x ≠ Str.empty) {r : RS} {S : List En} {K : Unit → RS → Option Nat} (h : r.pos < ws.length → LR ws ar r.go S = K () r.go) : LR ws ar r (.word x :: S) = CP (takeR ws x r) K := by
  show LL ws r.pos (scOf ar r) (.word x :: S) = _
  rw [word_sim hx]
  unfold takeR
  by_cases q : here ws r = x
  · rw [if_pos (show hr ws r.pos = x from q), if_pos q]; exact h (here_lt' (by rw [q]; exact hx))
  · rw [if_neg (show ¬ hr ws r.pos = x from q), if_neg q]; rfl
theorem numR_sim {lo hi : Nat} {r : RS} {S : List En} {K : Nat → RS → Option Nat} (h : r.pos < ws.length → ∀ n, LR ws ar r.go S = K n r.go) : LR ws ar r (.num lo hi :: S) = CP (numR ws lo hi r) K := by
  show LL ws r.pos (scOf ar r) (.num lo hi :: S) = _
  rw [num_sim, CP_num (y := LR ws ar r.go S) fun hb n => (h (here_lt' (fun z => by rw [z, numB_empty] at hb; cases hb)) n).symm]
  rfl
theorem vars_sim : ∀ {n : Nat} {r : RS} {S : List En} {K : Unit → RS → Option Nat}, NmOk r.vars → n + r.vars.length = 4 → r.pos ≤ ws.length →
    (∀ r1, NmOk r1.vars → r1.draws = r.draws → r1.uses = r.uses → r1.pressed = r.pressed → r1.pos ≤ ws.length → (if here ws r1 = wd "start" then LR ws ar r1.go (.blk 4 .start :: S) else some r1.pos) = K () r1) → LR ws ar r (.head :: S) = CP (varsR ws n r) K
  | n, r, S, K, hn, hv, hp, hK => by
    have stop : ¬ (here ws r = wd "var" ∧ (scOf ar r).names.length < 4) → LR ws ar r (.head :: S) = K () r := fun c => by
      rw [← hK r hn rfl rfl rfl hp]
      by_cases q : here ws r = wd "start"
      · rw [if_pos q]
        refine LL_step (M := ⟨.blk 4 .start :: S, scOf ar r⟩) ?_ (by show here ws r ≠ _; rw [q]; exact ke_ne.2.2.2.2.2.2.2.2.2)
        have c : ¬ (hr ws r.pos = wd "var" ∧ (scOf ar r).names.length < 4) := c
        have q : hr ws r.pos = wd "start" := q
        simp only [stepM]
        rw [if_neg c, if_pos q]
      · rw [if_neg q]
        have c : ¬ (hr ws r.pos = wd "var" ∧ (scOf ar r).names.length < 4) := c
        have q : ¬ hr ws r.pos = wd "start" := q
        exact LL_fail (by simp only [stepM]; rw [if_neg c, if_neg q]) rfl
    have ln : (scOf ar r).names.length = r.vars.length := by unfold scOf; simp
    cases n with
    | zero => exact stop (fun z => by rw [ln] at z; omega)
    | succ n =>
      rw [varsR]
      by_cases q : here ws r = "var"
      · rw [if_pos q]
        have st : LR ws ar r (.head :: S) = LL ws r.go.pos (scOf ar r) (.new :: .num 1 12 :: .head :: S) := by
          refine LL_step (M := ⟨.new :: .num 1 12 :: .head :: S, scOf ar r⟩) ?_ (by show here ws r ≠ _; rw [q]; exact ke_ne.2.2.2.2.2.2.2.2.1)
          have q : hr ws r.pos = wd "var" := q
          simp only [stepM]
          rw [if_pos ⟨q, by rw [ln]; omega⟩]
        have hlt : r.pos < ws.length := here_lt' (by rw [q]; exact ke_ne.2.2.2.2.2.2.2.2.1)
        rw [st, CP_bind]
        unfold newR
        by_cases c : isName (here ws r.go) = true ∧ hasV r.go (here ws r.go) = false
        · rw [if_pos c]
          have hlt2 : r.go.pos < ws.length := here_lt' (name_ne c.1)
          have nin : hr ws r.go.pos ∉ (scOf ar r).names := fun z => by
            have := hasV_iff (r := r.go).mpr z
            rw [show hasV r.go (hr ws r.go.pos) = false from c.2] at this; cases this
          have st2 : LL ws r.go.pos (scOf ar r) (.new :: .num 1 12 :: .head :: S) = LL ws r.go.go.pos { scOf ar r with names := (scOf ar r).names ++ [here ws r.go] } (.num 1 12 :: .head :: S) := by
            refine LL_step (M := ⟨.num 1 12 :: .head :: S, { scOf ar r with names := (scOf ar r).names ++ [here ws r.go] }⟩) ?_ (name_ne c.1)
            simp only [stepM]
            rw [if_pos ⟨nin, c.1⟩]; rfl
          rw [st2]
          show _ = CP ((numR ws 1 12 r.go.go).bind _) K
          rw [CP_bind, num_sim]
          refine (CP_num (r := r.go.go) (y := LL ws (r.go.go.pos + 1) { scOf ar r with names := (scOf ar r).names ++ [here ws r.go] } (.head :: S)) fun hb m => ?_).symm
          have e9 : scOf ar { r.go.go.go with vars := r.go.go.go.vars ++ [(here ws r.go, m)] } = { scOf ar r with names := (scOf ar r).names ++ [here ws r.go] } := by
            unfold scOf; simp [RS.go]
          rw [← e9]
          have hlt3 : r.go.go.pos < ws.length := here_lt' (fun z => by rw [z, numB_empty] at hb; cases hb)
          refine (vars_sim (n := n) (r := { r.go.go.go with vars := r.go.go.go.vars ++ [(here ws r.go, m)] }) ?_ ?_ (by show r.go.go.pos + 1 ≤ _; omega) (fun r1 a b c d e => hK r1 a b c d e)).symm
          · intro p hp
            rcases List.mem_append.mp hp with hp | hp
            · exact hn p hp
            · simp at hp; subst hp; exact c.1
          · show n + (r.vars ++ [_]).length = 4
            simp; omega
        · rw [if_neg c]
          refine LL_fail ?_ rfl
          simp only [stepM]
          rw [if_neg]
          rintro ⟨h1, h2⟩
          refine c ⟨h2, ?_⟩
          cases hh : hasV r.go (here ws r.go) with
          | false => rfl
          | true => exact (h1 (hasV_iff.mp hh)).elim
      · rw [if_neg q]
        exact stop (fun z => q z.1)
theorem read_sim : lp ws 0 (M0 (if ar = true then 24 else 0)) = CP (readR ws ar) fun _ _ => none := by
  have e0 : lp ws 0 (M0 (if ar = true then 24 else 0)) = LR ws ar r0 [.word (wd "buttons"), .num 1 4, .word (wd "answers"), .num 1 4, .head] := by
    show _ = lp (ws.drop 0) 0 _
    rw [List.drop_zero]
    rfl
  rw [e0]
  unfold readR
  rw [CP_bind]
  refine take_sim (by decide +kernel) fun _ => ?_
  rw [CP_bind]
  refine numR_sim fun _ b => ?_
  rw [CP_bind]
  refine take_sim (by decide +kernel) fun _ => ?_
  rw [CP_bind]
  refine numR_sim fun hl a => ?_
  rw [CP_bind]
  refine vars_sim (fun p hp => nomatch hp) rfl hl fun r1 hn hd hu hpr hp => ?_
  have d1 : r1.draws = 0 := hd
  have u1 : r1.uses = 0 := hu
  have p1 : r1.pressed = false := hpr
  rw [CP_bind]
  unfold takeR
  by_cases q : here ws r1 = "start"
  case neg => rw [if_neg q, if_neg (show ¬ here ws r1 = wd "start" from q)]; rfl
  rw [if_pos q, if_pos (show here ws r1 = wd "start" from q)]
  show _ = CP ((blockR ws ar 4 r1.go).bind _) _
  have hlt : r1.pos < ws.length := here_lt' (by rw [q]; exact ke_ne.2.2.2.2.2.2.2.2.2)
  rw [CP_bind, blockR_eq]
  unfold stmtsR
  refine loop_sim (by omega) rfl (ch_sim 4 (by omega)) hn (by show r1.draws ≤ 3; omega) (by show r1.uses ≤ 24; omega) (by show r1.pos + 1 ≤ _; omega) (by omega) fun s r2 _ f2 hm2 => ?_
  rw [CP_bind]
  by_cases q2 : here ws r2 = "press"
  case neg =>
    rw [if_neg q2]
    exact LL_fail (blk_not (by omega) hm2 (by rintro ⟨_, h | h⟩ <;> cases h) (by rintro ⟨_, h, _⟩; cases h) (fun z => q2 z.1)) (blk_acc (.inr (by decide)))
  rw [if_pos q2]
  have hlt2 : r2.pos < ws.length := here_lt' (by rw [q2]; exact ke_ne.2.2.2.2.2.2.2.1)
  have st : LR ws ar r2 [.blk 4 .start] = LR ws ar { r2.go with pressed := true } [.blk 4 .top] := by
    refine LL_step (M := ⟨[.blk 4 .top], { scOf ar r2 with pr := true }⟩) ?_ (by show here ws r2 ≠ _; rw [q2]; exact ke_ne.2.2.2.2.2.2.2.1)
    have q : hr ws r2.pos = wd "press" := q2
    simp only [stepM, blkS]
    rw [q, if_neg (fun z => ke2_ne.2.1 z.1), if_neg (fun z => ke2_ne.2.2.1 z.1), if_pos ⟨rfl, trivial⟩]
  rw [st]
  show _ = CP ((blockR ws ar 4 { r2.go with pressed := true }).bind _) _
  rw [CP_bind, blockR_eq]
  unfold stmtsR
  refine loop_sim (by omega) rfl (ch_sim 4 (by omega)) (by show NmOk r2.vars; rw [f2.vs]; exact hn) f2.dl f2.ul (by show r2.pos + 1 ≤ _; omega) (by omega) fun t r3 _ f3 hm3 => ?_
  by_cases q3 : r3.pos < ws.length
  · rw [if_pos q3]
    exact LL_fail2 (blk_not (by omega) hm3 (by rintro ⟨_, h | h⟩ <;> cases h) (by rintro ⟨_, h, _⟩; cases h) (by rintro ⟨_, h⟩; cases h)) q3
  · rw [if_neg q3]
    show lp (ws.drop r3.pos) r3.pos _ = none
    rw [List.drop_eq_nil_of_le (by omega)]
    rfl
/-- what the law works out, and what is read -/
def wrong (ws : List Str) (ar : Bool) : Option Nat := lp ws 0 (M0 (if ar = true then 24 else 0))
theorem wrong_read : wrong ws ar = match readR ws ar with
  | .ok _ _ => none
  | .bad n => some n := by
  unfold wrong
  rw [read_sim]
  cases readR ws ar <;> rfl
end
end Rd

set_option Elab.async false
set_option linter.all false
set_option maxRecDepth 100000
set_option maxHeartbeats 4000000
namespace Tk
open PySem PySem.Spec PyProof.Rows L2
theorem sl_tupAK {X : Cx} (K : PySem.W.Frag) (hK : X.K = K := by rfl) : SlR X (rSlA K) := hK ▸ sl_tupA
section
variable {K : PySem.W.Frag} {I H : Hp} {a b : Addr} {xs ys : List V} {Q : VK}
theorem catA_of (s : Same I H) (ha : I a = some (.tup xs)) (hb : I b = some (.tup ys)) (hl : xs.length + ys.length ≤ sizeLine) (k : ∀ I' H' c, Gr [] I H I' H' → I' c = some (.tup (xs ++ ys)) → Q (.ref c) H') : rCatA K (.ref a) (.ref b) H Q := by
  refine ⟨a, b, xs, ys, rfl, rfl, SqT.of (s _ _ ha), SqT.of (s _ _ hb), hl, fun e => ?_, fun _ e => ?_, fun _ _ p hp => ?_⟩
  · exact k I H b (Gr.refl s) (by rw [e]; exact hb)
  · exact k I H a (Gr.refl s) (by rw [e, List.append_nil]; exact ha)
  · exact k _ _ p (Gr.new s hp) upd_same
theorem slA_of {lo hi : Option Int} (s : Same I H) (ha : I a = some (.tup xs)) (k : ∀ I' H' c, Gr [] I H I' H' → I' c = some (.tup (cutV xs lo hi)) → Q (.ref c) H') : rSlA K (.ref a) lo hi H Q := by
  refine ⟨a, xs, rfl, SqT.of (s _ _ ha), fun e => ?_, fun _ p hp => ?_⟩
  · refine k I H a (Gr.refl s) ?_
    unfold cutV
    rw [e.1, e.2, List.drop_zero, Nat.sub_zero, List.take_length]
    exact ha
  · exact k _ _ p (Gr.new s hp) upd_same
theorem cut_lo {xs : List V} {n : Nat} (h : n ≤ xs.length) : cutV xs none (some (n : Int)) = xs.take n := by
  unfold cutV
  rw [HT.sIx_none, HT.sIx_nat, List.drop_zero, Nat.sub_zero, Nat.min_eq_left h]
theorem cut_hi {xs : List V} {n : Nat} (h : n ≤ xs.length) : cutV xs (some (n : Int)) none = xs.drop n := by
  unfold cutV
  rw [HT.sIx_none, HT.sIx_nat, Nat.min_eq_left h, List.take_of_length_le (by rw [List.length_drop]; omega)]
theorem cut_last {xs : List V} (h : xs ≠ []) : cutV xs none (some (-1)) = xs.dropLast := by
  have : 0 < xs.length := List.length_pos_iff.mpr h
  have e : HT.sIx xs.length xs.length (some (-1)) = xs.length - 1 := by
    show (if (-1 : Int) < 0 then ((-1 : Int) + (xs.length : Int)).toNat else min (-1 : Int).toNat xs.length) = _
    rw [if_pos (by decide)]; omega
  unfold cutV
  rw [e, HT.sIx_none, List.dropLast_eq_take, Nat.sub_zero]; rfl
theorem set_cut {α : Type} : ∀ {xs : List α} {n : Nat} {v : α}, n < xs.length → xs.take n ++ [v] ++ xs.drop (n + 1) = xs.set n v
  | [], _, _, h => by simp at h
  | x :: r, 0, v, _ => by simp
  | x :: r, n + 1, v, h => by
    have := set_cut (xs := r) (n := n) (v := v) (by simpa using h)
    simpa using this
theorem last_cut {α : Type} : ∀ {xs : List α} {v : α}, xs ≠ [] → xs.dropLast ++ [v] = xs.set (xs.length - 1) v
  | [], _, h => (h rfl).elim
  | [x], v, _ => rfl
  | x :: y :: r, v, _ => by
    have := last_cut (xs := y :: r) (v := v) (by simp)
    simpa using this
end
end Tk

namespace Tk
open PySem PySem.Spec PyProof.Rows L2
theorem op_leS {X : Cx} : OpR X (compareOp .LtE) (fun x y H Q => ∃ i j, x = .str i ∧ y = .str j ∧ Q (.bl (!decide (j.cps.toList < i.cps.toList))) H) := by
  intro pins s σ H x y v u Q I rx ry h
  obtain ⟨i, j, rfl, rfl, q⟩ := h
  obtain ⟨t, rfl⟩ := rx
  obtain ⟨t', rfl⟩ := ry
  exact P.le_str (fin_bl I q rfl)
theorem pt_din {X : Cx} {i o : Expr} {pos : Pos} {ty td : TE} (hu : X.A.units + 1 < cLine) (hi : PE X i ty) (ho : PE X o td) (h1 : behindInMarks CmpOp.In o = false := by rfl) : PT X (.Compare i [.In] [o] pos) (tB (tDIn ty td)) := pt_cmp (pc_din hu hi ho) h1
theorem wk_str {x : Str} {I : Hp} : Wk (Its x) x.cps.size (fun i => .str ⟨#[x.cps.getD i 0]⟩) I :=
  ⟨fun i H _ hi => hi, fun H _ => Nat.le_refl _, fun i H v H' _ hi y => by
    obtain ⟨e, c, hc, rfl⟩ := y
    refine ⟨?_, e⟩
    rw [Array.getD_eq_getD_getElem?, hc]; rfl⟩
end Tk

set_option Elab.async false
set_option linter.all false
set_option maxRecDepth 100000
set_option maxHeartbeats 4000000
namespace Rd
open PySem PyProof.Rows TL Tk
theorem chr_le {a c : Nat} : (!decide ((⟨#[c]⟩ : Str).cps.toList < (⟨#[a]⟩ : Str).cps.toList)) = decide (a ≤ c) := by
  show (!decide ([c] < [a])) = _
  by_cases h : a ≤ c
  · rw [decide_eq_true h, decide_eq_false]; rfl
    intro z
    cases z with
    | rel z => omega
    | cons z => cases z
  · rw [decide_eq_false h, decide_eq_true]; rfl
    exact .rel (by omega)
theorem str_a : ("a" : Str) = ⟨#[97]⟩ ∧ ("z" : Str) = ⟨#[122]⟩ ∧ ("0" : Str) = ⟨#[48]⟩ ∧ ("9" : Str) = ⟨#[57]⟩ := by decide +kernel
end Rd
namespace K
open PySem PySem.Spec PyProof.Rows L2 TL Tk Hd Rd
section
variable {P : Program} {w : World} {K : PySem.W.Frag} {mg : Str → Option Value} {base : Heap}
def spLname : Sp := fun vs H Q _ => ∃ z : Str, vs = [.str z] ∧ z.length ≤ sizeLine ∧ ∀ H', Same H H' → Q (.bl (isName z)) H'
theorem sc__law_is_name : FnScope ["word", "keys", "char"] ["word"] (defScope s__law_is_name) := ⟨rfl, rfl, rfl, by decide +kernel, rfl, by decide +kernel, by decide +kernel⟩
theorem ok_lname (D : Dt K mg) : Has P w K mg base 1 (He.ga K "_law_is_name") ["word"] [] (spLname) := by
  obtain ⟨fd, F⟩ := fd__law_is_name D
  refine hasN F (F.bindsN fun _ _ _ _ _ _ us hl => match us, hl with | [_], _ => rfl) sc__law_is_name (fun vs H Q E h => ?_) (fun cdv A outer s H vs Q E hr h => ?_)
  · obtain ⟨z, rfl, _⟩ := h; rfl
  · obtain ⟨z, rfl, hz, kk⟩ := h
    refine ⟨_, (pss_cons (ps_set (i := 1) sc__law_is_name.nd rfl (Or.inl rfl) (pe_tup (pa_cons pe_str (pa_cons pe_str (pa_cons pe_str (pa_cons pe_str (pa_cons pe_str (pa_cons pe_str (pa_cons pe_str (pa_cons pe_str (pa_cons pe_str (pa_cons pe_str (pa_cons pe_str (pa_cons pe_str (pa_cons pe_str pa_nil)))))))))))))))
      (pss_cons (ps_if (PW.pt (pw_or (pt_not (pt_chain op_lt op_lt pe_int (pe_callB (call_lenK K) rfl (free_len D) PySem.boot_len (pa_cons (pv 0) pa_nil)) pe_int)) (pw_or1 (pt_cmpR (op_in_seqK K) (pv 0) (pv 1) rfl))))
      (pss_one (ps_ret pe_bl))
      pss_nil)
      (pss_cons (ps_for PassesOwn.never rfl (pi_str (pv 0)) (pg_name (i := 2) sc__law_is_name.nd rfl (Or.inl rfl))
      (pss_one (ps_if (pt_not (pt_chain op_leS op_leS pe_str (pv 2) pe_str))
      (pss_one (ps_ret pe_bl))
      pss_nil)))
      (pss_one (ps_ret pe_bl))))), ?_⟩
    refine ⟨(by show 13 ≤ sizeLine; decide), fun t ht => ?_⟩
    have s1 : Same H (upd H t (.tup (resv.map V.str))) := sNew ht
    (try dsimp only)
    have hlen : z.length = (tl z).length := len_tl z
    refine seq_cut (fun σ' H' => σ' = [some (.str z), some (.ref t), none] ∧ Same H H' ∧ 0 < z.length ∧ z.length < 9 ∧ z ∉ resv) (fun nx q => ?_) ?_
    · refine ⟨_, rfl, _, z.length, rfl, ⟨hz, rfl⟩, _, _, rfl, rfl, _, rfl, ?_⟩
      refine ifD (fun c => ⟨_, _, rfl, rfl, _, rfl, ?_⟩) (fun c => ⟨_, rfl, ifT rfl (ifT rfl ?_)⟩)
      · refine ifB (fun c2 => ifT rfl ?_) (fun c2 => ?_)
        · have e : isName z = false := by
            cases h : isName z with
            | false => rfl
            | true => have := (name_facts h).1; simp at c2; omega
          rw [e] at kk; exact kk _ s1
        · have hl9 : z.length < 9 := by simp at c2; omega
          refine ⟨_, rfl, _, rfl, t, resv.map V.str, rfl, .inr (SqT.of upd_same), rfl, flat_strs resv, _, rfl, ?_⟩
          rw [if_neg Bool.false_ne_true, inV_strs]
          refine ifD (fun c3 => ?_) (fun c3 => q _ _ ⟨rfl, s1, by omega, hl9, c3⟩)
          have e : isName z = false := by
            cases h : isName z with
            | false => rfl
            | true => exact ((name_facts h).2.1 c3).elim
          rw [e] at kk; exact kk _ s1
      · have e : isName z = false := by
          cases h : isName z with
          | false => rfl
          | true => have := (name_facts h).2.2.1; exact (this (List.length_eq_zero_iff.mp (by omega))).elim
        rw [e] at kk; exact kk _ s1
    rintro σ' H1 ⟨rfl, s1, h0, h9, hr⟩
    (try dsimp only)
    refine seq_cut (fun σ' H' => Same H H' ∧ ∀ c ∈ tl z, 97 ≤ c ∧ c ≤ 122) (fun nx q => ?_) ?_
    · refine ⟨_, rfl, z, rfl, ?_⟩
      refine for_wk (wk_str (x := z) (I := H)) (fun σ' H' => Same H H' ∧ ∀ c ∈ tl z, 97 ≤ c ∧ c ≤ 122)
        (fun i σ' H' => ∃ x2, σ' = [some (.str z), some (.ref t), x2] ∧ Same H H' ∧ ∀ j c, j < i → (tl z)[j]? = some c → 97 ≤ c ∧ c ≤ 122)
        (fun i σ' H' h => by obtain ⟨_, _, s, _⟩ := h; exact s) ⟨none, rfl, s1, fun j c h => absurd h (Nat.not_lt_zero j)⟩ (fun nx2 q2 i σ' H2 hi h => ?_) (fun σ' H2 h => ?_) q
      · obtain ⟨x2, rfl, s2, hj⟩ := h
        have hi' : i < (tl z).length := by show i < z.cps.toList.length; rw [Array.length_toList]; exact hi
        obtain ⟨c, hc⟩ : ∃ c, (tl z)[i]? = some c := ⟨(tl z)[i], List.getElem?_eq_getElem hi'⟩
        have ec : z.cps.getD i 0 = c := by
          have : z.cps[i]? = some c := by rw [← Array.getElem?_toList]; exact hc
          rw [Array.getD_eq_getD_getElem?, this]; rfl
        rw [ec]
        refine ⟨_, rfl, ("a" : Str), (⟨#[c]⟩ : Str), rfl, rfl, _, rfl, ?_⟩
        rw [str_a.1, chr_le]
        have bad : ¬ (97 ≤ c ∧ c ≤ 122) → isName z = false := fun n => by
          cases h : isName z with
          | false => rfl
          | true => exact (n ((name_facts h).2.2.2 c (List.mem_of_getElem? hc))).elim
        refine ifD (fun c1 => ⟨(⟨#[c]⟩ : Str), ("z" : Str), rfl, rfl, _, rfl, ?_⟩) (fun c1 => ⟨_, rfl, ifT rfl ?_⟩)
        · rw [str_a.2.1, chr_le]
          by_cases c2 : c ≤ 122
          · rw [decide_eq_true c2]
            refine ifF rfl ⟨_, rfl, s2, fun j c' h h' => ?_⟩
            by_cases e : j = i
            · subst e; rw [hc] at h'; cases h'; exact ⟨c1, c2⟩
            · exact hj j c' (by omega) h'
          · rw [decide_eq_false c2]
            refine ifT rfl ?_
            rw [bad (fun z => c2 z.2)] at kk; exact kk _ s2
        · rw [bad (fun z => c1 z.1)] at kk; exact kk _ s2
      · obtain ⟨x2, rfl, s2, hj⟩ := h
        refine ⟨s2, fun c hc => ?_⟩
        obtain ⟨j, hj1, hj2⟩ := List.getElem_of_mem hc
        exact hj j c (by show j < z.cps.size; rw [← Array.length_toList]; exact hj1) (by rw [List.getElem?_eq_getElem hj1, hj2])
    rintro σ' H2 ⟨s2, ha⟩
    have e : isName z = true := by
      unfold isName
      rw [decide_eq_true (by omega : z.length ≤ 8), decide_eq_true hr, decide_eq_true (show tl z ≠ [] from fun q => by rw [q] at hlen; simp at hlen; omega), List.all_eq_true.mpr (fun c hc => isLow_iff.mpr (ha c hc))]; rfl
    rw [e] at kk
    exact kk _ s2
theorem dv_lt (l : List Nat) : (∀ c ∈ l, 48 ≤ c ∧ c ≤ 57) → dv l < 10 ^ l.length := by
  refine Rd.snocInd (P := fun l => (∀ c ∈ l, 48 ≤ c ∧ c ≤ 57) → dv l < 10 ^ l.length) (fun _ => by decide) (fun l c ih h => ?_) l
  rw [dv_snoc, List.length_append, List.length_singleton, Nat.pow_succ]
  have := ih fun d hd => h d (List.mem_append_left _ hd)
  have := h c (by simp)
  omega
theorem numB_some {z : Str} {lo hi : Nat} (h : numB z lo hi = true) : ∃ n, z = dec n ∧ n ≤ hi ∧ lo ≤ n := by
  unfold numB at h
  cases e : numOf z hi with
  | none => rw [e] at h; cases h
  | some n =>
    rw [e] at h
    obtain ⟨a, b⟩ := numOf_some.mp e
    exact ⟨n, a, b, of_decide_eq_true h⟩
theorem numB_no {z : Str} {lo hi : Nat} (h : ∀ n, z = dec n → n ≤ hi → lo ≤ n → False) : numB z lo hi = false := by
  cases e : numB z lo hi with
  | false => rfl
  | true => obtain ⟨n, a, b, c⟩ := numB_some e; exact (h n a b c).elim
def spLnum : Sp := fun vs H Q _ => ∃ (z : Str) (lo ub : Nat), vs = [.str z, .int (lo : Int), .int (ub : Int)] ∧ z.length ≤ sizeLine ∧ ub ≤ 99999 ∧ Q (.bl (numB z lo ub)) H
theorem sc__law_is_number : FnScope ["word", "least", "upper", "char"] ["word", "least", "upper"] (defScope s__law_is_number) := ⟨rfl, rfl, rfl, by decide +kernel, rfl, by decide +kernel, by decide +kernel⟩
theorem ok_lnum (D : Dt K mg) : Has P w K mg base 1 (He.ga K "_law_is_number") ["word", "least", "upper"] [] (spLnum) := by
  obtain ⟨fd, F⟩ := fd__law_is_number D
  refine hasN F (F.bindsN fun _ _ _ _ _ _ us hl => match us, hl with | [_, _, _], _ => rfl) sc__law_is_number (fun vs H Q E h => ?_) (fun cdv A outer s H vs Q E hr h => ?_)
  · obtain ⟨z, lo, ub, rfl, _⟩ := h; rfl
  · obtain ⟨z, lo, ub, rfl, hz, hh, kk⟩ := h
    refine ⟨_, (pss_cons (ps_if (pt_not (pt_chain op_lt op_lt pe_int (pe_callB (call_lenK K) rfl (free_len D) PySem.boot_len (pa_cons (pv 0) pa_nil)) pe_int))
      (pss_one (ps_ret pe_bl))
      pss_nil)
      (pss_cons (ps_for PassesOwn.never rfl (pi_str (pv 0)) (pg_name (i := 3) sc__law_is_number.nd rfl (Or.inl rfl))
      (pss_one (ps_if (pt_not (pt_chain op_leS op_leS pe_str (pv 3) pe_str))
      (pss_one (ps_ret pe_bl))
      pss_nil)))
      (pss_one (ps_ret (pe_and (pe_cmpR op_eq (pe_callTy call_str_int rfl (free_str D) (by decide +kernel) (pa_cons (pe_callTy call_int_str rfl (free_int D) (by decide +kernel) (pa_cons (pv 0) pa_nil)) pa_nil)) (pv 0) (nomark _)) (pe_one (pe_chain op_le op_le (pv 1) (pe_callTy call_int_str rfl (free_int D) (by decide +kernel) (pa_cons (pv 0) pa_nil)) (pv 2)))))))), ?_⟩
    have len5 : ∀ n, z = dec n → n ≤ ub → 0 < z.length ∧ z.length < 6 := fun n e h => by
      have h1 := TL.numL_len (n := n) (k := 5) (by decide) (by omega)
      have h2 := TL.numL_ne n
      rw [e, TL.len_tl, tl_dec]
      refine ⟨?_, by omega⟩
      exact List.length_pos_iff.mpr h2
    refine seq_cut (fun σ' H' => σ' = [some (.str z), some (.int (lo : Int)), some (.int (ub : Int)), none] ∧ H' = H ∧ 0 < z.length ∧ z.length < 6) (fun nx q => ?_) ?_
    · refine ⟨_, rfl, _, z.length, rfl, ⟨hz, rfl⟩, _, _, rfl, rfl, _, rfl, ?_⟩
      refine ifD (fun c => ⟨_, _, rfl, rfl, _, rfl, ?_⟩) (fun c => ⟨_, rfl, ifT rfl ?_⟩)
      · refine ifB (fun c2 => ?_) (fun c2 => q _ _ ⟨rfl, rfl, by omega, by simp at c2; omega⟩)
        rw [numB_no fun n a b _ => by have := len5 n a b; simp at c2; omega] at kk
        exact kk
      · rw [numB_no fun n a b _ => by have := len5 n a b; omega] at kk
        exact kk
    rintro σ' _ ⟨rfl, rfl, h0, h6⟩
    (try dsimp only)
    refine seq_cut (fun σ' H' => (∃ x3, σ' = [some (.str z), some (.int (lo : Int)), some (.int (ub : Int)), x3]) ∧ H' = H' ∧ (∀ c ∈ tl z, 48 ≤ c ∧ c ≤ 57) ∧ Q (.bl (numB z lo ub)) H') (fun nx q => ?_) ?_
    · refine ⟨_, rfl, z, rfl, ?_⟩
      refine for_wk (wk_str (x := z) (I := fun _ => none)) (fun σ' H' => (∃ x3, σ' = [some (.str z), some (.int (lo : Int)), some (.int (ub : Int)), x3]) ∧ H' = H' ∧ (∀ c ∈ tl z, 48 ≤ c ∧ c ≤ 57) ∧ Q (.bl (numB z lo ub)) H')
        (fun i σ' H' => ∃ x2, σ' = [some (.str z), some (.int (lo : Int)), some (.int (ub : Int)), x2] ∧ Q (.bl (numB z lo ub)) H' ∧ ∀ j c, j < i → (tl z)[j]? = some c → 48 ≤ c ∧ c ≤ 57)
        (fun i σ' H' h => (fun _ _ h => nomatch h)) ⟨none, rfl, kk, fun j c h => absurd h (Nat.not_lt_zero j)⟩ (fun nx2 q2 i σ' H2 hi h => ?_) (fun σ' H2 h => ?_) q
      · obtain ⟨x2, rfl, k2, hj⟩ := h
        have hi' : i < (tl z).length := by show i < z.cps.toList.length; rw [Array.length_toList]; exact hi
        obtain ⟨c, hc⟩ : ∃ c, (tl z)[i]? = some c := ⟨(tl z)[i], List.getElem?_eq_getElem hi'⟩
        have ec : z.cps.getD i 0 = c := by
          have : z.cps[i]? = some c := by rw [← Array.getElem?_toList]; exact hc
          rw [Array.getD_eq_getD_getElem?, this]; rfl
        rw [ec]
        refine ⟨_, rfl, ("0" : Str), (⟨#[c]⟩ : Str), rfl, rfl, _, rfl, ?_⟩
        rw [str_a.2.2.1, chr_le]
        have bad : ¬ (48 ≤ c ∧ c ≤ 57) → numB z lo ub = false := fun n => numB_no fun m a _ _ => by
          have hm := List.mem_of_getElem? hc
          rw [a, tl_dec] at hm
          exact n (TL.numL_digits m c hm)
        refine ifD (fun c1 => ⟨(⟨#[c]⟩ : Str), ("9" : Str), rfl, rfl, _, rfl, ?_⟩) (fun c1 => ⟨_, rfl, ifT rfl ?_⟩)
        · rw [str_a.2.2.2, chr_le]
          by_cases c2 : c ≤ 57
          · rw [decide_eq_true c2]
            refine ifF rfl ⟨_, rfl, k2, fun j c' h h' => ?_⟩
            by_cases e : j = i
            · subst e; rw [hc] at h'; cases h'; exact ⟨c1, c2⟩
            · exact hj j c' (by omega) h'
          · rw [decide_eq_false c2]
            refine ifT rfl ?_
            rw [bad (fun z => c2 z.2)] at k2; exact k2
        · rw [bad (fun z => c1 z.1)] at k2; exact k2
      · obtain ⟨x2, rfl, k2, hj⟩ := h
        refine ⟨⟨_, rfl⟩, rfl, fun c hc => ?_, k2⟩
        obtain ⟨j, hj1, hj2⟩ := List.getElem_of_mem hc
        exact hj j c (by show j < z.cps.size; rw [← Array.length_toList]; exact hj1) (by rw [List.getElem?_eq_getElem hj1, hj2])
    rintro σ' H2 ⟨⟨x3, rfl⟩, _, hd, k2⟩
    (try dsimp only)
    have hne : tl z ≠ [] := fun q => by have : z.length = (tl z).length := TL.len_tl z; rw [q] at this; simp at this; omega
    have hint : intText? z = some ((dv (tl z) : Nat) : Int) := PySem.intText_digits (fun c hc => hd c hc) hne (Nat.le_trans (show z.length ≤ 6 by omega) (by decide))
    have hz6 : z.length ≤ 640 := by omega
    refine ⟨_, rfl, z, _, rfl, hint, hz6, ?_⟩
    have hdv : dv (tl z) < 1000000 := Nat.lt_of_lt_of_le (dv_lt _ hd) (by
      have : (tl z).length ≤ 6 := by have : z.length = (tl z).length := TL.len_tl z; omega
      exact Nat.pow_le_pow_right (by decide) this)
    refine ⟨_, rfl, nat_log (by omega), _, rfl, rfl, _, rfl, ?_⟩
    have e1 : (Str.ofString (toString ((dv (tl z) : Nat) : Int))) = dec (dv (tl z)) := rfl
    rw [e1]
    by_cases q1 : dec (dv (tl z)) = z
    · refine ifT (by rw [q1]; exact decide_eq_true rfl) ?_
      refine ⟨_, rfl, _, rfl, z, _, rfl, hint, hz6, _, _, rfl, rfl, _, rfl, ?_⟩
      refine ifD (fun c => ⟨_, rfl, _, _, rfl, rfl, ?_⟩) (fun c => ?_)
      · have e2 : numB z lo ub = decide (((dv (tl z) : Nat) : Int) ≤ (ub : Int)) := by
          by_cases q2 : dv (tl z) ≤ ub
          · rw [decide_eq_true (by omega)]
            unfold numB
            rw [numOf_some.mpr ⟨q1.symm, q2⟩]
            exact decide_eq_true (by omega)
          · rw [decide_eq_false (by omega)]
            exact numB_no fun n a b _ => q2 (by rw [dec_inj (q1.trans a)]; exact b)
        rw [e2] at k2; exact k2
      · rw [numB_no fun n a b d => c (by rw [dec_inj (q1.trans a)]; omega)] at k2; exact k2
    · refine ifF (decide_eq_false fun e => q1 (by injection e)) ?_
      rw [numB_no fun n a b _ => q1 (by
        rw [a, tl_dec]; unfold dv; rw [TL.numL_val])] at k2
      exact k2
end
end K

set_option Elab.async false
set_option linter.all false
set_option maxRecDepth 100000
set_option maxHeartbeats 4000000
namespace Rd
open PySem PyProof.Rows TL Tk
def Kd.str : Kd → Str
  | .start => wd "start" | .thn => wd "then" | .els => wd "else" | .emp => wd "empty" | .top => wd "top"
theorem Kd.inj : ∀ {a b : Kd}, a.str = b.str → a = b := by
  intro a b
  cases a <;> cases b <;> first | (intro _; rfl) | (intro h; exfalso; revert h; decide +kernel)
def exL (p : Bool) : List Str := if p = true then [wd "press"] else []
theorem all_eq (s : Sc) : s.all = s.names ++ exL s.pr := rfl
/-- a value that is open: what the law makes of a word -/
def valS (nm : List Str) (room : Nat) (st : List En) (sc : Sc) (w : Str) : Option Ms :=
  if w ∈ ops ∧ 1 < room then some ⟨.val nm (room - 1) :: .val nm (room - 1) :: st, sc⟩ else if w ∈ nm ∨ numB w 0 65535 = true then some ⟨st, sc⟩ else none
end Rd
namespace K
open PySem PySem.Spec PyProof.Rows L2 TL Tk Hd Rd
section
variable {K : PySem.W.Frag}
/-- what is open, as the law keeps it -/
def enR : Rp En := fun I v e => match e with
  | .word w => ∃ a, v = .ref a ∧ I a = some (.tup [.str "word", .str w])
  | .one => ∃ a, v = .ref a ∧ I a = some (.tup [.str "one"])
  | .num lo hi => ∃ a, v = .ref a ∧ I a = some (.tup [.str "number", .int (lo : Int), .int (hi : Int)]) ∧ hi ≤ 99999
  | .val nm room => ∃ a n, v = .ref a ∧ I a = some (.tup [.str "value", .ref n, .int (room : Int)]) ∧ I n = some (.tup (nm.map V.str))
  | .blk room k => ∃ a, v = .ref a ∧ I a = some (.tup [.str "block", .int (room : Int), .str k.str])
  | .head => ∃ a, v = .ref a ∧ I a = some (.tup [.str "head"])
  | .new => ∃ a, v = .ref a ∧ I a = some (.tup [.str "new"])
instance : Mono enR := ⟨fun {_ _ v e} s h => by
  cases e with
  | val nm room => obtain ⟨a, n, e, h1, h2⟩ := h; exact ⟨a, n, e, s _ _ h1, s _ _ h2⟩
  | num lo hi => obtain ⟨a, e, h1, h2⟩ := h; exact ⟨a, e, s _ _ h1, h2⟩
  | word w => obtain ⟨a, e, h1⟩ := h; exact ⟨a, e, s _ _ h1⟩
  | one => obtain ⟨a, e, h1⟩ := h; exact ⟨a, e, s _ _ h1⟩
  | blk r k => obtain ⟨a, e, h1⟩ := h; exact ⟨a, e, s _ _ h1⟩
  | head => obtain ⟨a, e, h1⟩ := h; exact ⟨a, e, s _ _ h1⟩
  | new => obtain ⟨a, e, h1⟩ := h; exact ⟨a, e, s _ _ h1⟩⟩
def scD (N E : Addr) (d u : Nat) : List (Key × V) := [(.inr "names", .ref N), (.inr "extra", .ref E), (.inr "draws", .int (d : Int)), (.inr "uses", .int (u : Int))]
section
variable {N E F : Addr} {d u : Nat}
theorem sd_names : valV (scD N E d u) (.inr "names") = some (.ref N) := by kernel_rfl
theorem sd_extra : valV (scD N E d u) (.inr "extra") = some (.ref E) := by kernel_rfl
theorem sd_draws : valV (scD N E d u) (.inr "draws") = some (.int (d : Int)) := by kernel_rfl
theorem sd_uses : valV (scD N E d u) (.inr "uses") = some (.int (u : Int)) := by kernel_rfl
theorem su_draws : putK (scD N E (d + 1) u) (.inr "draws") (.int (d : Int)) = scD N E d u := by kernel_rfl
theorem su_uses {m : Nat} : putK (scD N E d u) (.inr "uses") (.int (m : Int)) = scD N E d m := by kernel_rfl
theorem su_extra : putK (scD N E d u) (.inr "extra") (.ref F) = scD N F d u := by kernel_rfl
theorem sd_len : (scD N E d u).length < sizeLine := by show 4 < sizeLine; decide
end
/-- the stack at S, the scope at C, its names at N -/
structure MsR (I H : Hp) (S C N : Addr) (M : Ms) (B : Nat) : Prop where
  s : Same I H
  iS : I S = none
  iC : I C = none
  iN : I N = none
  nSC : S ≠ C
  nSN : S ≠ N
  nCN : C ≠ N
  hS : ∃ us, H S = some (.lst us.reverse) ∧ All2 (enR I) us M.st
  hC : ∃ E, H C = some (.dK (scD N E M.sc.draws M.sc.uses)) ∧ I E = some (.tup ((exL M.sc.pr).map V.str))
  hN : H N = some (.lst (M.sc.names.map V.str))
  n4 : M.sc.names.length ≤ B
  sl : M.st.length ≤ B
  bl : B ≤ 5000000
section
variable {I H I' H' : Hp} {S C N : Addr} {M : Ms} {B : Nat}
theorem MsR.up0 (h : MsR I H S C N M B) (g : Gr [] I H I' H') : MsR I' H' S C N M B := by
  obtain ⟨us, h1, h2⟩ := h.hS
  obtain ⟨E, h3, h4⟩ := h.hC
  exact ⟨g.ih, g.out h.iS h1, g.out h.iC h3, g.out h.iN h.hN, h.nSC, h.nSN, h.nCN, ⟨us, g.at h1 (by simp), h2.mono fun _ _ => up g.ii⟩, ⟨E, g.at h3 (by simp), g.ii _ _ h4⟩, g.at h.hN (by simp), h.n4, h.sl, h.bl⟩
theorem MsR.setS (h : MsR I H S C N M B) {st : List En} {us vs : List V} {B' : Nat} (a : All2 (enR I) us st) (e : vs = us.reverse) (hl : st.length ≤ B') (hb : B' ≤ 5000000) (hBB : B ≤ B') : MsR I (upd H S (.lst vs)) S C N ⟨st, M.sc⟩ B' := by
  subst e
  obtain ⟨E, h3, h4⟩ := h.hC
  exact ⟨sUnder h.s h.iS, h.iS, h.iC, h.iN, h.nSC, h.nSN, h.nCN, ⟨us, upd_same, a⟩, ⟨E, by rw [upd_ne h.nSC.symm]; exact h3, h4⟩, by rw [upd_ne h.nSN.symm]; exact h.hN, Nat.le_trans h.n4 hBB, hl, hb⟩
theorem MsR.setC (h : MsR I H S C N M B) {kvs : List (Key × V)} {E : Addr} {d u : Nat} {p : Bool} (e : kvs = scD N E d u) (hE : I E = some (.tup ((exL p).map V.str))) : MsR I (upd H C (.dK kvs)) S C N ⟨M.st, ⟨M.sc.names, p, d, u⟩⟩ B := by
  subst e
  obtain ⟨us, h1, h2⟩ := h.hS
  exact ⟨sUnder h.s h.iC, h.iS, h.iC, h.iN, h.nSC, h.nSN, h.nCN, ⟨us, by rw [upd_ne h.nSC]; exact h1, h2⟩, ⟨E, upd_same, hE⟩, by rw [upd_ne h.nCN.symm]; exact h.hN, h.n4, h.sl, h.bl⟩
theorem MsR.setN (h : MsR I H S C N M B) {ns : List Str} {vs : List V} (e : vs = ns.map V.str) (hl : ns.length ≤ B) : MsR I (upd H N (.lst vs)) S C N ⟨M.st, { M.sc with names := ns }⟩ B := by
  subst e
  obtain ⟨us, h1, h2⟩ := h.hS
  obtain ⟨E, h3, h4⟩ := h.hC
  exact ⟨sUnder h.s h.iN, h.iS, h.iC, h.iN, h.nSC, h.nSN, h.nCN, ⟨us, by rw [upd_ne h.nSN]; exact h1, h2⟩, ⟨E, by rw [upd_ne h.nCN]; exact h3, h4⟩, upd_same, hl, h.sl, h.bl⟩
theorem MsR.gS (h : MsR I H S C N M B) {o : HO} : Gr [S, C, N] I H I (upd H S o) := Gr.mut h.s h.iS (by simp)
theorem MsR.gC (h : MsR I H S C N M B) {o : HO} : Gr [S, C, N] I H I (upd H C o) := Gr.mut h.s h.iC (by simp)
theorem MsR.gN (h : MsR I H S C N M B) {o : HO} : Gr [S, C, N] I H I (upd H N o) := Gr.mut h.s h.iN (by simp)
theorem MsR.more {B' : Nat} (h : MsR I H S C N M B) (hB : B ≤ B') (hb : B' ≤ 5000000) : MsR I H S C N M B' := ⟨h.s, h.iS, h.iC, h.iN, h.nSC, h.nSN, h.nCN, h.hS, h.hC, h.hN, Nat.le_trans h.n4 hB, Nat.le_trans h.sl hB, hb⟩
theorem MsR.dN (h : MsR I H S C N M B) : DGet H C (.str "names") (some (.ref N)) := by
  obtain ⟨E, h3, h4⟩ := h.hC
  have := DGet.k (k := Sum.inr "names") h3; rw [sd_names] at this; exact this
theorem MsR.dD (h : MsR I H S C N M B) : DGet H C (.str "draws") (some (.int (M.sc.draws : Int))) := by
  obtain ⟨E, h3, h4⟩ := h.hC
  have := DGet.k (k := Sum.inr "draws") h3; rw [sd_draws] at this; exact this
theorem MsR.dU (h : MsR I H S C N M B) : DGet H C (.str "uses") (some (.int (M.sc.uses : Int))) := by
  obtain ⟨E, h3, h4⟩ := h.hC
  have := DGet.k (k := Sum.inr "uses") h3; rw [sd_uses] at this; exact this
/-- what comes of a word -/
def Outm (I H : Hp) (S C N : Addr) (B : Nat) (x : Option Ms) (Q : VK) : Prop :=
  (∀ M', x = some M' → ∀ I' H', Gr [S, C, N] I H I' H' → MsR I' H' S C N M' B → Q (.bl true) H') ∧ (x = none → ∀ I' H', Gr [S, C, N] I H I' H' → Q (.bl false) H')
theorem Outm.up {x : Option Ms} {Q : VK} (h : Outm I H S C N B x Q) (g : Gr [S, C, N] I H I' H') : Outm I' H' S C N B x Q :=
  ⟨fun M' e I2 H2 g2 => h.1 M' e I2 H2 (g.trans g2), fun e I2 H2 g2 => h.2 e I2 H2 (g.trans g2)⟩
end
end
section
variable {P : Program} {w : World} {K : PySem.W.Frag} {mg : Str → Option Value} {base : Heap}
def spVals : Sp := fun vs H Q _ => ∃ (I : Hp) (S C N n : Addr) (z : Str) (nm : List Str) (room B : Nat) (st : List En) (sc : Sc), vs = [.ref S, .ref n, .str z, .int (room : Int)] ∧ MsR I H S C N ⟨st, sc⟩ B ∧ I n = some (.tup (nm.map V.str)) ∧ z.length ≤ sizeLine ∧ B + 3 ≤ 5000000 ∧ Outm I H S C N (B + 3) (valS nm room st sc z) Q
theorem sc__law_values : FnScope ["stack", "names", "word", "room"] ["stack", "names", "word", "room"] (defScope s__law_values) := ⟨rfl, rfl, rfl, by decide +kernel, rfl, by decide +kernel, by decide +kernel⟩
theorem ok_vals (D : Dt K mg) : Has P w K mg base 2 (He.ga K "_law_values") ["stack", "names", "word", "room"] [] (spVals) := by
  obtain ⟨fd, F⟩ := fd__law_values D
  have H__law_is_number := ok_lnum (P := P) (w := w) (base := base) D
  refine hasN F (F.bindsN fun _ _ _ _ _ _ us hl => match us, hl with | [_, _, _, _], _ => rfl) sc__law_values (fun vs H Q E h => ?_) (fun cdv A outer s H vs Q E hr h => ?_)
  · obtain ⟨I, S, C, N, n, z, nm, room, B, st, sc, rfl, _⟩ := h; rfl
  · obtain ⟨I, S, C, N, n, z, nm, room, B, st, sc, rfl, ms, hn, hz, hB, kk⟩ := h
    refine ⟨_, (pss_cons (ps_if (PW.pt (pw_and (pt_cmpR (op_in_seqK K) (pv 2) (pe_tup (pa_cons pe_str (pa_cons pe_str (pa_cons pe_str (pa_cons pe_str (pa_cons pe_str (pa_cons pe_str (pa_cons pe_str pa_nil)))))))) rfl) (pw_and1 (pt_cmpR op_gt (pv 3) pe_int (nomark _)))))
      (pss_cons (ps_expr (pe_bm PySem.F.plainAttrs_list PySem.F.slot_list_extend PySem.F.type_list_extend mt_extend (pv 0) (pa_cons (pe_lst (pa_cons (pe_tup (pa_cons pe_str (pa_cons (pv 1) (pa_cons (pe_op op_sub (pv 3) pe_int) pa_nil)))) (pa_cons (pe_tup (pa_cons pe_str (pa_cons (pv 1) (pa_cons (pe_op op_sub (pv 3) pe_int) pa_nil)))) pa_nil))) pa_nil)))
      (pss_one (ps_ret pe_bl)))
      pss_nil)
      (pss_one (ps_ret (pe_or (pe_cmpR (op_in_seqK K) (pv 2) (pv 1) rfl) (pe_one (pe_callH H__law_is_number (hr.mono (by omega)) rfl (glo__law_is_number D) passL (pa_cons (pv 2) (pa_cons pe_int (pa_cons pe_int pa_nil))))))))), ?_⟩
    unfold valS at kk
    obtain ⟨us, hS, a2⟩ := ms.hS
    have hn' := ms.s _ _ hn
    refine seq_cut (fun σ' H' => ∃ I', σ' = [some (.ref S), some (.ref n), some (.str z), some (.int (room : Int))] ∧ Gr [] I H I' H' ∧ ¬ (z ∈ ops ∧ 1 < room)) (fun nx q => ?_) ?_
    · refine ⟨_, rfl, (by show 7 ≤ sizeLine; decide), fun t ht => ⟨t, ops.map V.str, rfl, .inr (SqT.of upd_same), rfl, flat_strs ops, _, rfl, ?_⟩⟩
      have g1 := Gr.new (ms := []) (o := .tup (ops.map V.str)) ms.s ht
      have ms1 := ms.up0 g1
      rw [if_neg Bool.false_ne_true, inV_strs]
      refine ifD (fun c => ?_) (fun c => ifF rfl (q _ _ ⟨_, rfl, g1, fun z => c z.1⟩))
      refine ⟨_, rfl, _, _, rfl, rfl, _, rfl, ifD (fun c2 => ?_) (fun c2 => q _ _ ⟨_, rfl, g1, fun z => c2 (by omega)⟩)⟩
      obtain ⟨us1, hS1, a1⟩ := ms1.hS
      have er : ((room : Int) - 1) = ((room - 1 : Nat) : Int) := by omega
      refine ⟨_, rfl, .inl ⟨rfl, _, SqL.of hS1⟩, _, rfl, _, rfl, _, _, rfl, rfl, (by show 3 ≤ sizeLine; decide), fun t1 ht1 => ?_⟩
      have g2 := Gr.new (ms := []) (o := .tup [.str "value", .ref n, .int ((room : Int) - 1)]) ms1.s ht1
      refine ⟨_, rfl, _, rfl, _, _, rfl, rfl, (by show 3 ≤ sizeLine; decide), fun t2 ht2 => ?_⟩
      have g3 := Gr.new (ms := []) (o := .tup [.str "value", .ref n, .int ((room : Int) - 1)]) g2.ih ht2
      refine ⟨(by show 2 ≤ sizeLine; decide), fun l hl => ?_⟩
      have g4 := Gr.tmp (ms := []) (o := .lst [.ref t1, .ref t2]) g3.ih hl
      have G := g2.trans (g3.trans g4)
      have ms4 := ms1.up0 G
      obtain ⟨us4, hS4, a4⟩ := ms4.hS
      have i1 := g3.ii _ _ (g2.ii _ _ (g1.ii _ _ hn))
      have r1 := g3.ii _ _ (upd_same (H := _) (a := t1) (o := .tup [.str "value", .ref n, .int ((room : Int) - 1)]))
      refine ⟨S, l, _, _, rfl, rfl, hS4, upd_same, Nat.le_trans (show us4.reverse.length + 2 ≤ 5000002 by rw [List.length_reverse, a4.len]; have := ms4.sl; omega) (by decide), ?_⟩
      have ms5 := ms4.setS (st := .val nm (room - 1) :: .val nm (room - 1) :: st) (us := .ref t2 :: .ref t1 :: us4) (vs := us4.reverse ++ [.ref t1, .ref t2]) (B' := B + 3)
        (.cons ⟨t2, n, rfl, by rw [← er]; exact upd_same, i1⟩ (.cons ⟨t1, n, rfl, by rw [← er]; exact r1, i1⟩ a4)) (by simp) (by have := ms4.sl; simp; simp at this; omega) hB (by omega)
      exact kk.1 _ (if_pos ⟨c, by omega⟩) _ _ ((g1.trans G).nil.trans ms4.gS) ms5
    rintro σ' H' ⟨I1, rfl, g1, hno⟩
    rw [if_neg hno] at kk
    have ms1 := ms.up0 g1
    (try dsimp only)
    refine ⟨_, rfl, _, rfl, n, nm.map V.str, rfl, .inr (SqT.of (g1.ih _ _ (g1.ii _ _ hn))), rfl, flat_strs nm, _, rfl, ?_⟩
    rw [if_neg Bool.false_ne_true, inV_strs]
    refine ifD (fun c => ?_) (fun c => ?_)
    · rw [if_pos (.inl c)] at kk
      exact kk.1 _ rfl _ _ g1.nil (ms1.more (by omega) hB)
    · refine ⟨_, rfl, z, 0, 65535, rfl, hz, by decide, ?_⟩
      cases e : numB z 0 65535 with
      | true =>
        rw [if_pos (.inr e)] at kk
        exact kk.1 _ rfl _ _ g1.nil (ms1.more (by omega) hB)
      | false =>
        rw [if_neg (fun h => h.elim c (by rw [e]; exact Bool.false_ne_true))] at kk
        exact kk.2 rfl _ _ g1.nil
end
end K

set_option Elab.async false
set_option linter.all false
set_option maxRecDepth 100000
set_option maxHeartbeats 4000000
namespace Rd
open PySem PyProof.Rows TL Tk
theorem kd_in2 (k : Kd) : decide (k.str ∈ ([wd "then", wd "else"] : List Str)) = decide (k = .thn ∨ k = .els) := by cases k <;> decide +kernel
theorem kd_thn (k : Kd) : (k.str = wd "then") ↔ k = .thn := ⟨fun h => Kd.inj (b := .thn) h, fun h => by rw [h]; rfl⟩
theorem kd_start (k : Kd) : (k.str = wd "start") ↔ k = .start := ⟨fun h => Kd.inj (b := .start) h, fun h => by rw [h]; rfl⟩
theorem kd_emp (k : Kd) : (k.str = wd "empty") ↔ k = .emp := ⟨fun h => Kd.inj (b := .emp) h, fun h => by rw [h]; rfl⟩
theorem kd_top (k : Kd) : (k.str = wd "top") ↔ k = .top := ⟨fun h => Kd.inj (b := .top) h, fun h => by rw [h]; rfl⟩
end Rd
namespace K
open PySem PySem.Spec PyProof.Rows L2 TL Tk Hd Rd
section
variable {P : Program} {w : World} {K : PySem.W.Frag} {mg : Str → Option Value} {base : Heap}
def bdK (d u : Nat) : List (Key × V) := [(.inr "set", .int 9), (.inr "draw", .int (d : Int)), (.inr "use", .int (u : Int))]
theorem bd_merge {d u : Nat} : mergeK [] (bdK d u) = bdK d u := by kernel_rfl
theorem bd_val {d u : Nat} {z : Str} : valV (bdK d u) (.inr z) = if z = wd "set" then some (.int 9) else if z = wd "draw" then some (.int (d : Int)) else if z = wd "use" then some (.int (u : Int)) else none := by
  unfold bdK
  by_cases h1 : z = wd "set"
  · rw [if_pos h1, valV_pos (by rw [h1]; rfl)]
  rw [if_neg h1, valV_neg (fun e => h1 (by injection e with e; exact e.symm))]
  by_cases h2 : z = wd "draw"
  · rw [if_pos h2, valV_pos (by rw [h2]; rfl)]
  rw [if_neg h2, valV_neg (fun e => h2 (by injection e with e; exact e.symm))]
  by_cases h3 : z = wd "use"
  · rw [if_pos h3, valV_pos (by rw [h3]; rfl)]
  rw [if_neg h3, valV_neg (fun e => h3 (by injection e with e; exact e.symm)), valV_nil]
theorem MsR.dE {I H : Hp} {S C N : Addr} {M : Ms} {B : Nat} (h : MsR I H S C N M B) : ∃ E, DGet H C (.str "extra") (some (.ref E)) ∧ I E = some (.tup ((exL M.sc.pr).map V.str)) := by
  obtain ⟨E, h3, h4⟩ := h.hC
  have := DGet.k (k := Sum.inr "extra") h3; rw [sd_extra] at this; exact ⟨E, this, h4⟩
theorem strEq {a b : Str} : decide (V.str a = V.str b) = decide (a = b) := by
  by_cases h : a = b
  · rw [decide_eq_true h, h]; exact decide_eq_true rfl
  · rw [decide_eq_false h]; exact decide_eq_false fun e => h (by injection e)
def spBlks : Sp := fun vs H Q _ => ∃ (I : Hp) (S C N : Addr) (z : Str) (room B : Nat) (k : Kd) (st : List En) (sc : Sc), vs = [.ref S, .ref C, .str z, .int (room : Int), .str k.str] ∧ MsR I H S C N ⟨st, sc⟩ B ∧ z.length ≤ sizeLine ∧ B + 3 ≤ 5000000 ∧ Outm I H S C N (B + 3) (blkS room k st sc z) Q
theorem sc__law_blocks : FnScope ["stack", "scope", "word", "room", "kind", "names", "possible", "bound"] ["stack", "scope", "word", "room", "kind"] (defScope s__law_blocks) := ⟨rfl, rfl, rfl, by decide +kernel, rfl, by decide +kernel, by decide +kernel⟩
theorem ok_blks (D : Dt K mg) : Has P w K mg base 2 (He.ga K "_law_blocks") ["stack", "scope", "word", "room", "kind"] [] (spBlks) := by
  obtain ⟨fd, F⟩ := fd__law_blocks D
  refine hasN F (F.bindsN fun _ _ _ _ _ _ us hl => match us, hl with | [_, _, _, _, _], _ => rfl) sc__law_blocks (fun vs H Q E h => ?_) (fun cdv A outer s H vs Q E hr h => ?_)
  · obtain ⟨I, S, C, N, z, room, B, k, st, sc, rfl, _⟩ := h; rfl
  · obtain ⟨I, S, C, N, z, room, B, k, st, sc, rfl, ms, hz, hB, kk⟩ := h
    refine ⟨_, (pss_cons (ps_set (i := 5) sc__law_blocks.nd rfl (Or.inl rfl) (pe_op (op_catAK K) (pe_callTy (call_tuple_ofK K) rfl (free_tuple D) (by decide +kernel) (pa_cons (pe_dget (hu_of hr) (pv 1) pe_str (fun _ _ => rfl)) pa_nil)) (pe_dget (hu_of hr) (pv 1) pe_str (fun _ _ => rfl))))
      (pss_cons (ps_set (i := 6) sc__law_blocks.nd rfl (Or.inl rfl) (pe_or (pe_cmpR op_gt (pe_callB (call_lenK K) rfl (free_len D) PySem.boot_len (pa_cons (pv 5) pa_nil)) pe_int (nomark _)) (pe_one (pe_cmpR op_gt (pv 3) pe_int (nomark _)))))
      (pss_cons (ps_if (PW.pt (pw_and (pt_cmpR op_eq (pv 2) pe_str (nomark _)) (pw_and1 (pt_cmpR (op_in_seqK K) (pv 4) (pe_tup (pa_cons pe_str (pa_cons pe_str pa_nil))) rfl))))
      (pss_one (ps_ret pe_bl))
      pss_nil)
      (pss_cons (ps_if (PW.pt (pw_and (pt_cmpR op_eq (pv 2) pe_str (nomark _)) (pw_and (pt_cmpR op_eq (pv 4) pe_str (nomark _)) (pw_and1 (pt_val (pv 6))))))
      (pss_cons (ps_expr (pe_bm PySem.F.plainAttrs_list PySem.F.slot_list_append PySem.F.type_list_append mt_append (pv 0) (pa_cons (pe_tup (pa_cons pe_str (pa_cons (pv 3) (pa_cons pe_str pa_nil)))) pa_nil)))
      (pss_one (ps_ret pe_bl)))
      pss_nil)
      (pss_cons (ps_if (PW.pt (pw_and (pt_cmpR op_eq (pv 2) pe_str (nomark _)) (pw_and1 (pt_cmpR op_eq (pv 4) pe_str (nomark _)))))
      (pss_cons (ps_dput (hu_of hr) (pv 1) pe_str (pe_tup (pa_cons pe_str pa_nil)) rfl)
      (pss_cons (ps_expr (pe_bm PySem.F.plainAttrs_list PySem.F.slot_list_append PySem.F.type_list_append mt_append (pv 0) (pa_cons (pe_tup (pa_cons pe_str (pa_cons pe_int (pa_cons pe_str pa_nil)))) pa_nil)))
      (pss_one (ps_ret pe_bl))))
      pss_nil)
      (pss_cons (ps_if (pt_cmpR op_eq (pv 4) pe_str (nomark _))
      (pss_one (ps_set (i := 4) sc__law_blocks.nd rfl (Or.inl rfl) pe_str))
      pss_nil)
      (pss_cons (ps_expr (pe_bm PySem.F.plainAttrs_list PySem.F.slot_list_append PySem.F.type_list_append mt_append (pv 0) (pa_cons (pe_tup (pa_cons pe_str (pa_cons (pv 3) (pa_cons (pv 4) pa_nil)))) pa_nil)))
      (pss_cons (ps_set (i := 7) sc__law_blocks.nd rfl (Or.inl rfl) (pe_disp (pps_cons pe_str pe_int (pps_cons pe_str (pe_dget (hu_of hr) (pv 1) pe_str (fun _ _ => rfl)) (pps_cons pe_str (pe_dget (hu_of hr) (pv 1) pe_str (fun _ _ => rfl)) pps_nil))) rfl rfl (fun h => nomatch h) (by decide)))
      (pss_cons (ps_if (PW.pt (pw_and (pt_din (hu_of hr) (pv 2) (pv 7)) (pw_and (pt_cmpR op_gt (pe_callB (call_lenK K) rfl (free_len D) PySem.boot_len (pa_cons (pe_dget (hu_of hr) (pv 1) pe_str (fun _ _ => rfl)) pa_nil)) pe_int (nomark _)) (pw_and1 (pt_cmpR op_gt (pe_dget (hu_of hr) (pv 7) (pv 2) (fun _ _ => rfl)) pe_int (nomark _))))))
      (pss_cons (ps_if (pt_cmpR op_eq (pv 2) pe_str (nomark _))
      (pss_cons (ps_dput (hu_of hr) (pv 1) pe_str (pe_op op_sub (pe_dget (hu_of hr) (pv 1) pe_str (fun _ _ => rfl)) pe_int) rfl)
      (pss_one (ps_expr (pe_bm PySem.F.plainAttrs_list PySem.F.slot_list_append PySem.F.type_list_append mt_append (pv 0) (pa_cons (pe_tup (pa_cons pe_str (pa_cons pe_int (pa_cons pe_int pa_nil)))) pa_nil)))))
      (pss_cons (ps_dput (hu_of hr) (pv 1) pe_str (pe_op op_sub (pe_dget (hu_of hr) (pv 1) pe_str (fun _ _ => rfl)) (pe_callTy call_int1 rfl (free_int D) (by decide +kernel) (pa_cons (pe_cmpR op_eq (pv 2) pe_str (nomark _)) pa_nil))) rfl)
      (pss_one (ps_expr (pe_bm PySem.F.plainAttrs_list PySem.F.slot_list_append PySem.F.type_list_append mt_append (pv 0) (pa_cons (pe_tup (pa_cons pe_str (pa_cons (pv 5) (pa_cons pe_int pa_nil)))) pa_nil))))))
      (pss_cons (ps_expr (pe_bm PySem.F.plainAttrs_list PySem.F.slot_list_append PySem.F.type_list_append mt_append (pv 0) (pa_cons (pe_tup (pa_cons pe_str pa_nil)) pa_nil)))
      (pss_one (ps_ret pe_bl))))
      pss_nil)
      (pss_cons (ps_if (PW.pt (pw_and (pt_cmpR op_eq (pv 2) pe_str (nomark _)) (pw_and1 (pt_cmpR op_gt (pe_callB (call_lenK K) rfl (free_len D) PySem.boot_len (pa_cons (pe_dget (hu_of hr) (pv 1) pe_str (fun _ _ => rfl)) pa_nil)) pe_int (nomark _)))))
      (pss_cons (ps_expr (pe_bm PySem.F.plainAttrs_list PySem.F.slot_list_append PySem.F.type_list_append mt_append (pv 0) (pa_cons (pe_tup (pa_cons pe_str (pa_cons (pv 5) (pa_cons pe_int pa_nil)))) pa_nil)))
      (pss_one (ps_ret pe_bl)))
      pss_nil)
      (pss_cons (ps_if (PW.pt (pw_and (pt_cmpR op_eq (pv 2) pe_str (nomark _)) (pw_and1 (pt_cmpR op_gt (pv 3) pe_int (nomark _)))))
      (pss_cons (ps_expr (pe_bm PySem.F.plainAttrs_list PySem.F.slot_list_extend PySem.F.type_list_extend mt_extend (pv 0) (pa_cons (pe_lst (pa_cons (pe_tup (pa_cons pe_str (pa_cons (pe_op op_sub (pv 3) pe_int) (pa_cons pe_str pa_nil)))) (pa_cons (pe_tup (pa_cons pe_str (pa_cons (pv 5) (pa_cons pe_int pa_nil)))) pa_nil))) pa_nil)))
      (pss_one (ps_ret pe_bl)))
      pss_nil)
      (pss_one (ps_ret pe_bl))))))))))))), ?_⟩
    unfold blkS at kk
    -- names
    refine seq_cut (fun σ' H' => ∃ I' n, σ' = [some (.ref S), some (.ref C), some (.str z), some (.int (room : Int)), some (.str k.str), some (.ref n), none, none] ∧ Gr [] I H I' H' ∧ I' n = some (.tup (sc.all.map V.str))) (fun nx q => ?_) ?_
    · obtain ⟨E, dE, hE⟩ := ms.dE
      refine ⟨_, rfl, C, _, rfl, ms.dN, N, _, rfl, .inl ⟨SqL.of ms.hN, fun t ht => ?_⟩⟩
      have g1 := Gr.new (ms := []) (o := .tup (sc.names.map V.str)) ms.s ht
      have ms1 := ms.up0 g1
      obtain ⟨E1, dE1, hE1⟩ := ms1.dE
      refine ⟨_, rfl, C, _, rfl, dE1, ?_⟩
      refine catA_of ms1.s upd_same hE1 (Nat.le_trans (show (sc.names.map V.str).length + ((exL sc.pr).map V.str).length ≤ 6000000 by
        have h9 : sc.names.length ≤ B := ms.n4
        have := ms.bl
        have e : (exL sc.pr).length ≤ 1 := by unfold exL; split <;> simp
        rw [List.length_map, List.length_map]; omega) (by decide)) fun I2 H2 c g2 hc => ?_
      exact q _ _ ⟨I2, c, rfl, g1.trans g2, by rw [hc, all_eq, List.map_append]⟩
    rintro σ' H1 ⟨I1, n, rfl, g1, hn⟩
    have ms1 := ms.up0 g1
    have kk1 := kk.up g1.nil
    clear ms kk
    (try dsimp only)
    -- possible
    refine seq_cut (fun σ' H' => σ' = [some (.ref S), some (.ref C), some (.str z), some (.int (room : Int)), some (.str k.str), some (.ref n), some (.bl (decide (0 < sc.all.length ∨ 0 < room))), none] ∧ H' = H1) (fun nx q => ?_) ?_
    · refine ⟨_, rfl, _, sc.all.length, rfl, .inr ⟨_, SqT.of (ms1.s _ _ hn), by rw [List.length_map]⟩, _, _, rfl, rfl, ?_⟩
      refine ⟨_, rfl, ?_⟩
      by_cases c1 : 0 < sc.all.length
      · refine ifT (decide_eq_true (by omega)) ?_
        exact q _ _ ⟨by rw [decide_eq_true (Or.inl c1)]; rfl, rfl⟩
      · refine ifF (decide_eq_false (by omega)) ?_
        refine ⟨_, rfl, _, _, rfl, rfl, ?_⟩
        refine q _ _ ⟨?_, rfl⟩
        have e : decide (0 < sc.all.length ∨ 0 < room) = decide ((0 : Int) < (room : Int)) := by
          by_cases c2 : 0 < room
          · rw [decide_eq_true (Or.inr c2), decide_eq_true (by omega)]
          · rw [decide_eq_false (fun h => h.elim c1 c2), decide_eq_false (by omega)]
        rw [e]; rfl
    rintro σ' H1 ⟨rfl, rfl⟩
    (try dsimp only)
    -- end
    by_cases c1 : z = wd "end" ∧ (k = .thn ∨ k = .els)
    · rw [if_pos c1] at kk1
      refine ⟨_, rfl, rfl, _, rfl, ifT (by rw [strEq]; exact decide_eq_true c1.1) ?_⟩
      refine ⟨_, rfl, (by show 2 ≤ sizeLine; decide), fun t ht => ⟨t, ([wd "then", wd "else"] : List Str).map V.str, rfl, .inr (SqT.of upd_same), rfl, flat_strs _, _, rfl, ?_⟩⟩
      rw [if_neg Bool.false_ne_true, inV_strs, kd_in2]
      refine ifT (decide_eq_true c1.2) ?_
      have g2 := Gr.new (ms := []) (o := .tup (([wd "then", wd "else"] : List Str).map V.str)) ms1.s ht
      exact kk1.1 _ rfl _ _ g2.nil ((ms1.up0 g2).more (by omega) hB)
    rw [if_neg c1] at kk1
    refine seq_cut (fun σ' H' => ∃ I', σ' = [some (.ref S), some (.ref C), some (.str z), some (.int (room : Int)), some (.str k.str), some (.ref n), some (.bl (decide (0 < sc.all.length ∨ 0 < room))), none] ∧ Gr [] I1 H1 I' H') (fun nx q => ?_) ?_
    · refine ⟨_, rfl, rfl, _, rfl, ?_⟩
      by_cases c2 : z = wd "end"
      · refine ifT (by rw [strEq]; exact decide_eq_true c2) ?_
        refine ⟨_, rfl, (by show 2 ≤ sizeLine; decide), fun t ht => ⟨t, ([wd "then", wd "else"] : List Str).map V.str, rfl, .inr (SqT.of upd_same), rfl, flat_strs _, _, rfl, ?_⟩⟩
        rw [if_neg Bool.false_ne_true, inV_strs, kd_in2]
        exact ifF (decide_eq_false fun h => c1 ⟨c2, h⟩) (q _ _ ⟨_, rfl, Gr.new (ms := []) ms1.s ht⟩)
      · exact ifF (by rw [strEq]; exact decide_eq_false c2) (ifF rfl (q _ _ ⟨_, rfl, Gr.refl ms1.s⟩))
    rintro σ' H2 ⟨I2, rfl, g2⟩
    have ms2 := ms1.up0 g2
    have kk2 := kk1.up g2.nil
    have hn2 := g2.ii _ _ hn
    clear ms1 kk1 hn
    (try dsimp only)
    -- else
    by_cases c2 : z = wd "else" ∧ k = .thn ∧ (0 < sc.all.length ∨ 0 < room)
    · rw [if_pos c2] at kk2
      refine ⟨_, rfl, rfl, _, rfl, ifT (by rw [strEq]; exact decide_eq_true c2.1) ?_⟩
      refine ⟨_, rfl, rfl, _, rfl, ifT (by rw [strEq]; exact decide_eq_true ((kd_thn k).mpr c2.2.1)) ?_⟩
      refine ⟨_, rfl, _, rfl, ifT (decide_eq_true c2.2.2) ?_⟩
      obtain ⟨us, hS, a2⟩ := ms2.hS
      refine ⟨_, rfl, .inl ⟨rfl, _, SqL.of hS⟩, _, rfl, (by show 3 ≤ sizeLine; decide), fun t ht => ?_⟩
      have g3 := Gr.new (ms := []) (o := .tup [.str "block", .int (room : Int), .str "empty"]) ms2.s ht
      have ms3 := ms2.up0 g3
      obtain ⟨us3, hS3, a3⟩ := ms3.hS
      refine ⟨S, _, _, rfl, rfl, hS3, Nat.lt_of_le_of_lt (show us3.reverse.length ≤ 5000000 by rw [List.length_reverse, a3.len]; have := ms3.sl; omega) (by decide), ?_⟩
      have ms4 := ms3.setS (st := .blk room .emp :: st) (us := .ref t :: us3) (vs := us3.reverse ++ [.ref t]) (B' := B + 3) (.cons ⟨t, rfl, upd_same⟩ a3) (by simp) (by have := ms3.sl; simp only [List.length_cons] at this ⊢; omega) hB (by omega)
      exact kk2.1 _ rfl _ _ (g3.nil.trans ms3.gS) ms4
    rw [if_neg c2] at kk2
    refine seq_cut (fun σ' H' => σ' = [some (.ref S), some (.ref C), some (.str z), some (.int (room : Int)), some (.str k.str), some (.ref n), some (.bl (decide (0 < sc.all.length ∨ 0 < room))), none] ∧ H' = H2) (fun nx q => ?_) ?_
    · refine ⟨_, rfl, rfl, _, rfl, ?_⟩
      by_cases c3 : z = wd "else"
      · refine ifT (by rw [strEq]; exact decide_eq_true c3) ?_
        refine ⟨_, rfl, rfl, _, rfl, ?_⟩
        by_cases c4 : k = .thn
        · refine ifT (by rw [strEq]; exact decide_eq_true ((kd_thn k).mpr c4)) ?_
          exact ⟨_, rfl, _, rfl, ifF (decide_eq_false fun h => c2 ⟨c3, c4, h⟩) (q _ _ ⟨rfl, rfl⟩)⟩
        · exact ifF (by rw [strEq]; exact decide_eq_false fun h => c4 ((kd_thn k).mp h)) (ifF rfl (q _ _ ⟨rfl, rfl⟩))
      · exact ifF (by rw [strEq]; exact decide_eq_false c3) (ifF rfl (q _ _ ⟨rfl, rfl⟩))
    rintro σ' H2 ⟨rfl, rfl⟩
    (try dsimp only)
    -- press
    by_cases c3 : z = wd "press" ∧ k = .start
    · rw [if_pos c3] at kk2
      refine ⟨_, rfl, rfl, _, rfl, ifT (by rw [strEq]; exact decide_eq_true c3.1) ?_⟩
      refine ⟨_, rfl, rfl, _, rfl, ifT (by rw [strEq]; exact decide_eq_true ((kd_start k).mpr c3.2)) ?_⟩
      refine ⟨(by show 1 ≤ sizeLine; decide), fun E ht => ?_⟩
      have g3 := Gr.new (ms := []) (o := .tup [.str "press"]) ms2.s ht
      have ms3 := ms2.up0 g3
      obtain ⟨E0', hC3, hE3⟩ := ms3.hC
      refine ⟨_, rfl, C, _, rfl, DPut.k (k := Sum.inr "extra") hC3 sd_len, ?_⟩
      have ms4 := ms3.setC (E := E) (d := sc.draws) (u := sc.uses) (p := true) (kvs := putK (scD N E0' sc.draws sc.uses) (.inr "extra") (.ref E)) su_extra upd_same
      have G4 := g3.nil.trans (ms3.gC (o := .dK (putK (scD N E0' sc.draws sc.uses) (.inr "extra") (.ref E))))
      (try dsimp only)
      obtain ⟨us, hS, a2⟩ := ms4.hS
      refine ⟨_, rfl, .inl ⟨rfl, _, SqL.of hS⟩, (by show 3 ≤ sizeLine; decide), fun t ht4 => ?_⟩
      have g5 := Gr.new (ms := []) (o := .tup [.str "block", .int 4, .str "top"]) ms4.s ht4
      have ms5 := ms4.up0 g5
      obtain ⟨us5, hS5, a5⟩ := ms5.hS
      refine ⟨S, _, _, rfl, rfl, hS5, Nat.lt_of_le_of_lt (show us5.reverse.length ≤ 5000000 by rw [List.length_reverse, a5.len]; have := ms5.sl; omega) (by decide), ?_⟩
      have ms6 := ms5.setS (st := .blk 4 .top :: st) (us := .ref t :: us5) (vs := us5.reverse ++ [.ref t]) (B' := B + 3) (.cons ⟨t, rfl, upd_same⟩ a5) (by simp) (by have := ms5.sl; simp only [List.length_cons] at this ⊢; omega) hB (by omega)
      exact kk2.1 _ rfl _ _ (G4.trans (g5.nil.trans ms5.gS)) ms6
    rw [if_neg c3] at kk2
    refine seq_cut (fun σ' H' => σ' = [some (.ref S), some (.ref C), some (.str z), some (.int (room : Int)), some (.str k.str), some (.ref n), some (.bl (decide (0 < sc.all.length ∨ 0 < room))), none] ∧ H' = H2) (fun nx q => ?_) ?_
    · refine ⟨_, rfl, rfl, _, rfl, ?_⟩
      by_cases c4 : z = wd "press"
      · refine ifT (by rw [strEq]; exact decide_eq_true c4) ?_
        refine ⟨_, rfl, rfl, _, rfl, ?_⟩
        exact ifF (by rw [strEq]; exact decide_eq_false fun h => c3 ⟨c4, (kd_start k).mp h⟩) (q _ _ ⟨rfl, rfl⟩)
      · exact ifF (by rw [strEq]; exact decide_eq_false c4) (ifF rfl (q _ _ ⟨rfl, rfl⟩))
    rintro σ' H2 ⟨rfl, rfl⟩
    (try dsimp only)
    -- kind
    refine seq_cut (fun σ' H' => σ' = [some (.ref S), some (.ref C), some (.str z), some (.int (room : Int)), some (.str (aft k).str), some (.ref n), some (.bl (decide (0 < sc.all.length ∨ 0 < room))), none] ∧ H' = H2) (fun nx q => ?_) ?_
    · refine ⟨_, rfl, rfl, _, rfl, ?_⟩
      by_cases c4 : k = .emp
      · refine ifT (by rw [strEq]; exact decide_eq_true ((kd_emp k).mpr c4)) (q _ _ ⟨?_, rfl⟩)
        subst c4; rfl
      · refine ifF (by rw [strEq]; exact decide_eq_false fun h => c4 ((kd_emp k).mp h)) (q _ _ ⟨?_, rfl⟩)
        rw [show aft k = k from if_neg c4]
    rintro σ' H2 ⟨rfl, rfl⟩
    (try dsimp only)
    -- the block again
    refine seq_cut (fun σ' H' => ∃ I', σ' = [some (.ref S), some (.ref C), some (.str z), some (.int (room : Int)), some (.str (aft k).str), some (.ref n), some (.bl (decide (0 < sc.all.length ∨ 0 < room))), none] ∧ Gr [S, C, N] I2 H2 I' H' ∧ MsR I' H' S C N ⟨.blk room (aft k) :: st, sc⟩ (B + 1)) (fun nx q => ?_) ?_
    · obtain ⟨us, hS, a2⟩ := ms2.hS
      refine ⟨_, rfl, .inl ⟨rfl, _, SqL.of hS⟩, _, rfl, _, rfl, (by show 3 ≤ sizeLine; decide), fun t ht => ?_⟩
      have g3 := Gr.new (ms := []) (o := .tup [.str "block", .int (room : Int), .str (aft k).str]) ms2.s ht
      have ms3 := ms2.up0 g3
      obtain ⟨us3, hS3, a3⟩ := ms3.hS
      refine ⟨S, _, _, rfl, rfl, hS3, Nat.lt_of_le_of_lt (show us3.reverse.length ≤ 5000000 by rw [List.length_reverse, a3.len]; have := ms3.sl; omega) (by decide), ?_⟩
      have ms4 := ms3.setS (st := .blk room (aft k) :: st) (us := .ref t :: us3) (vs := us3.reverse ++ [.ref t]) (B' := B + 1) (.cons ⟨t, rfl, upd_same⟩ a3) (by simp) (by have := ms3.sl; simp only [List.length_cons] at this ⊢; omega) (by omega) (by omega)
      exact q _ _ ⟨_, rfl, g3.nil.trans ms3.gS, ms4⟩
    rintro σ' H3 ⟨I3, rfl, g3, ms3⟩
    have kk3 := kk2.up g3
    have hn3 := g3.ii _ _ hn2
    clear kk2 ms2 hn2 g3
    (try dsimp only)
    -- the bounds
    refine seq_cut (fun σ' H' => ∃ bd, σ' = [some (.ref S), some (.ref C), some (.str z), some (.int (room : Int)), some (.str (aft k).str), some (.ref n), some (.bl (decide (0 < sc.all.length ∨ 0 < room))), some (.ref bd)] ∧ Gr [] I3 H3 I3 H' ∧ H' bd = some (.dK (bdK sc.draws sc.uses))) (fun nx q => ?_) ?_
    · refine fun bd hbd => ?_
      have g4 := Gr.tmp (ms := []) (o := .dK []) ms3.s hbd
      have ms4 := ms3.up0 g4
      refine ⟨_, rfl, C, _, rfl, ms4.dD, _, rfl, C, _, rfl, ms4.dU, upd_same, bdK sc.draws sc.uses, rfl, (by show 3 ≤ 15; decide), ?_⟩
      have ib : I3 bd = none := ms3.s.free hbd
      have g5 : Gr [bd] I3 _ I3 _ := Gr.mut (o := .dK (mergeK [] (bdK sc.draws sc.uses))) g4.ih ib (by simp)
      refine q _ _ ⟨bd, rfl, (g4.nil.trans g5).drop hbd, ?_⟩
      rw [upd_same, bd_merge]
    rintro σ' H4 ⟨bd, rfl, g4, hbd⟩
    have ms4 := ms3.up0 g4
    have kk4 := kk3.up g4.nil
    clear ms3 kk3 g4
    (try dsimp only)
    have dB : ∀ o, valV (bdK sc.draws sc.uses) (.inr z) = o → DGet H4 bd (.str z) o := fun o e => by
      have := DGet.k (k := Sum.inr z) hbd
      rw [e] at this; exact this
    have Ks := ks_ne
    obtain ⟨s1, s2, s3, s4, s5, s6, s7, s8, s9, s10⟩ := Ks
    -- draw
    by_cases c5 : z = wd "draw" ∧ 0 < sc.names.length ∧ 0 < sc.draws
    · rw [if_pos c5] at kk4
      have dv := dB (some (.int (sc.draws : Int))) (by rw [bd_val, if_neg (by rw [c5.1]; exact s2.symm), if_pos c5.1])
      refine ⟨_, rfl, _, rfl, bd, _, rfl, dv, _, rfl, ifT rfl ⟨_, rfl, C, _, rfl, ms4.dN, _, sc.names.length, rfl, .inl ⟨_, SqL.of ms4.hN, by rw [List.length_map]⟩, _, _, rfl, rfl, _, rfl, ifT (decide_eq_true (by have := c5.2.1; omega)) ?_⟩⟩
      refine ⟨_, rfl, _, rfl, bd, _, rfl, dv, _, _, rfl, rfl, _, rfl, ifT (decide_eq_true (by have := c5.2.2; omega)) ?_⟩
      (try dsimp only)
      obtain ⟨d', hd'⟩ : ∃ d', sc.draws = d' + 1 := ⟨sc.draws - 1, by have := c5.2.2; omega⟩
      have ed : ((sc.draws : Int) - 1) = (d' : Int) := by omega
      obtain ⟨E0', hC4, hE4⟩ := ms4.hC
      refine seq_cut (fun σ' H' => ∃ I', σ' = [some (.ref S), some (.ref C), some (.str z), some (.int (room : Int)), some (.str (aft k).str), some (.ref n), some (.bl (decide (0 < sc.all.length ∨ 0 < room))), some (.ref bd)] ∧ Gr [S, C, N] I3 H4 I' H' ∧ MsR I' H' S C N ⟨.num 1 6 :: .blk room (aft k) :: st, { sc with draws := sc.draws - 1 }⟩ (B + 2)) (fun nx q => ?_) ?_
      · refine ⟨_, rfl, rfl, _, rfl, ifT (by rw [strEq]; exact decide_eq_true c5.1) ?_⟩
        refine ⟨_, rfl, C, _, rfl, ms4.dD, _, _, rfl, rfl, _, rfl, C, _, rfl, DPut.k (k := Sum.inr "draws") hC4 sd_len, ?_⟩
        have ms5 := ms4.setC (E := E0') (d := d') (u := sc.uses) (p := sc.pr) (kvs := putK (scD N E0' sc.draws sc.uses) (.inr "draws") (.int ((sc.draws : Int) - 1))) (by rw [ed, hd']; exact su_draws) hE4
        have g5 := ms4.gC (o := .dK (putK (scD N E0' sc.draws sc.uses) (.inr "draws") (.int ((sc.draws : Int) - 1))))
        (try dsimp only)
        obtain ⟨us6, hS6, a6⟩ := ms5.hS
        refine ⟨_, rfl, .inl ⟨rfl, _, SqL.of hS6⟩, (by show 3 ≤ sizeLine; decide), fun t6 ht6 => ?_⟩
        have g7 := Gr.new (ms := []) (o := .tup [.str "number", .int 1, .int 6]) ms5.s ht6
        have ms7 := ms5.up0 g7
        obtain ⟨vs6, hT6, b6⟩ := ms7.hS
        refine ⟨S, _, _, rfl, rfl, hT6, Nat.lt_of_le_of_lt (show vs6.reverse.length ≤ 5000000 by rw [List.length_reverse, b6.len]; have := ms7.sl; have := ms7.bl; omega) (by decide), ?_⟩
        have ms8 := ms7.setS (st := .num 1 6 :: (.blk room (aft k) :: st)) (us := .ref t6 :: vs6) (vs := vs6.reverse ++ [.ref t6]) (B' := B + 2) (.cons ⟨t6, rfl, upd_same, by decide⟩ b6) (by simp) (by have := ms7.sl; simp only [List.length_cons] at this ⊢; omega) (by omega) (by omega)
        have g8 := g7.nil.trans (ms7.gS (o := .lst (vs6.reverse ++ [.ref t6])))
        have es : (⟨sc.names, sc.pr, d', sc.uses⟩ : Sc) = { sc with draws := sc.draws - 1 } := by rw [hd']; rfl
        simp only [] at ms8
        rw [es] at ms8
        exact q _ _ ⟨_, rfl, g5.trans g8, ms8⟩
      rintro σ' H9 ⟨I9, rfl, g9, ms9⟩
      (try dsimp only)
      obtain ⟨us10, hS10, a10⟩ := ms9.hS
      refine ⟨_, rfl, .inl ⟨rfl, _, SqL.of hS10⟩, (by show 1 ≤ sizeLine; decide), fun t10 ht10 => ?_⟩
      have g11 := Gr.new (ms := []) (o := .tup [.str "one"]) ms9.s ht10
      have ms11 := ms9.up0 g11
      obtain ⟨vs10, hT10, b10⟩ := ms11.hS
      refine ⟨S, _, _, rfl, rfl, hT10, Nat.lt_of_le_of_lt (show vs10.reverse.length ≤ 5000000 by rw [List.length_reverse, b10.len]; have := ms11.sl; have := ms11.bl; omega) (by decide), ?_⟩
      have ms12 := ms11.setS (st := .one :: (.num 1 6 :: .blk room (aft k) :: st)) (us := .ref t10 :: vs10) (vs := vs10.reverse ++ [.ref t10]) (B' := B + 3) (.cons ⟨t10, rfl, upd_same⟩ b10) (by simp) (by have := ms11.sl; simp only [List.length_cons] at this ⊢; omega) (by omega) (by omega)
      have g12 := g11.nil.trans (ms11.gS (o := .lst (vs10.reverse ++ [.ref t10])))
      exact kk4.1 _ rfl _ _ (g9.trans g12) ms12
    rw [if_neg c5] at kk4
    -- use, set
    by_cases c6 : (z = wd "use" ∧ 0 < sc.names.length ∧ 0 < sc.uses) ∨ (z = wd "set" ∧ 0 < sc.names.length)
    · have hz2 : z ≠ wd "draw" := by
        rcases c6 with h | h
        · rw [h.1]; exact s1
        · rw [h.1]; exact s2
      have hnl : 0 < sc.names.length := by
        rcases c6 with h | h
        · exact h.2.1
        · exact h.2
      obtain ⟨bv, hbv, hpos⟩ : ∃ bv : Nat, valV (bdK sc.draws sc.uses) (.inr z) = some (.int (bv : Int)) ∧ 0 < bv := by
        rcases c6 with h | h
        · exact ⟨sc.uses, by rw [bd_val, if_neg (by rw [h.1]; exact s3.symm), if_neg hz2, if_pos h.1], h.2.2⟩
        · exact ⟨9, by rw [bd_val, if_pos h.1]; rfl, by decide⟩
      have dv := dB _ hbv
      refine ⟨_, rfl, _, rfl, bd, _, rfl, dv, _, rfl, ifT rfl ⟨_, rfl, C, _, rfl, ms4.dN, _, sc.names.length, rfl, .inl ⟨_, SqL.of ms4.hN, by rw [List.length_map]⟩, _, _, rfl, rfl, _, rfl, ifT (decide_eq_true (by omega)) ?_⟩⟩
      refine ⟨_, rfl, _, rfl, bd, _, rfl, dv, _, _, rfl, rfl, _, rfl, ifT (decide_eq_true (by omega)) ?_⟩
      (try dsimp only)
      obtain ⟨u', hu', hout⟩ : ∃ u' : Nat, ((sc.uses : Int) - (if decide (V.str z = V.str "use") = true then 1 else 0)) = (u' : Int) ∧ Outm I3 H4 S C N (B + 3) (some ⟨.one :: .val sc.all 5 :: .blk room (aft k) :: st, { sc with uses := u' }⟩) Q := by
        rcases c6 with h | h
        · refine ⟨sc.uses - 1, ?_, ?_⟩
          · rw [strEq, show decide (z = Str.ofString "use") = true from decide_eq_true h.1, if_pos rfl]; have := h.2.2; omega
          · rw [if_pos h] at kk4; exact kk4
        · refine ⟨sc.uses, ?_, ?_⟩
          · rw [strEq, show decide (z = Str.ofString "use") = false from decide_eq_false (by rw [h.1]; exact s3)]; simp
          · rw [if_neg (by rw [h.1]; exact fun z => s3 z.1), if_pos h] at kk4; exact kk4
      obtain ⟨E0', hC4, hE4⟩ := ms4.hC
      refine seq_cut (fun σ' H' => ∃ I', σ' = [some (.ref S), some (.ref C), some (.str z), some (.int (room : Int)), some (.str (aft k).str), some (.ref n), some (.bl (decide (0 < sc.all.length ∨ 0 < room))), some (.ref bd)] ∧ Gr [S, C, N] I3 H4 I' H' ∧ MsR I' H' S C N ⟨.val sc.all 5 :: .blk room (aft k) :: st, { sc with uses := u' }⟩ (B + 2)) (fun nx q => ?_) ?_
      · refine ⟨_, rfl, rfl, _, rfl, ifF (by rw [strEq]; exact decide_eq_false hz2) ?_⟩
        refine ⟨_, rfl, C, _, rfl, ms4.dU, _, rfl, rfl, .inr ⟨_, rfl, _, _, rfl, rfl, _, rfl, C, _, rfl, DPut.k (k := Sum.inr "uses") hC4 sd_len, ?_⟩⟩
        have ms5 := ms4.setC (E := E0') (d := sc.draws) (u := u') (p := sc.pr) (kvs := putK (scD N E0' sc.draws sc.uses) (.inr "uses") (.int ((sc.uses : Int) - (if decide (V.str z = V.str "use") = true then 1 else 0)))) (by rw [hu']; exact su_uses) hE4
        have g5 := ms4.gC (o := .dK (putK (scD N E0' sc.draws sc.uses) (.inr "uses") (.int ((sc.uses : Int) - (if decide (V.str z = V.str "use") = true then 1 else 0)))))
        (try dsimp only)
        obtain ⟨us6, hS6, a6⟩ := ms5.hS
        refine ⟨_, rfl, .inl ⟨rfl, _, SqL.of hS6⟩, _, rfl, (by show 3 ≤ sizeLine; decide), fun t6 ht6 => ?_⟩
        have g7 := Gr.new (ms := []) (o := .tup [.str "value", .ref n, .int 5]) ms5.s ht6
        have ms7 := ms5.up0 g7
        obtain ⟨vs6, hT6, b6⟩ := ms7.hS
        refine ⟨S, _, _, rfl, rfl, hT6, Nat.lt_of_le_of_lt (show vs6.reverse.length ≤ 5000000 by rw [List.length_reverse, b6.len]; have := ms7.sl; have := ms7.bl; omega) (by decide), ?_⟩
        have ms8 := ms7.setS (st := .val sc.all 5 :: (.blk room (aft k) :: st)) (us := .ref t6 :: vs6) (vs := vs6.reverse ++ [.ref t6]) (B' := B + 2) (.cons ⟨t6, n, rfl, upd_same, g7.ii _ _ hn3⟩ b6) (by simp) (by have := ms7.sl; simp only [List.length_cons] at this ⊢; omega) (by omega) (by omega)
        have g8 := g7.nil.trans (ms7.gS (o := .lst (vs6.reverse ++ [.ref t6])))
        exact q _ _ ⟨_, rfl, g5.trans g8, ms8⟩
      rintro σ' H9 ⟨I9, rfl, g9, ms9⟩
      (try dsimp only)
      obtain ⟨us10, hS10, a10⟩ := ms9.hS
      refine ⟨_, rfl, .inl ⟨rfl, _, SqL.of hS10⟩, (by show 1 ≤ sizeLine; decide), fun t10 ht10 => ?_⟩
      have g11 := Gr.new (ms := []) (o := .tup [.str "one"]) ms9.s ht10
      have ms11 := ms9.up0 g11
      obtain ⟨vs10, hT10, b10⟩ := ms11.hS
      refine ⟨S, _, _, rfl, rfl, hT10, Nat.lt_of_le_of_lt (show vs10.reverse.length ≤ 5000000 by rw [List.length_reverse, b10.len]; have := ms11.sl; have := ms11.bl; omega) (by decide), ?_⟩
      have ms12 := ms11.setS (st := .one :: (.val sc.all 5 :: .blk room (aft k) :: st)) (us := .ref t10 :: vs10) (vs := vs10.reverse ++ [.ref t10]) (B' := B + 3) (.cons ⟨t10, rfl, upd_same⟩ b10) (by simp) (by have := ms11.sl; simp only [List.length_cons] at this ⊢; omega) (by omega) (by omega)
      have g12 := g11.nil.trans (ms11.gS (o := .lst (vs10.reverse ++ [.ref t10])))
      exact hout.1 _ rfl _ _ (g9.trans g12) ms12
    rw [if_neg (fun h => c6 (.inl h)), if_neg (fun h => c6 (.inr h))] at kk4
    refine seq_cut (fun σ' H' => σ' = [some (.ref S), some (.ref C), some (.str z), some (.int (room : Int)), some (.str (aft k).str), some (.ref n), some (.bl (decide (0 < sc.all.length ∨ 0 < room))), some (.ref bd)] ∧ H' = H4) (fun nx q => ?_) ?_
    · by_cases hz1 : z = wd "set" ∨ z = wd "draw" ∨ z = wd "use"
      · obtain ⟨bv, hbv, hpos⟩ : ∃ bv : Nat, valV (bdK sc.draws sc.uses) (.inr z) = some (.int (bv : Int)) ∧ ¬ (0 < sc.names.length ∧ 0 < bv) := by
          rcases hz1 with h | h | h
          · exact ⟨9, by rw [bd_val, if_pos h]; rfl, fun q => c6 (.inr ⟨h, q.1⟩)⟩
          · exact ⟨sc.draws, by rw [bd_val, if_neg (by rw [h]; exact s2.symm), if_pos h], fun q => c5 ⟨h, q⟩⟩
          · exact ⟨sc.uses, by rw [bd_val, if_neg (by rw [h]; exact s3.symm), if_neg (by rw [h]; exact s1), if_pos h], fun q => c6 (.inl ⟨h, q⟩)⟩
        have dv := dB _ hbv
        refine ⟨_, rfl, _, rfl, bd, _, rfl, dv, _, rfl, ifT rfl ⟨_, rfl, C, _, rfl, ms4.dN, _, sc.names.length, rfl, .inl ⟨_, SqL.of ms4.hN, by rw [List.length_map]⟩, _, _, rfl, rfl, _, rfl, ?_⟩⟩
        by_cases c7 : 0 < sc.names.length
        · refine ifT (decide_eq_true (by omega)) ?_
          exact ⟨_, rfl, _, rfl, bd, _, rfl, dv, _, _, rfl, rfl, _, rfl, ifF (decide_eq_false (fun h => hpos ⟨c7, by omega⟩)) (q _ _ ⟨rfl, rfl⟩)⟩
        · exact ifF (decide_eq_false (by omega)) (ifF rfl (q _ _ ⟨rfl, rfl⟩))
      · have dv := dB none (by rw [bd_val, if_neg (fun h => hz1 (.inl h)), if_neg (fun h => hz1 (.inr (.inl h))), if_neg (fun h => hz1 (.inr (.inr h)))])
        exact ⟨_, rfl, _, rfl, bd, _, rfl, dv, _, rfl, ifF rfl (ifF rfl (q _ _ ⟨rfl, rfl⟩))⟩
    rintro σ' H4 ⟨rfl, rfl⟩
    (try dsimp only)
    obtain ⟨Ex, dEx, hEx⟩ := ms4.dE
    have lex : (exL sc.pr).length = if sc.pr = true then 1 else 0 := by unfold exL; split <;> rfl
    have LE : ∀ (k1 : sc.pr = true) , decide ((0 : Int) < ((exL sc.pr).length : Int)) = true := fun k1 => decide_eq_true (by rw [lex, if_pos k1]; decide)
    -- say
    by_cases c7 : z = wd "say" ∧ sc.pr = true
    · rw [if_pos c7] at kk4
      refine ⟨_, rfl, rfl, _, rfl, ifT (by rw [strEq]; exact decide_eq_true c7.1) ?_⟩
      refine ⟨_, rfl, C, _, rfl, dEx, _, (exL sc.pr).length, rfl, .inr ⟨_, SqT.of (ms4.s _ _ hEx), by rw [List.length_map]⟩, _, _, rfl, rfl, _, rfl, ifT (LE c7.2) ?_⟩
      obtain ⟨us6, hS6, a6⟩ := ms4.hS
      refine ⟨_, rfl, .inl ⟨rfl, _, SqL.of hS6⟩, _, rfl, (by show 3 ≤ sizeLine; decide), fun t6 ht6 => ?_⟩
      have g7 := Gr.new (ms := []) (o := .tup [.str "value", .ref n, .int 5]) ms4.s ht6
      have ms7 := ms4.up0 g7
      obtain ⟨vs6, hT6, b6⟩ := ms7.hS
      refine ⟨S, _, _, rfl, rfl, hT6, Nat.lt_of_le_of_lt (show vs6.reverse.length ≤ 5000000 by rw [List.length_reverse, b6.len]; have := ms7.sl; have := ms7.bl; omega) (by decide), ?_⟩
      have ms8 := ms7.setS (st := .val sc.all 5 :: (.blk room (aft k) :: st)) (us := .ref t6 :: vs6) (vs := vs6.reverse ++ [.ref t6]) (B' := B + 3) (.cons ⟨t6, n, rfl, upd_same, g7.ii _ _ hn3⟩ b6) (by simp) (by have := ms7.sl; simp only [List.length_cons] at this ⊢; omega) (by omega) (by omega)
      have g8 := g7.nil.trans (ms7.gS (o := .lst (vs6.reverse ++ [.ref t6])))
      exact kk4.1 _ rfl _ _ g8 ms8
    rw [if_neg c7] at kk4
    refine seq_cut (fun σ' H' => σ' = [some (.ref S), some (.ref C), some (.str z), some (.int (room : Int)), some (.str (aft k).str), some (.ref n), some (.bl (decide (0 < sc.all.length ∨ 0 < room))), some (.ref bd)] ∧ H' = H4) (fun nx q => ?_) ?_
    · refine ⟨_, rfl, rfl, _, rfl, ?_⟩
      by_cases c8 : z = wd "say"
      · refine ifT (by rw [strEq]; exact decide_eq_true c8) ?_
        refine ⟨_, rfl, C, _, rfl, dEx, _, (exL sc.pr).length, rfl, .inr ⟨_, SqT.of (ms4.s _ _ hEx), by rw [List.length_map]⟩, _, _, rfl, rfl, _, rfl, ?_⟩
        exact ifF (decide_eq_false (by rw [lex, if_neg (fun h => c7 ⟨c8, h⟩)]; decide)) (q _ _ ⟨rfl, rfl⟩)
      · exact ifF (by rw [strEq]; exact decide_eq_false c8) (ifF rfl (q _ _ ⟨rfl, rfl⟩))
    rintro σ' H4 ⟨rfl, rfl⟩
    (try dsimp only)
    -- if
    by_cases c8 : z = wd "if" ∧ 0 < room
    · rw [if_pos c8] at kk4
      refine ⟨_, rfl, rfl, _, rfl, ifT (by rw [strEq]; exact decide_eq_true c8.1) ?_⟩
      refine ⟨_, rfl, _, _, rfl, rfl, _, rfl, ifT (decide_eq_true (by have := c8.2; omega)) ?_⟩
      obtain ⟨us1, hS1, a1⟩ := ms4.hS
      have er : ((room : Int) - 1) = ((room - 1 : Nat) : Int) := by have := c8.2; omega
      refine ⟨_, rfl, .inl ⟨rfl, _, SqL.of hS1⟩, _, rfl, _, _, rfl, rfl, (by show 3 ≤ sizeLine; decide), fun t1 ht1 => ?_⟩
      have g5 := Gr.new (ms := []) (o := .tup [.str "block", .int ((room : Int) - 1), .str "then"]) ms4.s ht1
      refine ⟨_, rfl, (by show 3 ≤ sizeLine; decide), fun t2 ht2 => ?_⟩
      have g6 := Gr.new (ms := []) (o := .tup [.str "value", .ref n, .int 5]) g5.ih ht2
      refine ⟨(by show 2 ≤ sizeLine; decide), fun l hl => ?_⟩
      have g7 := Gr.tmp (ms := []) (o := .lst [.ref t1, .ref t2]) g6.ih hl
      have G := g5.trans (g6.trans g7)
      have ms5 := ms4.up0 G
      obtain ⟨us4, hS4, a4⟩ := ms5.hS
      have r1 := g6.ii _ _ (upd_same (H := _) (a := t1) (o := .tup [.str "block", .int ((room : Int) - 1), .str "then"]))
      refine ⟨S, l, _, _, rfl, rfl, hS4, upd_same, Nat.le_trans (show us4.reverse.length + 2 ≤ 5000002 by rw [List.length_reverse, a4.len]; have := ms5.sl; have := ms5.bl; omega) (by decide), ?_⟩
      have ms6 := ms5.setS (st := .val sc.all 5 :: .blk (room - 1) .thn :: .blk room (aft k) :: st) (us := .ref t2 :: .ref t1 :: us4) (vs := us4.reverse ++ [.ref t1, .ref t2]) (B' := B + 3)
        (.cons ⟨t2, n, rfl, upd_same, g6.ii _ _ (g5.ii _ _ hn3)⟩ (.cons ⟨t1, rfl, by rw [← er]; exact r1⟩ a4)) (by simp) (by have := ms5.sl; simp only [List.length_cons] at this ⊢; omega) hB (by omega)
      exact kk4.1 _ rfl _ _ (G.nil.trans ms5.gS) ms6
    rw [if_neg c8] at kk4
    refine seq_cut (fun σ' H' => H' = H4) (fun nx q => ?_) ?_
    · refine ⟨_, rfl, rfl, _, rfl, ?_⟩
      by_cases c9 : z = wd "if"
      · refine ifT (by rw [strEq]; exact decide_eq_true c9) ?_
        exact ⟨_, rfl, _, _, rfl, rfl, _, rfl, ifF (decide_eq_false (fun h => c8 ⟨c9, by omega⟩)) (q _ _ rfl)⟩
      · exact ifF (by rw [strEq]; exact decide_eq_false c9) (ifF rfl (q _ _ rfl))
    rintro σ' H4 rfl
    exact kk4.2 rfl _ _ (Gr.refl ms4.s)
end
end K

set_option Elab.async false
set_option linter.all false
set_option maxRecDepth 100000
set_option maxHeartbeats 4000000
namespace K
open PySem PySem.Spec PyProof.Rows L2 TL Tk Hd Rd
section
variable {P : Program} {w : World} {K : PySem.W.Frag} {mg : Str → Option Value} {base : Heap}
theorem gr_same {I H H' : Hp} (s : Same I H) (t : Same H H') : Gr [] I H I H' := ⟨Same.refl I, s.trans t, fun a o _ e => t a o e, fun a o e => ⟨o, t a o e⟩, fun a o e _ => e⟩
def spNext : Sp := fun vs H Q _ => ∃ (I : Hp) (S C N : Addr) (z : Str) (B : Nat) (M : Ms), vs = [.ref S, .ref C, .str z] ∧ MsR I H S C N M B ∧ M.st ≠ [] ∧ z.length ≤ sizeLine ∧ B + 3 ≤ 5000000 ∧ Outm I H S C N (B + 3) (stepM z M) Q
theorem sc__law_next : FnScope ["stack", "scope", "word", "top", "names"] ["stack", "scope", "word"] (defScope s__law_next) := ⟨rfl, rfl, rfl, by decide +kernel, rfl, by decide +kernel, by decide +kernel⟩
theorem ok_next (D : Dt K mg) : Has P w K mg base 3 (He.ga K "_law_next") ["stack", "scope", "word"] [] (spNext) := by
  obtain ⟨fd, F⟩ := fd__law_next D
  have H__law_is_number := ok_lnum (P := P) (w := w) (base := base) D
  have H__law_values := ok_vals (P := P) (w := w) (base := base) D
  have H__law_blocks := ok_blks (P := P) (w := w) (base := base) D
  have H__law_is_name := ok_lname (P := P) (w := w) (base := base) D
  refine hasN F (F.bindsN fun _ _ _ _ _ _ us hl => match us, hl with | [_, _, _], _ => rfl) sc__law_next (fun vs H Q E h => ?_) (fun cdv A outer s H vs Q E hr h => ?_)
  · obtain ⟨I, S, C, N, z, B, M, rfl, _⟩ := h; rfl
  · obtain ⟨I, S, C, N, z, B, M, rfl, ms, hne, hz, hB, kk⟩ := h
    refine ⟨_, (pss_cons (ps_set (i := 3) sc__law_next.nd rfl (Or.inl rfl) (pe_bm0 PySem.F.plainAttrs_list PySem.F.slot_list_pop PySem.F.type_list_pop mt_pop (pv 0)))
      (pss_cons (ps_if (pt_cmpR op_eq (pe_ix (ix_tupK K) (pv 3) pe_int (fun _ _ => rfl)) pe_str (nomark _))
      (pss_one (ps_ret (pe_cmpR op_eq (pv 2) (pe_ix (ix_tupK K) (pv 3) pe_int (fun _ _ => rfl)) (nomark _))))
      pss_nil)
      (pss_cons (ps_if (pt_cmpR op_eq (pe_ix (ix_tupK K) (pv 3) pe_int (fun _ _ => rfl)) pe_str (nomark _))
      (pss_one (ps_ret (pe_cmpR (op_in_seqK K) (pv 2) (pe_dget (hu_of hr) (pv 1) pe_str (fun _ _ => rfl)) rfl)))
      pss_nil)
      (pss_cons (ps_if (pt_cmpR op_eq (pe_ix (ix_tupK K) (pv 3) pe_int (fun _ _ => rfl)) pe_str (nomark _))
      (pss_one (ps_ret (pe_callH H__law_is_number (hr.mono (by omega)) rfl (glo__law_is_number D) passL (pa_cons (pv 2) (pa_cons (pe_ix (ix_tupK K) (pv 3) pe_int (fun _ _ => rfl)) (pa_cons (pe_ix (ix_tupK K) (pv 3) pe_int (fun _ _ => rfl)) pa_nil))))))
      pss_nil)
      (pss_cons (ps_if (pt_cmpR op_eq (pe_ix (ix_tupK K) (pv 3) pe_int (fun _ _ => rfl)) pe_str (nomark _))
      (pss_one (ps_ret (pe_callH H__law_values (hr.mono (by omega)) rfl (glo__law_values D) passL (pa_cons (pv 0) (pa_cons (pe_ix (ix_tupK K) (pv 3) pe_int (fun _ _ => rfl)) (pa_cons (pv 2) (pa_cons (pe_ix (ix_tupK K) (pv 3) pe_int (fun _ _ => rfl)) pa_nil)))))))
      pss_nil)
      (pss_cons (ps_if (pt_cmpR op_eq (pe_ix (ix_tupK K) (pv 3) pe_int (fun _ _ => rfl)) pe_str (nomark _))
      (pss_one (ps_ret (pe_callH H__law_blocks (hr.mono (by omega)) rfl (glo__law_blocks D) passL (pa_cons (pv 0) (pa_cons (pv 1) (pa_cons (pv 2) (pa_cons (pe_ix (ix_tupK K) (pv 3) pe_int (fun _ _ => rfl)) (pa_cons (pe_ix (ix_tupK K) (pv 3) pe_int (fun _ _ => rfl)) pa_nil))))))))
      pss_nil)
      (pss_cons (ps_if (pt_cmpR op_eq (pe_ix (ix_tupK K) (pv 3) pe_int (fun _ _ => rfl)) pe_str (nomark _))
      (pss_cons (ps_if (PW.pt (pw_and (pt_cmpR op_eq (pv 2) pe_str (nomark _)) (pw_and1 (pt_cmpR op_lt (pe_callB (call_lenK K) rfl (free_len D) PySem.boot_len (pa_cons (pe_dget (hu_of hr) (pv 1) pe_str (fun _ _ => rfl)) pa_nil)) pe_int (nomark _)))))
      (pss_cons (ps_expr (pe_bm PySem.F.plainAttrs_list PySem.F.slot_list_extend PySem.F.type_list_extend mt_extend (pv 0) (pa_cons (pe_lst (pa_cons (pe_tup (pa_cons pe_str pa_nil)) (pa_cons (pe_tup (pa_cons pe_str (pa_cons pe_int (pa_cons pe_int pa_nil)))) (pa_cons (pe_tup (pa_cons pe_str pa_nil)) pa_nil)))) pa_nil)))
      (pss_one (ps_ret pe_bl)))
      pss_nil)
      (pss_cons (ps_expr (pe_bm PySem.F.plainAttrs_list PySem.F.slot_list_append PySem.F.type_list_append mt_append (pv 0) (pa_cons (pe_tup (pa_cons pe_str (pa_cons pe_int (pa_cons pe_str pa_nil)))) pa_nil)))
      (pss_one (ps_ret (pe_cmpR op_eq (pv 2) pe_str (nomark _))))))
      pss_nil)
      (pss_cons (ps_set (i := 4) sc__law_next.nd rfl (Or.inl rfl) (pe_dget (hu_of hr) (pv 1) pe_str (fun _ _ => rfl)))
      (pss_cons (ps_if (PW.pt (pw_or (pt_cmpR (op_in_seqK K) (pv 2) (pv 4) rfl) (pw_or1 (pt_not (pt_val (pe_callH H__law_is_name (hr.mono (by omega)) rfl (glo__law_is_name D) passL (pa_cons (pv 2) pa_nil)))))))
      (pss_one (ps_ret pe_bl))
      pss_nil)
      (pss_cons (ps_expr (pe_bm PySem.F.plainAttrs_list PySem.F.slot_list_append PySem.F.type_list_append mt_append (pv 4) (pa_cons (pv 2) pa_nil)))
      (pss_one (ps_ret pe_bl)))))))))))), ?_⟩
    obtain ⟨st0, sc⟩ := M
    obtain ⟨us0, hS0, a0⟩ := ms.hS
    refine seq_cut (fun σ' H' => ∃ u e st, σ' = [some (.ref S), some (.ref C), some (.str z), some u, none] ∧ st0 = e :: st ∧ enR I u e ∧ Gr [S, C, N] I H I H' ∧ MsR I H' S C N ⟨st, sc⟩ B) (fun nx q => ?_) ?_
    · cases a0 with
      | nil => exact (hne rfl).elim
      | cons hu ht =>
        rename_i u e us st
        rw [List.reverse_cons] at hS0
        refine ⟨_, rfl, .inl ⟨rfl, _, SqL.of hS0⟩, S, _, u, rfl, rfl, hS0, by simp, ?_⟩
        refine q _ _ ⟨u, e, st, rfl, rfl, hu, ms.gS, ms.setS ht (by simp) (by have := ms.sl; simp only [List.length_cons] at this; omega) ms.bl (Nat.le_refl _)⟩
    rintro σ' H1 ⟨u, e, st, rfl, rfl, re, g1, ms1⟩
    have kk1 := kk.up g1
    clear ms hS0 a0 kk hne us0
    (try dsimp only)
    have hB0 : B ≤ B + 3 := by omega
    cases e with
    | word w =>
      obtain ⟨a, rfl, hI⟩ := re
      have ha := ms1.s _ _ hI
      refine ⟨_, rfl, a, _, _, _, rfl, rfl, SqT.of ha, at_of (j := 0) rfl rfl, rfl, _, rfl, ifT (by rw [strEq]; decide +kernel) ?_⟩
      refine ⟨_, rfl, _, rfl, a, _, _, _, rfl, rfl, SqT.of ha, at_of (j := 1) rfl rfl, rfl, ?_⟩
      simp only [stepM] at kk1
      rw [strEq]
      by_cases c : z = w
      · rw [if_pos c] at kk1
        rw [decide_eq_true c]
        exact kk1.1 _ rfl _ _ (Gr.refl ms1.s) (ms1.more hB0 hB)
      · rw [if_neg c] at kk1
        rw [decide_eq_false c]
        exact kk1.2 rfl _ _ (Gr.refl ms1.s)
    | one =>
      obtain ⟨a, rfl, hI⟩ := re
      have ha := ms1.s _ _ hI
      refine seq_cut (fun σ' H' => σ' = [some (.ref S), some (.ref C), some (.str z), some (.ref a), none] ∧ H' = H1) (fun nx q => ⟨_, rfl, a, _, _, _, rfl, rfl, SqT.of ha, at_of (j := 0) rfl rfl, rfl, _, rfl, ifF (by rw [strEq]; decide +kernel) (q _ _ ⟨rfl, rfl⟩)⟩) ?_
      rintro σ' H1 ⟨rfl, rfl⟩
      (try dsimp only)
      refine ⟨_, rfl, a, _, _, _, rfl, rfl, SqT.of ha, at_of (j := 0) rfl rfl, rfl, _, rfl, ifT (by rw [strEq]; decide +kernel) ?_⟩
      refine ⟨_, rfl, _, rfl, C, _, rfl, ms1.dN, N, _, rfl, .inl (SqL.of ms1.hN), rfl, flat_strs _, ?_⟩
      rw [if_neg Bool.false_ne_true, inV_strs]
      simp only [stepM] at kk1
      by_cases c : z ∈ sc.names
      · rw [if_pos c] at kk1
        rw [decide_eq_true c]
        exact kk1.1 _ rfl _ _ (Gr.refl ms1.s) (ms1.more hB0 hB)
      · rw [if_neg c] at kk1
        rw [decide_eq_false c]
        exact kk1.2 rfl _ _ (Gr.refl ms1.s)
    | num lo ub =>
      obtain ⟨a, rfl, hI, hub⟩ := re
      have ha := ms1.s _ _ hI
      refine seq_cut (fun σ' H' => σ' = [some (.ref S), some (.ref C), some (.str z), some (.ref a), none] ∧ H' = H1) (fun nx q => ⟨_, rfl, a, _, _, _, rfl, rfl, SqT.of ha, at_of (j := 0) rfl rfl, rfl, _, rfl, ifF (by rw [strEq]; decide +kernel) (q _ _ ⟨rfl, rfl⟩)⟩) ?_
      rintro σ' H1 ⟨rfl, rfl⟩
      (try dsimp only)
      refine seq_cut (fun σ' H' => σ' = [some (.ref S), some (.ref C), some (.str z), some (.ref a), none] ∧ H' = H1) (fun nx q => ⟨_, rfl, a, _, _, _, rfl, rfl, SqT.of ha, at_of (j := 0) rfl rfl, rfl, _, rfl, ifF (by rw [strEq]; decide +kernel) (q _ _ ⟨rfl, rfl⟩)⟩) ?_
      rintro σ' H1 ⟨rfl, rfl⟩
      (try dsimp only)
      refine ⟨_, rfl, a, _, _, _, rfl, rfl, SqT.of ha, at_of (j := 0) rfl rfl, rfl, _, rfl, ifT (by rw [strEq]; decide +kernel) ?_⟩
      refine ⟨_, rfl, _, rfl, a, _, _, _, rfl, rfl, SqT.of ha, at_of (j := 1) rfl rfl, _, rfl, a, _, _, _, rfl, rfl, SqT.of ha, at_of (j := 2) rfl rfl, z, lo, ub, rfl, hz, hub, ?_⟩
      simp only [stepM] at kk1
      cases c : numB z lo ub with
      | true =>
        rw [if_pos c] at kk1
        exact kk1.1 _ rfl _ _ (Gr.refl ms1.s) (ms1.more hB0 hB)
      | false =>
        rw [if_neg (by rw [c]; exact Bool.false_ne_true)] at kk1
        exact kk1.2 rfl _ _ (Gr.refl ms1.s)
    | val nm room =>
      obtain ⟨a, n, rfl, hI, hn⟩ := re
      have ha := ms1.s _ _ hI
      refine seq_cut (fun σ' H' => σ' = [some (.ref S), some (.ref C), some (.str z), some (.ref a), none] ∧ H' = H1) (fun nx q => ⟨_, rfl, a, _, _, _, rfl, rfl, SqT.of ha, at_of (j := 0) rfl rfl, rfl, _, rfl, ifF (by rw [strEq]; decide +kernel) (q _ _ ⟨rfl, rfl⟩)⟩) ?_
      rintro σ' H1 ⟨rfl, rfl⟩
      (try dsimp only)
      refine seq_cut (fun σ' H' => σ' = [some (.ref S), some (.ref C), some (.str z), some (.ref a), none] ∧ H' = H1) (fun nx q => ⟨_, rfl, a, _, _, _, rfl, rfl, SqT.of ha, at_of (j := 0) rfl rfl, rfl, _, rfl, ifF (by rw [strEq]; decide +kernel) (q _ _ ⟨rfl, rfl⟩)⟩) ?_
      rintro σ' H1 ⟨rfl, rfl⟩
      (try dsimp only)
      refine seq_cut (fun σ' H' => σ' = [some (.ref S), some (.ref C), some (.str z), some (.ref a), none] ∧ H' = H1) (fun nx q => ⟨_, rfl, a, _, _, _, rfl, rfl, SqT.of ha, at_of (j := 0) rfl rfl, rfl, _, rfl, ifF (by rw [strEq]; decide +kernel) (q _ _ ⟨rfl, rfl⟩)⟩) ?_
      rintro σ' H1 ⟨rfl, rfl⟩
      (try dsimp only)
      refine ⟨_, rfl, a, _, _, _, rfl, rfl, SqT.of ha, at_of (j := 0) rfl rfl, rfl, _, rfl, ifT (by rw [strEq]; decide +kernel) ?_⟩
      exact ⟨_, rfl, _, rfl, a, _, _, _, rfl, rfl, SqT.of ha, at_of (j := 1) rfl rfl, _, rfl, _, rfl, a, _, _, _, rfl, rfl, SqT.of ha, at_of (j := 2) rfl rfl, I, S, C, N, n, z, nm, room, B, st, sc, rfl, ms1, hn, hz, hB, kk1⟩
    | blk room k =>
      obtain ⟨a, rfl, hI⟩ := re
      have ha := ms1.s _ _ hI
      refine seq_cut (fun σ' H' => σ' = [some (.ref S), some (.ref C), some (.str z), some (.ref a), none] ∧ H' = H1) (fun nx q => ⟨_, rfl, a, _, _, _, rfl, rfl, SqT.of ha, at_of (j := 0) rfl rfl, rfl, _, rfl, ifF (by rw [strEq]; decide +kernel) (q _ _ ⟨rfl, rfl⟩)⟩) ?_
      rintro σ' H1 ⟨rfl, rfl⟩
      (try dsimp only)
      refine seq_cut (fun σ' H' => σ' = [some (.ref S), some (.ref C), some (.str z), some (.ref a), none] ∧ H' = H1) (fun nx q => ⟨_, rfl, a, _, _, _, rfl, rfl, SqT.of ha, at_of (j := 0) rfl rfl, rfl, _, rfl, ifF (by rw [strEq]; decide +kernel) (q _ _ ⟨rfl, rfl⟩)⟩) ?_
      rintro σ' H1 ⟨rfl, rfl⟩
      (try dsimp only)
      refine seq_cut (fun σ' H' => σ' = [some (.ref S), some (.ref C), some (.str z), some (.ref a), none] ∧ H' = H1) (fun nx q => ⟨_, rfl, a, _, _, _, rfl, rfl, SqT.of ha, at_of (j := 0) rfl rfl, rfl, _, rfl, ifF (by rw [strEq]; decide +kernel) (q _ _ ⟨rfl, rfl⟩)⟩) ?_
      rintro σ' H1 ⟨rfl, rfl⟩
      (try dsimp only)
      refine seq_cut (fun σ' H' => σ' = [some (.ref S), some (.ref C), some (.str z), some (.ref a), none] ∧ H' = H1) (fun nx q => ⟨_, rfl, a, _, _, _, rfl, rfl, SqT.of ha, at_of (j := 0) rfl rfl, rfl, _, rfl, ifF (by rw [strEq]; decide +kernel) (q _ _ ⟨rfl, rfl⟩)⟩) ?_
      rintro σ' H1 ⟨rfl, rfl⟩
      (try dsimp only)
      refine ⟨_, rfl, a, _, _, _, rfl, rfl, SqT.of ha, at_of (j := 0) rfl rfl, rfl, _, rfl, ifT (by rw [strEq]; decide +kernel) ?_⟩
      exact ⟨_, rfl, _, rfl, _, rfl, _, rfl, a, _, _, _, rfl, rfl, SqT.of ha, at_of (j := 1) rfl rfl, _, rfl, a, _, _, _, rfl, rfl, SqT.of ha, at_of (j := 2) rfl rfl, I, S, C, N, z, room, B, k, st, sc, rfl, ms1, hz, hB, kk1⟩
    | head =>
      obtain ⟨a, rfl, hI⟩ := re
      have ha := ms1.s _ _ hI
      refine seq_cut (fun σ' H' => σ' = [some (.ref S), some (.ref C), some (.str z), some (.ref a), none] ∧ H' = H1) (fun nx q => ⟨_, rfl, a, _, _, _, rfl, rfl, SqT.of ha, at_of (j := 0) rfl rfl, rfl, _, rfl, ifF (by rw [strEq]; decide +kernel) (q _ _ ⟨rfl, rfl⟩)⟩) ?_
      rintro σ' H1 ⟨rfl, rfl⟩
      (try dsimp only)
      refine seq_cut (fun σ' H' => σ' = [some (.ref S), some (.ref C), some (.str z), some (.ref a), none] ∧ H' = H1) (fun nx q => ⟨_, rfl, a, _, _, _, rfl, rfl, SqT.of ha, at_of (j := 0) rfl rfl, rfl, _, rfl, ifF (by rw [strEq]; decide +kernel) (q _ _ ⟨rfl, rfl⟩)⟩) ?_
      rintro σ' H1 ⟨rfl, rfl⟩
      (try dsimp only)
      refine seq_cut (fun σ' H' => σ' = [some (.ref S), some (.ref C), some (.str z), some (.ref a), none] ∧ H' = H1) (fun nx q => ⟨_, rfl, a, _, _, _, rfl, rfl, SqT.of ha, at_of (j := 0) rfl rfl, rfl, _, rfl, ifF (by rw [strEq]; decide +kernel) (q _ _ ⟨rfl, rfl⟩)⟩) ?_
      rintro σ' H1 ⟨rfl, rfl⟩
      (try dsimp only)
      refine seq_cut (fun σ' H' => σ' = [some (.ref S), some (.ref C), some (.str z), some (.ref a), none] ∧ H' = H1) (fun nx q => ⟨_, rfl, a, _, _, _, rfl, rfl, SqT.of ha, at_of (j := 0) rfl rfl, rfl, _, rfl, ifF (by rw [strEq]; decide +kernel) (q _ _ ⟨rfl, rfl⟩)⟩) ?_
      rintro σ' H1 ⟨rfl, rfl⟩
      (try dsimp only)
      refine seq_cut (fun σ' H' => σ' = [some (.ref S), some (.ref C), some (.str z), some (.ref a), none] ∧ H' = H1) (fun nx q => ⟨_, rfl, a, _, _, _, rfl, rfl, SqT.of ha, at_of (j := 0) rfl rfl, rfl, _, rfl, ifF (by rw [strEq]; decide +kernel) (q _ _ ⟨rfl, rfl⟩)⟩) ?_
      rintro σ' H1 ⟨rfl, rfl⟩
      (try dsimp only)
      refine ⟨_, rfl, a, _, _, _, rfl, rfl, SqT.of ha, at_of (j := 0) rfl rfl, rfl, _, rfl, ifT (by rw [strEq]; decide +kernel) ?_⟩
      simp only [stepM] at kk1
      (try dsimp only)
      by_cases c : z = wd "var" ∧ sc.names.length < 4
      · rw [if_pos c] at kk1
        refine seq_cut (fun σ' H' => False) (fun nx q => ?_) (fun _ _ h => h.elim)
        refine ⟨_, rfl, rfl, _, rfl, ifT (by rw [strEq]; exact decide_eq_true c.1) ?_⟩
        refine ⟨_, rfl, C, _, rfl, ms1.dN, _, sc.names.length, rfl, .inl ⟨_, SqL.of ms1.hN, by rw [List.length_map]⟩, _, _, rfl, rfl, _, rfl, ifT (decide_eq_true (by have := c.2; omega)) ?_⟩
        obtain ⟨us1, hS1, a1⟩ := ms1.hS
        refine ⟨_, rfl, .inl ⟨rfl, _, SqL.of hS1⟩, (by show 1 ≤ sizeLine; decide), fun t1 ht1 => ?_⟩
        have g5 := Gr.new (ms := []) (o := .tup [.str "head"]) ms1.s ht1
        refine ⟨(by show 3 ≤ sizeLine; decide), fun t2 ht2 => ?_⟩
        have g6 := Gr.new (ms := []) (o := .tup [.str "number", .int 1, .int 12]) g5.ih ht2
        refine ⟨(by show 1 ≤ sizeLine; decide), fun t3 ht3 => ?_⟩
        have g7 := Gr.new (ms := []) (o := .tup [.str "new"]) g6.ih ht3
        refine ⟨(by show 3 ≤ sizeLine; decide), fun l hl => ?_⟩
        have g8 := Gr.tmp (ms := []) (o := .lst [.ref t1, .ref t2, .ref t3]) g7.ih hl
        have G := g5.trans (g6.trans (g7.trans g8))
        have ms5 := ms1.up0 G
        obtain ⟨us4, hS4, a4⟩ := ms5.hS
        refine ⟨S, l, _, _, rfl, rfl, hS4, upd_same, Nat.le_trans (show us4.reverse.length + 3 ≤ 5000003 by rw [List.length_reverse, a4.len]; have := ms5.sl; have := ms5.bl; omega) (by decide), ?_⟩
        have ms6 := ms5.setS (st := .new :: .num 1 12 :: .head :: st) (us := .ref t3 :: .ref t2 :: .ref t1 :: us4) (vs := us4.reverse ++ [.ref t1, .ref t2, .ref t3]) (B' := B + 3)
          (.cons ⟨t3, rfl, upd_same⟩ (.cons ⟨t2, rfl, g7.ii _ _ upd_same, by decide⟩ (.cons ⟨t1, rfl, g7.ii _ _ (g6.ii _ _ upd_same)⟩ a4))) (by simp) (by have := ms5.sl; simp only [List.length_cons] at this ⊢; omega) hB (by omega)
        exact kk1.1 _ rfl _ _ (G.nil.trans ms5.gS) ms6
      · rw [if_neg c] at kk1
        refine seq_cut (fun σ' H' => σ' = [some (.ref S), some (.ref C), some (.str z), some (.ref a), none] ∧ H' = H1) (fun nx2 q2 => ?_) ?_
        · refine ⟨_, rfl, rfl, _, rfl, ?_⟩
          by_cases c1 : z = wd "var"
          · refine ifT (by rw [strEq]; exact decide_eq_true c1) ?_
            exact ⟨_, rfl, C, _, rfl, ms1.dN, _, sc.names.length, rfl, .inl ⟨_, SqL.of ms1.hN, by rw [List.length_map]⟩, _, _, rfl, rfl, _, rfl, ifF (decide_eq_false (fun h => c ⟨c1, by omega⟩)) (q2 _ _ ⟨rfl, rfl⟩)⟩
          · exact ifF (by rw [strEq]; exact decide_eq_false c1) (ifF rfl (q2 _ _ ⟨rfl, rfl⟩))
        rintro σ' H1 ⟨rfl, rfl⟩
        (try dsimp only)
        obtain ⟨us1, hS1, a1⟩ := ms1.hS
        refine ⟨_, rfl, .inl ⟨rfl, _, SqL.of hS1⟩, (by show 3 ≤ sizeLine; decide), fun t1 ht1 => ?_⟩
        have g5 := Gr.new (ms := []) (o := .tup [.str "block", .int 4, .str "start"]) ms1.s ht1
        have ms5 := ms1.up0 g5
        obtain ⟨us4, hS4, a4⟩ := ms5.hS
        refine ⟨S, _, _, rfl, rfl, hS4, Nat.lt_of_le_of_lt (show us4.reverse.length ≤ 5000000 by rw [List.length_reverse, a4.len]; have := ms5.sl; have := ms5.bl; omega) (by decide), ?_⟩
        have ms6 := ms5.setS (st := .blk 4 .start :: st) (us := .ref t1 :: us4) (vs := us4.reverse ++ [.ref t1]) (B' := B + 3) (.cons ⟨t1, rfl, upd_same⟩ a4) (by simp) (by have := ms5.sl; simp only [List.length_cons] at this ⊢; omega) hB (by omega)
        have G := g5.nil.trans (ms5.gS (o := .lst (us4.reverse ++ [.ref t1])))
        (try dsimp only)
        refine ⟨_, rfl, rfl, ?_⟩
        rw [strEq]
        by_cases c2 : z = wd "start"
        · rw [if_pos c2] at kk1
          rw [show decide (z = Str.ofString "start") = true from decide_eq_true c2]
          exact kk1.1 _ rfl _ _ G ms6
        · rw [if_neg c2] at kk1
          rw [show decide (z = Str.ofString "start") = false from decide_eq_false c2]
          exact kk1.2 rfl _ _ G
    | new =>
      obtain ⟨a, rfl, hI⟩ := re
      have ha := ms1.s _ _ hI
      refine seq_cut (fun σ' H' => σ' = [some (.ref S), some (.ref C), some (.str z), some (.ref a), none] ∧ H' = H1) (fun nx q => ⟨_, rfl, a, _, _, _, rfl, rfl, SqT.of ha, at_of (j := 0) rfl rfl, rfl, _, rfl, ifF (by rw [strEq]; decide +kernel) (q _ _ ⟨rfl, rfl⟩)⟩) ?_
      rintro σ' H1 ⟨rfl, rfl⟩
      (try dsimp only)
      refine seq_cut (fun σ' H' => σ' = [some (.ref S), some (.ref C), some (.str z), some (.ref a), none] ∧ H' = H1) (fun nx q => ⟨_, rfl, a, _, _, _, rfl, rfl, SqT.of ha, at_of (j := 0) rfl rfl, rfl, _, rfl, ifF (by rw [strEq]; decide +kernel) (q _ _ ⟨rfl, rfl⟩)⟩) ?_
      rintro σ' H1 ⟨rfl, rfl⟩
      (try dsimp only)
      refine seq_cut (fun σ' H' => σ' = [some (.ref S), some (.ref C), some (.str z), some (.ref a), none] ∧ H' = H1) (fun nx q => ⟨_, rfl, a, _, _, _, rfl, rfl, SqT.of ha, at_of (j := 0) rfl rfl, rfl, _, rfl, ifF (by rw [strEq]; decide +kernel) (q _ _ ⟨rfl, rfl⟩)⟩) ?_
      rintro σ' H1 ⟨rfl, rfl⟩
      (try dsimp only)
      refine seq_cut (fun σ' H' => σ' = [some (.ref S), some (.ref C), some (.str z), some (.ref a), none] ∧ H' = H1) (fun nx q => ⟨_, rfl, a, _, _, _, rfl, rfl, SqT.of ha, at_of (j := 0) rfl rfl, rfl, _, rfl, ifF (by rw [strEq]; decide +kernel) (q _ _ ⟨rfl, rfl⟩)⟩) ?_
      rintro σ' H1 ⟨rfl, rfl⟩
      (try dsimp only)
      refine seq_cut (fun σ' H' => σ' = [some (.ref S), some (.ref C), some (.str z), some (.ref a), none] ∧ H' = H1) (fun nx q => ⟨_, rfl, a, _, _, _, rfl, rfl, SqT.of ha, at_of (j := 0) rfl rfl, rfl, _, rfl, ifF (by rw [strEq]; decide +kernel) (q _ _ ⟨rfl, rfl⟩)⟩) ?_
      rintro σ' H1 ⟨rfl, rfl⟩
      (try dsimp only)
      refine seq_cut (fun σ' H' => σ' = [some (.ref S), some (.ref C), some (.str z), some (.ref a), none] ∧ H' = H1) (fun nx q => ⟨_, rfl, a, _, _, _, rfl, rfl, SqT.of ha, at_of (j := 0) rfl rfl, rfl, _, rfl, ifF (by rw [strEq]; decide +kernel) (q _ _ ⟨rfl, rfl⟩)⟩) ?_
      rintro σ' H1 ⟨rfl, rfl⟩
      (try dsimp only)
      simp only [stepM] at kk1
      refine ⟨_, rfl, C, _, rfl, ms1.dN, ?_⟩
      (try dsimp only)
      by_cases c : z ∉ sc.names ∧ isName z = true
      · rw [if_pos c] at kk1
        refine seq_cut (fun σ' H' => σ' = [some (.ref S), some (.ref C), some (.str z), some (.ref a), some (.ref N)] ∧ Same H1 H') (fun nx q => ?_) ?_
        · refine ⟨_, rfl, _, rfl, N, _, rfl, .inl (SqL.of ms1.hN), rfl, flat_strs _, _, rfl, ?_⟩
          rw [if_neg Bool.false_ne_true, inV_strs]
          refine ifF (decide_eq_false c.1) ⟨_, rfl, z, rfl, hz, fun H' s' => ⟨_, rfl, ?_⟩⟩
          rw [c.2]
          exact ifF rfl (q _ _ ⟨rfl, s'⟩)
        rintro σ' H2 ⟨rfl, s2⟩
        (try dsimp only)
        have g2 := gr_same ms1.s s2
        have ms2 := ms1.up0 g2
        refine ⟨_, rfl, .inl ⟨rfl, _, SqL.of ms2.hN⟩, _, rfl, N, _, _, rfl, rfl, ms2.hN, Nat.lt_of_le_of_lt (show (sc.names.map V.str).length ≤ 5000000 by rw [List.length_map]; have h9 : sc.names.length ≤ B := ms2.n4; omega) (by decide), ?_⟩
        have ms3 := (ms2.more hB0 hB).setN (ns := sc.names ++ [z]) (vs := sc.names.map V.str ++ [.str z]) (by rw [List.map_append]; rfl) (by rw [List.length_append]; have h9 : sc.names.length ≤ B := ms2.n4; simp; omega)
        exact kk1.1 _ rfl _ _ (g2.nil.trans ms2.gN) ms3
      · rw [if_neg c] at kk1
        refine seq_cut (fun σ' H' => False) (fun nx q => ?_) (fun _ _ h => h.elim)
        refine ⟨_, rfl, _, rfl, N, _, rfl, .inl (SqL.of ms1.hN), rfl, flat_strs _, _, rfl, ?_⟩
        rw [if_neg Bool.false_ne_true, inV_strs]
        by_cases c1 : z ∈ sc.names
        · exact ifT (decide_eq_true c1) (kk1.2 rfl _ _ (Gr.refl ms1.s))
        · refine ifF (decide_eq_false c1) ⟨_, rfl, z, rfl, hz, fun H' s' => ⟨_, rfl, ?_⟩⟩
          have e : isName z = false := by
            cases h : isName z with
            | false => rfl
            | true => exact (c ⟨c1, h⟩).elim
          rw [e]
          exact ifT rfl (kk1.2 rfl _ _ (gr_same ms1.s s').nil)
end
end K

set_option Elab.async false
set_option linter.all false
set_option maxRecDepth 100000
set_option maxHeartbeats 4000000
namespace Rd
open PySem PyProof.Rows TL Tk
def botE (e : En) : Prop := e = .head ∨ (∃ r, e = .blk r .start) ∨ ∃ r, e = .blk r .top
def botOk (st : List En) : Prop := ∃ e, st.getLast? = some e ∧ botE e
theorem bot_app {pre rest : List En} (h : (rest ≠ [] ∧ botOk rest) ∨ (rest = [] ∧ botOk pre)) : botOk (pre ++ rest) := by
  rcases h with ⟨h1, e, h2, h3⟩ | ⟨rfl, h⟩
  · refine ⟨e, ?_, h3⟩
    rw [List.getLast?_append, h2]; rfl
  · rw [List.append_nil]; exact h
theorem bot_tail {e : En} {rest : List En} (h : botOk (e :: rest)) : (rest ≠ [] ∧ botOk rest) ∨ (rest = [] ∧ botE e) := by
  obtain ⟨x, h1, h2⟩ := h
  cases rest with
  | nil => simp at h1; subst h1; exact .inr ⟨rfl, h2⟩
  | cons a b => refine .inl ⟨by simp, x, ?_, h2⟩; rw [List.getLast?_cons] at h1; cases hb : (a :: b).getLast? with
    | none => simp at hb
    | some y => rw [hb] at h1; simpa using h1
theorem bot_one {e : En} (h : botE e) : botOk [e] := ⟨e, rfl, h⟩
theorem bot_cons {a : En} {l : List En} (h : botOk l) : botOk (a :: l) := by
  obtain ⟨e, h1, h2⟩ := h
  refine ⟨e, ?_, h2⟩
  rw [List.getLast?_cons, h1]; rfl
theorem bot_step {w : Str} {M M' : Ms} (h : stepM w M = some M') (hb : botOk M.st) : botOk M'.st := by
  obtain ⟨st, sc⟩ := M
  cases st with
  | nil => cases h
  | cons e rest =>
    have ht := bot_tail hb
    have keep : ¬ botE e → botOk rest := fun n => by
      rcases ht with h | h
      · exact h.2
      · exact (n h.2).elim
    have pre : ∀ e', (botE e → botE e') → botOk (e' :: rest) := fun e' hf => by
      rcases ht with h1 | ⟨rfl, h2⟩
      · exact bot_cons h1.2
      · exact bot_one (hf h2)
    cases e with
    | word x =>
      simp only [stepM] at h
      split at h
      · cases h; exact keep (by rintro (h | ⟨_, h⟩ | ⟨_, h⟩) <;> cases h)
      · cases h
    | one =>
      simp only [stepM] at h
      split at h
      · cases h; exact keep (by rintro (h | ⟨_, h⟩ | ⟨_, h⟩) <;> cases h)
      · cases h
    | num lo hi =>
      simp only [stepM] at h
      split at h
      · cases h; exact keep (by rintro (h | ⟨_, h⟩ | ⟨_, h⟩) <;> cases h)
      · cases h
    | val nm room =>
      have k := keep (by rintro (h | ⟨_, h⟩ | ⟨_, h⟩) <;> cases h)
      simp only [stepM] at h
      split at h
      · cases h; exact bot_cons (bot_cons k)
      · split at h
        · cases h; exact k
        · cases h
    | head =>
      simp only [stepM] at h
      split at h
      · cases h; exact bot_cons (bot_cons hb)
      · split at h
        · cases h; exact pre _ fun _ => .inr (.inl ⟨4, rfl⟩)
        · cases h
    | new =>
      simp only [stepM] at h
      split at h
      · cases h; exact keep (by rintro (h | ⟨_, h⟩ | ⟨_, h⟩) <;> cases h)
      · cases h
    | blk room k =>
      simp only [stepM, blkS] at h
      have again : botOk (.blk room (aft k) :: rest) := pre _ fun hb => by
        rcases hb with hb | ⟨r, hb⟩ | ⟨r, hb⟩
        · cases hb
        · injection hb with _ hk; subst hk; exact .inr (.inl ⟨_, rfl⟩)
        · injection hb with _ hk; subst hk; exact .inr (.inr ⟨_, rfl⟩)
      split at h
      · rename_i c
        cases h
        exact keep (by
          rintro (hb | ⟨r, hb⟩ | ⟨r, hb⟩)
          · cases hb
          · injection hb with _ hk; subst hk; rcases c.2 with h | h <;> cases h
          · injection hb with _ hk; subst hk; rcases c.2 with h | h <;> cases h)
      split at h
      · rename_i c
        cases h
        exact bot_cons (keep (by
          rintro (hb | ⟨r, hb⟩ | ⟨r, hb⟩)
          · cases hb
          · injection hb with _ hk; subst hk; cases c.2.1
          · injection hb with _ hk; subst hk; cases c.2.1))
      split at h
      · cases h; exact pre _ fun _ => .inr (.inr ⟨4, rfl⟩)
      split at h
      · cases h; exact bot_cons (bot_cons again)
      split at h
      · cases h; exact bot_cons (bot_cons again)
      split at h
      · cases h; exact bot_cons (bot_cons again)
      split at h
      · cases h; exact bot_cons again
      split at h
      · cases h; exact bot_cons (bot_cons again)
      · cases h
end Rd
namespace K
open PySem PySem.Spec PyProof.Rows L2 TL Tk Hd Rd
section
variable {P : Program} {w : World} {K : PySem.W.Frag} {mg : Str → Option Value} {base : Heap}
structure WsB (ws : List Str) : Prop where
  n : ws.length ≤ 1000000
  z : ∀ x ∈ ws, x.length ≤ sizeLine
def spWrong : Sp := fun vs H Q _ => ∃ (I : Hp) (v : V) (ws : List Str) (ar : Bool) (U : Nat), vs = [v, .int (U : Int)] ∧ U = (if ar = true then 24 else 0) ∧ Same I H ∧ iSs I v ws ∧ WsB ws ∧ ∀ I' H', Gr [] I H I' H' → Q (oInt (wrong ws ar)) H'
theorem sc__law_wrong : FnScope ["words", "uses", "scope", "stack", "at"] ["words", "uses"] (defScope s__law_wrong) := ⟨rfl, rfl, rfl, by decide +kernel, rfl, by decide +kernel, by decide +kernel⟩
theorem ok_wrong (D : Dt K mg) : Has P w K mg base 4 (He.ga K "_law_wrong") ["words", "uses"] [] (spWrong) := by
  obtain ⟨fd, F⟩ := fd__law_wrong D
  have H__law_next := ok_next (P := P) (w := w) (base := base) D
  refine hasN F (F.bindsN fun _ _ _ _ _ _ us hl => match us, hl with | [_, _], _ => rfl) sc__law_wrong (fun vs H Q E h => ?_) (fun cdv A outer s H vs Q E hr h => ?_)
  · obtain ⟨I, v, ws, ar, U, rfl, _⟩ := h; rfl
  · obtain ⟨I, v, ws, ar, U, rfl, hU, s0, rv, wb, kk⟩ := h
    refine ⟨_, (pss_cons (ps_set (i := 2) sc__law_wrong.nd rfl (Or.inl rfl) (pe_disp (pps_cons pe_str (pe_lst pa_nil) (pps_cons pe_str (pe_tup pa_nil) (pps_cons pe_str pe_int (pps_cons pe_str (pv 1) pps_nil)))) rfl rfl (fun h => nomatch h) (by decide)))
      (pss_cons (ps_set (i := 3) sc__law_wrong.nd rfl (Or.inl rfl) (pe_lst (pa_cons (pe_tup (pa_cons pe_str pa_nil)) (pa_cons (pe_tup (pa_cons pe_str (pa_cons pe_int (pa_cons pe_int pa_nil)))) (pa_cons (pe_tup (pa_cons pe_str (pa_cons pe_str pa_nil))) (pa_cons (pe_tup (pa_cons pe_str (pa_cons pe_int (pa_cons pe_int pa_nil)))) (pa_cons (pe_tup (pa_cons pe_str (pa_cons pe_str pa_nil))) pa_nil)))))))
      (pss_cons (ps_for PassesOwn.never rfl (pi_range1 rfl (free_range D) (pa_cons (pe_callB (call_lenK K) rfl (free_len D) PySem.boot_len (pa_cons (pv 0) pa_nil)) pa_nil)) (pg_name (i := 4) sc__law_wrong.nd rfl (Or.inl rfl))
      (pss_one (ps_if (pt_not (pt_val (pe_callH H__law_next (hr.mono (by omega)) rfl (glo__law_next D) passL (pa_cons (pv 3) (pa_cons (pv 2) (pa_cons (pe_ix (ix_listK K) (pv 0) (pv 4) (fun _ _ => rfl)) pa_nil))))))
      (pss_one (ps_ret (pv 4)))
      pss_nil)))
      (pss_cons (ps_if (PW.pt (pw_and (pt_cmpR op_eq (pe_callB (call_lenK K) rfl (free_len D) PySem.boot_len (pa_cons (pv 3) pa_nil)) pe_int (nomark _)) (pw_and (pt_cmpR op_eq (pe_ix (ix_tupK K) (pe_ix (ix_listK K) (pv 3) pe_int (fun _ _ => rfl)) pe_int (fun _ _ => rfl)) pe_str (nomark _)) (pw_and1 (pt_cmpR op_eq (pe_ix (ix_tupK K) (pe_ix (ix_listK K) (pv 3) pe_int (fun _ _ => rfl)) pe_int (fun _ _ => rfl)) pe_str (nomark _))))))
      (pss_one (ps_ret pe_non))
      pss_nil)
      (pss_one (ps_ret (pe_callB (call_lenK K) rfl (free_len D) PySem.boot_len (pa_cons (pv 0) pa_nil)))))))), ?_⟩
    obtain ⟨wl, rfl, hwl⟩ := rv
    -- the scope and the stack
    refine seq_cut (fun σ' H' => ∃ I' C N E, σ' = [some (.ref wl), some (.int (U : Int)), some (.ref C), none, none] ∧ Gr [] I H I' H' ∧ H C = none ∧ H N = none ∧ C ≠ N ∧ I' C = none ∧ I' N = none ∧ H' C = some (.dK (scD N E 3 U)) ∧ H' N = some (.lst []) ∧ I' E = some (.tup [])) (fun nx q => ?_) ?_
    · refine fun C hC => ?_
      have g1 := Gr.tmp (ms := []) (o := .dK []) s0 hC
      refine ⟨(by show 0 ≤ sizeLine; decide), fun N hN => ?_⟩
      have g2 := g1.trans (Gr.tmp (ms := []) (o := .lst []) g1.ih hN)
      refine ⟨(by show 0 ≤ sizeLine; decide), fun E hE => ?_⟩
      have g3 := g2.trans (Gr.new (ms := []) (o := .tup []) g2.ih hE)
      have nCN : C ≠ N := ne_of_none upd_same hN
      have nCE : C ≠ E := ne_of_none (sNew hN _ _ upd_same) hE
      have nNE : N ≠ E := ne_of_none upd_same hE
      have hN0 : H N = none := g1.none hN
      have iC : (upd I E (.tup [])) C = none := by rw [upd_ne nCE]; exact s0.free hC
      have iN : (upd I E (.tup [])) N = none := by rw [upd_ne nNE]; exact s0.free hN0
      refine ⟨_, rfl, ?_, scD N E 3 U, rfl, (by show 4 ≤ 15; decide), ?_⟩
      · exact sNew hE _ _ (sNew hN _ _ upd_same)
      · have g4 : Gr [C] _ _ _ _ := Gr.mut (o := .dK (mergeK [] (scD N E 3 U))) g3.ih iC (by simp)
        refine q _ _ ⟨_, C, N, E, rfl, (g3.nil.trans g4).drop hC, hC, hN0, nCN, iC, iN, by rw [upd_same]; rfl, ?_, upd_same⟩
        rw [upd_ne nCN.symm]; exact sNew hE _ _ upd_same
    rintro σ' H1 ⟨I1, C, N, E, rfl, g1, hC0, hN0, nCN, iC, iN, hC, hN, hE⟩
    (try dsimp only)
    refine seq_cut (fun σ' H' => ∃ I' S, σ' = [some (.ref wl), some (.int (U : Int)), some (.ref C), some (.ref S), none] ∧ Gr [] I1 H1 I' H' ∧ H1 S = none ∧ MsR I' H' S C N (M0 U) 5) (fun nx q => ?_) ?_
    · refine ⟨(by show 1 ≤ sizeLine; decide), fun t1 ht1 => ?_⟩
      have g2 := Gr.new (ms := []) (o := .tup [.str "head"]) g1.ih ht1
      refine ⟨(by show 3 ≤ sizeLine; decide), fun t2 ht2 => ?_⟩
      have g3 := Gr.new (ms := []) (o := .tup [.str "number", .int 1, .int 4]) g2.ih ht2
      refine ⟨(by show 2 ≤ sizeLine; decide), fun t3 ht3 => ?_⟩
      have g4 := Gr.new (ms := []) (o := .tup [.str "word", .str "answers"]) g3.ih ht3
      refine ⟨(by show 3 ≤ sizeLine; decide), fun t4 ht4 => ?_⟩
      have g5 := Gr.new (ms := []) (o := .tup [.str "number", .int 1, .int 4]) g4.ih ht4
      refine ⟨(by show 2 ≤ sizeLine; decide), fun t5 ht5 => ?_⟩
      have g6 := Gr.new (ms := []) (o := .tup [.str "word", .str "buttons"]) g5.ih ht5
      refine ⟨(by show 5 ≤ sizeLine; decide), fun S hS => ?_⟩
      have g7 := Gr.tmp (ms := []) (o := .lst [.ref t1, .ref t2, .ref t3, .ref t4, .ref t5]) g6.ih hS
      have G := (g2.trans g3).trans ((g4.trans g5).trans (g6.trans g7))
      have e6 := g6.ii
      have e5 := g5.ii.trans e6
      have e4 := g4.ii.trans e5
      have e3 := g3.ii.trans e4
      have hC6 := G.at hC (by simp)
      have hN6 := G.at hN (by simp)
      have G6 := (g2.trans g3).trans ((g4.trans g5).trans g6)
      have nSC : S ≠ C := fun z => by have := G6.at hC (by simp); rw [← z, hS] at this; cases this
      have nSN : S ≠ N := fun z => by have := G6.at hN (by simp); rw [← z, hS] at this; cases this
      refine q _ _ ⟨_, S, rfl, G, G6.none hS, ⟨G.ih, g6.ih.free hS, G.out iC hC, G.out iN hN, nSC, nSN, nCN, ⟨[.ref t5, .ref t4, .ref t3, .ref t2, .ref t1], upd_same, ?_⟩, ⟨E, hC6, G.ii _ _ hE⟩, hN6, by simp [M0], by simp [M0], by decide⟩⟩
      exact .cons ⟨t5, rfl, upd_same⟩ (.cons ⟨t4, rfl, e6 _ _ upd_same, by decide⟩ (.cons ⟨t3, rfl, e5 _ _ upd_same⟩ (.cons ⟨t2, rfl, e4 _ _ upd_same, by decide⟩ (.cons ⟨t1, rfl, e3 _ _ upd_same⟩ .nil))))
    rintro σ' H2 ⟨I2, S, rfl, g2, hS0, ms2⟩
    (try dsimp only)
    have hwl2 := g2.ii _ _ (g1.ii _ _ hwl)
    have fin : ∀ I' H', Gr [S, C, N] I2 H2 I' H' → Gr [] I H I' H' := fun I' H' g =>
      (((g1.trans g2).mono (ns := [S, C, N]) fun _ z => nomatch z).trans g |>.drop (g1.none hS0) |>.drop hC0 |>.drop hN0)
    refine seq_cut (fun σ' H' => ∃ I' x4 M B, σ' = [some (.ref wl), some (.int (U : Int)), some (.ref C), some (.ref S), x4] ∧ Gr [S, C, N] I2 H2 I' H' ∧ MsR I' H' S C N M B ∧ botOk M.st ∧ lp [] ws.length M = wrong ws ar) (fun nx q => ?_) ?_
    · have hwH := ms2.s _ _ hwl2
      refine ⟨_, rfl, _, ws.length, rfl, .inl ⟨_, SqL.of hwH, by rw [List.length_map]⟩, _, rfl, by omega, by have := wb.n; omega, ?_⟩
      refine for_rangeP (n := ws.length) (fun σ' H' => ∃ I' x4 M B, σ' = [some (.ref wl), some (.int (U : Int)), some (.ref C), some (.ref S), x4] ∧ Gr [S, C, N] I2 H2 I' H' ∧ MsR I' H' S C N M B ∧ botOk M.st ∧ lp [] ws.length M = wrong ws ar)
        (fun i σ' H' => ∃ I' x4 M, σ' = [some (.ref wl), some (.int (U : Int)), some (.ref C), some (.ref S), x4] ∧ Gr [S, C, N] I2 H2 I' H' ∧ MsR I' H' S C N M (5 + 3 * i) ∧ botOk M.st ∧ lp (ws.drop i) i M = wrong ws ar)
        ⟨I2, none, M0 U, rfl, Gr.refl ms2.s, ms2, ⟨.head, rfl, .inl rfl⟩, by rw [List.drop_zero, hU]; rfl⟩ (fun nx2 q2 i σ' H3 hi h => ?_) (fun σ' H' h => ?_) q
      rotate_left
      · obtain ⟨I', x4, M, rfl, g, ms, hb, e⟩ := h
        refine ⟨I', x4, M, _, rfl, g, ms, hb, ?_⟩
        rw [List.drop_eq_nil_of_le (Nat.le_refl _)] at e; exact e
      obtain ⟨I3, x4, M, rfl, g3, ms3, hb, e⟩ := h
      have ed : ws.drop i = ws[i] :: ws.drop (i + 1) := List.drop_eq_getElem_cons hi
      have hwV : (ws.map V.str)[i]? = some (.str ws[i]) := by rw [List.getElem?_map, List.getElem?_eq_getElem hi]; rfl
      have hw3 := ms3.s _ _ (g3.ii _ _ hwl2)
      have bn := wb.n
      refine ⟨_, rfl, _, rfl, _, rfl, _, rfl, wl, _, _, _, rfl, rfl, SqL.of hw3, at_of (j := i) (by omega) hwV, ?_⟩
      rw [ed, lp] at e
      refine ⟨I3, S, C, N, ws[i], 5 + 3 * i, M, rfl, ms3, ?_, wb.z _ (List.getElem_mem hi), by omega, ⟨fun M' eM I4 H4 g4 ms4 => ?_, fun eM I4 H4 g4 => ?_⟩⟩
      · obtain ⟨x, hx, _⟩ := hb
        rintro z; rw [z] at hx; simp at hx
      · rw [eM] at e
        refine ⟨_, rfl, ?_⟩
        refine ifF rfl ⟨I4, _, M', rfl, g3.trans g4, ?_, bot_step eM hb, e⟩
        exact ms4
      · rw [eM] at e
        refine ⟨_, rfl, ?_⟩
        refine ifT rfl ⟨_, rfl, ?_⟩
        have := kk _ _ (fin _ _ (g3.trans g4))
        rw [← e] at this
        have ez : (0 : Int) + (i : Int) = (i : Int) := by omega
        rw [ez]; exact this
    rintro σ' H3 ⟨I3, x4, M, B, rfl, g3, ms3, hb, e⟩
    (try dsimp only)
    have k3 := kk _ _ (fin _ _ g3)
    rw [← e, lp] at k3
    obtain ⟨us, hS3, a3⟩ := ms3.hS
    have hw3 := ms3.s _ _ (g3.ii _ _ hwl2)
    -- not at the end
    have no : accM M = false → (Q (.int (ws.length : Int)) H3) := fun h => by
      rw [if_neg (by rw [h]; exact Bool.false_ne_true)] at k3; exact k3
    refine seq_cut (fun σ' H' => σ' = [some (.ref wl), some (.int (U : Int)), some (.ref C), some (.ref S), x4] ∧ H' = H3 ∧ accM M = false) (fun nx q => ?_) ?_
    · refine ⟨_, rfl, _, M.st.length, rfl, .inl ⟨_, SqL.of hS3, by rw [List.length_reverse, a3.len]⟩, rfl, _, rfl, ?_⟩
      obtain ⟨st, sc⟩ := M
      have dec1 : decide (V.int (st.length : Int) = V.int 1) = decide (st.length = 1) := by
        by_cases h : st.length = 1
        · rw [h]; rfl
        · rw [decide_eq_false h, decide_eq_false (fun z => h (by injection z with z; omega))]
      show (if decide (V.int (st.length : Int) = V.int 1) = true then _ else _)
      rw [dec1]
      cases st with
      | nil => obtain ⟨x, hx, _⟩ := hb; cases hx
      | cons e1 rest =>
        cases rest with
        | cons e2 r2 =>
          refine ifF (decide_eq_false (by simp)) (ifF rfl (q _ _ ⟨rfl, rfl, ?_⟩))
          cases e1 <;> first | rfl | (rename_i r k; cases k <;> rfl)
        | nil =>
          cases a3 with
          | cons hu ht =>
            cases ht
            rename_i u
            have hS4 : H3 S = some (.lst [u]) := hS3
            refine ifT (decide_eq_true rfl) ?_
            obtain ⟨x, hx, hbx⟩ := hb
            cases hx
            rcases hbx with rfl | ⟨r, rfl⟩ | ⟨r, rfl⟩
            · obtain ⟨a, rfl, hI⟩ := hu
              have ha := ms3.s _ _ hI
              exact ⟨_, rfl, S, _, _, _, rfl, rfl, SqL.of hS4, at_of (j := 0) rfl rfl, a, _, _, _, rfl, rfl, SqT.of ha, at_of (j := 0) rfl rfl, rfl, _, rfl, ifF (by rw [strEq]; decide +kernel) (ifF rfl (q _ _ ⟨rfl, rfl, rfl⟩))⟩
            · obtain ⟨a, rfl, hI⟩ := hu
              have ha := ms3.s _ _ hI
              refine ⟨_, rfl, S, _, _, _, rfl, rfl, SqL.of hS4, at_of (j := 0) rfl rfl, a, _, _, _, rfl, rfl, SqT.of ha, at_of (j := 0) rfl rfl, rfl, _, rfl, ifT (by rw [strEq]; decide +kernel) ?_⟩
              exact ⟨_, rfl, S, _, _, _, rfl, rfl, SqL.of hS4, at_of (j := 0) rfl rfl, a, _, _, _, rfl, rfl, SqT.of ha, at_of (j := 2) rfl rfl, rfl, _, rfl, ifF (by rw [strEq]; decide +kernel) (q _ _ ⟨rfl, rfl, rfl⟩)⟩
            · obtain ⟨a, rfl, hI⟩ := hu
              have ha := ms3.s _ _ hI
              refine ⟨_, rfl, S, _, _, _, rfl, rfl, SqL.of hS4, at_of (j := 0) rfl rfl, a, _, _, _, rfl, rfl, SqT.of ha, at_of (j := 0) rfl rfl, rfl, _, rfl, ifT (by rw [strEq]; decide +kernel) ?_⟩
              refine ⟨_, rfl, S, _, _, _, rfl, rfl, SqL.of hS4, at_of (j := 0) rfl rfl, a, _, _, _, rfl, rfl, SqT.of ha, at_of (j := 2) rfl rfl, rfl, _, rfl, ifT (by rw [strEq]; decide +kernel) ?_⟩
              rw [if_pos (show accM ⟨[En.blk r Kd.top], sc⟩ = true from rfl)] at k3
              exact k3
    rintro σ' H4 ⟨rfl, rfl, hacc⟩
    exact ⟨_, rfl, _, ws.length, rfl, .inl ⟨_, SqL.of hw3, by rw [List.length_map]⟩, no hacc⟩
end
end K

set_option Elab.async false
set_option linter.all false
set_option maxRecDepth 100000
set_option maxHeartbeats 4000000
namespace Rd
open PySem PyProof.Rows TL Tk L2
/-- a word without a blank, of plain signs, of at most L of them -/
structure Wd (L : Nat) (w : Str) : Prop where
  c : ∀ c ∈ tl w, c < 128 ∧ c ≠ 32
  l : (tl w).length ≤ L
def wdB (L : Nat) (w : Str) : Bool := (tl w).all (fun c => decide (c < 128) && decide (c ≠ 32)) && decide ((tl w).length ≤ L)
theorem wd_of {L : Nat} {w : Str} (h : wdB L w = true) : Wd L w := by
  unfold wdB at h
  simp only [Bool.and_eq_true, List.all_eq_true, decide_eq_true_eq] at h
  exact ⟨fun c hc => h.1 c hc, h.2⟩
theorem Wd.more {L L' : Nat} {w : Str} (h : Wd L w) (hl : L ≤ L') : Wd L' w := ⟨h.c, Nat.le_trans h.l hl⟩
theorem tl_app (a b : Str) : tl (a ++ b) = tl a ++ tl b := by
  show (a.cps ++ b.cps).toList = _
  rw [Array.toList_append]
theorem tl_cut {z : Str} {lo hi : Option Int} : tl (cutS z lo hi) = ((tl z).drop (HT.sIx z.length 0 lo)).take (HT.sIx z.length z.length hi - HT.sIx z.length 0 lo) := by
  unfold cutS; rfl
theorem cut_mem {z : Str} {lo hi : Option Int} {c : Nat} (h : c ∈ tl (cutS z lo hi)) : c ∈ tl z := by
  rw [tl_cut] at h
  exact List.mem_of_mem_drop (List.mem_of_mem_take h)
theorem len_tl' (z : Str) : (tl z).length = z.length := by rw [← len_tl]
theorem cut_len_lo {z : Str} {a : Nat} (h : a ≤ z.length) : (tl (cutS z none (some (a : Int)))).length = a := by
  rw [tl_cut, HT.sIx_none, HT.sIx_nat, List.drop_zero, List.length_take, len_tl']; omega
theorem cut_len_hi {z : Str} {a : Nat} : (tl (cutS z (some (a : Int)) none)).length = z.length - a := by
  rw [tl_cut, HT.sIx_none, HT.sIx_nat, List.length_take, List.length_drop, len_tl']; omega
theorem cut_len_1 {z : Str} {a : Nat} : (tl (cutS z (some (a : Int)) (some ((a + 1 : Nat) : Int)))).length ≤ 1 := by
  rw [tl_cut, HT.sIx_nat, HT.sIx_nat, List.length_take]; omega
theorem tl_upper {z : Str} (h : ∀ c ∈ tl z, c < 128) : tl (Txt.upper z) = (tl z).map PyProof.Rows.up1 := by
  rw [PyProof.Rows.upper_ascii (x := z) h]
  show (z.cps.map PyProof.Rows.up1).toList = _
  rw [Array.toList_map]
theorem up1_ok {c : Nat} (h : c < 128 ∧ c ≠ 32) : PyProof.Rows.up1 c < 128 ∧ PyProof.Rows.up1 c ≠ 32 := by
  unfold PyProof.Rows.up1; split <;> omega
theorem wd_upper {L : Nat} {z : Str} (h : Wd L z) : Wd L (Txt.upper z) := by
  have e := tl_upper fun c hc => (h.c c hc).1
  refine ⟨fun c hc => ?_, by rw [e, List.length_map]; exact h.l⟩
  rw [e] at hc
  obtain ⟨d, hd, rfl⟩ := List.mem_map.mp hc
  exact up1_ok (h.c d hd)
theorem wd_app {L A B : Nat} {a b : Str} (ha : Wd A a) (hb : Wd B b) (h : (tl a).length + (tl b).length ≤ L) : Wd L (a ++ b) := by
  refine ⟨fun c hc => ?_, by rw [tl_app, List.length_append]; exact h⟩
  rw [tl_app] at hc
  exact (List.mem_append.mp hc).elim (ha.c c) (hb.c c)
theorem wd_cut {L : Nat} {z : Str} {lo hi : Option Int} (h : Wd L z) : Wd L (cutS z lo hi) :=
  ⟨fun c hc => h.c c (cut_mem hc), by rw [len_tl']; have q := h.l; rw [len_tl'] at q; exact Nat.le_trans (cutS_length z lo hi) q⟩
def Wds (L : Nat) (ws : List Str) : Prop := ∀ w ∈ ws, Wd L w
def menuA : List Str := ["start", "press", "var", "set", "draw", "use", "say", "if", "else", "end", "press", "mod", "+", "<", "=", "a", "buttons"]
def menuB : List Str := ["x", "y", "0", "1", "2", "4", "5", "6", "7", "12", "13", "65535", "65536", "", "?", "01", "00", "+1", "1_0", "-0", "x1", "X"]
def menuC : List Str := ["abcdefgh", "abcdefghi", "ended", "100000"]
theorem menu_ok : ∀ w ∈ menuA ++ menuB ++ menuC, Wd 9 w := fun w hw => wd_of (by
  have : (menuA ++ menuB ++ menuC).all (wdB 9) = true := by decide +kernel
  exact List.all_eq_true.mp this w hw)
def sgnS : Str := "!#$&()*+,-./0123456789:;<=>?\x40ABXYZ[]^_{|}~abxyz"
theorem sgnS_ok : Wd 60 sgnS := wd_of (by decide +kernel)
end Rd
namespace K
open PySem PySem.Spec PyProof.Rows L2 TL Tk Hd Rd
section
variable {P : Program} {w : World} {K : PySem.W.Frag} {mg : Str → Option Value} {base : Heap}
def spMenu : Sp := fun vs H Q _ => ∃ (I : Hp) (p : Addr), vs = [.ref p] ∧ Same I H ∧ PoolOk I H p ∧ ∀ I' H' w, Gr [p] I H I' H' → PoolOk I' H' p → Wd 9 w → Q (.str w) H'
theorem sc__law_menu : FnScope ["pool", "words"] ["pool"] (defScope s__law_menu) := ⟨rfl, rfl, rfl, by decide +kernel, rfl, by decide +kernel, by decide +kernel⟩
theorem ok_menu (D : Dt K mg) : Has P w K mg base 2 (He.ga K "_law_menu") ["pool"] [] (spMenu) := by
  obtain ⟨fd, F⟩ := fd__law_menu D
  have H__law_draw := ok_draw (P := P) (w := w) (base := base) D
  refine hasN F (F.bindsN fun _ _ _ _ _ _ us hl => match us, hl with | [_], _ => rfl) sc__law_menu (fun vs H Q E h => ?_) (fun cdv A outer s H vs Q E hr h => ?_)
  · obtain ⟨I, p, rfl, _⟩ := h; rfl
  · obtain ⟨I, p, rfl, s0, po, kk⟩ := h
    refine ⟨_, (pss_cons (ps_set (i := 1) sc__law_menu.nd rfl (Or.inl rfl) (pe_lst (pa_cons pe_str (pa_cons pe_str (pa_cons pe_str (pa_cons pe_str (pa_cons pe_str (pa_cons pe_str (pa_cons pe_str (pa_cons pe_str (pa_cons pe_str (pa_cons pe_str (pa_cons pe_str (pa_cons pe_str (pa_cons pe_str (pa_cons pe_str (pa_cons pe_str (pa_cons pe_str (pa_cons pe_str pa_nil)))))))))))))))))))
      (pss_cons (ps_set (i := 1) sc__law_menu.nd rfl (Or.inl rfl) (pe_op op_cat (pv 1) (pe_lst (pa_cons pe_str (pa_cons pe_str (pa_cons pe_str (pa_cons pe_str (pa_cons pe_str (pa_cons pe_str (pa_cons pe_str (pa_cons pe_str (pa_cons pe_str (pa_cons pe_str (pa_cons pe_str (pa_cons pe_str (pa_cons pe_str (pa_cons pe_str (pa_cons pe_str (pa_cons pe_str (pa_cons pe_str (pa_cons pe_str (pa_cons pe_str (pa_cons pe_str (pa_cons pe_str (pa_cons pe_str pa_nil)))))))))))))))))))))))))
      (pss_cons (ps_set (i := 1) sc__law_menu.nd rfl (Or.inl rfl) (pe_op op_cat (pv 1) (pe_lst (pa_cons pe_str (pa_cons pe_str (pa_cons pe_str (pa_cons pe_str pa_nil)))))))
      (pss_one (ps_ret (pe_ix (ix_listK K) (pv 1) (pe_callH H__law_draw (hr.mono (by omega)) rfl (glo__law_draw D) passL (pa_cons (pv 0) (pa_cons (pe_callB (call_lenK K) rfl (free_len D) PySem.boot_len (pa_cons (pv 1) pa_nil)) pa_nil))) (fun _ _ => rfl))))))), ?_⟩
    refine ⟨(by show 17 ≤ sizeLine; decide), fun l1 hl1 => ?_⟩
    have g1 := Gr.tmp (ms := []) (o := .lst (menuA.map V.str)) s0 hl1
    refine ⟨_, rfl, (by show 22 ≤ sizeLine; decide), fun l2 hl2 => ?_⟩
    have g2 := g1.trans (Gr.tmp (ms := []) (o := .lst (menuB.map V.str)) g1.ih hl2)
    refine ⟨l1, l2, menuA.map V.str, menuB.map V.str, rfl, rfl, sNew hl2 _ _ upd_same, upd_same, (by show 17 + 22 ≤ sizeLine; decide), fun l3 hl3 => ?_⟩
    have g3 := g2.trans (Gr.tmp (ms := []) (o := .lst (menuA.map V.str ++ menuB.map V.str)) g2.ih hl3)
    refine ⟨_, rfl, (by show 4 ≤ sizeLine; decide), fun l4 hl4 => ?_⟩
    have g4 := g3.trans (Gr.tmp (ms := []) (o := .lst (menuC.map V.str)) g3.ih hl4)
    refine ⟨l3, l4, menuA.map V.str ++ menuB.map V.str, menuC.map V.str, rfl, rfl, sNew hl4 _ _ upd_same, upd_same, (by show 39 + 4 ≤ sizeLine; decide), fun l5 hl5 => ?_⟩
    have em : menuA.map V.str ++ menuB.map V.str ++ menuC.map V.str = (menuA ++ menuB ++ menuC).map V.str := by rw [List.map_append, List.map_append]
    rw [em]
    have g5 := g4.trans (Gr.tmp (ms := []) (o := .lst ((menuA ++ menuB ++ menuC).map V.str)) g4.ih hl5)
    have po5 := po.up g5 (by simp)
    have npl := pool_ne (po.up g4 (by simp)) hl5
    (try dsimp only)
    refine ⟨_, rfl, _, rfl, _, rfl, _, 43, rfl, .inl ⟨_, SqL.of upd_same, rfl⟩, I, p, _, rfl, g5.ih, po5, by decide, by decide, fun v H6 a0 a1 g6 po6 => ?_⟩
    obtain ⟨m, rfl⟩ := Int.eq_ofNat_of_zero_le a0
    have hm : m < (menuA ++ menuB ++ menuC).length := by show m < 43; omega
    refine ⟨l5, _, _, .str ((menuA ++ menuB ++ menuC)[m]'hm), rfl, rfl, SqL.of (g6.at upd_same (by simpa using npl.symm)), at_of (j := m) rfl (by rw [List.getElem?_map, List.getElem?_eq_getElem hm]; rfl), ?_⟩
    exact kk _ _ _ (g5.nil.trans g6) po6 (menu_ok _ (List.getElem_mem hm))
end
end K

set_option Elab.async false
set_option linter.all false
set_option maxRecDepth 100000
set_option maxHeartbeats 4000000
namespace Rd
open PySem PyProof.Rows TL Tk L2
def cutW (ws : List Str) (lo hi : Option Int) : List Str := (ws.drop (HT.sIx ws.length 0 lo)).take (HT.sIx ws.length ws.length hi - HT.sIx ws.length 0 lo)
theorem cutW_map {ws : List Str} {lo hi : Option Int} : cutV (ws.map V.str) lo hi = (cutW ws lo hi).map V.str := by
  unfold cutV cutW
  rw [List.length_map, ← List.map_drop, ← List.map_take]
theorem cutW_wds {L : Nat} {ws : List Str} {lo hi : Option Int} (h : Wds L ws) : Wds L (cutW ws lo hi) := fun w hw => h w (List.mem_of_mem_drop (List.mem_of_mem_take hw))
theorem cutW_le {ws : List Str} {lo hi : Option Int} : (cutW ws lo hi).length ≤ ws.length := by
  unfold cutW; rw [List.length_take, List.length_drop]; omega
theorem cutW_lo {ws : List Str} {a : Nat} {x : Int} (h : x = (a : Int)) : (cutW ws none (some x)).length ≤ a := by
  subst h; unfold cutW; rw [HT.sIx_none, HT.sIx_nat, List.length_take]; omega
theorem cutW_hi {ws : List Str} {a : Nat} {x : Int} (h : x = (a : Int)) : (cutW ws (some x) none).length = ws.length - a := by
  subst h; unfold cutW; rw [HT.sIx_none, HT.sIx_nat, List.length_take, List.length_drop]; omega
theorem cutW_mid {ws : List Str} {a b : Nat} {x y : Int} (hx : x = (a : Int)) (hy : y = (b : Int)) : (cutW ws (some x) (some y)).length ≤ b - a := by
  subst hx hy; unfold cutW; rw [HT.sIx_nat, HT.sIx_nat, List.length_take, List.length_drop]; omega
theorem Wds.more {L L' : Nat} {ws : List Str} (h : Wds L ws) (hl : L ≤ L') : Wds L' ws := fun w hw => (h w hw).more hl
theorem Wds.app {L : Nat} {a b : List Str} (h : Wds L a) (k : Wds L b) : Wds L (a ++ b) := fun w hw => (List.mem_append.mp hw).elim (h w) (k w)
theorem Wds.one {L : Nat} {w : Str} (h : Wd L w) : Wds L [w] := fun x hx => by simp at hx; subst hx; exact h
end Rd
namespace K
open PySem PySem.Spec PyProof.Rows L2 TL Tk Hd Rd
section
variable {P : Program} {w : World} {K : PySem.W.Frag} {mg : Str → Option Value} {base : Heap}
section
variable {I H : Hp} {a b : Addr} {xs ys : List Str} {Q : VK}
theorem slL_of {lo hi : Option Int} (s : Same I H) (ha : I a = some (.lst (xs.map V.str))) (k : ∀ I' H' c, Gr [] I H I' H' → I' c = some (.lst ((cutW xs lo hi).map V.str)) → Q (.ref c) H') : rSlL K (.ref a) lo hi H Q :=
  ⟨a, _, rfl, SqL.of (s _ _ ha), fun p hp => k _ _ p (Gr.new s hp) (by rw [upd_same, cutW_map])⟩
theorem catL_of (s : Same I H) (ha : I a = some (.lst (xs.map V.str))) (hb : I b = some (.lst (ys.map V.str))) (hl : xs.length + ys.length ≤ 10000000) (k : ∀ I' H' c, Gr [] I H I' H' → I' c = some (.lst ((xs ++ ys).map V.str)) → Q (.ref c) H') : rCat (.ref a) (.ref b) H Q :=
  ⟨a, b, _, _, rfl, rfl, s _ _ ha, s _ _ hb, Nat.le_trans (by rw [List.length_map, List.length_map]; exact hl) (by decide), fun p hp => k _ _ p (Gr.new s hp) (by rw [upd_same, List.map_append])⟩
end
theorem line3 {n : Nat} (h : n ≤ 3000) : n ≤ sizeLine := Nat.le_trans h (by decide)
def spSpoilt : Sp := fun vs H Q _ => ∃ (I : Hp) (p : Addr) (v : V) (ws : List Str) (L : Nat), vs = [.ref p, v] ∧ Same I H ∧ PoolOk I H p ∧ iSs I v ws ∧ Wds L ws ∧ L ≤ 1000 ∧ ws.length ≤ 900000 ∧
  ∀ I' H' v' ws', Gr [p] I H I' H' → PoolOk I' H' p → iSs I' v' ws' → Wds (L + 1) ws' → ws'.length ≤ ws.length + 3 → Q v' H'
theorem sc__law_spoilt : FnScope ["pool", "words", "place", "word", "at", "way", "signs", "sign"] ["pool", "words"] (defScope s__law_spoilt) := ⟨rfl, rfl, rfl, by decide +kernel, rfl, by decide +kernel, by decide +kernel⟩
theorem ok_spoilt (D : Dt K mg) : Has P w K mg base 2 (He.ga K "_law_spoilt") ["pool", "words"] [] (spSpoilt) := by
  obtain ⟨fd, F⟩ := fd__law_spoilt D
  have H__law_draw := ok_draw (P := P) (w := w) (base := base) D
  refine hasN F (F.bindsN fun _ _ _ _ _ _ us hl => match us, hl with | [_, _], _ => rfl) sc__law_spoilt (fun vs H Q E h => ?_) (fun cdv A outer s H vs Q E hr h => ?_)
  · obtain ⟨I, p, v, ws, L, rfl, _⟩ := h; rfl
  · obtain ⟨I, p, v, ws, L, rfl, s0, po, rv, hw, hL, hn, kk⟩ := h
    refine ⟨_, (pss_cons (ps_if (pt_cmpR op_eq (pe_callB (call_lenK K) rfl (free_len D) PySem.boot_len (pa_cons (pv 1) pa_nil)) pe_int (nomark _))
      (pss_one (ps_ret (pv 1)))
      pss_nil)
      (pss_cons (ps_set (i := 2) sc__law_spoilt.nd rfl (Or.inl rfl) (pe_callH H__law_draw (hr.mono (by omega)) rfl (glo__law_draw D) passL (pa_cons (pv 0) (pa_cons (pe_callB (call_lenK K) rfl (free_len D) PySem.boot_len (pa_cons (pv 1) pa_nil)) pa_nil))))
      (pss_cons (ps_set (i := 3) sc__law_spoilt.nd rfl (Or.inl rfl) (pe_ix (ix_listK K) (pv 1) (pv 2) (fun _ _ => rfl)))
      (pss_cons (ps_set (i := 4) sc__law_spoilt.nd rfl (Or.inl rfl) (pe_callH H__law_draw (hr.mono (by omega)) rfl (glo__law_draw D) passL (pa_cons (pv 0) (pa_cons (pe_op op_add (pe_callB (call_lenK K) rfl (free_len D) PySem.boot_len (pa_cons (pv 3) pa_nil)) pe_int) pa_nil))))
      (pss_cons (ps_set (i := 5) sc__law_spoilt.nd rfl (Or.inl rfl) (pe_callH H__law_draw (hr.mono (by omega)) rfl (glo__law_draw D) passL (pa_cons (pv 0) (pa_cons pe_int pa_nil))))
      (pss_cons (ps_if (pt_cmpR op_eq (pv 5) pe_int (nomark _))
      (pss_one (ps_set (i := 3) sc__law_spoilt.nd rfl (Or.inl rfl) (pe_bm0 PySem.F.plainAttrs_str PySem.F.slot_str_upper PySem.F.type_str_upper mt_upper (pv 3))))
      (pss_one (ps_if (pt_cmpR op_eq (pv 5) pe_int (nomark _))
      (pss_one (ps_set (i := 3) sc__law_spoilt.nd rfl (Or.inl rfl) (pe_op op_add_str (pe_op op_add_str (pe_slice sl_str (pv 3) po_none (po_some (pv 4))) (pe_bm0 PySem.F.plainAttrs_str PySem.F.slot_str_upper PySem.F.type_str_upper mt_upper (pe_slice sl_str (pv 3) (po_some (pv 4)) (po_some (pe_op op_add (pv 4) pe_int))))) (pe_slice sl_str (pv 3) (po_some (pe_op op_add (pv 4) pe_int)) po_none))))
      (pss_cons (ps_set (i := 6) sc__law_spoilt.nd rfl (Or.inl rfl) pe_str)
      (pss_cons (ps_set (i := 7) sc__law_spoilt.nd rfl (Or.inl rfl) (pe_ix ix_str (pv 6) (pe_callH H__law_draw (hr.mono (by omega)) rfl (glo__law_draw D) passL (pa_cons (pv 0) (pa_cons (pe_callB (call_lenK K) rfl (free_len D) PySem.boot_len (pa_cons (pv 6) pa_nil)) pa_nil))) (fun _ _ => rfl)))
      (pss_one (ps_set (i := 3) sc__law_spoilt.nd rfl (Or.inl rfl) (pe_op op_add_str (pe_op op_add_str (pe_slice sl_str (pv 3) po_none (po_some (pv 4))) (pv 7)) (pe_slice sl_str (pv 3) (po_some (pe_op op_sub (pe_op op_add (pv 4) (pv 5)) pe_int)) po_none)))))))))
      (pss_one (ps_ret (pe_op op_cat (pe_op op_cat (pe_slice (sl_listK K) (pv 1) po_none (po_some (pv 2))) (pe_lst (pa_cons (pv 3) pa_nil))) (pe_slice (sl_listK K) (pv 1) (po_some (pe_op op_add (pv 2) pe_int)) po_none)))))))))), ?_⟩
    obtain ⟨wl, rfl, hwl⟩ := id rv
    have hwH := s0 _ _ hwl
    refine seq_cut (fun σ' H' => σ' = [some (.ref p), some (.ref wl), none, none, none, none, none, none] ∧ H' = H ∧ 0 < ws.length) (fun nx q => ?_) ?_
    · refine ⟨_, rfl, _, ws.length, rfl, .inl ⟨_, SqL.of hwH, by rw [List.length_map]⟩, rfl, _, rfl, ifD (fun c => ?_) (fun c => ?_)⟩
      · exact ⟨_, rfl, kk _ _ _ ws (Gr.refl s0) po rv (hw.more (by omega)) (by omega)⟩
      · refine q _ _ ⟨rfl, rfl, Nat.pos_of_ne_zero fun z => c (by rw [z]; rfl)⟩
    rintro σ' H ⟨rfl, rfl, hpos⟩
    (try dsimp only)
    refine ⟨_, rfl, _, rfl, _, ws.length, rfl, .inl ⟨_, SqL.of hwH, by rw [List.length_map]⟩, I, p, _, rfl, s0, po, by omega, by omega, fun v1 H1 a0 a1 g1 po1 => ?_⟩
    obtain ⟨pl, rfl⟩ := Int.eq_ofNat_of_zero_le a0
    have hpl : pl < ws.length := by omega
    have hwv : (ws.map V.str)[pl]? = some (.str ws[pl]) := by rw [List.getElem?_map, List.getElem?_eq_getElem hpl]; rfl
    have hwd := hw ws[pl] (List.getElem_mem hpl)
    have hwl0 := hwd.l
    rw [len_tl'] at hwl0
    (try dsimp only)
    refine ⟨_, rfl, _, rfl, wl, _, _, _, rfl, rfl, SqL.of (g1.ih _ _ hwl), at_of (j := pl) rfl hwv, ?_⟩
    (try dsimp only)
    generalize ws[pl] = wd0 at hwd hwl0
    have hszw : wd0.length ≤ sizeLine := Nat.le_trans (show wd0.length ≤ 1000 by omega) (by decide)
    refine ⟨_, rfl, _, rfl, _, wd0.length, rfl, ⟨hszw, rfl⟩, _, _, rfl, rfl, I, p, _, rfl, g1.ih, po1, by omega, by omega, fun v2 H2 b0 b1 g2 po2 => ?_⟩
    obtain ⟨at1, rfl⟩ := Int.eq_ofNat_of_zero_le b0
    have hat : at1 ≤ wd0.length := by omega
    (try dsimp only)
    refine ⟨_, rfl, I, p, 4, rfl, g2.ih, po2, by decide, by decide, fun v3 H3 d0 d1 g3 po3 => ?_⟩
    obtain ⟨way, rfl⟩ := Int.eq_ofNat_of_zero_le d0
    have hway : way < 4 := by omega
    (try dsimp only)
    refine seq_cut (fun σ' H' => ∃ w' x6 x7, σ' = [some (.ref p), some (.ref wl), some (.int (pl : Int)), some (.str w'), some (.int (at1 : Int)), some (.int (way : Int)), x6, x7] ∧ Gr [p] I H3 I H' ∧ PoolOk I H' p ∧ Wd (L + 1) w') (fun nx q => ?_) ?_
    · refine ⟨_, rfl, rfl, _, rfl, ifD (fun c => ?_) (fun c => ?_)⟩
      · refine ⟨_, rfl, rfl, _, rfl, rfl, Nat.le_trans hwl0 (by omega), ?_⟩
        exact q _ _ ⟨_, _, _, rfl, Gr.refl g3.ih, po3, (wd_upper hwd).more (by omega)⟩
      · refine ⟨_, rfl, rfl, _, rfl, ifD (fun c1 => ?_) (fun c1 => ?_)⟩
        · have eA : ((at1 : Int) + 1) = ((at1 + 1 : Nat) : Int) := by omega
          have l1 := cut_len_lo (z := wd0) (a := at1) hat
          have l2 := cut_len_1 (z := wd0) (a := at1)
          have l3 := cut_len_hi (z := wd0) (a := at1 + 1)
          have lu : (tl (Txt.upper (cutS wd0 (some (at1 : Int)) (some ((at1 + 1 : Nat) : Int))))).length = (tl (cutS wd0 (some (at1 : Int)) (some ((at1 + 1 : Nat) : Int)))).length := by
            rw [tl_upper fun c hc => (hwd.c c (cut_mem hc)).1, List.length_map]
          have W1 : Wd (L + 1) (cutS wd0 none (some (at1 : Int))) := wd_cut (hwd.more (by omega))
          have W2 : Wd (L + 1) (Txt.upper (cutS wd0 (some (at1 : Int)) (some ((at1 + 1 : Nat) : Int)))) := wd_upper (wd_cut (hwd.more (by omega)))
          have W3 : Wd (L + 1) (cutS wd0 (some ((at1 + 1 : Nat) : Int)) none) := wd_cut (hwd.more (by omega))
          have q1 := len_tl' (cutS wd0 none (some (at1 : Int)))
          have q2 := len_tl' (Txt.upper (cutS wd0 (some (at1 : Int)) (some ((at1 + 1 : Nat) : Int))))
          have q3 := len_tl' (cutS wd0 (some ((at1 + 1 : Nat) : Int)) none)
          have q4 := cutS_length wd0 (some (at1 : Int)) (some ((at1 + 1 : Nat) : Int))
          refine ⟨_, rfl, _, rfl, _, rfl, wd0, rfl, hszw, _, rfl, _, rfl, _, rfl, _, rfl, _, _, rfl, rfl, (at1 : Int) + 1, rfl, wd0, rfl, hszw, ?_⟩
          rw [eA]
          refine ⟨rfl, _, rfl, rfl, by omega, _, _, rfl, rfl, Nat.le_trans (by omega : _ ≤ 2000) (by decide), ?_⟩
          refine ⟨_, rfl, _, rfl, _, _, rfl, rfl, ((at1 + 1 : Nat) : Int), congrArg V.int eA, ?_⟩
          dsimp only [tNoPart]
          refine ⟨wd0, rfl, hszw, _, _, rfl, rfl, line3 (by rw [app_len]; omega), ?_⟩
          refine q _ _ ⟨_, _, _, rfl, Gr.refl g3.ih, po3, ?_⟩
          exact wd_app (wd_app (L := L + 1) W1 W2 (by omega)) W3 (by rw [tl_app, List.length_append]; omega)
        · have hw23 : 2 ≤ way := by
            have c : ¬ way = 0 := fun z => c (by rw [z]; rfl)
            have c1 : ¬ way = 1 := fun z => c1 (by rw [z]; rfl)
            omega
          have ls : sgnS.length ≤ sizeLine := Nat.le_trans (show sgnS.length ≤ 60 by rw [← len_tl']; exact sgnS_ok.l) (by decide)
          have lp0 : 0 < sgnS.length := by decide +kernel
          have lq : sgnS.length ≤ 60 := by rw [← len_tl']; exact sgnS_ok.l
          have hs : Str.ofString "!#$&()*+,-./0123456789:;<=>?\x40ABXYZ[]^_{|}~abxyz" = sgnS := by unfold sgnS; rfl
          refine seq_cut (fun σ' H' => σ' = [some (.ref p), some (.ref wl), some (.int (pl : Int)), some (.str wd0), some (.int (at1 : Int)), some (.int (way : Int)), some (.str sgnS), none] ∧ H' = H3) (fun nx2 q2 => q2 _ _ ⟨by rw [← hs]; rfl, rfl⟩) ?_
          rintro σ' H3 ⟨rfl, rfl⟩
          (try dsimp only)
          refine ⟨_, rfl, _, rfl, _, rfl, _, sgnS.length, rfl, ⟨ls, rfl⟩, I, p, _, rfl, g3.ih, po3, by omega, by omega, fun v5 H5 f0 f1 g5 po5 => ?_⟩
          obtain ⟨m, rfl⟩ := Int.eq_ofNat_of_zero_le f0
          have hm : m < (tl sgnS).length := by rw [len_tl']; omega
          refine ⟨sgnS, _, (tl sgnS)[m], rfl, rfl, ls, atI_nat (List.getElem?_eq_getElem hm), ?_⟩
          (try dsimp only)
          have Wc : Wd (L + 1) (⟨#[(tl sgnS)[m]]⟩ : Str) := ⟨fun c hc => by
            have hc : c ∈ [(tl sgnS)[m]] := hc
            simp only [List.mem_singleton] at hc
            subst hc
            exact sgnS_ok.c _ (List.getElem_mem hm), by show 1 ≤ L + 1; omega⟩
          have lc1 : (⟨#[(tl sgnS)[m]]⟩ : Str).length = 1 := rfl
          have eA : ((at1 : Int) + (way : Int) - 2) = ((at1 + (way - 2) : Nat) : Int) := by omega
          have l1 := cut_len_lo (z := wd0) (a := at1) hat
          have l3 := cut_len_hi (z := wd0) (a := at1 + (way - 2))
          have q1 := len_tl' (cutS wd0 none (some (at1 : Int)))
          have q3 := len_tl' (cutS wd0 (some ((at1 + (way - 2) : Nat) : Int)) none)
          have W1 : Wd (L + 1) (cutS wd0 none (some (at1 : Int))) := wd_cut (hwd.more (by omega))
          have W3 : Wd (L + 1) (cutS wd0 (some ((at1 + (way - 2) : Nat) : Int)) none) := wd_cut (hwd.more (by omega))
          refine ⟨_, rfl, _, rfl, _, rfl, wd0, rfl, hszw, _, rfl, _, _, rfl, rfl, Nat.le_trans (by rw [lc1]; omega : _ ≤ 2000) (by decide), ?_⟩
          refine ⟨_, rfl, _, rfl, _, rfl, _, _, rfl, rfl, _, _, rfl, rfl, ((at1 + (way - 2) : Nat) : Int), congrArg V.int eA, ?_⟩
          dsimp only [tNoPart]
          refine ⟨wd0, rfl, hszw, _, _, rfl, rfl, line3 (by rw [app_len, lc1]; omega), ?_⟩
          refine q _ _ ⟨_, _, _, rfl, g5, po5, ?_⟩
          exact wd_app (wd_app (L := L + 1) W1 Wc (by rw [l1, len_tl', lc1]; omega)) W3 (by rw [tl_app, List.length_append, len_tl' ⟨#[(tl sgnS)[m]]⟩, lc1]; omega)
    rintro σ' H4 ⟨w', x6, x7, rfl, g4, po4, hw'⟩
    (try dsimp only)
    have G4 := (g1.trans g2).trans (g3.trans g4)
    have s4 := G4.ih
    refine ⟨_, rfl, _, rfl, _, rfl, ?_⟩
    refine slL_of s4 hwl fun I5 H5 c5 g5 hc5 => ?_
    refine ⟨_, rfl, (by show 1 ≤ sizeLine; decide), fun c6 hc6 => ?_⟩
    have g6 := Gr.new (ms := []) (o := .lst ([w'].map V.str)) g5.ih hc6
    refine catL_of g6.ih (g6.ii _ _ hc5) upd_same (by have := cutW_le (ws := ws) (lo := none) (hi := some (pl : Int)); simp; omega) fun I7 H7 c7 g7 hc7 => ?_
    refine ⟨_, rfl, _, rfl, _, _, rfl, rfl, (pl : Int) + 1, rfl, ?_⟩
    dsimp only [tNoPart]
    have s57 := g5.ii.trans (g6.ii.trans g7.ii)
    refine slL_of g7.ih (s57 _ _ hwl) fun I8 H8 c8 g8 hc8 => ?_
    have e1 := cutW_lo (ws := ws) (a := pl) (x := (pl : Int)) rfl
    have e2 := cutW_hi (ws := ws) (a := pl + 1) (x := (pl : Int) + 1) (by omega)
    refine catL_of g8.ih (g8.ii _ _ hc7) hc8 (by rw [List.length_append]; simp; omega) fun I9 H9 c9 g9 hc9 => ?_
    have GZ := (G4.trans g5.nil).trans ((g6.trans g7).trans (g8.trans g9)).nil
    refine kk I9 H9 _ _ GZ (po4.up (g5.trans ((g6.trans g7).trans (g8.trans g9))) (by simp)) ⟨c9, rfl, hc9⟩ ?_ (by simp only [List.length_append, List.length_singleton]; omega)
    exact (((cutW_wds hw).more (by omega)).app (Wds.one hw')).app ((cutW_wds hw).more (by omega))
end
end K

set_option Elab.async false
set_option linter.all false
set_option maxRecDepth 100000
set_option maxHeartbeats 4000000
namespace K
open PySem PySem.Spec PyProof.Rows L2 TL Tk Hd Rd
section
variable {P : Program} {w : World} {K : PySem.W.Frag} {mg : Str → Option Value} {base : Heap}
def spChanged : Sp := fun vs H Q _ => ∃ (I : Hp) (p : Addr) (v : V) (ws : List Str) (L : Nat), vs = [.ref p, v] ∧ Same I H ∧ PoolOk I H p ∧ iSs I v ws ∧ Wds L ws ∧ 9 ≤ L ∧ L ≤ 900 ∧ ws.length ≤ 800000 ∧
  ∀ I' H' v' ws', Gr [p] I H I' H' → PoolOk I' H' p → iSs I' v' ws' → Wds (L + 4) ws' → ws'.length ≤ ws.length + 12 → Q v' H'
theorem sc__law_changed : FnScope ["pool", "words", "k", "way", "place", "other"] ["pool", "words"] (defScope s__law_changed) := ⟨rfl, rfl, rfl, by decide +kernel, rfl, by decide +kernel, by decide +kernel⟩
theorem ok_changed (D : Dt K mg) : Has P w K mg base 3 (He.ga K "_law_changed") ["pool", "words"] [] (spChanged) := by
  obtain ⟨fd, F⟩ := fd__law_changed D
  have H__law_draw := ok_draw (P := P) (w := w) (base := base) D
  have H__law_menu := ok_menu (P := P) (w := w) (base := base) D
  have H__law_spoilt := ok_spoilt (P := P) (w := w) (base := base) D
  refine hasN F (F.bindsN fun _ _ _ _ _ _ us hl => match us, hl with | [_, _], _ => rfl) sc__law_changed (fun vs H Q E h => ?_) (fun cdv A outer s H vs Q E hr h => ?_)
  · obtain ⟨I, p, v, ws, L, rfl, _⟩ := h; rfl
  · obtain ⟨I, p, v, ws, L, rfl, s0, po, rv, hw, hL9, hL, hn, kk⟩ := h
    refine ⟨_, (pss_cons (ps_for PassesOwn.never rfl (pi_range1 rfl (free_range D) (pa_cons (pe_callH H__law_draw (hr.mono (by omega)) rfl (glo__law_draw D) passL (pa_cons (pv 0) (pa_cons pe_int pa_nil))) pa_nil)) (pg_name (i := 2) sc__law_changed.nd rfl (Or.inl rfl))
      (pss_cons (ps_set (i := 3) sc__law_changed.nd rfl (Or.inl rfl) (pe_callH H__law_draw (hr.mono (by omega)) rfl (glo__law_draw D) passL (pa_cons (pv 0) (pa_cons pe_int pa_nil))))
      (pss_cons (ps_set (i := 4) sc__law_changed.nd rfl (Or.inl rfl) (pe_callH H__law_draw (hr.mono (by omega)) rfl (glo__law_draw D) passL (pa_cons (pv 0) (pa_cons (pe_op op_add (pe_callB (call_lenK K) rfl (free_len D) PySem.boot_len (pa_cons (pv 1) pa_nil)) pe_int) pa_nil))))
      (pss_cons (ps_set (i := 5) sc__law_changed.nd rfl (Or.inl rfl) (pe_callH H__law_draw (hr.mono (by omega)) rfl (glo__law_draw D) passL (pa_cons (pv 0) (pa_cons (pe_op op_add (pe_callB (call_lenK K) rfl (free_len D) PySem.boot_len (pa_cons (pv 1) pa_nil)) pe_int) pa_nil))))
      (pss_one (ps_if (pt_cmpR op_eq (pv 3) pe_int (nomark _))
      (pss_one (ps_set (i := 1) sc__law_changed.nd rfl (Or.inl rfl) (pe_op op_cat (pe_slice (sl_listK K) (pv 1) po_none (po_some (pv 4))) (pe_slice (sl_listK K) (pv 1) (po_some (pe_op op_add (pv 4) pe_int)) po_none))))
      (pss_one (ps_if (pt_cmpR op_eq (pv 3) pe_int (nomark _))
      (pss_one (ps_set (i := 1) sc__law_changed.nd rfl (Or.inl rfl) (pe_op op_cat (pe_op op_cat (pe_slice (sl_listK K) (pv 1) po_none (po_some (pv 4))) (pe_lst (pa_cons (pe_callH H__law_menu (hr.mono (by omega)) rfl (glo__law_menu D) passL (pa_cons (pv 0) pa_nil)) pa_nil))) (pe_slice (sl_listK K) (pv 1) (po_some (pv 4)) po_none))))
      (pss_one (ps_if (pt_cmpR op_eq (pv 3) pe_int (nomark _))
      (pss_one (ps_set (i := 1) sc__law_changed.nd rfl (Or.inl rfl) (pe_op op_cat (pe_op op_cat (pe_slice (sl_listK K) (pv 1) po_none (po_some (pv 4))) (pe_lst (pa_cons (pe_callH H__law_menu (hr.mono (by omega)) rfl (glo__law_menu D) passL (pa_cons (pv 0) pa_nil)) pa_nil))) (pe_slice (sl_listK K) (pv 1) (po_some (pe_op op_add (pv 4) pe_int)) po_none))))
      (pss_one (ps_if (pt_cmpR op_eq (pv 3) pe_int (nomark _))
      (pss_one (ps_set (i := 1) sc__law_changed.nd rfl (Or.inl rfl) (pe_op op_cat (pe_op op_cat (pe_slice (sl_listK K) (pv 1) po_none (po_some (pv 4))) (pe_slice (sl_listK K) (pv 1) (po_some (pv 5)) (po_some (pe_op op_add (pv 5) pe_int)))) (pe_slice (sl_listK K) (pv 1) (po_some (pe_op op_add (pv 4) pe_int)) po_none))))
      (pss_one (ps_if (pt_cmpR op_eq (pv 3) pe_int (nomark _))
      (pss_one (ps_set (i := 1) sc__law_changed.nd rfl (Or.inl rfl) (pe_op op_cat (pe_op op_cat (pe_slice (sl_listK K) (pv 1) po_none (po_some (pv 4))) (pe_slice (sl_listK K) (pv 1) (po_some (pv 5)) (po_some (pe_op op_add (pv 5) pe_int)))) (pe_slice (sl_listK K) (pv 1) (po_some (pv 4)) po_none))))
      (pss_one (ps_if (pt_cmpR op_eq (pv 3) pe_int (nomark _))
      (pss_one (ps_set (i := 1) sc__law_changed.nd rfl (Or.inl rfl) (pe_op op_cat (pe_op op_cat (pe_op op_cat (pe_slice (sl_listK K) (pv 1) po_none (po_some (pv 4))) (pe_slice (sl_listK K) (pv 1) (po_some (pe_op op_add (pv 4) pe_int)) (po_some (pe_op op_add (pv 4) pe_int)))) (pe_slice (sl_listK K) (pv 1) (po_some (pv 4)) (po_some (pe_op op_add (pv 4) pe_int)))) (pe_slice (sl_listK K) (pv 1) (po_some (pe_op op_add (pv 4) pe_int)) po_none))))
      (pss_one (ps_set (i := 1) sc__law_changed.nd rfl (Or.inl rfl) (pe_callH H__law_spoilt (hr.mono (by omega)) rfl (glo__law_spoilt D) passL (pa_cons (pv 0) (pa_cons (pv 1) pa_nil)))))))))))))))))))))
      (pss_one (ps_ret (pv 1)))), ?_⟩
    refine seq_cut (fun σ' H' => ∃ x2 x3 x4 x5 I' v' ws', σ' = [some (.ref p), some v', x2, x3, x4, x5] ∧ Gr [p] I H I' H' ∧ PoolOk I' H' p ∧ iSs I' v' ws' ∧ Wds (L + 4) ws' ∧ ws'.length ≤ ws.length + 12) (fun nx q => ?_) ?_
    · refine ⟨_, rfl, I, p, 5, rfl, s0, po, by decide, by decide, fun v1 H1 a0 a1 g1 po1 => ?_⟩
      obtain ⟨m, rfl⟩ := Int.eq_ofNat_of_zero_le a0
      refine ⟨_, rfl, by omega, by omega, ?_⟩
      refine for_rangeP (n := m) (fun σ' H' => ∃ x2 x3 x4 x5 I' v' ws', σ' = [some (.ref p), some v', x2, x3, x4, x5] ∧ Gr [p] I H I' H' ∧ PoolOk I' H' p ∧ iSs I' v' ws' ∧ Wds (L + 4) ws' ∧ ws'.length ≤ ws.length + 12)
        (fun i σ' H' => ∃ x2 x3 x4 x5 I' v' ws', σ' = [some (.ref p), some v', x2, x3, x4, x5] ∧ Gr [p] I H I' H' ∧ PoolOk I' H' p ∧ iSs I' v' ws' ∧ Wds (L + i) ws' ∧ ws'.length ≤ ws.length + 3 * i)
        ⟨none, none, none, none, I, v, ws, rfl, g1, po1, rv, hw, by omega⟩ (fun nx2 q2 i σ' H2 hi h => ?_) (fun σ' H' h => ?_) q
      rotate_left
      · obtain ⟨x2, x3, x4, x5, I', v', ws', rfl, g, po, r, w, l⟩ := h
        exact ⟨x2, x3, x4, x5, I', v', ws', rfl, g, po, r, w.more (by omega), by omega⟩
      obtain ⟨x2, x3, x4, x5, I3, v3, ws3, rfl, G3, po3, r3, hw3, ln3⟩ := h
      have hi4 : i < 4 := by omega
      obtain ⟨wl3, rfl, hwl3⟩ := r3
      refine ⟨_, rfl, I3, p, 7, rfl, G3.ih, po3, by decide, by decide, fun v4 H4 b0 b1 g4 po4 => ?_⟩
      obtain ⟨way, rfl⟩ := Int.eq_ofNat_of_zero_le b0
      (try dsimp only)
      refine ⟨_, rfl, _, rfl, _, ws3.length, rfl, .inl ⟨_, SqL.of (g4.ih _ _ hwl3), by rw [List.length_map]⟩, _, _, rfl, rfl, I3, p, _, rfl, g4.ih, po4, by omega, by omega, fun v5 H5 b2 b3 g5 po5 => ?_⟩
      obtain ⟨pl, rfl⟩ := Int.eq_ofNat_of_zero_le b2
      have hpl : pl ≤ ws3.length := by omega
      (try dsimp only)
      refine ⟨_, rfl, _, rfl, _, ws3.length, rfl, .inl ⟨_, SqL.of (g5.ih _ _ hwl3), by rw [List.length_map]⟩, _, _, rfl, rfl, I3, p, _, rfl, g5.ih, po5, by omega, by omega, fun v6 H3 b4 b5 g6 po3 => ?_⟩
      obtain ⟨ot, rfl⟩ := Int.eq_ofNat_of_zero_le b4
      (try dsimp only)
      have l3s : Same I3 H3 := g6.ih
      have GB := G3.trans (g4.trans (g5.trans g6))
      clear g4 g5 g6 po4 po5 b1 b3 b5
      refine ⟨_, rfl, rfl, _, rfl, ifD (fun c00 => ?_) (fun c00 => ?_)⟩
      · refine ⟨_, rfl, _, rfl, _, rfl, ?_⟩
        refine slL_of (Gr.refl (ms := [p]) l3s).ih ((Gr.refl (ms := [p]) l3s).ii _ _ hwl3) fun J2 K2 c2 g2 hc2 => ?_
        have e2 := cutW_lo (ws := ws3) (a := pl) (x := (pl : Int)) rfl
        have w2 : Wds (L + i + 1) (cutW ws3 none (some (pl : Int))) := cutW_wds (hw3.more (by omega))
        have G3 := (Gr.refl (ms := [p]) l3s).trans (g2.nil)
        have po3 := po3.up (g2) (by simp)
        refine ⟨_, rfl, _, rfl, _, _, rfl, rfl, (pl : Int) + 1, rfl, ?_⟩
        dsimp only [tNoPart]
        refine slL_of G3.ih (G3.ii _ _ hwl3) fun J4 K4 c4 g4 hc4 => ?_
        have e4 := cutW_hi (ws := ws3) (a := pl + 1) (x := (pl : Int) + 1) (by omega)
        have w4 : Wds (L + i + 1) (cutW ws3 (some ((pl : Int) + 1)) none) := cutW_wds (hw3.more (by omega))
        have G5 := G3.trans (g4.nil)
        have po5 := po3.up (g4) (by simp)
        refine catL_of G5.ih (g4.ii _ _ (hc2)) hc4 (by (try simp only [List.length_append, List.length_singleton]); omega) fun J6 K6 c6 g6 hc6 => ?_
        have w6 := w2.app w4
        have G7 := G5.trans (g6.nil)
        have po7 := po5.up (g6) (by simp)
        exact ⟨_, _, _, _, _, _, _, rfl, GB.trans G7, po7, ⟨_, rfl, hc6⟩, w6, by (try simp only [List.length_append, List.length_singleton]); omega⟩
      refine ⟨_, rfl, rfl, _, rfl, ifD (fun c10 => ?_) (fun c10 => ?_)⟩
      · refine ⟨_, rfl, _, rfl, _, rfl, ?_⟩
        refine slL_of (Gr.refl (ms := [p]) l3s).ih ((Gr.refl (ms := [p]) l3s).ii _ _ hwl3) fun J9 K9 c9 g9 hc9 => ?_
        have e9 := cutW_lo (ws := ws3) (a := pl) (x := (pl : Int)) rfl
        have w9 : Wds (L + i + 1) (cutW ws3 none (some (pl : Int))) := cutW_wds (hw3.more (by omega))
        have G10 := (Gr.refl (ms := [p]) l3s).trans (g9.nil)
        have po10 := po3.up (g9) (by simp)
        refine ⟨_, rfl, J9, p, rfl, G10.ih, po10, fun J11 K11 mw11 g11 po11m wm11 => ?_⟩
        have G11m := G10.trans g11
        refine ⟨(by show 1 ≤ sizeLine; decide), fun c12 hf12 => ?_⟩
        have g12 := Gr.new (ms := []) (o := .lst ([mw11].map V.str)) G11m.ih hf12
        have hc12 : _ = some (HO.lst ([mw11].map V.str)) := upd_same (H := J11) (a := c12)
        have w12 : Wds (L + i + 1) [mw11] := Wds.one (wm11.more (by omega))
        have e12 : [mw11].length = 1 := rfl
        have G13 := G11m.trans (g12.nil)
        have po13 := po11m.up (g12) (by simp)
        refine catL_of G13.ih (g12.ii _ _ (g11.ii _ _ (hc9))) hc12 (by (try simp only [List.length_append, List.length_singleton]); omega) fun J14 K14 c14 g14 hc14 => ?_
        have w14 := w9.app w12
        have G15 := G13.trans (g14.nil)
        have po15 := po13.up (g14) (by simp)
        refine ⟨_, rfl, _, rfl, _, rfl, ?_⟩
        dsimp only [tNoPart]
        refine slL_of G15.ih (G15.ii _ _ hwl3) fun J16 K16 c16 g16 hc16 => ?_
        have e16 := cutW_hi (ws := ws3) (a := pl) (x := (pl : Int)) (by omega)
        have w16 : Wds (L + i + 1) (cutW ws3 (some ((pl : Int))) none) := cutW_wds (hw3.more (by omega))
        have G17 := G15.trans (g16.nil)
        have po17 := po15.up (g16) (by simp)
        refine catL_of G17.ih (g16.ii _ _ (hc14)) hc16 (by (try simp only [List.length_append, List.length_singleton]); omega) fun J18 K18 c18 g18 hc18 => ?_
        have w18 := w14.app w16
        have G19 := G17.trans (g18.nil)
        have po19 := po17.up (g18) (by simp)
        exact ⟨_, _, _, _, _, _, _, rfl, GB.trans G19, po19, ⟨_, rfl, hc18⟩, w18, by (try simp only [List.length_append, List.length_singleton]); omega⟩
      refine ⟨_, rfl, rfl, _, rfl, ifD (fun c20 => ?_) (fun c20 => ?_)⟩
      · refine ⟨_, rfl, _, rfl, _, rfl, ?_⟩
        refine slL_of (Gr.refl (ms := [p]) l3s).ih ((Gr.refl (ms := [p]) l3s).ii _ _ hwl3) fun J21 K21 c21 g21 hc21 => ?_
        have e21 := cutW_lo (ws := ws3) (a := pl) (x := (pl : Int)) rfl
        have w21 : Wds (L + i + 1) (cutW ws3 none (some (pl : Int))) := cutW_wds (hw3.more (by omega))
        have G22 := (Gr.refl (ms := [p]) l3s).trans (g21.nil)
        have po22 := po3.up (g21) (by simp)
        refine ⟨_, rfl, J21, p, rfl, G22.ih, po22, fun J23 K23 mw23 g23 po23m wm23 => ?_⟩
        have G23m := G22.trans g23
        refine ⟨(by show 1 ≤ sizeLine; decide), fun c24 hf24 => ?_⟩
        have g24 := Gr.new (ms := []) (o := .lst ([mw23].map V.str)) G23m.ih hf24
        have hc24 : _ = some (HO.lst ([mw23].map V.str)) := upd_same (H := J23) (a := c24)
        have w24 : Wds (L + i + 1) [mw23] := Wds.one (wm23.more (by omega))
        have e24 : [mw23].length = 1 := rfl
        have G25 := G23m.trans (g24.nil)
        have po25 := po23m.up (g24) (by simp)
        refine catL_of G25.ih (g24.ii _ _ (g23.ii _ _ (hc21))) hc24 (by (try simp only [List.length_append, List.length_singleton]); omega) fun J26 K26 c26 g26 hc26 => ?_
        have w26 := w21.app w24
        have G27 := G25.trans (g26.nil)
        have po27 := po25.up (g26) (by simp)
        refine ⟨_, rfl, _, rfl, _, _, rfl, rfl, (pl : Int) + 1, rfl, ?_⟩
        dsimp only [tNoPart]
        refine slL_of G27.ih (G27.ii _ _ hwl3) fun J28 K28 c28 g28 hc28 => ?_
        have e28 := cutW_hi (ws := ws3) (a := pl + 1) (x := (pl : Int) + 1) (by omega)
        have w28 : Wds (L + i + 1) (cutW ws3 (some ((pl : Int) + 1)) none) := cutW_wds (hw3.more (by omega))
        have G29 := G27.trans (g28.nil)
        have po29 := po27.up (g28) (by simp)
        refine catL_of G29.ih (g28.ii _ _ (hc26)) hc28 (by (try simp only [List.length_append, List.length_singleton]); omega) fun J30 K30 c30 g30 hc30 => ?_
        have w30 := w26.app w28
        have G31 := G29.trans (g30.nil)
        have po31 := po29.up (g30) (by simp)
        exact ⟨_, _, _, _, _, _, _, rfl, GB.trans G31, po31, ⟨_, rfl, hc30⟩, w30, by (try simp only [List.length_append, List.length_singleton]); omega⟩
      refine ⟨_, rfl, rfl, _, rfl, ifD (fun c30 => ?_) (fun c30 => ?_)⟩
      · refine ⟨_, rfl, _, rfl, _, rfl, ?_⟩
        refine slL_of (Gr.refl (ms := [p]) l3s).ih ((Gr.refl (ms := [p]) l3s).ii _ _ hwl3) fun J33 K33 c33 g33 hc33 => ?_
        have e33 := cutW_lo (ws := ws3) (a := pl) (x := (pl : Int)) rfl
        have w33 : Wds (L + i + 1) (cutW ws3 none (some (pl : Int))) := cutW_wds (hw3.more (by omega))
        have G34 := (Gr.refl (ms := [p]) l3s).trans (g33.nil)
        have po34 := po3.up (g33) (by simp)
        refine ⟨_, rfl, _, rfl, _, rfl, _, rfl, _, _, rfl, rfl, (ot : Int) + 1, rfl, ?_⟩
        refine slL_of G34.ih (G34.ii _ _ hwl3) fun J35 K35 c35 g35 hc35 => ?_
        have e35 := cutW_mid (ws := ws3) (a := ot) (b := ot + 1) (x := (ot : Int)) (y := (ot : Int) + 1) (by omega) (by omega)
        have w35 : Wds (L + i + 1) (cutW ws3 (some ((ot : Int))) (some ((ot : Int) + 1))) := cutW_wds (hw3.more (by omega))
        have G36 := G34.trans (g35.nil)
        have po36 := po34.up (g35) (by simp)
        refine catL_of G36.ih (g35.ii _ _ (hc33)) hc35 (by (try simp only [List.length_append, List.length_singleton]); omega) fun J37 K37 c37 g37 hc37 => ?_
        have w37 := w33.app w35
        have G38 := G36.trans (g37.nil)
        have po38 := po36.up (g37) (by simp)
        refine ⟨_, rfl, _, rfl, _, _, rfl, rfl, (pl : Int) + 1, rfl, ?_⟩
        dsimp only [tNoPart]
        refine slL_of G38.ih (G38.ii _ _ hwl3) fun J39 K39 c39 g39 hc39 => ?_
        have e39 := cutW_hi (ws := ws3) (a := pl + 1) (x := (pl : Int) + 1) (by omega)
        have w39 : Wds (L + i + 1) (cutW ws3 (some ((pl : Int) + 1)) none) := cutW_wds (hw3.more (by omega))
        have G40 := G38.trans (g39.nil)
        have po40 := po38.up (g39) (by simp)
        refine catL_of G40.ih (g39.ii _ _ (hc37)) hc39 (by (try simp only [List.length_append, List.length_singleton]); omega) fun J41 K41 c41 g41 hc41 => ?_
        have w41 := w37.app w39
        have G42 := G40.trans (g41.nil)
        have po42 := po40.up (g41) (by simp)
        exact ⟨_, _, _, _, _, _, _, rfl, GB.trans G42, po42, ⟨_, rfl, hc41⟩, w41, by (try simp only [List.length_append, List.length_singleton]); omega⟩
      refine ⟨_, rfl, rfl, _, rfl, ifD (fun c40 => ?_) (fun c40 => ?_)⟩
      · refine ⟨_, rfl, _, rfl, _, rfl, ?_⟩
        refine slL_of (Gr.refl (ms := [p]) l3s).ih ((Gr.refl (ms := [p]) l3s).ii _ _ hwl3) fun J44 K44 c44 g44 hc44 => ?_
        have e44 := cutW_lo (ws := ws3) (a := pl) (x := (pl : Int)) rfl
        have w44 : Wds (L + i + 1) (cutW ws3 none (some (pl : Int))) := cutW_wds (hw3.more (by omega))
        have G45 := (Gr.refl (ms := [p]) l3s).trans (g44.nil)
        have po45 := po3.up (g44) (by simp)
        refine ⟨_, rfl, _, rfl, _, rfl, _, rfl, _, _, rfl, rfl, (ot : Int) + 3, rfl, ?_⟩
        refine slL_of G45.ih (G45.ii _ _ hwl3) fun J46 K46 c46 g46 hc46 => ?_
        have e46 := cutW_mid (ws := ws3) (a := ot) (b := ot + 3) (x := (ot : Int)) (y := (ot : Int) + 3) (by omega) (by omega)
        have w46 : Wds (L + i + 1) (cutW ws3 (some ((ot : Int))) (some ((ot : Int) + 3))) := cutW_wds (hw3.more (by omega))
        have G47 := G45.trans (g46.nil)
        have po47 := po45.up (g46) (by simp)
        refine catL_of G47.ih (g46.ii _ _ (hc44)) hc46 (by (try simp only [List.length_append, List.length_singleton]); omega) fun J48 K48 c48 g48 hc48 => ?_
        have w48 := w44.app w46
        have G49 := G47.trans (g48.nil)
        have po49 := po47.up (g48) (by simp)
        refine ⟨_, rfl, _, rfl, _, rfl, ?_⟩
        dsimp only [tNoPart]
        refine slL_of G49.ih (G49.ii _ _ hwl3) fun J50 K50 c50 g50 hc50 => ?_
        have e50 := cutW_hi (ws := ws3) (a := pl) (x := (pl : Int)) (by omega)
        have w50 : Wds (L + i + 1) (cutW ws3 (some ((pl : Int))) none) := cutW_wds (hw3.more (by omega))
        have G51 := G49.trans (g50.nil)
        have po51 := po49.up (g50) (by simp)
        refine catL_of G51.ih (g50.ii _ _ (hc48)) hc50 (by (try simp only [List.length_append, List.length_singleton]); omega) fun J52 K52 c52 g52 hc52 => ?_
        have w52 := w48.app w50
        have G53 := G51.trans (g52.nil)
        have po53 := po51.up (g52) (by simp)
        exact ⟨_, _, _, _, _, _, _, rfl, GB.trans G53, po53, ⟨_, rfl, hc52⟩, w52, by (try simp only [List.length_append, List.length_singleton]); omega⟩
      refine ⟨_, rfl, rfl, _, rfl, ifD (fun c50 => ?_) (fun c50 => ?_)⟩
      · refine ⟨_, rfl, _, rfl, _, rfl, ?_⟩
        refine slL_of (Gr.refl (ms := [p]) l3s).ih ((Gr.refl (ms := [p]) l3s).ii _ _ hwl3) fun J55 K55 c55 g55 hc55 => ?_
        have e55 := cutW_lo (ws := ws3) (a := pl) (x := (pl : Int)) rfl
        have w55 : Wds (L + i + 1) (cutW ws3 none (some (pl : Int))) := cutW_wds (hw3.more (by omega))
        have G56 := (Gr.refl (ms := [p]) l3s).trans (g55.nil)
        have po56 := po3.up (g55) (by simp)
        refine ⟨_, rfl, _, rfl, _, _, rfl, rfl, (pl : Int) + 1, rfl, _, rfl, _, _, rfl, rfl, (pl : Int) + 2, rfl, ?_⟩
        refine slL_of G56.ih (G56.ii _ _ hwl3) fun J57 K57 c57 g57 hc57 => ?_
        have e57 := cutW_mid (ws := ws3) (a := pl + 1) (b := pl + 2) (x := (pl : Int) + 1) (y := (pl : Int) + 2) (by omega) (by omega)
        have w57 : Wds (L + i + 1) (cutW ws3 (some ((pl : Int) + 1)) (some ((pl : Int) + 2))) := cutW_wds (hw3.more (by omega))
        have G58 := G56.trans (g57.nil)
        have po58 := po56.up (g57) (by simp)
        refine catL_of G58.ih (g57.ii _ _ (hc55)) hc57 (by (try simp only [List.length_append, List.length_singleton]); omega) fun J59 K59 c59 g59 hc59 => ?_
        have w59 := w55.app w57
        have G60 := G58.trans (g59.nil)
        have po60 := po58.up (g59) (by simp)
        refine ⟨_, rfl, _, rfl, _, rfl, _, rfl, _, _, rfl, rfl, (pl : Int) + 1, rfl, ?_⟩
        refine slL_of G60.ih (G60.ii _ _ hwl3) fun J61 K61 c61 g61 hc61 => ?_
        have e61 := cutW_mid (ws := ws3) (a := pl) (b := pl + 1) (x := (pl : Int)) (y := (pl : Int) + 1) (by omega) (by omega)
        have w61 : Wds (L + i + 1) (cutW ws3 (some ((pl : Int))) (some ((pl : Int) + 1))) := cutW_wds (hw3.more (by omega))
        have G62 := G60.trans (g61.nil)
        have po62 := po60.up (g61) (by simp)
        refine catL_of G62.ih (g61.ii _ _ (hc59)) hc61 (by (try simp only [List.length_append, List.length_singleton]); omega) fun J63 K63 c63 g63 hc63 => ?_
        have w63 := w59.app w61
        have G64 := G62.trans (g63.nil)
        have po64 := po62.up (g63) (by simp)
        refine ⟨_, rfl, _, rfl, _, _, rfl, rfl, (pl : Int) + 2, rfl, ?_⟩
        dsimp only [tNoPart]
        refine slL_of G64.ih (G64.ii _ _ hwl3) fun J65 K65 c65 g65 hc65 => ?_
        have e65 := cutW_hi (ws := ws3) (a := pl + 2) (x := (pl : Int) + 2) (by omega)
        have w65 : Wds (L + i + 1) (cutW ws3 (some ((pl : Int) + 2)) none) := cutW_wds (hw3.more (by omega))
        have G66 := G64.trans (g65.nil)
        have po66 := po64.up (g65) (by simp)
        refine catL_of G66.ih (g65.ii _ _ (hc63)) hc65 (by (try simp only [List.length_append, List.length_singleton]); omega) fun J67 K67 c67 g67 hc67 => ?_
        have w67 := w63.app w65
        have G68 := G66.trans (g67.nil)
        have po68 := po66.up (g67) (by simp)
        exact ⟨_, _, _, _, _, _, _, rfl, GB.trans G68, po68, ⟨_, rfl, hc67⟩, w67, by (try simp only [List.length_append, List.length_singleton]); omega⟩
      refine ⟨_, rfl, _, rfl, I3, p, _, ws3, L + i, rfl, l3s, po3, ⟨wl3, rfl, hwl3⟩, hw3, by omega, by omega, fun I9 H9 v9 ws9 g9 po9 r9 w9 l9 => ?_⟩
      exact ⟨_, _, _, _, _, _, _, rfl, GB.trans g9, po9, r9, w9, by omega⟩
    rintro σ' H2 ⟨x2, x3, x4, x5, I2, v2, ws2, rfl, g2, po2, r2, w2, l2⟩
    exact ⟨_, rfl, kk _ _ _ _ g2 po2 r2 w2 l2⟩
end
end K

set_option Elab.async false
set_option linter.all false
set_option maxRecDepth 100000
set_option maxHeartbeats 4000000
namespace Rd
open PySem PyProof.Rows TL Tk L2
theorem jn_two {A B : List Str} {a b c : Str} : jn (A ++ [a]) ++ (c ++ jn (b :: B)) = jn (A ++ [a ++ (c ++ b)] ++ B) := by
  have e1 : jn (b :: B) = if B = [] then b else b ++ (spc ++ jn B) := by
    cases B with
    | nil => rw [jn_one, if_pos rfl]
    | cons x r => rw [jn_cons, if_neg (by simp)]
  have e2 : ∀ x, jn (A ++ [x]) = if A = [] then x else jn A ++ (spc ++ x) := fun x => by
    cases A with
    | nil => rw [List.nil_append, jn_one, if_pos rfl]
    | cons y r => rw [jn_app (by simp) (by simp), jn_one, if_neg (by simp)]
  cases B with
  | nil =>
    rw [List.append_nil, e1, if_pos rfl, e2, e2]
    split
    · rfl
    · simp only [app_assoc]
  | cons x r =>
    rw [jn_app (xs := A ++ [a ++ (c ++ b)]) (ys := x :: r) (by simp) (by simp), e1, if_neg (by simp), e2, e2]
    split
    · simp only [app_assoc]
    · simp only [app_assoc]
theorem wd_name {x : Str} (h : isName x = true) : Wd 8 x := by
  have f := name_facts h
  exact ⟨fun c hc => by have := f.2.2.2 c hc; omega, by rw [len_tl']; exact f.1⟩
theorem wd_dec {n : Nat} (h : n ≤ 65535) : Wd 8 (dec n) := by
  refine ⟨fun c hc => ?_, ?_⟩
  · rw [tl_dec] at hc
    have := numL_digits n c hc; omega
  · rw [tl_dec]
    have := TL.numL_len (n := n) (k := 5) (by decide) (by omega)
    omega
def keyL : List Str := [wd "buttons", wd "answers", wd "var", wd "start", wd "press", wd "set", wd "draw", wd "use", wd "say", wd "if", wd "else", wd "end"]
theorem wds_all {L : Nat} {l : List Str} (h : l.all (wdB L) = true) : Wds L l := fun w hw => wd_of (List.all_eq_true.mp h w hw)
theorem key8 : Wds 8 keyL := wds_all (by decide +kernel)
theorem op8 : Wds 8 ops := wds_all (by decide +kernel)
theorem kw8 {w : Str} (h : decide (w ∈ keyL) = true) : Wd 8 w := key8 w (of_decide_eq_true h)
section
variable {nm : List Str} {pr ar : Bool} (hn : ∀ x ∈ nm, isName x = true)
include hn
theorem wds_ex : ∀ {k : Nat} {e : Ex}, okEx nm pr k e → Wds 8 e.words
  | k, .num n, h, w, hw => by unfold okEx at h; simp [Ex.words] at hw; subst hw; exact wd_dec h
  | k, .var x, h, w, hw => by unfold okEx at h; simp [Ex.words] at hw; subst hw; exact wd_name (hn _ h)
  | k, .press, h, w, hw => by simp [Ex.words] at hw; subst hw; exact kw8 (by decide +kernel)
  | 0, .op o a b, h, w, hw => by unfold okEx at h; exact h.elim
  | k + 1, .op o a b, h, w, hw => by
    unfold okEx at h
    simp only [Ex.words, List.mem_cons, List.mem_append] at hw
    rcases hw with rfl | hw | hw
    · exact op8 _ h.1
    · exact wds_ex h.2.1 w hw
    · exact wds_ex h.2.2 w hw
mutual
theorem wds_st : ∀ (s : Stm) {k : Nat}, okSt nm pr ar k s → Wds 8 s.words
  | .set x e, k, h, w, hw => by
    unfold okSt at h
    simp only [Stm.words, List.mem_cons] at hw
    rcases hw with rfl | rfl | hw
    · exact kw8 (by decide +kernel)
    · exact wd_name (hn _ h.1)
    · exact wds_ex hn h.2 w hw
  | .draw x n, k, h, w, hw => by
    unfold okSt at h
    simp only [Stm.words, List.mem_cons, List.not_mem_nil, or_false] at hw
    rcases hw with rfl | rfl | rfl
    · exact kw8 (by decide +kernel)
    · exact wd_name (hn _ h.1)
    · exact wd_dec (by omega)
  | .use x e, k, h, w, hw => by
    unfold okSt at h
    simp only [Stm.words, List.mem_cons] at hw
    rcases hw with rfl | rfl | hw
    · exact kw8 (by decide +kernel)
    · exact wd_name (hn _ h.2.1)
    · exact wds_ex hn h.2.2 w hw
  | .say e, k, h, w, hw => by
    unfold okSt at h
    simp only [Stm.words, List.mem_cons] at hw
    rcases hw with rfl | hw
    · exact kw8 (by decide +kernel)
    · exact wds_ex hn h.2 w hw
  | .ite e s t, k, h, w, hw => by
    unfold okSt at h
    simp only [Stm.words, List.mem_cons, List.mem_append] at hw
    rcases hw with rfl | hw
    · exact kw8 (by decide +kernel)
    · have i1 := wds_bl s h.2.2.1
      have i2 := wds_bl t h.2.2.2
      have i0 := wds_ex hn h.2.1
      have : w ∈ e.words ∨ w ∈ blockWords s ∨ w = wd "else" ∨ w ∈ blockWords t ∨ w = wd "end" := by
        by_cases q : t.isEmpty = true
        · simp [q] at hw; grind
        · simp [q] at hw; grind
      rcases this with z | z | rfl | z | rfl
      · exact i0 w z
      · exact i1 w z
      · exact kw8 (by decide +kernel)
      · exact i2 w z
      · exact kw8 (by decide +kernel)
theorem wds_bl : ∀ (l : List Stm) {k : Nat}, okBl nm pr ar k l → Wds 8 (blockWords l)
  | [], _, _, w, hw => by simp [blockWords] at hw
  | s :: r, k, h, w, hw => by
    unfold okBl at h
    rw [blockWords, List.mem_append] at hw
    rcases hw with hw | hw
    · exact wds_st s h.1 w hw
    · exact wds_bl r h.2 w hw
end
end
theorem vars8 : ∀ {zs : List (Str × Nat)} {nm : List Str}, okVars nm zs → ∀ z ∈ zs, isName z.1 = true ∧ z.2 ≤ 12
  | [], _, _ => fun _ h => by simp at h
  | (x, n) :: r, nm, h => by
    unfold okVars at h
    obtain ⟨h1, h2, h3, h4, h5⟩ := h
    intro z hz
    rcases List.mem_cons.mp hz with rfl | hz
    · exact ⟨h1, h4⟩
    · exact vars8 h5 z hz
theorem wds_bx {ar : Bool} {d : Nat} {b : Bx} (h : okBd d ar b) : Wds 8 b.words := by
  intro w hw
  have hv := vars8 h.vo
  have hn : ∀ x ∈ b.vars.map (·.1), isName x = true := fun x hx => by
    obtain ⟨z, hz, rfl⟩ := List.mem_map.mp hx
    exact (hv z hz).1
  have i1 := wds_bl hn _ h.so
  have i2 := wds_bl hn _ h.bo
  have vk : ∀ (l : List (Str × Nat)), (∀ z ∈ l, isName z.1 = true ∧ z.2 ≤ 12) → ∀ w ∈ varWords l, Wd 8 w := by
    intro l
    induction l with
    | nil => intro _ w hw; simp [varWords] at hw
    | cons z r ih =>
      intro k w hw
      obtain ⟨x, n⟩ := z
      have k0 := k (x, n) (by simp)
      simp only [varWords, List.mem_cons] at hw
      rcases hw with rfl | rfl | rfl | hw
      · exact kw8 (by decide +kernel)
      · exact wd_name k0.1
      · exact wd_dec (by have := k0.2; simp only at this; omega)
      · exact ih (fun y hy => k y (by simp [hy])) w hw
  have i3 := vk b.vars hv
  have hb := h.b2
  have ha := h.a2
  simp only [Bx.words, List.mem_cons, List.mem_append] at hw
  rcases hw with rfl | rfl | rfl | rfl | hw
  · exact kw8 (by decide +kernel)
  · exact wd_dec (by omega)
  · exact kw8 (by decide +kernel)
  · exact wd_dec (by omega)
  · have : w ∈ varWords b.vars ∨ w = wd "start" ∨ w ∈ blockWords b.start ∨ w = wd "press" ∨ w ∈ blockWords b.block := by grind
    rcases this with z | rfl | z | rfl | z
    · exact i3 w z
    · exact kw8 (by decide +kernel)
    · exact i1 w z
    · exact kw8 (by decide +kernel)
    · exact i2 w z
theorem words_lenB (b : Bx) : b.words.length = (varWords b.vars).length + (blockWords b.start).length + (blockWords b.block).length + 6 := by
  simp [Bx.words]; omega
theorem vw3B : ∀ (a : List (Str × Nat)), (varWords a).length = 3 * a.length
  | [] => rfl
  | (x, n) :: r => by simp only [varWords, List.length_cons, vw3B r]; omega
theorem bx_words_le {ar : Bool} {S d : Nat} {b : Bx} (h : BoxR ar S d b) : b.words.length ≤ 500000 := by
  have e := K.stB4
  have := words_lenB b
  have := vw3B b.vars
  have := h.ok.vl
  have := h.sw
  have := h.bw
  omega
theorem cutW_take {ws : List Str} {a : Nat} (h : a ≤ ws.length) : cutW ws none (some (a : Int)) = ws.take a := by
  unfold cutW; rw [HT.sIx_none, HT.sIx_nat, List.drop_zero, Nat.min_eq_left h, Nat.sub_zero]
theorem cutW_drop {ws : List Str} {a : Nat} (h : a ≤ ws.length) : cutW ws (some (a : Int)) none = ws.drop a := by
  unfold cutW; rw [HT.sIx_none, HT.sIx_nat, Nat.min_eq_left h, List.take_of_length_le (by rw [List.length_drop]; omega)]
theorem split_at {ws : List Str} {m : Nat} (h : m + 1 < ws.length) : ∃ A a b B, ws.take (m + 1) = A ++ [a] ∧ ws.drop (m + 1) = b :: B ∧ ws = A ++ [a] ++ b :: B := by
  refine ⟨ws.take m, ws[m], ws[m + 1], ws.drop (m + 2), ?_, ?_, ?_⟩
  · rw [List.take_succ_eq_append_getElem (by omega)]
  · rw [List.drop_eq_getElem_cons h]
  · rw [← List.take_succ_eq_append_getElem (by omega), ← List.drop_eq_getElem_cons h, List.take_append_drop]
theorem nt_at {m : Nat} (h : m < 2) : ∃ c, atI (PySem.Str.cps ("\n\t" : Str)).toList (m : Int) = some c ∧ c < 32 := by
  have : ∀ m : Nat, m < 2 → ((atI (PySem.Str.cps ("\n\t" : Str)).toList (m : Int)).map fun c => decide (c < 32)) = some true := by decide +kernel
  have q := this m h
  cases e : atI (PySem.Str.cps ("\n\t" : Str)).toList (m : Int) with
  | none => rw [e] at q; cases q
  | some c => rw [e] at q; simp at q; exact ⟨c, rfl, q⟩
theorem sumW {L : Nat} : ∀ {ws : List Str}, Wds L ws → (ws.map (·.length)).sum ≤ L * ws.length
  | [], _ => Nat.zero_le _
  | x :: r, h => by
    have := sumW (L := L) (ws := r) fun w hw => h w (List.mem_cons_of_mem _ hw)
    have q := (h x List.mem_cons_self).l
    rw [len_tl'] at q
    simp only [List.map_cons, List.sum_cons, List.length_cons, Nat.mul_succ]; omega
end Rd
namespace K
open PySem PySem.Spec PyProof.Rows L2 TL Tk Hd Rd
section
variable {P : Program} {w : World} {K : PySem.W.Frag} {mg : Str → Option Value} {base : Heap}
def spJoined : Sp := fun vs H Q _ => ∃ (I : Hp) (p : Addr) (v : V) (ws : List Str) (L : Nat), vs = [.ref p, v] ∧ Same I H ∧ PoolOk I H p ∧ iSs I v ws ∧ Wds L ws ∧ L ≤ 14 ∧ ws.length ≤ 550000 ∧
  ∀ I' H' ws', Gr [p] I H I' H' → PoolOk I' H' p → (∀ w ∈ ws', 32 ∉ tl w ∧ w.length ≤ 100) → ws'.length ≤ 550000 → (jn ws').length ≤ 9000000 → Q (.str (jn ws')) H'
theorem sc__law_joined : FnScope ["pool", "words", "place"] ["pool", "words"] (defScope s__law_joined) := ⟨rfl, rfl, rfl, by decide +kernel, rfl, by decide +kernel, by decide +kernel⟩
theorem ok_joined (D : Dt K mg) : Has P w K mg base 2 (He.ga K "_law_joined") ["pool", "words"] [] (spJoined) := by
  obtain ⟨fd, F⟩ := fd__law_joined D
  have H__law_draw := ok_draw (P := P) (w := w) (base := base) D
  refine hasN F (F.bindsN fun _ _ _ _ _ _ us hl => match us, hl with | [_, _], _ => rfl) sc__law_joined (fun vs H Q E h => ?_) (fun cdv A outer s H vs Q E hr h => ?_)
  · obtain ⟨I, p, v, ws, L, rfl, _⟩ := h; rfl
  · obtain ⟨I, p, v, ws, L, rfl, s0, po, rv, hw, hL, hn, kk⟩ := h
    refine ⟨_, (pss_cons (ps_if (PW.pt (pw_and (pt_cmpR op_gt (pe_callB (call_lenK K) rfl (free_len D) PySem.boot_len (pa_cons (pv 1) pa_nil)) pe_int (nomark _)) (pw_and1 (pt_cmpR op_eq (pe_callH H__law_draw (hr.mono (by omega)) rfl (glo__law_draw D) passL (pa_cons (pv 0) (pa_cons pe_int pa_nil))) pe_int (nomark _)))))
      (pss_cons (ps_set (i := 2) sc__law_joined.nd rfl (Or.inl rfl) (pe_op op_add pe_int (pe_callH H__law_draw (hr.mono (by omega)) rfl (glo__law_draw D) passL (pa_cons (pv 0) (pa_cons (pe_op op_sub (pe_callB (call_lenK K) rfl (free_len D) PySem.boot_len (pa_cons (pv 1) pa_nil)) pe_int) pa_nil)))))
      (pss_one (ps_ret (pe_op op_add_str (pe_op op_add_str (pe_bm PySem.F.plainAttrs_str PySem.F.slot_str_join PySem.F.type_str_join mt_join pe_str (pa_cons (pe_slice (sl_listK K) (pv 1) po_none (po_some (pv 2))) pa_nil)) (pe_ix ix_str pe_str (pe_callH H__law_draw (hr.mono (by omega)) rfl (glo__law_draw D) passL (pa_cons (pv 0) (pa_cons pe_int pa_nil))) (fun _ _ => rfl))) (pe_bm PySem.F.plainAttrs_str PySem.F.slot_str_join PySem.F.type_str_join mt_join pe_str (pa_cons (pe_slice (sl_listK K) (pv 1) (po_some (pv 2)) po_none) pa_nil))))))
      pss_nil)
      (pss_one (ps_ret (pe_bm PySem.F.plainAttrs_str PySem.F.slot_str_join PySem.F.type_str_join mt_join pe_str (pa_cons (pv 1) pa_nil))))), ?_⟩
    obtain ⟨wl, rfl, hwl⟩ := id rv
    have hwH := s0 _ _ hwl
    have tail : ∀ {H' : Hp}, Gr [p] I H I H' → PoolOk I H' p → Q (.str (jn ws)) H' := fun g po' => by
      refine kk _ _ ws g po' (fun w hq => ⟨fun z => ((hw w hq).c 32 z).2 rfl, by have := (hw w hq).l; rw [len_tl'] at this; omega⟩) hn ?_
      have h1 := jn_len ws
      have h2 := sumW hw
      have h3 : L * ws.length ≤ 14 * 550000 := Nat.mul_le_mul hL hn
      split at h1 <;> omega
    have hj : (ws.map (·.length)).sum + ws.length * Str.length (" " : Str) ≤ 16777216 := by
      have l1 : Str.length (" " : Str) = 1 := by decide +kernel
      have h2 := sumW hw
      have h3 : L * ws.length ≤ 14 * 550000 := Nat.mul_le_mul hL hn
      rw [l1]; omega
    refine seq_cut (fun σ' H' => ∃ x2, σ' = [some (.ref p), some (.ref wl), x2] ∧ Gr [p] I H I H' ∧ PoolOk I H' p) (fun nx q => ?_) ?_
    · refine ⟨_, rfl, _, ws.length, rfl, .inl ⟨_, SqL.of hwH, by rw [List.length_map]⟩, _, _, rfl, rfl, _, rfl, ifD (fun c => ?_) (fun c => ifF rfl (q _ _ ⟨_, rfl, Gr.refl s0, po⟩))⟩
      refine ⟨_, rfl, I, p, 12, rfl, s0, po, by decide, by decide, fun v1 H1 a0 a1 g1 po1 => ?_⟩
      refine ⟨rfl, _, rfl, ifD (fun c1 => ?_) (fun c1 => q _ _ ⟨_, rfl, g1, po1⟩)⟩
      refine ⟨_, rfl, _, rfl, _, ws.length, rfl, .inl ⟨_, SqL.of (g1.ih _ _ hwl), by rw [List.length_map]⟩, _, _, rfl, rfl, I, p, _, rfl, g1.ih, po1, by omega, by omega, fun v2 H2 b0 b1 g2 po2 => ?_⟩
      obtain ⟨m, rfl⟩ := Int.eq_ofNat_of_zero_le b0
      refine ⟨_, _, rfl, rfl, ?_⟩
      have em : (1 : Int) + (m : Int) = ((m + 1 : Nat) : Int) := by omega
      refine seq_cut (fun σ' H' => σ' = [some (.ref p), some (.ref wl), some (.int ((m + 1 : Nat) : Int))] ∧ H' = H2) (fun nx2 q2 => q2 _ _ ⟨by rw [← em]; rfl, rfl⟩) ?_
      rintro σ' H2 ⟨rfl, rfl⟩
      (try dsimp only)
      have G2 := g1.trans g2
      have hm : m + 1 < ws.length := by omega
      obtain ⟨A, a, b, B, eA, eB, eW⟩ := split_at hm
      have hwA : Wds L (A ++ [a]) := fun x hx => hw x (by rw [eW]; exact List.mem_append_left _ hx)
      have hwB : Wds L (b :: B) := fun x hx => hw x (by rw [eW]; exact List.mem_append_right _ hx)
      have lW : ws.length = (A ++ [a]).length + (b :: B).length := by rw [eW, List.length_append]
      have jb : ∀ (X : List Str), Wds L X → X.length ≤ ws.length → (X.map (·.length)).sum + X.length * Str.length (" " : Str) ≤ 16777216 := fun X hX hl => by
        have l1 : Str.length (" " : Str) = 1 := by decide +kernel
        have h2 := sumW hX
        have h3 : L * X.length ≤ 14 * 550000 := Nat.mul_le_mul hL (by omega)
        rw [l1]; omega
      have jl : ∀ (X : List Str), Wds L X → X ≠ [] → (jn X).length + 1 = (X.map (·.length)).sum + X.length ∧ (X.map (·.length)).sum ≤ L * X.length := fun X hX hne => by
        have h1 := jn_len X
        rw [if_neg hne] at h1
        exact ⟨by omega, sumW hX⟩
      refine ⟨rfl, _, rfl, _, rfl, _, rfl, ?_⟩
      refine slL_of G2.ih hwl fun I3 H3 c3 g3 hc3 => ?_
      rw [cutW_take (by omega), eA] at hc3
      refine ⟨" ", c3, A ++ [a], rfl, rfl, .inl (SqL.of (g3.ih _ _ hc3)), jb _ hwA (by omega), ?_⟩
      refine ⟨_, rfl, I3, p, 2, rfl, g3.ih, po2.up g3 (by simp), by decide, by decide, fun v4 H4 d0 d1 g4 po4 => ?_⟩
      obtain ⟨m4, rfl⟩ := Int.eq_ofNat_of_zero_le d0
      obtain ⟨c, hc, hc32⟩ := nt_at (m := m4) (by omega)
      obtain ⟨q1, q2⟩ := jl _ hwA (by simp)
      obtain ⟨q3, q4⟩ := jl _ hwB (by simp)
      have q5 : L * (A ++ [a]).length + L * (b :: B).length ≤ 14 * 550000 := by
        rw [← Nat.mul_add, ← lW]; exact Nat.mul_le_mul hL hn
      have lc1 : (⟨#[c]⟩ : Str).length = 1 := rfl
      have big : (jn (A ++ [a])).length + (jn (b :: B)).length + 1 ≤ 9000000 := by omega
      refine ⟨("\n\t" : Str), _, c, rfl, rfl, (by decide +kernel), hc, _, _, rfl, rfl, Nat.le_trans (show (jn (A ++ [a])).length + (⟨#[c]⟩ : Str).length ≤ 9000000 by rw [lc1]; omega) (by decide), ?_⟩
      refine ⟨rfl, _, rfl, _, rfl, _, rfl, ?_⟩
      dsimp only [tNoPart]
      have G4 := (G2.trans g3.nil).trans g4
      refine slL_of G4.ih (g4.ii _ _ (g3.ii _ _ hwl)) fun I5 H5 c5 g5 hc5 => ?_
      rw [cutW_drop (by omega), eB] at hc5
      refine ⟨" ", c5, b :: B, rfl, rfl, .inl (SqL.of (g5.ih _ _ hc5)), jb _ hwB (by omega), _, _, rfl, rfl, Nat.le_trans (show (jn (A ++ [a]) ++ (⟨#[c]⟩ : Str)).length + (jn (b :: B)).length ≤ 9000000 by rw [app_len, lc1]; omega) (by decide), ?_⟩
      have ej : jn (A ++ [a]) ++ (⟨#[c]⟩ : Str) ++ jn (b :: B) = jn (A ++ [a ++ ((⟨#[c]⟩ : Str) ++ b)] ++ B) := by rw [app_assoc, jn_two]
      have wa := hwA a (by simp)
      have wb := hwB b (by simp)
      show Q (.str (jn (A ++ [a]) ++ (⟨#[c]⟩ : Str) ++ jn (b :: B))) H5
      rw [ej]
      refine kk _ _ _ (G4.trans g5.nil) (po4.up g5 (by simp)) (fun w hq => ?_) (by simp only [List.length_append, List.length_cons, List.length_nil] at lW ⊢; omega) (by rw [← ej, app_len, app_len, lc1]; omega)
      have any : ∀ w, Wd L w → 32 ∉ tl w ∧ w.length ≤ 100 := fun w h => ⟨fun z => (h.c 32 z).2 rfl, by have := h.l; rw [len_tl'] at this; omega⟩
      have hq' : w ∈ A ∨ w = a ++ ((⟨#[c]⟩ : Str) ++ b) ∨ w ∈ B := by grind
      rcases hq' with hq | rfl | hq
      · exact any w (hwA w (by simp [hq]))
      · refine ⟨fun z => ?_, by have h1 := wa.l; have h2 := wb.l; rw [len_tl'] at h1 h2; rw [app_len, app_len, lc1]; omega⟩
        rw [tl_app, tl_app] at z
        have z' : 32 ∈ tl a ∨ 32 ∈ [c] ∨ 32 ∈ tl b := by
          rcases List.mem_append.mp z with z | z
          · exact .inl z
          · rcases List.mem_append.mp z with z | z
            · exact .inr (.inl z)
            · exact .inr (.inr z)
        rcases z' with z | z | z
        · exact (wa.c 32 z).2 rfl
        · simp at z; omega
        · exact (wb.c 32 z).2 rfl
      · exact any w (hwB w (by simp [hq]))
    rintro σ' H1 ⟨x2, rfl, g1, po1⟩
    exact ⟨rfl, _, rfl, " ", wl, ws, rfl, rfl, .inl (SqL.of (g1.ih _ _ hwl)), hj, tail g1 po1⟩
end
end K

set_option Elab.async false
set_option linter.all false
set_option maxRecDepth 100000
set_option maxHeartbeats 4000000
namespace K
open PySem PySem.Spec PyProof.Rows L2 Tk Hd
section
variable {P : Program} {w : World} {K : PySem.W.Frag} {mg : Str → Option Value} {base : Heap}
def spSame0 : Sp := (fun vs H Q _ => ∃ (a d : V) (x y : Da), vs = [a, d] ∧ dR H a x ∧ dR H d y ∧ isT y "tuple" = false ∧ isT y "list" = false ∧ Q (.bl (eqd x y)) H)
theorem ok_sameHot (D : Dt K mg) : ∃ fd : FuncData, PySem.W.keepIn K (.ref (He.ga K "_law_same")) = true ∧ L2.Binds K fd ["actual", "due"] [] ∧ L2H.FnH P w K mg base (L2.CX P w) 1 (He.ga K "_law_same") fd ["actual", "due"] spSame0 := by
  obtain ⟨fd, F⟩ := fd__law_same D
  refine ⟨fd, F.kp, F.bindsN fun _ _ _ _ _ _ us hl => match us, hl with | [_, _], _ => rfl, fnHot F sc_same (fun vs H Q E h => ?_) (fun cdv A outer s H vs Q E p hr h => ?_)⟩
  · obtain ⟨a, d, x, y, rfl, _⟩ := h; rfl
  · obtain ⟨a, d, x, y, rfl, hx, hy, y1, y2, k⟩ := h
    refine ⟨_, (pss_cons (ps_if (PW.pt (pw_or (pt_val (pe_callB call_isi rfl (free_isinstance D) (by decide +kernel) (pa_cons (pv 1) (pa_cons (pe_bltn (v := .ty "tuple") rfl (free_tuple D) (by decide +kernel) rfl) pa_nil)))) (pw_or1 (pt_val (pe_callB call_isi rfl (free_isinstance D) (by decide +kernel) (pa_cons (pv 1) (pa_cons (pe_bltn (v := .ty "list") rfl (free_list D) (by decide +kernel) rfl) pa_nil))))))) pss_never pss_nil)
      (pss_cons (ps_if (PW.pt (pw_or (pt_cmpR op_isN (pv 1) pe_non (nomark _)) (pw_or1 (pt_val (pe_callB call_isi rfl (free_isinstance D) (by decide +kernel) (pa_cons (pv 1) (pa_cons (pe_bltn (v := .ty "bool") rfl (free_bool D) (by decide +kernel) rfl) pa_nil)))))))
      (pss_one (ps_ret (pe_and (pe_cmpR op_eq (pe_cmpR op_isN (pv 0) pe_non (nomark _)) (pe_cmpR op_isN (pv 1) pe_non (nomark _)) (nomark _)) (pe_and (pe_or (pe_cmpR op_isN (pv 1) pe_non (nomark _)) (pe_one (pe_callB call_isi rfl (free_isinstance D) (by decide +kernel) (pa_cons (pv 0) (pa_cons (pe_bltn (v := .ty "bool") rfl (free_bool D) (by decide +kernel) rfl) pa_nil))))) (pe_one (pe_cmpR op_eq (pv 0) (pv 1) (nomark _)))))))
      pss_nil)
      (pss_cons (ps_if (pt_val (pe_callB call_isi rfl (free_isinstance D) (by decide +kernel) (pa_cons (pv 1) (pa_cons (pe_bltn (v := .ty "int") rfl (free_int D) (by decide +kernel) rfl) pa_nil))))
      (pss_one (ps_ret (pe_and (pe_callB call_isi rfl (free_isinstance D) (by decide +kernel) (pa_cons (pv 0) (pa_cons (pe_bltn (v := .ty "int") rfl (free_int D) (by decide +kernel) rfl) pa_nil))) (pe_and (pe_not (pe_callB call_isi rfl (free_isinstance D) (by decide +kernel) (pa_cons (pv 0) (pa_cons (pe_bltn (v := .ty "bool") rfl (free_bool D) (by decide +kernel) rfl) pa_nil)))) (pe_one (pe_cmpR op_eq (pv 0) (pv 1) (nomark _)))))))
      pss_nil)
      (pss_one (ps_ret (pe_and (pe_callB call_isi rfl (free_isinstance D) (by decide +kernel) (pa_cons (pv 0) (pa_cons (pe_bltn (v := .ty "str") rfl (free_str D) (by decide +kernel) rfl) pa_nil))) (pe_one (pe_cmpR op_eq (pv 0) (pv 1) (nomark _))))))))), ?_⟩
    have cv : ∀ T : String, ClsV (.ty T) (.type T) := fun T => .ty T
    refine ⟨_, rfl, _, _, _, _, _, rfl, cv _, knd_ty hy, knd_tuple y, _, rfl, ifF y1 ?_⟩
    refine ⟨_, rfl, _, _, _, _, _, rfl, cv _, knd_ty hy, knd_list y, _, rfl, ifF y2 ?_⟩
    have nx := non_dec hx
    have ny := non_dec hy
    refine ⟨_, rfl, rfl, _, rfl, ?_⟩
    rw [ny]
    have finN : isNon y = true ∨ isT y "bool" = true → ∀ σ : L2.St, True := fun _ _ => trivial
    cases y with
    | lst l => simp [isT] at y2
    | tup l => simp [isT] at y1
    | non =>
      refine iteT ?_
      simp only [dR] at hy
      subst hy
      refine ⟨_, rfl, rfl, _, rfl, rfl, rfl, _, rfl, ?_⟩
      rw [nx, ny]
      cases x with
      | non =>
        simp only [dR] at hx; subst hx
        refine iteT ⟨_, rfl, rfl, _, rfl, iteT ⟨_, rfl, iteT ⟨_, rfl, _, rfl, rfl, ?_⟩⟩⟩
        exact k
      | _ => exact iteF k
    | bl b =>
      refine iteF ⟨_, rfl, _, _, _, _, _, rfl, cv _, knd_ty hy, knd_bool (.bl b), _, rfl, iteT ?_⟩
      refine ⟨_, rfl, rfl, _, rfl, rfl, rfl, _, rfl, ?_⟩
      rw [nx, ny]
      simp only [dR] at hy
      subst hy
      cases x with
      | non => exact iteF k
      | bl c =>
        refine iteT ⟨_, rfl, rfl, _, rfl, iteF ⟨_, rfl, _, _, _, _, _, rfl, cv _, knd_ty hx, knd_bool (.bl c), _, rfl, iteT ?_⟩⟩
        simp only [dR] at hx
        subst hx
        refine ⟨_, rfl, _, rfl, rfl, ?_⟩
        have e : decide (V.bl c = V.bl b) = eqd (.bl c) (.bl b) := by simp [eqd]
        rw [← e] at k; exact k
      | int i => exact iteT ⟨_, rfl, rfl, _, rfl, iteF ⟨_, rfl, _, _, _, _, _, rfl, cv _, knd_ty hx, knd_bool (.int i), _, rfl, iteF k⟩⟩
      | str i => exact iteT ⟨_, rfl, rfl, _, rfl, iteF ⟨_, rfl, _, _, _, _, _, rfl, cv _, knd_ty hx, knd_bool (.str i), _, rfl, iteF k⟩⟩
      | lst i => exact iteT ⟨_, rfl, rfl, _, rfl, iteF ⟨_, rfl, _, _, _, _, _, rfl, cv _, knd_ty hx, knd_bool (.lst i), _, rfl, iteF k⟩⟩
      | tup i => exact iteT ⟨_, rfl, rfl, _, rfl, iteF ⟨_, rfl, _, _, _, _, _, rfl, cv _, knd_ty hx, knd_bool (.tup i), _, rfl, iteF k⟩⟩
    | int b =>
      refine iteF ⟨_, rfl, _, _, _, _, _, rfl, cv _, knd_ty hy, knd_bool (.int b), _, rfl, iteF ?_⟩
      refine ⟨_, rfl, _, _, _, _, _, rfl, cv _, knd_ty hy, knd_int (.int b), _, rfl, iteT ?_⟩
      simp only [dR] at hy
      subst hy
      cases x with
      | int c =>
        refine ⟨_, rfl, _, _, _, _, _, rfl, cv _, knd_ty hx, knd_int (.int c), _, rfl, iteT ?_⟩
        refine ⟨_, rfl, _, _, _, _, _, rfl, cv _, knd_ty hx, knd_bool (.int c), _, rfl, _, rfl, iteT ?_⟩
        simp only [dR] at hx
        subst hx
        refine ⟨_, rfl, _, rfl, rfl, ?_⟩
        have e : decide (V.int c = V.int b) = eqd (.int c) (.int b) := by simp [eqd]
        rw [← e] at k; exact k
      | bl c =>
        refine ⟨_, rfl, _, _, _, _, _, rfl, cv _, knd_ty hx, knd_int (.bl c), _, rfl, iteT ?_⟩
        exact ⟨_, rfl, _, _, _, _, _, rfl, cv _, knd_ty hx, knd_bool (.bl c), _, rfl, _, rfl, iteF k⟩
      | non => exact ⟨_, rfl, _, _, _, _, _, rfl, cv _, knd_ty hx, knd_int .non, _, rfl, iteF k⟩
      | str c => exact ⟨_, rfl, _, _, _, _, _, rfl, cv _, knd_ty hx, knd_int (.str c), _, rfl, iteF k⟩
      | lst c => exact ⟨_, rfl, _, _, _, _, _, rfl, cv _, knd_ty hx, knd_int (.lst c), _, rfl, iteF k⟩
      | tup c => exact ⟨_, rfl, _, _, _, _, _, rfl, cv _, knd_ty hx, knd_int (.tup c), _, rfl, iteF k⟩
    | str b =>
      refine iteF ⟨_, rfl, _, _, _, _, _, rfl, cv _, knd_ty hy, knd_bool (.str b), _, rfl, iteF ?_⟩
      refine ⟨_, rfl, _, _, _, _, _, rfl, cv _, knd_ty hy, knd_int (.str b), _, rfl, iteF ?_⟩
      simp only [dR] at hy
      subst hy
      cases x with
      | str c =>
        refine ⟨_, rfl, _, _, _, _, _, rfl, cv _, knd_ty hx, knd_str (.str c), _, rfl, iteT ?_⟩
        simp only [dR] at hx
        subst hx
        refine ⟨_, rfl, _, rfl, rfl, ?_⟩
        have e : decide (V.str c = V.str b) = eqd (.str c) (.str b) := by simp [eqd]
        rw [← e] at k; exact k
      | bl c => exact ⟨_, rfl, _, _, _, _, _, rfl, cv _, knd_ty hx, knd_str (.bl c), _, rfl, iteF k⟩
      | non => exact ⟨_, rfl, _, _, _, _, _, rfl, cv _, knd_ty hx, knd_str .non, _, rfl, iteF k⟩
      | int c => exact ⟨_, rfl, _, _, _, _, _, rfl, cv _, knd_ty hx, knd_str (.int c), _, rfl, iteF k⟩
      | lst c => exact ⟨_, rfl, _, _, _, _, _, rfl, cv _, knd_ty hx, knd_str (.lst c), _, rfl, iteF k⟩
      | tup c => exact ⟨_, rfl, _, _, _, _, _, rfl, cv _, knd_ty hx, knd_str (.tup c), _, rfl, iteF k⟩
end
end K

set_option Elab.async false
set_option linter.all false
set_option maxRecDepth 100000
set_option maxHeartbeats 4000000
namespace K
open PySem PySem.Spec PyProof.Rows L2 TL Tk Hd Rd
theorem takesN0 {X : Cx} : L2N.Takes X (fun _ _ _ _ => False) := fun _ _ x => by
  obtain ⟨a, B, sI, pins, σ, H, cls, d, h1, h2, h3, h4, h5, h6, h7, h8, z⟩ := x
  exact z.elim
theorem kitBT {K : PySem.W.Frag} {mg : Str → Option Value} (D : Dt K mg) : PySem.W.kitAny K (.ref (CBT K)) [.ref (He.ga K "BadMachine"), .ref (He.ga K "BadPaper"), .ref (He.ga K "BadRatio"), .ref (He.ga K "TooLarge")] = some false := by
  simp only [PySem.W.kitAny, kit_BadText_BadMachine D, kit_BadText_BadPaper D, kit_BadText_BadRatio D, kit_BadText_TooLarge D]
section
variable {P : Program} {w : World} {K : PySem.W.Frag} {mg : Str → Option Value} {base : Heap}
def spLaw (K : PySem.W.Frag) : Sp := fun vs H Q _ => ∃ (a : Addr) (ns : List Int), vs = [.ref a] ∧ SqL K H a (ns.map V.int) ∧ ns.length ≤ 63 ∧ ∀ H', Q (.bl true) H'
def Nlaw : List Str := ["script", "pool", "uses", "words", "k", "word", "turn", "text", "wrong", "actual", "e"]
theorem sc_law : FnScope Nlaw ["script"] (defScope s_law) := ⟨rfl, rfl, rfl, by decide +kernel, rfl, by decide +kernel, by decide +kernel⟩
theorem ok_law (D : Dt K mg) {fd : FuncData} (F : FnP K "law" "law" s_law [] (He.ga K "law") fd) : FnOk P w K mg base (L2.CX P w) 40 (He.ga K "law") fd ["script"] (spLaw K) := by
  have H__law_pool := ok_pool (P := P) (w := w) (base := base) D
  have H__law_draw := ok_draw (P := P) (w := w) (base := base) D
  have H__law_box := ok_box (P := P) (w := w) (base := base) D
  have H__law_words := ok_lw (P := P) (w := w) (base := base) D
  have H__law_changed := ok_changed (P := P) (w := w) (base := base) D
  have H__law_menu := ok_menu (P := P) (w := w) (base := base) D
  have H__law_wrong := ok_wrong (P := P) (w := w) (base := base) D
  have H__law_joined := ok_joined (P := P) (w := w) (base := base) D
  have H_read_box := ok_read_box (P := P) (w := w) (base := base) D
  have H_read_around := ok_read_around (P := P) (w := w) (base := base) D
  have H_box_text := ok_box_text (P := P) (w := w) (base := base) D
  have H__law_same := ok_same (P := P) (w := w) (base := base) D 1
  obtain ⟨fdH, kH, bH, H_sameH⟩ := ok_sameHot (P := P) (w := w) (base := base) D
  refine fnN F sc_law (fun vs H Q E h => ?_) (fun cdv A outer s H vs Q E hr h => ?_)
  · obtain ⟨a, ns, rfl, _⟩ := h; rfl
  · obtain ⟨a, ns, rfl, hS, hl, k⟩ := h
    refine ⟨_, (pss_cons (ps_set (i := 1) sc_law.nd rfl (Or.inl rfl) (pe_callH H__law_pool (hr.mono (by omega)) rfl (glo__law_pool D) passL (pa_cons (pv 0) (pa_cons pe_int pa_nil))))
      (pss_cons (ps_set (i := 2) sc_law.nd rfl (Or.inl rfl) (pe_ix (ix_tupK K) (pe_tup (pa_cons pe_int (pa_cons pe_int pa_nil))) (pe_callH H__law_draw (hr.mono (by omega)) rfl (glo__law_draw D) passL (pa_cons (pv 1) (pa_cons pe_int pa_nil))) (fun _ _ => rfl)))
      (pss_cons (ps_set (i := 3) sc_law.nd rfl (Or.inl rfl) (pe_callH H__law_changed (hr.mono (by omega)) rfl (glo__law_changed D) passL (pa_cons (pv 1) (pa_cons (pe_callH H__law_words (hr.mono (by omega)) rfl (glo__law_words D) passL (pa_cons (pe_callH H__law_box (hr.mono (by omega)) rfl (glo__law_box D) passL (pa_cons (pv 1) (pa_cons pe_int (pa_cons pe_int (pa_cons (pe_op op_mulW (pe_callTy call_int1 rfl (free_int D) (by decide +kernel) (pa_cons (pe_cmpR op_gt (pv 2) pe_int (nomark _)) pa_nil)) pe_int) (pa_cons pe_int pa_nil)))))) pa_nil)) pa_nil))))
      (pss_cons (ps_if (pt_cmpR op_eq (pe_callH H__law_draw (hr.mono (by omega)) rfl (glo__law_draw D) passL (pa_cons (pv 1) (pa_cons pe_int pa_nil))) pe_int (nomark _))
      (pss_cons (ps_set (i := 3) sc_law.nd rfl (Or.inl rfl) (pe_op op_cat (pe_op op_cat (pe_lst (pa_cons pe_str (pa_cons pe_str (pa_cons pe_str (pa_cons pe_str pa_nil))))) (pe_op op_rep (pe_lst (pa_cons pe_str (pa_cons pe_str (pa_cons pe_str pa_nil)))) (pe_callH H__law_draw (hr.mono (by omega)) rfl (glo__law_draw D) passL (pa_cons (pv 1) (pa_cons pe_int pa_nil))))) (pe_slice (sl_listK K) (pe_lst (pa_cons pe_str (pa_cons pe_str pa_nil))) po_none (po_some (pe_callH H__law_draw (hr.mono (by omega)) rfl (glo__law_draw D) passL (pa_cons (pv 1) (pa_cons pe_int pa_nil)))))))
      (pss_one (ps_for PassesOwn.never rfl (pi_range1 rfl (free_range D) (pa_cons (pe_callH H__law_draw (hr.mono (by omega)) rfl (glo__law_draw D) passL (pa_cons (pv 1) (pa_cons pe_int pa_nil))) pa_nil)) (pg_name (i := 4) sc_law.nd rfl (Or.inl rfl))
      (pss_cons (ps_set (i := 5) sc_law.nd rfl (Or.inl rfl) (pe_callH H__law_menu (hr.mono (by omega)) rfl (glo__law_menu D) passL (pa_cons (pv 1) pa_nil)))
      (pss_cons (ps_for PassesOwn.never rfl (pi_range1 rfl (free_range D) (pa_cons pe_int pa_nil)) (pg_name (i := 6) sc_law.nd rfl (Or.inl rfl))
      (pss_one (ps_if (pt_cmpR op_eq (pe_callH H__law_wrong (hr.mono (by omega)) rfl (glo__law_wrong D) passL (pa_cons (pe_op op_cat (pv 3) (pe_lst (pa_cons (pv 5) pa_nil))) (pa_cons (pv 2) pa_nil))) (pe_callB (call_lenK K) rfl (free_len D) PySem.boot_len (pa_cons (pv 3) pa_nil)) (nomark _))
      (pss_one (ps_set (i := 5) sc_law.nd rfl (Or.inl rfl) (pe_callH H__law_menu (hr.mono (by omega)) rfl (glo__law_menu D) passL (pa_cons (pv 1) pa_nil))))
      pss_nil)))
      (pss_one (ps_expr (pe_bm PySem.F.plainAttrs_list PySem.F.slot_list_append PySem.F.type_list_append mt_append (pv 3) (pa_cons (pv 5) pa_nil)))))))))
      pss_nil)
      (pss_cons (ps_set (i := 7) sc_law.nd rfl (Or.inl rfl) (pe_callH H__law_joined (hr.mono (by omega)) rfl (glo__law_joined D) passL (pa_cons (pv 1) (pa_cons (pv 3) pa_nil))))
      (pss_cons (ps_set (i := 3) sc_law.nd rfl (Or.inl rfl) (pe_bm PySem.F.plainAttrs_str PySem.F.slot_str_split PySem.F.type_str_split mt_split (pv 7) (pa_cons pe_str pa_nil)))
      (pss_cons (ps_if (pt_cmpR op_eq (pv 7) pe_str (nomark _))
      (pss_one (ps_set (i := 3) sc_law.nd rfl (Or.inl rfl) (pe_lst pa_nil)))
      pss_nil)
      (pss_cons (ps_set (i := 8) sc_law.nd rfl (Or.inl rfl) (pe_callH H__law_wrong (hr.mono (by omega)) rfl (glo__law_wrong D) passL (pa_cons (pv 3) (pa_cons (pv 2) pa_nil))))
      (pss_cons (L2N.ps_try_as (i := 10) (Wout := fun _ _ _ _ => False) rfl rfl sc_law.nd rfl rfl ⟨rfl, by decide, .inl (glo_TestError D)⟩ takesN0
      (tb := fun W => tIfS (tTest (tOp rEq (tVar 2) (tC (.int 0)))) (tAsg (tCall (spBoxText K) [] E0 (tCons (tCallS (spRd K false) (WE W) (tCons (tVar 7) tNil)) tNil)) (gName 9)) (tAsg (tCall (spBoxText K) [] E0 (tCons (tCallS (spRd K true) (WE W) (tCons (tVar 7) tNil)) tNil)) (gName 9)))
      (fun W pn xe tk _ => pss_one (ps_if (pt_cmpR op_eq (pv 2) pe_int (nomark _))
        (pss_one (ps_set (i := 9) sc_law.nd rfl (Or.inl rfl) (pe_callH H_box_text (hr.mono (by omega)) rfl (glo_box_text D) passL (pa_cons (pe_callSHN H_read_box (hr.mono (by omega)) rfl (glo_read_box D) (fun σ => L2N.passAt tk σ) (pa_cons (pv 7) pa_nil)) pa_nil))))
        (pss_one (ps_set (i := 9) sc_law.nd rfl (Or.inl rfl) (pe_callH H_box_text (hr.mono (by omega)) rfl (glo_box_text D) passL (pa_cons (pe_callSHN H_read_around (hr.mono (by omega)) rfl (glo_read_around D) (fun σ => L2N.passAt tk σ) (pa_cons (pv 7) pa_nil)) pa_nil))))))
      (fun a oe cls d pn hz hf => pss_cons (ps_if (PW.pt (pw_or (pt_not (pt_val (pe_callB (call_isEd (isE_BadText D) hz.zc hf) rfl (free_isinstance D) (by decide +kernel) (pa_cons (pv 10) (pa_cons (pe_glob (v := .ref (He.ga K "BadText")) rfl (glo_BadText D) rfl) pa_nil))))) (pw_or1 (pt_val (pe_callB (call_isETd (isE_BadText D) hz.zc hf) rfl (free_isinstance D) (by decide +kernel) (pa_cons (pv 10) (pa_cons (pe_tup (pa_cons (pe_glob (v := .ref (He.ga K "BadMachine")) rfl (glo_BadMachine D) rfl) (pa_cons (pe_glob (v := .ref (He.ga K "BadPaper")) rfl (glo_BadPaper D) rfl) (pa_cons (pe_glob (v := .ref (He.ga K "BadRatio")) rfl (glo_BadRatio D) rfl) (pa_cons (pe_glob (v := .ref (He.ga K "TooLarge")) rfl (glo_TooLarge D) rfl) pa_nil))))) pa_nil)))))))
        (pss_one (ps_ret pe_bl))
        pss_nil)
        (pss_one (ps_ret (pe_and (pe_cmpR op_notN (pv 8) pe_non (nomark _)) (pe_one (L2H.pe_callH (E := fun _ => E0) H_sameH (L2H.roomH_mark (hr.mono (show 1 ≤ 39 by decide)) _) (hot_suite hz hf) rfl (glo__law_same D) kH bH (fun σ _ _ _ _ _ _ h => (cx_none h).elim) (pa_cons (pe_xf (oex_BadText D).xf (oex_BadText D).no hz.zc hf (pv 10)) (pa_cons (pv 8) pa_nil)))))))))
      (pss_one (ps_ret (pe_and (pe_cmpR op_isN (pv 8) pe_non (nomark _)) (pe_one (pe_callH H__law_same (hr.mono (by omega)) rfl (glo__law_same D) passL (pa_cons (pv 9) (pa_cons (pv 7) pa_nil)))))))))))))))), ?_⟩
    (try dsimp only)
    refine ⟨_, rfl, fun _ => none, a, ns, 24, rfl, (fun _ _ h => nomatch h), hS, by omega, fun I1 H1 p g1 po1 _ => ?_⟩
    (try dsimp only)
    refine seq_cut (fun σ' H' => ∃ (m : Nat) (U : Nat), m < 2 ∧ U = 24 * m ∧ σ' = [some (.ref a), some (.ref p), some (.int (U : Int)), none, none, none, none, none, none, none, none] ∧ ∃ I', Same I' H' ∧ PoolOk I' H' p) (fun nx q => ?_) ?_
    · refine ⟨(by show 2 ≤ sizeLine; decide), fun t ht => ?_⟩
      have g2 := Gr.new (ms := []) (o := .tup [.int 0, .int 24]) g1.ih ht
      refine ⟨_, rfl, _, p, 2, rfl, g2.ih, po1.up g2 (by simp), by decide, by decide, fun v H2 a0 a1 g3 po3 => ?_⟩
      obtain ⟨m, rfl⟩ := Int.eq_ofNat_of_zero_le a0
      have hm : m = 0 ∨ m = 1 := by omega
      rcases hm with rfl | rfl
      · exact ⟨t, _, _, .int 0, rfl, rfl, SqT.of (g3.ih _ _ upd_same), at_of (j := 0) rfl rfl, q _ _ ⟨0, 0, by decide, rfl, rfl, _, g3.ih, po3⟩⟩
      · exact ⟨t, _, _, .int 24, rfl, rfl, SqT.of (g3.ih _ _ upd_same), at_of (j := 1) rfl rfl, q _ _ ⟨1, 24, by decide, rfl, rfl, _, g3.ih, po3⟩⟩
    clear g1 po1 hS
    rintro σ' H2 ⟨m, U, hm, hU, rfl, I2, s2, po2⟩
    (try dsimp only)
    have hUar : U = (if decide (0 < m) = true then 24 else 0) := by
      have : m = 0 ∨ m = 1 := by omega
      rcases this with rfl | rfl
      · exact hU
      · exact hU
    have hsc : ∀ (o : Option Nat) (n : Int), scal (oInt o) (.int n) = true := fun o n => by cases o <;> rfl
    -- the words of a box, changed
    refine seq_cut (fun σ' H' => ∃ vw, σ' = [some (.ref a), some (.ref p), some (.int (U : Int)), some vw, none, none, none, none, none, none, none] ∧ ∃ I' ws, Same I' H' ∧ PoolOk I' H' p ∧ iSs I' vw ws ∧ Wds 13 ws ∧ ws.length ≤ 500100) (fun nx q => ?_) ?_
    · have eu : (if decide ((0 : Int) < (U : Int)) = true then (1 : Int) else 0) * 5 = ((5 * m : Nat) : Int) := by
        have : m = 0 ∨ m = 1 := by omega
        rcases this with rfl | rfl
        · subst hU; rfl
        · subst hU; rfl
      refine ⟨_, rfl, _, rfl, _, rfl, _, _, rfl, rfl, .inr ⟨_, rfl, _, _, rfl, rfl, ?_, ?_⟩⟩
      · have h1 : (if decide ((0 : Int) < (U : Int)) = true then (1 : Int) else 0) = 0 ∨ (if decide ((0 : Int) < (U : Int)) = true then (1 : Int) else 0) = 1 := by
          split
          · exact .inr rfl
          · exact .inl rfl
        rcases h1 with h | h
        · rw [h]; exact wide_mul (a := 64) (b := 64) (by decide) (by decide) (by decide) (by decide) (by decide)
        · rw [h]; exact wide_mul (a := 64) (b := 64) (by decide) (by decide) (by decide) (by decide) (by decide)
      · (try dsimp only)
        rw [eu]
        refine ⟨I2, p, 12, 4, 5 * m, decide (0 < m), rfl, s2, po2, by decide, by decide, by decide, by omega, fun z => decide_eq_true (by omega), fun I3 H3 vd b g3 po3 rb bx => ?_⟩
        refine ⟨I3, vd, b, 12, 4, decide (0 < m), rfl, g3.ih, rb, bx, fun I4 H4 v4 g4 r4 => ?_⟩
        have lb := bx_words_le bx
        exact ⟨I4, p, v4, b.words, 9, rfl, g4.ih, po3.up g4 (by simp), r4, (wds_bx bx.ok).more (by decide), by decide, by decide, by omega, fun I5 H5 v5 ws5 g5 po5 r5 w5 l5 => q _ _ ⟨v5, rfl, I5, ws5, g5.ih, po5, r5, w5, by omega⟩⟩
    clear s2 po2 I2
    rintro σ' H3 ⟨vw, rfl, I3, ws3, s3, po3, rw3, hw3, ln3⟩
    (try dsimp only)
    -- or words drawn one by one
    refine seq_cut (fun σ' H' => ∃ x4 x5 x6 vw, σ' = [some (.ref a), some (.ref p), some (.int (U : Int)), some vw, x4, x5, x6, none, none, none, none] ∧ ∃ I' ws, Same I' H' ∧ PoolOk I' H' p ∧ iSs I' vw ws ∧ Wds 13 ws ∧ ws.length ≤ 500100) (fun nx q => ?_) ?_
    · refine ⟨_, rfl, I3, p, 3, rfl, s3, po3, by decide, by decide, fun v4 H4 a0 a1 g4 po4 => ?_⟩
      refine ⟨rfl, _, rfl, ifB (fun _ => ?_) (fun _ => q _ _ ⟨_, _, _, vw, rfl, I3, ws3, g4.ih, po4, rw3, hw3, ln3⟩)⟩
      clear rw3 hw3 ln3
      refine seq_cut (fun σ' H' => ∃ W, σ' = [some (.ref a), some (.ref p), some (.int (U : Int)), some (.ref W), none, none, none, none, none, none, none] ∧ ∃ I' ws, Same I' H' ∧ PoolOk I' H' p ∧ I' W = none ∧ p ≠ W ∧ H' W = some (.lst (ws.map V.str)) ∧ Wds 13 ws ∧ ws.length ≤ 20) (fun nx2 q2 => ?_) ?_
      · refine ⟨(by show 4 ≤ sizeLine; decide), fun l1 hl1 => ?_⟩
        have g5 := Gr.new (ms := []) (o := .lst (([wd "buttons", wd "2", wd "answers", wd "3"] : List Str).map V.str)) g4.ih hl1
        have hI1 : _ = some (HO.lst (([wd "buttons", wd "2", wd "answers", wd "3"] : List Str).map V.str)) := upd_same (H := I3) (a := l1)
        refine ⟨(by show 3 ≤ sizeLine; decide), fun l2 hl2 => ?_⟩
        have g6 := Gr.new (ms := []) (o := .lst (([wd "var", wd "x", wd "7"] : List Str).map V.str)) g5.ih hl2
        refine ⟨_, rfl, _, p, 2, rfl, g6.ih, (po4.up g5 (by simp)).up g6 (by simp), by decide, by decide, fun v7 H7 b0 b1 g7 po7 => ?_⟩
        obtain ⟨m2, rfl⟩ := Int.eq_ofNat_of_zero_le b0
        refine ⟨l2, (m2 : Int), _, rfl, rfl, g7.ih _ _ (upd_same (a := l2)), by omega, by omega, Nat.le_trans (show 3 * (m2 : Int).toNat ≤ 10 by omega) (by decide), fun l3 hl3 => ?_⟩
        have e3 : (List.replicate (m2 : Int).toNat ((([wd "var", wd "x", wd "7"] : List Str)).map V.str)).flatten = ((List.replicate m2 ([wd "var", wd "x", wd "7"] : List Str)).flatten).map V.str := by
          rw [Int.toNat_natCast, List.map_flatten, List.map_replicate]
        rw [e3]
        have g8 := Gr.new (ms := []) (o := .lst (((List.replicate m2 ([wd "var", wd "x", wd "7"] : List Str)).flatten).map V.str)) g7.ih hl3
        have lx : ((List.replicate m2 ([wd "var", wd "x", wd "7"] : List Str)).flatten).length ≤ 3 := by
          have : m2 = 0 ∨ m2 = 1 := by omega
          rcases this with rfl | rfl <;> decide
        have wx : Wds 13 ((List.replicate m2 ([wd "var", wd "x", wd "7"] : List Str)).flatten) := by
          have : m2 = 0 ∨ m2 = 1 := by omega
          rcases this with rfl | rfl
          · exact wds_all (by decide +kernel)
          · exact wds_all (by decide +kernel)
        (try dsimp only)
        refine catL_of (xs := ([wd "buttons", wd "2", wd "answers", wd "3"] : List Str)) g8.ih (g8.ii _ _ (g7.ii _ _ (g6.ii _ _ hI1))) upd_same (by simp only [List.length_cons, List.length_nil]; omega) fun I9 H9 l4 g9 hl4 => ?_
        refine ⟨(by show 2 ≤ sizeLine; decide), fun l5 hl5 => ?_⟩
        have g10 := Gr.new (ms := []) (o := .lst (([wd "start", wd "press"] : List Str).map V.str)) g9.ih hl5
        have po10 := ((po7.up g8 (by simp)).up g9 (by simp)).up g10 (by simp)
        refine ⟨_, rfl, _, p, 3, rfl, g10.ih, po10, by decide, by decide, fun v11 H11 c0 c1 g11 po11 => ?_⟩
        refine ⟨_, rfl, ?_⟩
        refine slL_of (xs := ([wd "start", wd "press"] : List Str)) g11.ih upd_same fun I12 H12 l6 g12 hl6 => ?_
        have po12 := po11.up g12 (by simp)
        have ls := cutW_le (ws := ([wd "start", wd "press"] : List Str)) (lo := none) (hi := some v11)
        have ls2 : ([wd "start", wd "press"] : List Str).length = 2 := rfl
        have h4 := g12.ih _ _ (g12.ii _ _ (g11.ii _ _ (g10.ii _ _ hl4)))
        have h6 := g12.ih _ _ hl6
        have lA : (([wd "buttons", wd "2", wd "answers", wd "3"] : List Str) ++ (List.replicate m2 ([wd "var", wd "x", wd "7"] : List Str)).flatten).length ≤ 7 := by rw [List.length_append]; simp only [List.length_cons, List.length_nil]; omega
        refine ⟨l4, l6, _, _, rfl, rfl, h4, h6, Nat.le_trans (show _ ≤ 20 by rw [List.length_map, List.length_map]; omega) (by decide), fun W hW => ?_⟩
        have g13 := Gr.tmp (ms := []) (o := .lst (((([wd "buttons", wd "2", wd "answers", wd "3"] : List Str) ++ (List.replicate m2 ([wd "var", wd "x", wd "7"] : List Str)).flatten) ++ cutW ([wd "start", wd "press"] : List Str) none (some v11)).map V.str)) g12.ih hW
        rw [← List.map_append]
        refine q2 _ _ ⟨W, rfl, I12, _, g13.ih, po12.up g13 (by simp), g12.ih.free hW, pool_ne po12 hW, upd_same, ?_, ?_⟩
        · exact ((wds_all (by decide +kernel)).app wx).app (cutW_wds (wds_all (by decide +kernel)))
        · rw [List.length_append]; omega
      rintro σ' H5 ⟨W, rfl, I5, ws5, s5, po5, iW, npW, hW, hw5, ln5⟩
      (try dsimp only)
      refine ⟨_, rfl, I5, p, 25, rfl, s5, po5, by decide, by decide, fun v6 H6 a2 a3 g6 po6 => ?_⟩
      obtain ⟨mm, rfl⟩ := Int.eq_ofNat_of_zero_le a2
      refine ⟨_, rfl, by omega, by omega, ?_⟩
      refine for_rangeP (n := mm) (fun σ' H' => ∃ x4 x5 x6 vw, σ' = [some (.ref a), some (.ref p), some (.int (U : Int)), some vw, x4, x5, x6, none, none, none, none] ∧ ∃ I' ws, Same I' H' ∧ PoolOk I' H' p ∧ iSs I' vw ws ∧ Wds 13 ws ∧ ws.length ≤ 500100)
        (fun i σ' H' => ∃ x4 x5 x6, σ' = [some (.ref a), some (.ref p), some (.int (U : Int)), some (.ref W), x4, x5, x6, none, none, none, none] ∧ ∃ I' ws, Same I' H' ∧ PoolOk I' H' p ∧ I' W = none ∧ p ≠ W ∧ H' W = some (.lst (ws.map V.str)) ∧ Wds 13 ws ∧ ws.length ≤ 20 + i)
        ⟨none, none, none, rfl, I5, ws5, g6.ih, po6, iW, npW, g6.at hW (by simpa using npW.symm), hw5, by omega⟩ (fun nx2 q2 i σ' H7 hi h => ?_) (fun σ' H' h => ?_) q
      rotate_left
      · obtain ⟨x4, x5, x6, rfl, I', ws, s, po, iW, np, hW, hw, ln⟩ := h
        have sf : Same (upd I' W (.lst (ws.map V.str))) H' := fun b o e => by
          by_cases z : b = W
          · subst z; rw [upd_same] at e; rw [hW]; exact e
          · rw [upd_ne z] at e; exact s _ _ e
        exact ⟨x4, x5, x6, _, rfl, _, ws, sf, pool_frz np iW po, ⟨W, rfl, upd_same⟩, hw, by omega⟩
      obtain ⟨x4, x5, x6, rfl, I7, ws7, s7, po7, iW, npW, hW, hw7, ln7⟩ := h
      refine ⟨_, rfl, I7, p, rfl, s7, po7, fun I8 H8 w8 g8 po8 wd8 => ?_⟩
      have hW8 := g8.at hW (by simpa using npW.symm)
      have iW8 := g8.out iW hW
      (try dsimp only)
      generalize hx4 : some (V.int ((0 : Int) + (i : Int))) = x4
      refine seq_cut (fun σ' H' => ∃ x6 wd5, σ' = [some (.ref a), some (.ref p), some (.int (U : Int)), some (.ref W), x4, some (.str wd5), x6, none, none, none, none] ∧ Wd 13 wd5 ∧ ∃ I' ws, Same I' H' ∧ PoolOk I' H' p ∧ I' W = none ∧ p ≠ W ∧ H' W = some (.lst (ws.map V.str)) ∧ Wds 13 ws ∧ ws.length ≤ 20 + i) (fun nx3 q3 => ?_) ?_
      · refine ⟨_, rfl, by omega, by omega, ?_⟩
        refine for_rangeP (n := 8) (fun σ' H' => ∃ x6 wd5, σ' = [some (.ref a), some (.ref p), some (.int (U : Int)), some (.ref W), x4, some (.str wd5), x6, none, none, none, none] ∧ Wd 13 wd5 ∧ ∃ I' ws, Same I' H' ∧ PoolOk I' H' p ∧ I' W = none ∧ p ≠ W ∧ H' W = some (.lst (ws.map V.str)) ∧ Wds 13 ws ∧ ws.length ≤ 20 + i)
          (fun j σ' H' => ∃ x6 wd5, σ' = [some (.ref a), some (.ref p), some (.int (U : Int)), some (.ref W), x4, some (.str wd5), x6, none, none, none, none] ∧ Wd 13 wd5 ∧ ∃ I' ws, Same I' H' ∧ PoolOk I' H' p ∧ I' W = none ∧ p ≠ W ∧ H' W = some (.lst (ws.map V.str)) ∧ Wds 13 ws ∧ ws.length ≤ 20 + i)
          ⟨_, w8, rfl, wd8.more (by decide), I8, ws7, g8.ih, po8, iW8, npW, hW8, hw7, ln7⟩ (fun nx4 q4 j σ' H9 hj h => ?_) (fun σ' H' h => h) q3
        obtain ⟨x6, wd5, rfl, hwd5, I9, ws9, s9, po9, iW9, npW9, hW9, hw9, ln9⟩ := h
        refine ⟨_, rfl, _, rfl, (by show 1 ≤ sizeLine; decide), fun l hl => ?_⟩
        have g10 := Gr.tmp (ms := []) (o := .lst ([wd5].map V.str)) s9 hl
        have hW10 := g10.at hW9 (by simp)
        refine ⟨W, l, _, _, rfl, rfl, hW10, upd_same, Nat.le_trans (show (ws9.map V.str).length + 1 ≤ 100 by rw [List.length_map]; omega) (by decide), fun c hc => ?_⟩
        have g11 := Gr.new (ms := []) (o := .lst ((ws9 ++ [wd5]).map V.str)) g10.ih hc
        have e11 : ws9.map V.str ++ [V.str wd5] = (ws9 ++ [wd5]).map V.str := by rw [List.map_append]; rfl
        rw [e11]
        have hall : Wds 13 (ws9 ++ [wd5]) := hw9.app (Wds.one hwd5)
        refine ⟨_, rfl, _, .ref c, ws9 ++ [wd5], decide (0 < m), U, rfl, hUar, g11.ih, ⟨c, rfl, upd_same⟩, ⟨by rw [List.length_append]; simp; omega, fun x hx => by have := (hall x hx).l; rw [len_tl'] at this; exact Nat.le_trans this (by decide)⟩, fun I12 H12 g12 => ?_⟩
        have G := g10.trans (g11.trans g12)
        have hW12 := G.at hW9 (by simp)
        have iW12 := G.out iW9 hW9
        have po12 := po9.up G (by simp)
        refine ⟨_, rfl, _, ws9.length, rfl, .inl ⟨_, SqL.of hW12, by rw [List.length_map]⟩, hsc _ _, _, rfl, ifB (fun _ => ?_) (fun _ => ?_)⟩
        · refine ⟨_, rfl, I12, p, rfl, G.ih, po12, fun I13 H13 w13 g13 po13 wd13 => ?_⟩
          exact ⟨_, w13, rfl, wd13.more (by decide), I13, ws9, g13.ih, po13, g13.out iW12 hW12, npW9, g13.at hW12 (by simpa using npW9.symm), hw9, ln9⟩
        · exact ⟨_, wd5, rfl, hwd5, I12, ws9, G.ih, po12, iW12, npW9, hW12, hw9, ln9⟩
      rintro σ' H9 ⟨x6, wd5, rfl, hwd5, I9, ws9, s9, po9, iW9, npW9, hW9, hw9, ln9⟩
      (try dsimp only)
      refine ⟨_, rfl, .inl ⟨rfl, _, SqL.of hW9⟩, _, rfl, W, _, _, rfl, rfl, hW9, Nat.lt_of_le_of_lt (show (ws9.map V.str).length ≤ 100 by rw [List.length_map]; omega) (by decide), ?_⟩
      have g10 : Gr [W] I9 H9 I9 _ := Gr.mut (o := .lst (ws9.map V.str ++ [.str wd5])) s9 iW9 (by simp)
      exact ⟨x4, _, x6, rfl, I9, ws9 ++ [wd5], g10.ih, po9.up g10 (by simpa using npW9), iW9, npW9, by rw [upd_same, List.map_append]; rfl, hw9.app (Wds.one hwd5), by rw [List.length_append]; simp; omega⟩
    clear s3 po3 rw3 hw3 ln3
    rintro σ' H4 ⟨x4, x5, x6, vw, rfl, I4, ws4, s4, po4, rw4, hw4, ln4⟩
    (try dsimp only)
    -- the text
    refine seq_cut (fun σ' H' => ∃ ws, σ' = [some (.ref a), some (.ref p), some (.int (U : Int)), some vw, x4, x5, x6, some (.str (jn ws)), none, none, none] ∧ (∃ I', Same I' H' ∧ PoolOk I' H' p) ∧ (∀ w ∈ ws, 32 ∉ tl w ∧ w.length ≤ 100) ∧ ws.length ≤ 550000 ∧ (jn ws).length ≤ 9000000) (fun nx q => ?_) ?_
    · exact ⟨_, rfl, _, rfl, I4, p, vw, ws4, 13, rfl, s4, po4, rw4, hw4, by decide, by omega, fun I5 H5 ws5 g5 po5 h1 h2 h3 => q _ _ ⟨ws5, rfl, ⟨I5, g5.ih, po5⟩, h1, h2, h3⟩⟩
    clear s4 po4 rw4 hw4 ln4
    rintro σ' H5 ⟨ws, rfl, ⟨I5, s5, po5⟩, hno, hln, hjl⟩
    (try dsimp only)
    obtain ⟨z, hz⟩ : ∃ z, z = jn ws := ⟨_, rfl⟩
    rw [← hz] at hjl ⊢
    have hW : jn (wordsOf z) = z ∧ (wordsOf z).length ≤ 550000 ∧ ∀ w ∈ wordsOf z, w.length ≤ 100 := by
      unfold wordsOf
      by_cases c : z = ("" : Str)
      · rw [if_pos c]
        exact ⟨by rw [c, jn_nil]; rfl, by simp, fun w h => by simp at h⟩
      · rw [if_neg c]
        have hne : ws ≠ [] := fun h => c (by rw [hz, h, jn_nil]; rfl)
        rw [hz, words_split hne fun w hw => (hno w hw).1]
        exact ⟨rfl, hln, fun w hw => (hno w hw).2⟩
    have hzl : z.length + 2 ≤ sizeLine := Nat.le_trans (by omega : z.length + 2 ≤ 16777216) (by decide)
    have hwl : (wordsOf z).length ≤ 1000000 := by omega
    clear hno hln hz
    -- its words
    refine seq_cut (fun σ' H' => ∃ W, σ' = [some (.ref a), some (.ref p), some (.int (U : Int)), some (.ref W), x4, x5, x6, some (.str z), none, none, none] ∧ ∃ I', Same I' H' ∧ I' W = some (.lst ((if z = ("" : Str) then Txt.split z " " else wordsOf z).map V.str))) (fun nx q => ?_) ?_
    · refine ⟨_, rfl, rfl, z, _, rfl, rfl, by decide +kernel, hzl, fun W hW' => ?_⟩
      have g := Gr.new (ms := []) (o := .lst ((Txt.split z " ").map V.str)) s5 hW'
      refine q _ _ ⟨W, rfl, _, g.ih, ?_⟩
      rw [upd_same]
      by_cases c : z = ("" : Str)
      · rw [if_pos c]
      · rw [if_neg c]; unfold wordsOf; rw [if_neg c]
    clear s5 po5 I5
    rintro σ' H6 ⟨W, rfl, I6, s6, hI6⟩
    (try dsimp only)
    refine seq_cut (fun σ' H' => ∃ W, σ' = [some (.ref a), some (.ref p), some (.int (U : Int)), some (.ref W), x4, x5, x6, some (.str z), none, none, none] ∧ ∃ I', Same I' H' ∧ I' W = some (.lst ((wordsOf z).map V.str))) (fun nx q => ?_) ?_
    · refine ⟨_, rfl, rfl, _, rfl, ?_⟩
      by_cases c : z = ("" : Str)
      · refine ifT (by rw [c]; exact decide_eq_true rfl) ?_
        refine ⟨(by show 0 ≤ sizeLine; decide), fun W2 hW2 => ?_⟩
        have g := Gr.new (ms := []) (o := .lst []) s6 hW2
        refine q _ _ ⟨W2, rfl, _, g.ih, ?_⟩
        rw [upd_same]; unfold wordsOf; rw [if_pos c]; rfl
      · refine ifF (by rw [strEq]; exact decide_eq_false c) (q _ _ ⟨W, rfl, I6, s6, ?_⟩)
        rw [if_neg c] at hI6; exact hI6
    clear s6 hI6 I6
    rintro σ' H7 ⟨W, rfl, I7, s7, hI7⟩
    (try dsimp only)
    -- what is worked out
    refine seq_cut (fun σ' H' => σ' = [some (.ref a), some (.ref p), some (.int (U : Int)), some (.ref W), x4, x5, x6, some (.str z), some (oInt (wrong (wordsOf z) (decide (0 < m)))), none, none] ∧ ∃ I', Same I' H') (fun nx q => ?_) ?_
    · exact ⟨_, rfl, _, rfl, I7, .ref W, wordsOf z, decide (0 < m), U, rfl, hUar, s7, ⟨W, rfl, hI7⟩, ⟨hwl, fun x hx => Nat.le_trans (hW.2.2 x hx) (by decide)⟩, fun I8 H8 g8 => q _ _ ⟨rfl, I8, g8.ih⟩⟩
    clear s7 hI7 I7
    rintro σ' H8 ⟨rfl, I8, s8⟩
    (try dsimp only)
    have rdw := wrong_read (ws := wordsOf z) (ar := decide (0 < m))
    -- what is read
    refine seq_cut (fun σ' H' => σ' = [some (.ref a), some (.ref p), some (.int (U : Int)), some (.ref W), x4, x5, x6, some (.str z), some .non, some (.str z), none]) (fun nx q => ?_) ?_
    · have good : ∀ (ar : Bool) (b : Bx) (I' H' : Hp) (v' : V) , ar = decide (0 < m) → (∃ r, readR (wordsOf z) ar = .ok b r) → Gr [] I8 H8 I' H' → iBx K I' v' b → spBoxText K ([v'] ++ []) H' (fun v H' => gName 9 v [some (.ref a), some (.ref p), some (.int (U : Int)), some (.ref W), x4, x5, x6, some (.str z), some (oInt (wrong (wordsOf z) (decide (0 < m)))), none, none] H' nx) E0 := fun ar b I' H' v' ea er g rb => by
        obtain ⟨r, er⟩ := er
        obtain ⟨h1, h2, _⟩ := read_sound er
        have hwn : wrong (wordsOf z) (decide (0 < m)) = none := by rw [rdw, ← ea, er]
        refine ⟨I', v', b, ar, rfl, g.ih, rb, h1, by rw [h2, hW.1]; omega, by rw [h2]; exact hwl, fun I2 H2 g2 => ?_⟩
        rw [hwn, h2, hW.1]
        exact q _ _ rfl
      have bad : ∀ (ar : Bool) (n : Nat) (I' H' : Hp) (d : Addr), ar = decide (0 < m) → readR (wordsOf z) ar = .bad n → Gr [] I8 H8 I' H' → H' d = some (.xd [("at", .int (n : Int))]) → wrong (wordsOf z) (decide (0 < m)) = some n := fun ar n I' H' d ea er g hd => by rw [rdw, ← ea, er]
      have hmm : m = 0 ∨ m = 1 := by omega
      obtain ⟨m', hmm'⟩ : ∃ m', m' = m := ⟨_, rfl⟩
      have hm01 : m' = 0 ∨ m' = 1 := by omega
      rcases hm01 with hm' | hm'
      · have har : false = decide (0 < m') := by rw [hm']; rfl
        refine ⟨_, rfl, rfl, _, rfl, ifT (by rw [hU, ← hmm', hm']; exact decide_eq_true rfl) ?_⟩
        refine ⟨_, rfl, I8, z, rfl, s8, hzl, hwl, ?_⟩
        cases er : readR (wordsOf z) false with
        | ok b r => exact fun I' H' v' g rb => good false b I' H' v' (by rw [har, hmm']) ⟨r, er⟩ g rb
        | bad n =>
          intro I' H' d g hd
          have hwn := bad false n I' H' d (by rw [har, hmm']) er g hd
          rw [hwn]
          refine ⟨true, exm_BadText_TestError D, fun _ e9 he => ?_, fun q => nomatch q⟩
          refine ⟨_, rfl, rfl, ⟨d, _, rfl, hd⟩, _, _, true, rfl, (fun u r => r), kit_BadText_BadText D, _, rfl, ifF rfl ?_⟩
          refine ⟨_, rfl, (by show 4 ≤ sizeLine; decide), fun T hT => ?_⟩
          refine ⟨rfl, ⟨d, _, rfl, sNew hT _ _ hd⟩, T, _, _, false, rfl, upd_same, .cons (.own _) (.cons (.own _) (.cons (.own _) (.cons (.own _) .nil))), kitBT D, _, rfl, ifF rfl ?_⟩
          (try unfold tNext)
          (try dsimp only)
          refine ⟨_, rfl, rfl, _, rfl, ?_⟩
          refine ifT (by show (!decide (V.int (n : Int) = V.non)) = true; rw [decide_eq_false (fun h => by cases h)]; rfl) ?_
          refine ⟨_, rfl, rfl, rfl, d, _, .int (n : Int), rfl, sNew hT _ _ hd, rfl, _, rfl, .int (n : Int), .int (n : Int), .int (n : Int), .int (n : Int), rfl, dR_int, dR_int, rfl, rfl, ?_⟩
          rw [(eqd_iff _ _).mpr rfl]
          exact k _
      · have har : true = decide (0 < m') := by rw [hm']; rfl
        refine ⟨_, rfl, rfl, _, rfl, ifF (by rw [hU, ← hmm', hm']; exact decide_eq_false (by intro h; injection h with h; exact absurd h (by decide))) ?_⟩
        refine ⟨_, rfl, I8, z, rfl, s8, hzl, hwl, ?_⟩
        cases er : readR (wordsOf z) true with
        | ok b r => exact fun I' H' v' g rb => good true b I' H' v' (by rw [har, hmm']) ⟨r, er⟩ g rb
        | bad n =>
          intro I' H' d g hd
          have hwn := bad true n I' H' d (by rw [har, hmm']) er g hd
          rw [hwn]
          refine ⟨true, exm_BadText_TestError D, fun _ e9 he => ?_, fun q => nomatch q⟩
          refine ⟨_, rfl, rfl, ⟨d, _, rfl, hd⟩, _, _, true, rfl, (fun u r => r), kit_BadText_BadText D, _, rfl, ifF rfl ?_⟩
          refine ⟨_, rfl, (by show 4 ≤ sizeLine; decide), fun T hT => ?_⟩
          refine ⟨rfl, ⟨d, _, rfl, sNew hT _ _ hd⟩, T, _, _, false, rfl, upd_same, .cons (.own _) (.cons (.own _) (.cons (.own _) (.cons (.own _) .nil))), kitBT D, _, rfl, ifF rfl ?_⟩
          (try unfold tNext)
          (try dsimp only)
          refine ⟨_, rfl, rfl, _, rfl, ?_⟩
          refine ifT (by show (!decide (V.int (n : Int) = V.non)) = true; rw [decide_eq_false (fun h => by cases h)]; rfl) ?_
          refine ⟨_, rfl, rfl, rfl, d, _, .int (n : Int), rfl, sNew hT _ _ hd, rfl, _, rfl, .int (n : Int), .int (n : Int), .int (n : Int), .int (n : Int), rfl, dR_int, dR_int, rfl, rfl, ?_⟩
          rw [(eqd_iff _ _).mpr rfl]
          exact k _
    rintro σ' H9 rfl
    (try dsimp only)
    refine ⟨_, rfl, rfl, _, rfl, ifT (decide_eq_true rfl) ?_⟩
    refine ⟨_, rfl, _, rfl, .str z, .str z, .str z, .str z, rfl, dR_str, dR_str, by simp [dep], by simp [tame], by simp [tame], ?_⟩
    rw [(eqd_iff _ _).mpr rfl]
    exact k _
end
end K

set_option Elab.async false
set_option linter.all false
set_option maxRecDepth 100000
namespace K
open PySem PySem.Spec PyProof.Rows L2 Tk Hd Rd
theorem facts {P : Program} {w : World} {K : PySem.W.Frag} {h : Heap} {mg : Str → Option Value} {f : Addr} (X : K.In h) (G : h.Ns mainGlobals mg) (hfa : mg ("law" : Str) = some (.ref f)) (c : SaysY ex fn K) :
    ∃ fd : FuncData, (∀ (s : Shared) (v : Value), BindsTo s fd ⟨[v], []⟩ [("script", v)]) ∧ ∀ base : Heap, K.In base → base.Ns mainGlobals mg → FnOk P w K mg base CX0 40 f fd ["script"] (fun vs H Q _ => spLaw K vs H Q E0) := by
  have D : Dt K mg := ⟨c, h, X, G⟩
  obtain ⟨fd, F⟩ := fd_law D
  have e := hfa.symm.trans (glo_law D)
  cases e
  have b := FunD.bindsA (ps := ["script"]) F fun _ _ _ _ _ _ us hl => match us, hl with | [_], _ => rfl
  exact ⟨fd, fun s v => b s [v] rfl, fun base _ _ => fn0 (ok_law D F)⟩
end K
open PySem PySem.W PySem.Calls PyProof.Rows
set_option maxHeartbeats 0 in
theorem PySem.Challenge.cw_notesttells_k50_whole_boxes_are_read_exa_holds : PySem.Challenge.rw_notesttells_k50_whole_boxes_are_read_exa.Holds := by
  w_on; o_law
  refine HandSHeadRun.head_any (r := Hd.R) (q := Hd.vw) (H := Hd.hk) (ob := Hd.ob) (M := 20000) (loose := Hd.loose) (d := HandSHeadRun.topDef Hd.R.prog 61) (kwd := []) Hd.ob_eq (by kernel_rfl) (fun s => by kernel_rfl) Hd.run
    (by kernel_rfl) (by kernel_rfl) (by kernel_rfl) (by rfl) (by first | assumption | decide +kernel) (by decide +kernel) ⟨rfl, rfl, rfl, rfl, rfl, by decide +kernel⟩ ?hw ?hc
  case hw => w_witness2
  case hc =>
    refine L2.walk_ofE (l := PySem.Challenge.rw_notesttells_k50_whole_boxes_are_read_exa) (n := 63) (k := 40) (x := "script") (CX := L2.CX0) rfl (by decide) (by kernel_rfl) ⟨rfl, by decide, by decide⟩ ?F (fun _ _ _ _ z => z)
    intro w mg fa h Y G hmg0
    obtain ⟨Kf, KX, c⟩ := Y
    have hmg : mg ("law" : PySem.Str) = some (.ref fa) := by
      have e : (HandSHeadRun.topDef Hd.R.prog 61).name = ("law" : PySem.Str) := by kernel_rfl
      rw [← e]
      exact hmg0
    obtain ⟨fd, hb, hF⟩ := K.facts (P := (PySem.Challenge.rw_notesttells_k50_whole_boxes_are_read_exa).prog) (w := w) KX G hmg c
    exact ⟨Kf, fd, _, KX, hb, fun H a ns hl _ hS => ⟨a, ns, rfl, hS, hl, fun _ => rfl⟩, hF⟩

