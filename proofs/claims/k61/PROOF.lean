import PyProof.Rows.All
import Wide.All
import OpenK.AllK
import Wide.FinOn
import KE.KCallOwn
import HandS.ForExc
import HandS.Gcd
import HandS.Wide
import HandS.Defaults
import HandS.ExcIs
import HandS.IsInst
import HandS.HeadEnd
import HandS.HeadHook2
import HandS.Head3
import HandS.MakeKwOnly
import HandS.MakeKw
import HandS.FStr
import HandS.CallSlots
import HandS.ForMost
import HandS.ExcInit
import HandS.ExcField
import KE.KExcIs
import PyProof.FitsInt
import PyProof.Rows.StrDigitsNeg
import HandS.Comp
import HandS.Zip
import HandS.ForList
import KE.GoesMore
import KE.GoesZip
import HandS.TupAny
import HandS.OwnEq
import HandS.IterVal
import HandS.StrMore
import HandS.ExcCtx
import HandS.HotCalls
import HandS.ExcInitHot
import HandS.Star
import HandS.Text
import HandS.RaiseMore
import HandS.Deep
import PyProof.StrBlock
import PyProof.Rows.StrNews2
import HandS.Dict
import HandS.Iter
import PyProof.StrBlock2
import HandS.ReplaceLit
import PySem.Challenge.RW_notesttells_k61_whole_papers_are_read_ex
set_option Elab.async false
set_option linter.all false
set_option maxRecDepth 100000
set_option maxHeartbeats 4000000
namespace Tk
open PySem PySem.Spec PyProof.Rows L2

section
variable {X : Cx} {CXx : CXT} {k : Nat} {f C : Addr} {fd : FuncData} {ps : List Str} {sp : Sp} {E : XK}

/-- a def runs at any depth of this body -/
theorem runAt {A' : Around} {pins : List (Addr × Obj)} {σ : L2.St} {H : Hp} {s : Shared} {Q : VK} {us ds : List Value} {vs dvs : List V}
    (F : FnOk X.prog X.w X.K X.mg X.base CXx k f fd ps sp) (hr : Room k A') (he : Env0 X.prog X.w X.K X.mg X.base A' X.stack s H)
    (hb : Binds X.K fd ps ds) (hd : Vals dvs ds) (hx : Passes CXx X E) (I : Inv X pins σ H s) (r : Vals vs us) (h : sp (vs ++ dvs) H Q E) :
    wpAny (model X.prog X.w) A' (call (.ref f) us) (EP X pins σ Q) X.xe s := by
  have r2 := r.append hd
  have hl := r2.length.symm.trans (F.len _ _ _ _ h)
  refine wpAny_call (codeAny_mono (F.run A' X.stack s H ⟨us, []⟩ (us ++ ds) (vs ++ dvs) Q E hr he (hb s us I.kIn hl) r2 h) ?_)
  intro res s' z
  cases res with
  | error e => exact hx _ _ _ _ _ _ I z
  | ok fl => cases fl with
    | ret u => exact I.after z
    | _ => exact False.elim z

/-- what an operator of a class's own asks: both instances of it, the def's promise -/
def rOwn (C : Addr) (sp : Sp) (E : XK) : R2 := fun x y H Q => ∃ a b dx dy fs gs, x = .ref a ∧ y = .ref b ∧ H a = some (.ins C dx fs) ∧ H b = some (.ins C dy gs) ∧ sp [x, y] H Q E

theorem notNI {v : V} {u : Value} (r : RelV v u) : u ≠ .notImplemented := by
  intro e; subst e
  cases v with
  | non => cases (show Value.notImplemented = Value.none from r)
  | bl b => cases (show Value.notImplemented = Value.bool b from r)
  | int i => obtain ⟨t, e⟩ := (show ∃ t, Value.notImplemented = Value.int i t from r); cases e
  | str x => obtain ⟨t, e⟩ := (show ∃ t, Value.notImplemented = Value.str x t from r); cases e
  | byt b => obtain ⟨t, e⟩ := (show ∃ t, Value.notImplemented = Value.bytes b t from r); cases e
  | flt b => obtain ⟨t, e⟩ := (show ∃ t, Value.notImplemented = Value.float b t from r); cases e
  | ref a => cases (show Value.notImplemented = Value.ref a from r)
  | ty n => cases (show Value.notImplemented = Value.type n from r)
theorem cmpBack_of {Q : Value → Shared → Prop} {u : Value} {s : Shared} (n : u ≠ .notImplemented) (q : Q u s) : PySem.W.CmpBack Q u s := by
  cases u <;> first | exact absurd rfl n | exact q
theorem inst_of {pins : List (Addr × Obj)} {σ : L2.St} {H : Hp} {s : Shared} (I : Inv X pins σ H s) {a dx : Addr} {fs : List (Str × V)} (e : H a = some (.ins C dx fs)) : ∃ od, PySem.W.InstAt s.heap a (PySem.W.instObj C dx) C (some od) := by
  obtain ⟨mA, O, _⟩ := ins_get I.hok e
  obtain ⟨od, J, _⟩ := O.look
  exact ⟨od, J⟩

/-- a + b and the like by the class's own __add__ and the like -/
theorem op_own {op : Operator} (F : FnOk X.prog X.w X.K X.mg X.base CXx k f fd ps sp) (hr : Room k X.A) (hb : Binds X.K fd ps []) (hx : Passes CXx X E)
    (hc : PySem.W.selfFirst X.K C = true) (hs : PySem.W.findIn X.K (.ref C) (PySem.dunder op.info.2) = some (some (.ref f))) (hf : PySem.W.isFn X.K (.ref f) = true) :
    OpR X (binaryOp op) (rOwn C sp E) := by
  intro pins s σ H x y v u Q I rx ry h
  obtain ⟨a, b, dx, dy, fs, gs, rfl, rfl, ea, eb, h⟩ := h
  cases rx; cases ry
  obtain ⟨od, J⟩ := inst_of I ea
  obtain ⟨od', J'⟩ := inst_of I eb
  have KX := I.kIn
  obtain ⟨cd, hcd, hm⟩ := PySem.W.any_some hc
  obtain ⟨rest, hm⟩ : ∃ rest, cd.mro = .ref C :: rest := by
    cases q : cd.mro with
    | nil => rw [q] at hm; cases hm
    | cons z r => rw [q] at hm; rw [List.head?_cons] at hm; exact ⟨r, by rw [Option.some.inj (eq_of_beq hm)]⟩
  unfold binaryOp
  refine wpAny_holding (wpAny_bind ?_)
  unfold binaryOp1
  refine wpAny_bind (J.type.here (wpAny_bind (J'.type.here (wpAny_bind ((PySem.W.fills_K KX hcd hm hs).here ?_)))))
  simp only [beq_self_eq_true, if_true]
  refine wpAny_bind (wpAny_pure ?_)
  simp only [Bool.and_false, Bool.false_eq_true, if_false, Bool.false_and]
  refine wpAny_bind (wpAny_pure ?_)
  simp only [Bool.false_eq_true, if_false]
  refine wpAny_bind (m := tryMethod (.ref a) _ (.ref b)) ?_
  unfold tryMethod
  refine wpAny_bind (PySem.W.special_fn KX J hs (beq_iff_eq.mp hf) (wpAny_mono (runAt (vs := [.ref a, .ref b]) (dvs := []) F hr I.env0 hb .nil hx I (.cons rfl (.cons rfl .nil)) h) (fun r s' hv => ?_) fun _ _ e => e))
  obtain ⟨v', H', I', rv, q⟩ := hv
  have hn := notNI rv
  cases r <;> first | exact absurd rfl hn | exact wpAny_pure (wpAny_pure (wpAny_pure ⟨v', H', I', rv, q⟩))

/-- a == b by the class's own __eq__; b is of the same class -/
theorem rc_own {op : CmpOp} (F : FnOk X.prog X.w X.K X.mg X.base CXx k f fd ps sp) (hr : Room k X.A) (hb : Binds X.K fd ps []) (hx : Passes CXx X E)
    (hs : PySem.W.findIn X.K (.ref C) (cmpInfo op).2.1 = some (some (.ref f))) (hf : PySem.W.isFn X.K (.ref f) = true) :
    OpR X (richCompare op) (rOwn C sp E) := by
  intro pins s σ H x y v u Q I rx ry h
  obtain ⟨a, b, dx, dy, fs, gs, rfl, rfl, ea, eb, h⟩ := h
  cases rx; cases ry
  obtain ⟨od, J⟩ := inst_of I ea
  obtain ⟨od', J'⟩ := inst_of I eb
  have KX := I.kIn
  have one : wpAny (model X.prog X.w) X.A (tryCompare (.ref a) (cmpInfo op).2.1 (.ref b)) (fun r s' => ∃ v, r = some v ∧ EP X pins σ Q v s') X.xe s := by
    unfold tryCompare
    refine wpAny_bind (PySem.W.ifBound_K KX J hs hf (wpAny_mono (runAt (vs := [.ref a, .ref b]) (dvs := []) F hr I.env0 hb .nil hx I (.cons rfl (.cons rfl .nil)) h) (fun r s' hv => ?_) fun _ _ e => e))
    obtain ⟨v', H', I', rv, q⟩ := hv
    have hn := notNI rv
    cases r <;> first | exact absurd rfl hn | exact wpAny_pure ⟨_, rfl, v', H', I', rv, q⟩
  unfold richCompare
  simp only [oneThing_ref]
  refine wpAny_holding (wpAny_bind (wpAny_cRoomFor hr.units0 ?_))
  refine wpAny_bind (J.type.here (wpAny_bind (J'.type.here ?_)))
  split
  · rename_i q
    exact absurd q (by simp)
  · refine wpAny_bind (wpAny_pure ?_)
    simp only [Bool.false_eq_true, if_false]
    refine wpAny_bind (wpAny_mono one (fun r s' z => ?_) fun _ _ e => e)
    obtain ⟨v, rfl, hq⟩ := z
    exact wpAny_pure hq
theorem op_eqOwn (F : FnOk X.prog X.w X.K X.mg X.base CXx k f fd ps sp) (hr : Room k X.A) (hb : Binds X.K fd ps []) (hx : Passes CXx X E)
    (hs : PySem.W.findIn X.K (.ref C) "__eq__" = some (some (.ref f))) (hf : PySem.W.isFn X.K (.ref f) = true) : OpR X (compareOp .Eq) (rOwn C sp E) :=
  rc_own (op := .Eq) F hr hb hx hs hf

/-- str(x) by the class's own __str__, which hands back a text -/
def rStrOwn (C : Addr) (sp : Sp) (E : XK) : List V → Hp → VK → Prop := fun xs H Q => ∃ a dx fs, xs = [.ref a] ∧ H a = some (.ins C dx fs) ∧ sp [.ref a] H (fun v H' => (∃ z, v = .str z) ∧ Q v H') E
theorem call_strOwn (F : FnOk X.prog X.w X.K X.mg X.base CXx k f fd ps sp) (hr : Room (k + 2) X.A) (hb : Binds X.K fd ps []) (hx : Passes CXx X E)
    (hs : PySem.W.findIn X.K (.ref C) "__str__" = some (some (.ref f))) (hf : PySem.W.isFn X.K (.ref f) = true) : CallR X (.type "str") (rStrOwn C sp E) := by
  intro pins s σ H xs us Q I r h
  obtain ⟨a, dx, fs, rfl, ea, h⟩ := h
  obtain ⟨u, rfl, ru⟩ := vals1 r
  cases ru
  obtain ⟨od, J⟩ := inst_of I ea
  have r1 : Room (k + 1) X.A.in1 := hr.in1
  have r2 : Room k X.A.in1.in1 := r1.in1
  refine PySem.W.kso_call r2.units0 I.kIn J hs hf (wpAny_mono (runAt (vs := [.ref a]) (dvs := []) F r2 I.env0.in1.in1 hb .nil hx I (.cons rfl .nil) h) (fun r s' hv => ?_) fun _ _ e => e)
  obtain ⟨v', H', I', rv, ⟨z, rfl⟩, q⟩ := hv
  obtain ⟨t, rfl⟩ := rv
  exact ⟨.str z, H', I', ⟨t, rfl⟩, q⟩
end
end Tk

set_option Elab.async false
set_option linter.all false
set_option maxRecDepth 100000
set_option maxHeartbeats 4000000
/-! Heaps that grow: I is the part that never changes again, H all of it; ms may change. -/
namespace Tk
open PySem PySem.Spec PyProof.Rows L2

structure Gr (ms : List Addr) (I H I' H' : Hp) : Prop where
  ii : Same I I'
  ih : Same I' H'
  hh : ∀ a o, a ∉ ms → H a = some o → H' a = some o
  th : ∀ a o, H a = some o → ∃ o', H' a = some o'
  nw : ∀ a o, I a = none → H a = some o → I' a = none
section
variable {ms ns : List Addr} {I H I' H' I'' H'' : Hp} {p m : Addr} {o o' : HO}
theorem sNew (h : H p = none) : Same H (upd H p o) := fun a u e => by rw [upd_ne (ne_of_none e h)]; exact e
theorem sBoth (s : Same I H) : Same (upd I p o) (upd H p o) := fun a u e => by
  by_cases q : a = p
  · subst q; rw [upd_same] at e ⊢; exact e
  · rw [upd_ne q] at e ⊢; exact s a u e
theorem sUnder (s : Same I H) (h : I p = none) : Same I (upd H p o) := fun a u e => by
  rw [upd_ne (ne_of_none e h)]; exact s a u e
theorem sNone (s : Same I H) (h : H p = none) : I p = none := s.free h
theorem Gr.refl (s : Same I H) : Gr ms I H I H := ⟨Same.refl I, s, fun _ _ _ e => e, fun _ o e => ⟨o, e⟩, fun _ _ e _ => e⟩
theorem Gr.trans (a : Gr ms I H I' H') (b : Gr ms I' H' I'' H'') : Gr ms I H I'' H'' :=
  ⟨a.ii.trans b.ii, b.ih, fun x o n e => b.hh x o n (a.hh x o n e), fun x o e => by obtain ⟨u, q⟩ := a.th x o e; exact b.th x u q,
    fun x o e1 e2 => by obtain ⟨u, q⟩ := a.th x o e2; exact b.nw x u (a.nw x o e1 e2) q⟩
theorem Gr.mono (a : Gr ms I H I' H') (h : ∀ x ∈ ms, x ∈ ns) : Gr ns I H I' H' := ⟨a.ii, a.ih, fun x o n e => a.hh x o (fun z => n (h x z)) e, a.th, a.nw⟩
theorem Gr.nil (a : Gr [] I H I' H') : Gr ms I H I' H' := a.mono (fun _ z => nomatch z)
/-- a new thing that stays as it is -/
theorem Gr.new (s : Same I H) (h : H p = none) : Gr ms I H (upd I p o) (upd H p o) :=
  ⟨sNew (s.free h), sBoth s, fun _ _ _ e => sNew h _ _ e, fun _ u e => ⟨u, sNew h _ _ e⟩, fun a u e1 e2 => by rw [upd_ne (ne_of_none e2 h)]; exact e1⟩
/-- a new thing that may change -/
theorem Gr.tmp (s : Same I H) (h : H p = none) : Gr ms I H I (upd H p o) :=
  ⟨Same.refl I, sUnder s (s.free h), fun _ _ _ e => sNew h _ _ e, fun _ u e => ⟨u, sNew h _ _ e⟩, fun a u e1 _ => e1⟩
/-- a change -/
theorem Gr.mut (s : Same I H) (hi : I m = none) (hm : m ∈ ms) : Gr ms I H I (upd H m o) :=
  ⟨Same.refl I, sUnder s hi, fun a u n e => by rw [upd_ne (fun (z : a = m) => n (z ▸ hm))]; exact e,
    fun a u e => by
      by_cases q : a = m
      · subst q; exact ⟨_, upd_same⟩
      · exact ⟨u, by rw [upd_ne q]; exact e⟩, fun a u e1 _ => e1⟩
/-- what was new and may have changed stays from here on as it is -/
theorem Gr.frz (g : Gr (m :: ms) I H I' H') (s : Same I H) (h : H m = none) (e : H' m = some o) : Gr ms I H (upd I' m o) H' := by
  have h1 : ∀ a u, H a = some u → a ≠ m := fun a u q => ne_of_none q h
  refine ⟨fun a u q => ?_, fun a u q => ?_, fun a u n q => ?_, g.th, fun a u e1 e2 => ?_⟩
  · rw [upd_ne (h1 a u (s a u q))]; exact g.ii a u q
  · by_cases z : a = m
    · subst z; rw [upd_same] at q; rw [← q]; exact e
    · rw [upd_ne z] at q; exact g.ih a u q
  · exact g.hh a u (fun z => (List.mem_cons.mp z).elim (h1 a u q) n) q
  · rw [upd_ne (h1 a u e2)]; exact g.nw a u e1 e2
/-- a mutable thing that is not in I stays out of it -/
theorem Gr.out (g : Gr ms I H I' H') (hi : I m = none) (h : H m = some o) : I' m = none := g.nw m o hi h
theorem Gr.at (g : Gr ms I H I' H') (h : H m = some o) (n : m ∉ ms) : H' m = some o := g.hh m o n h
end

/-! What a value is, by the part that stays. -/
abbrev Rp (α : Type) := Hp → V → α → Prop
class Mono {α : Type} (R : Rp α) : Prop where
  up : ∀ {H H' : Hp} {v : V} {x : α}, Same H H' → R H v x → R H' v x
section
variable {α β : Type}
def iI : Rp Int := fun _ v i => v = .int i
def iN : Rp Nat := fun _ v i => v = .int (i : Int)
def iB : Rp Bool := fun _ v b => v = .bl b
def iS : Rp Str := fun _ v z => v = .str z
/-- a list, a tuple of things of one kind -/
inductive All2 (R : V → α → Prop) : List V → List α → Prop where
  | nil : All2 R [] []
  | cons {v : V} {x : α} {vs : List V} {xs : List α} (h : R v x) (t : All2 R vs xs) : All2 R (v :: vs) (x :: xs)
def iL (R : Rp α) : Rp (List α) := fun H v xs => ∃ a vs, v = .ref a ∧ H a = some (.lst vs) ∧ All2 (R H) vs xs
def iT (R : Rp α) : Rp (List α) := fun H v xs => ∃ a vs, v = .ref a ∧ H a = some (.tup vs) ∧ All2 (R H) vs xs
def iP (R : Rp α) (S : Rp β) : Rp (α × β) := fun H v p => ∃ a x y, v = .ref a ∧ H a = some (.tup [x, y]) ∧ R H x p.1 ∧ S H y p.2
theorem All2.mono {R S : V → α → Prop} (h : ∀ v x, R v x → S v x) : ∀ {vs : List V} {xs : List α}, All2 R vs xs → All2 S vs xs
  | _, _, .nil => .nil
  | _, _, .cons a t => .cons (h _ _ a) (t.mono h)
theorem All2.len {R : V → α → Prop} : ∀ {vs : List V} {xs : List α}, All2 R vs xs → vs.length = xs.length
  | _, _, .nil => rfl
  | _, _, .cons _ t => congrArg Nat.succ t.len
theorem All2.get {R : V → α → Prop} : ∀ {vs : List V} {xs : List α} {i : Nat} {v : V}, All2 R vs xs → vs[i]? = some v → ∃ x, xs[i]? = some x ∧ R v x
  | _, _, _, _, .nil, e => by simp at e
  | _, _, 0, _, .cons a t, e => by simp at e; subst e; exact ⟨_, rfl, a⟩
  | _, _, i + 1, v, .cons a t, e => by
    obtain ⟨x, h1, h2⟩ := All2.get (i := i) (v := v) t (by simpa using e)
    exact ⟨x, by simpa using h1, h2⟩
theorem All2.get' {R : V → α → Prop} : ∀ {vs : List V} {xs : List α} {i : Nat} {x : α}, All2 R vs xs → xs[i]? = some x → ∃ v, vs[i]? = some v ∧ R v x
  | _, _, _, _, .nil, e => by simp at e
  | _, _, 0, _, .cons a t, e => by simp at e; subst e; exact ⟨_, rfl, a⟩
  | _, _, i + 1, v, .cons a t, e => by
    obtain ⟨x, h1, h2⟩ := All2.get' (i := i) (x := v) t (by simpa using e)
    exact ⟨x, by simpa using h1, h2⟩
theorem All2.append {R : V → α → Prop} : ∀ {vs ws : List V} {xs ys : List α}, All2 R vs xs → All2 R ws ys → All2 R (vs ++ ws) (xs ++ ys)
  | _, _, _, _, .nil, h => h
  | _, _, _, _, .cons a t, h => .cons a (t.append h)
theorem All2.set {R : V → α → Prop} : ∀ {vs : List V} {xs : List α} (i : Nat) {v : V} {x : α}, All2 R vs xs → R v x → All2 R (vs.set i v) (xs.set i x)
  | _, _, _, _, _, .nil, _ => .nil
  | _, _, 0, _, _, .cons _ t, h => .cons h t
  | _, _, i + 1, _, _, .cons a t, h => .cons a (t.set i h)
theorem All2.ints : ∀ {xs : List Int} {vs : List V}, All2 (fun v x => v = V.int x) vs xs → vs = xs.map V.int
  | _, _, .nil => rfl
  | _, _, .cons a t => by rw [a, t.ints]; rfl
theorem All2.ofInts {H : Hp} : ∀ (xs : List Int), All2 (iI H) (xs.map V.int) xs
  | [] => .nil
  | x :: r => .cons rfl (All2.ofInts r)
instance : Mono iI := ⟨fun _ h => h⟩
instance : Mono iN := ⟨fun _ h => h⟩
instance : Mono iB := ⟨fun _ h => h⟩
instance : Mono iS := ⟨fun _ h => h⟩
instance {R : Rp α} [m : Mono R] : Mono (iL R) := ⟨fun s ⟨a, vs, e, h, t⟩ => ⟨a, vs, e, s _ _ h, t.mono fun _ _ => m.up s⟩⟩
instance {R : Rp α} [m : Mono R] : Mono (iT R) := ⟨fun s ⟨a, vs, e, h, t⟩ => ⟨a, vs, e, s _ _ h, t.mono fun _ _ => m.up s⟩⟩
instance {R : Rp α} {S : Rp β} [m : Mono R] [n : Mono S] : Mono (iP R S) := ⟨fun s ⟨a, x, y, e, h, p, q⟩ => ⟨a, x, y, e, s _ _ h, m.up s p, n.up s q⟩⟩
theorem up {R : Rp α} [m : Mono R] {H H' : Hp} {v : V} {x : α} (s : Same H H') (h : R H v x) : R H' v x := m.up s h
end
end Tk

set_option Elab.async false
set_option linter.all false
set_option maxRecDepth 100000
set_option maxHeartbeats 4000000
/-! The head: what the top leaves, told by one Bool and the defs' own texts. -/
namespace Tk
open PySem PySem.Spec PyProof.Rows L2
def obsY (ex : PySem.W.Frag → Bool) (fn : List He.DefD) (K : PySem.W.Frag) : He.AlD := (ex K && fn.all fun d => d.ok K, fn.map fun d => He.fnW K d.at_)
def SaysY (ex : PySem.W.Frag → Bool) (fn : List He.DefD) (K : PySem.W.Frag) : Prop := obsY ex fn K = He.valD fn
def obsYG (n : Nat) (ex : PySem.W.Frag → Bool) (fn : List He.DefD) (g : Addr → Option Obj) : He.AlD := obsY ex fn (He.frG g (He.asD g n))
def hookY (n : Nat) (ex : PySem.W.Frag → Bool) (fn : List He.DefD) : PySem.W.Hook :=
  { α := He.AlD, obs := fun s => obsYG n ex fn s.heap.get?, val := fun _ => He.valD fn, says := fun _ h => ∃ K : PySem.W.Frag, K.In h ∧ SaysY ex fn K,
    of := fun _ _ e => ⟨_, He.frG_in, e⟩, keeps := fun _ _ _ z k => by obtain ⟨K, hK, c⟩ := z; exact ⟨K, PySem.W.Frag.In.keeps hK k, c⟩ }
theorem obsYG_eq {n : Nat} {ex : PySem.W.Frag → Bool} {fn : List He.DefD} {g : Addr → Option Obj} {s : Shared} (h : ∀ a, g a = s.heap.get? a) : obsYG n ex fn g = (hookY n ex fn).obs s := by
  rw [show g = s.heap.get? from funext h]; rfl
section
variable {ex : PySem.W.Frag → Bool} {fn : List He.DefD} {K : PySem.W.Frag}
theorem SaysY.more (c : SaysY ex fn K) : ex K = true := (He.ba (show (ex K && fn.all fun d => d.ok K) = true from congrArg (fun z : He.AlD => z.1) c)).1
theorem SaysY.get (c : SaysY ex fn K) (i : Nat) {d : He.DefD} (h : fn[i]? = some d := by rfl) : ∃ fd, FunD K d.name d.qual d.params d.body d.scope (d.dvs K) (d.kws K) (He.fAd K d.at_) fd := by
  have c2 := (He.ba (show (ex K && fn.all fun d => d.ok K) = true from congrArg (fun z : He.AlD => z.1) c)).2
  have e : fn.map (fun d => He.fnW K d.at_) = fn.map He.DefD.val := congrArg (fun z : He.AlD => z.2) c
  have e2 := congrArg (fun l : List He.FnW => l[i]?) e
  simp only [List.getElem?_map, h] at e2
  exact He.DefD.funD (Option.some.inj e2) (List.all_eq_true.mp c2 d (List.mem_of_getElem? h))
end
def blB (K : PySem.W.Frag) (x : Str) (id : String) : Bool := He.eqO (PySem.W.nsIn K mainGlobals x) (some (some (.builtin id)))
def instB (K : PySem.W.Frag) (x : Str) : Bool :=
  He.eqO (PySem.W.findIn K (.ref (He.ga K x)) "__class__") (some (some (.builtin "object.__class__"))) &&
  (He.eqO (PySem.W.specialIn K (.builtin "object.__class__") "__get__") (some (some (.builtin "getset_descriptor.__get__"))) &&
  (decide (PySem.W.takesIn K (.builtin "object.__class__") = some true) && decide (PySem.W.mroIn K (He.ga K x) (.type "object") = some true)))
def isEB (K : PySem.W.Frag) (x : Str) : Bool :=
  He.eqO (PySem.W.findIn K (.ref (He.ga K x)) "__getattribute__") (some (some (.builtin "BaseException.__getattribute__"))) &&
  (He.eqO (PySem.W.findIn K (.ref (He.ga K x)) "__getattr__") (some none) &&
  (decide (PySem.W.subIn K (.ref (He.ga K x)) (.type "BaseException") = some true) && (PySem.W.hasDictIn K (He.ga K x) && instB K x)))
section
variable {K : PySem.W.Frag} {h : Heap} {mg : Str → Option Value} {x : Str} {id : String}
theorem blB_ok (X : K.In h) (G : h.Ns mainGlobals mg) (c : blB K x id = true) : mg x = some (.builtin id) := PySem.W.mg_of X G (He.eqO_ok c)
structure InstC (K : PySem.W.Frag) (C : Addr) : Prop where
  ha : PySem.W.findIn K (.ref C) "__class__" = some (some (.builtin "object.__class__"))
  hn : PySem.W.specialIn K (.builtin "object.__class__") "__get__" = some (some (.builtin "getset_descriptor.__get__"))
  ht : PySem.W.takesIn K (.builtin "object.__class__") = some true
  hm : PySem.W.mroIn K C (.type "object") = some true
theorem instB_ok (c : instB K x = true) : InstC K (He.ga K x) := by
  obtain ⟨c1, c⟩ := He.ba c
  obtain ⟨c2, c⟩ := He.ba c
  obtain ⟨c3, c4⟩ := He.ba c
  exact ⟨He.eqO_ok c1, He.eqO_ok c2, of_decide_eq_true c3, of_decide_eq_true c4⟩
theorem isEB_ok (c : isEB K x = true) : ExcC K (He.ga K x) := by
  obtain ⟨c1, c⟩ := He.ba c
  obtain ⟨c2, c⟩ := He.ba c
  obtain ⟨c3, c⟩ := He.ba c
  obtain ⟨c4, c5⟩ := He.ba c
  have i := instB_ok c5
  exact { hg := He.eqO_ok c1, hk := He.eqO_ok c2, hs := of_decide_eq_true c3, hd := c4, ha := i.ha, hn := i.hn, ht := i.ht, hm := i.hm }
theorem InstC.ty {H : Hp} {C a dx : Addr} {fs : List (Str × V)} (i : InstC K C) (cl : Cls K C) (e : H a = some (.ins C dx fs)) : TyX K H (.ref a) (.ref C) := .base (.ins e cl i.ha i.hn i.ht i.hm)
end
end Tk

set_option Elab.async false
set_option linter.all false
set_option maxRecDepth 100000
set_option maxHeartbeats 4000000
/-! A def that stands and keeps its promise; how it is called. -/
namespace Tk
open PySem PySem.Spec PyProof.Rows L2
def Has (P : Program) (w : World) (K : PySem.W.Frag) (mg : Str → Option Value) (base : Heap) (k : Nat) (f : Addr) (ps : List Str) (dvs : List V) (sp : Sp) : Prop :=
  PySem.W.keepIn K (.ref f) = true ∧ ∃ (fd : FuncData) (ds : List Value), Vals dvs ds ∧ Binds K fd ps ds ∧ FnOk P w K mg base (L2.CX P w) k f fd ps sp
theorem Has.mono {P : Program} {w : World} {K : PySem.W.Frag} {mg : Str → Option Value} {base : Heap} {j k : Nat} {f : Addr} {ps : List Str} {dvs : List V} {sp : Sp} (h : Has P w K mg base j f ps dvs sp) (l : j ≤ k) : Has P w K mg base k f ps dvs sp := by
  obtain ⟨a, fd, ds, b, c, F⟩ := h
  exact ⟨a, fd, ds, b, c, F.mono l⟩
section
variable {X : Cx} {k : Nat} {f C : Addr} {ps : List Str} {sp : Sp} {dvs : List V} {E : XK} {x m : Str} {p pos apos : Pos} {e o : Expr} {es : List Expr} {ta : TE} {t : TA}
abbrev HasX (X : Cx) := Has X.prog X.w X.K X.mg X.base
theorem pe_callH (h : HasX X k f ps dvs sp) (hr : Room k X.A) (hg : Gl X x) (hm : X.mg x = some (.ref f)) (hx : Passes (L2.CX X.prog X.w) X E) (ha : PA X (e :: es) t)
    (hdb : (x == ("__debug__" : Str)) = false := by decide) (he : starEach (e :: es) X.env = (false, eval e X.env) :: starEach es X.env := by rfl) (hpl : (backTo pos (starEach es X.env)).any (·.1) = false := by rfl) :
    PE X (.Call (.Name x p) (e :: es) [] pos) (tCall sp dvs E t) := by
  obtain ⟨hk, fd, ds, hd, hb, F⟩ := h
  exact pe_call F hr hg hm hk hb hd hx ha hdb he hpl
theorem pe_methH {pl : Sem Bool} (he : PE X o ta) (c : Cls X.K C) (hm : Meth X.K C m f) (h : HasX X k f ps dvs sp) (hr : Room k X.A) (hx : Passes (L2.CX X.prog X.w) X E) (ha : PA X (e :: es) t)
    (hst : starEach (e :: es) X.env = (false, eval e X.env) :: starEach es X.env := by rfl) (hpl : (backTo pos (starEach es X.env)).any (·.1) = false := by rfl)
    (ht : eval (.Call (.Attribute o m apos) (e :: es) [] pos) X.env = (do
      let ov ← eval o X.env
      standAt apos.atName
      let (f, first) ← holding [ov] (getMethod ov m pl)
      callWith pos f first (backTo pos (starEach (e :: es) X.env)) (backToKw pos (keywordEach [] X.env))) := by rfl) :
    PE X (.Call (.Attribute o m apos) (e :: es) [] pos) (tMeth C m sp dvs E ta t) := by
  obtain ⟨hk, fd, ds, hd, hb, F⟩ := h
  exact pe_meth (pl := pl) he c hm F hr hb hd hx ha hst hpl ht
theorem pe_makeH (M : Mk X.K C f) (h : HasX X k f ps dvs sp) (hr : Room (k + 1) X.A) (hg : Gl X x) (hm : X.mg x = some (.ref C)) (hx : Passes (L2.CX X.prog X.w) X E) (ha : PA X (e :: es) t)
    (hdb : (x == ("__debug__" : Str)) = false := by decide) (he : starEach (e :: es) X.env = (false, eval e X.env) :: starEach es X.env := by rfl) (hpl : (backTo pos (starEach es X.env)).any (·.1) = false := by rfl) :
    PE X (.Call (.Name x p) (e :: es) [] pos) (tMake C sp dvs E t) := by
  obtain ⟨hk, fd, ds, hd, hb, F⟩ := h
  exact pe_make M F hr hg hm hb hd hx ha hdb he hpl
theorem op_ownH {op : Operator} (h : HasX X k f ps [] sp) (hr : Room k X.A) (hx : Passes (L2.CX X.prog X.w) X E)
    (hc : PySem.W.selfFirst X.K C = true) (hm : Meth X.K C (PySem.dunder op.info.2) f) : OpR X (binaryOp op) (rOwn C sp E) := by
  obtain ⟨hk, fd, ds, hd, hb, F⟩ := h
  cases hd
  exact op_own F hr hb hx hc hm.at_ hm.fn
theorem op_eqOwnH (h : HasX X k f ps [] sp) (hr : Room k X.A) (hx : Passes (L2.CX X.prog X.w) X E) (hm : Meth X.K C "__eq__" f) : OpR X (compareOp .Eq) (rOwn C sp E) := by
  obtain ⟨hk, fd, ds, hd, hb, F⟩ := h
  cases hd
  exact op_eqOwn F hr hb hx hm.at_ hm.fn
theorem call_strOwnH (h : HasX X k f ps [] sp) (hr : Room (k + 2) X.A) (hx : Passes (L2.CX X.prog X.w) X E) (hm : Meth X.K C "__str__" f) : CallR X (.type "str") (rStrOwn C sp E) := by
  obtain ⟨hk, fd, ds, hd, hb, F⟩ := h
  cases hd
  exact call_strOwn F hr hb hx hm.at_ hm.fn
/-- a class called with keywords alone -/
def HasK (P : Program) (w : World) (K : PySem.W.Frag) (mg : Str → Option Value) (base : Heap) (k : Nat) (f : Addr) (ps : List Str) (n : Nat) (ks : List Str) (gV : List V → List V → List V) (sp : Sp) : Prop :=
  ∃ (fd : FuncData) (g : List Value → List Value → List Value), KBn K fd ps n ks g gV ∧ FnOk P w K mg base (L2.CX P w) k f fd ps sp
/-- the law's own def, as the end wants it -/
def IsLaw (P : Program) (w : World) (K : PySem.W.Frag) (mg : Str → Option Value) (base : Heap) (k : Nat) (f : Addr) (fd : FuncData) (ps : List Str) (sp : Sp) : Prop := FnOk P w K mg base (L2.CX P w) k f fd ps sp
end

/-! a def of no defaults: from its body to what it is -/
section
variable {P : Program} {w : World} {K : PySem.W.Frag} {mg : Str → Option Value} {base : Heap} {x qual : Str} {st : Stmt} {f : Addr} {fd : FuncData} {N ps : List Str} {k : Nat} {sp : Sp}
abbrev FnQ (K : PySem.W.Frag) (x q : Str) (st : Stmt) (ds : List V) (f : Addr) (fd : FuncData) : Prop := FunD K x q (defArgs st) (defBody st) (defScope st) ds [] f fd
/-- nothing is raised -/
theorem hasN (F : FnQ K x qual st [] f fd) (b : Binds K fd ps []) (S : FnScope N ps (defScope st)) (len : ∀ vs H Q E, sp vs H Q E → vs.length = ps.length)
    (hbody : ∀ (cdv : Value) (A : Around) (outer : List Env) (s : Shared) (H : Hp) (vs : List V) (Q : VK) (E : XK), Room k (A.deeper (envOfC qual (defScope st) s.heap.objs.size f cdv)) → sp vs H Q E →
      ∃ t, PSs (cxOf (L2.CX P w) P w K mg base N qual (defScope st) f cdv A outer s H E).nox (defBody st) t ∧ t { nx := fun _ H' => Q .non H', rt := Q } (start N vs) H) :
    Has P w K mg base (k + 1) f ps [] sp :=
  ⟨F.kp, fd, [], .nil, b, F.ok S len fun cdv A outer s H vs Q E hr h => by obtain ⟨t, h1, h2⟩ := hbody cdv A outer s H vs Q E hr h; exact ⟨t, h1.nox, h2⟩⟩
theorem hasX (F : FnQ K x qual st [] f fd) (b : Binds K fd ps []) (S : FnScope N ps (defScope st)) (len : ∀ vs H Q E, sp vs H Q E → vs.length = ps.length)
    (hbody : ∀ (cdv : Value) (A : Around) (outer : List Env) (s : Shared) (H : Hp) (vs : List V) (Q : VK) (E : XK), Room k (A.deeper (envOfC qual (defScope st) s.heap.objs.size f cdv)) → sp vs H Q E →
      ∃ t, PSs (cxOf (L2.CX P w) P w K mg base N qual (defScope st) f cdv A outer s H E) (defBody st) t ∧ t { nx := fun _ H' => Q .non H', rt := Q } (start N vs) H) :
    Has P w K mg base (k + 1) f ps [] sp :=
  ⟨F.kp, fd, [], .nil, b, F.ok S len hbody⟩
end

/-! one step of a reading -/
theorem ifT {c : Bool} {A B : Prop} (hc : c = true) (h : A) : if c = true then A else B := by rw [if_pos hc]; exact h
theorem ifF {c : Bool} {A B : Prop} (hc : c = false) (h : B) : if c = true then A else B := by rw [hc]; exact iteF h
theorem ifD {p : Prop} [Decidable p] {A B : Prop} (h1 : p → A) (h2 : ¬ p → B) : if (decide p) = true then A else B := by
  by_cases h : p
  · rw [if_pos (decide_eq_true h)]; exact h1 h
  · rw [if_neg (by rw [decide_eq_false h]; exact Bool.false_ne_true)]; exact h2 h
theorem ifB {c : Bool} {A B : Prop} (h1 : c = true → A) (h2 : c = false → B) : if c = true then A else B := by
  cases c with
  | true => exact iteT (h1 rfl)
  | false => exact iteF (h2 rfl)
end Tk

set_option linter.all false
/-! Fractions: what the program and the law make of a numerator and a denominator. -/
namespace Mt
abbrev rt (n d : Int) : Rat := Rat.divInt n d
def gz (n d : Int) : Int := (Nat.gcd n.natAbs d.natAbs : Nat)
theorem gz_pos {n d : Int} (h : 0 < d) : 0 < gz n d := by
  unfold gz
  have : 0 < Nat.gcd n.natAbs d.natAbs := Nat.gcd_pos_of_pos_right _ (by omega)
  omega
theorem gz_le {n d : Int} (h : 0 < d) : gz n d ≤ d := by
  unfold gz
  have : Nat.gcd n.natAbs d.natAbs ≤ d.natAbs := Nat.le_of_dvd (by omega) (Nat.gcd_dvd_right _ _)
  omega
theorem rt_num {n d : Int} (h : 0 < d) : (rt n d).num = n / gz n d := by
  unfold rt gz
  rw [Rat.num_divInt, Int.sign_eq_one_of_pos h, Int.one_mul]
  congr 1
  rw [Int.gcd_comm]; rfl
theorem rt_den {n d : Int} (h : 0 < d) : ((rt n d).den : Int) = d / gz n d := by
  unfold rt gz
  rw [Rat.den_divInt, if_neg (by omega)]
  have e : d.gcd n = Nat.gcd n.natAbs d.natAbs := by rw [Int.gcd_comm]; rfl
  rw [e]
  have : ((d.natAbs : Nat) : Int) = d := by omega
  rw [Int.natCast_ediv, this]
theorem rt_self (q : Rat) : rt q.num q.den = q := Rat.num_divInt_den q
theorem den_pos (q : Rat) : 0 < (q.den : Int) := by have := q.den_nz; omega

/-- Euclid, so many turns -/
def eu : Nat → Int → Int → Int
  | 0, a, _ => a
  | k + 1, a, b => if b = 0 then a else eu k b (a % b)
theorem eu_zero (k : Nat) (a : Int) : eu k a 0 = a := by cases k <;> simp [eu]
theorem gcd_step (a b : Int) (ha : 0 ≤ a) (hb : 0 < b) : Nat.gcd a.natAbs b.natAbs = Nat.gcd b.natAbs (a % b).natAbs := by
  have e : (a % b).natAbs = a.natAbs % b.natAbs := by
    obtain ⟨x, rfl⟩ := Int.eq_ofNat_of_zero_le ha
    obtain ⟨y, rfl⟩ := Int.eq_ofNat_of_zero_le (Int.le_of_lt hb)
    rw [← Int.natCast_emod]; rfl
  rw [e, Nat.gcd_comm, Nat.gcd_rec, Nat.gcd_comm]
theorem half (b r s : Int) (h0 : 0 < r) (h1 : r < b) (hs : s = b % r) : 2 * s < b := by
  subst hs
  have h2 := Int.emod_lt_of_pos b h0
  have h3 := Int.emod_nonneg b (by omega : r ≠ 0)
  have h4 := Int.mul_ediv_add_emod b r
  have h5 : 1 ≤ b / r := by
    have := Int.le_ediv_of_mul_le h0 (by omega : 1 * r ≤ b)
    exact this
  have h6 : r ≤ r * (b / r) := by
    have := Int.mul_le_mul_of_nonneg_left h5 (Int.le_of_lt h0)
    omega
  omega
theorem eu_gcd : ∀ (m k : Nat) (a b : Int), 0 ≤ a → 0 ≤ b → b < 2 ^ m → 2 * m + 2 ≤ k → eu k a b = (Nat.gcd a.natAbs b.natAbs : Nat)
  | m, k, a, b, ha, hb, hm, hk => by
    by_cases h0 : b = 0
    · subst h0; rw [eu_zero]; simp; omega
    · obtain ⟨k, rfl⟩ : ∃ j, k = j + 2 := ⟨k - 2, by omega⟩
      have hb' : 0 < b := by omega
      rw [gcd_step a b ha hb']
      have hr0 := Int.emod_nonneg a h0
      have hr1 := Int.emod_lt_of_pos a hb'
      show (if b = 0 then a else eu (k + 1) b (a % b)) = _
      rw [if_neg h0]
      by_cases h1 : a % b = 0
      · rw [h1, eu_zero]; simp; omega
      · have hr' : 0 < a % b := by omega
        rw [gcd_step b (a % b) hb hr']
        show (if a % b = 0 then b else eu k (a % b) (b % (a % b))) = _
        rw [if_neg h1]
        have hh := half b (a % b) _ hr' hr1 rfl
        cases m with
        | zero => simp at hm; omega
        | succ m =>
          have : b % (a % b) < 2 ^ m := by rw [Int.pow_succ] at hm; omega
          exact eu_gcd m k _ _ (by omega) (Int.emod_nonneg _ h1) this (by omega)
theorem eu_gz {n d : Int} (h : 0 < d) (hd : d < 2 ^ 1999) : eu 4000 (if n < 0 then -n else n) d = gz n d := by
  rw [eu_gcd 1999 4000 _ d (by split <;> omega) (by omega) hd (by omega)]
  unfold gz
  congr 2
  split <;> omega
/-! sizes -/
/-- the fraction's denominator divides N, the fraction lies between -B and B -/
def Sz (N B : Nat) (q : Rat) : Prop := q.den ∣ N ∧ q.num.natAbs ≤ B * q.den
end Mt

set_option Elab.async false
set_option linter.all false
set_option maxRecDepth 100000
set_option maxHeartbeats 4000000
/-! Cuts: what holds between two statements, behind a loop. -/
namespace Tk
open PySem PySem.Spec PyProof.Rows L2
theorem seq_cut {s1 s2 : TS} {D : Ends} {σ : L2.St} {H : Hp} (Mid : L2.St → Hp → Prop) (h1 : ∀ nx : L2.St → Hp → Prop, (∀ σ' H', Mid σ' H' → nx σ' H') → s1 { D with nx := nx } σ H) (h2 : ∀ σ' H', Mid σ' H' → s2 D σ' H') : tSeq s1 s2 D σ H :=
  h1 (s2 D) h2
theorem for_rangeP {lo : Int} {n : Nat} {g : TG} {tb : TS} {D : Ends} {σ : L2.St} {H : Hp} (Post : L2.St → Hp → Prop) (Pv : Nat → L2.St → Hp → Prop) (h0 : Pv 0 σ H)
    (hs : ∀ nx : L2.St → Hp → Prop, (∀ σ' H', Post σ' H' → nx σ' H') → ∀ i σ H, i < n → Pv i σ H → g (.int (lo + i)) σ H fun σ2 H2 => tb { D with nx := Pv (i + 1), ct := Pv (i + 1), bk := nx } σ2 H2)
    (hd : ∀ σ H, Pv n σ H → Post σ H) (fin : ∀ σ' H', Post σ' H' → D.nx σ' H') :
    ∃ W : Nat → Nat → L2.St → Hp → Prop, (∃ m, W 0 m σ H) ∧ ∀ i m σ H, W i m σ H →
      ((Itr lo n).stop i H ∧ D.nx σ H) ∨ ((Itr lo n).go i H ∧ ∃ N : L2.St → Hp → Prop, (∀ σ' H', N σ' H' → ∃ m', m' < m ∧ W (i + 1) m' σ' H') ∧ ∀ x H', (Itr lo n).yld i H x H' → g x σ H' fun σ2 H2 => tb { D with nx := N, ct := N, bk := D.nx } σ2 H2) :=
  for_range Pv h0 (hs D.nx fin) (fun σ H p => fin σ H (hd σ H p))
theorem ix_l {K : PySem.W.Frag} {H : Hp} {a : Addr} {xs : List V} {j : Nat} {v : V} {i : Int} {Q : VK} (h : SqL K H a xs) (e : i = (j : Int)) (hj : xs[j]? = some v) (k : Q v H) : rIxL K (.ref a) (.int i) H Q := ⟨a, xs, i, v, rfl, rfl, h, at_of e hj, k⟩
theorem ix_t {K : PySem.W.Frag} {H : Hp} {a : Addr} {xs : List V} {j : Nat} {v : V} {i : Int} {Q : VK} (h : SqT K H a xs) (e : i = (j : Int)) (hj : xs[j]? = some v) (k : Q v H) : rIxT K (.ref a) (.int i) H Q := ⟨a, xs, i, v, rfl, rfl, h, at_of e hj, k⟩
end Tk
namespace Tk
open PySem PySem.Spec PyProof.Rows L2
section
variable {P : Program} {w : World} {K : PySem.W.Frag} {mg : Str → Option Value} {base : Heap} {x qual : Str} {st : Stmt} {f : Addr} {fd : FuncData} {N ps : List Str} {k : Nat} {sp sp' : Sp} {CX : CXT}
theorem fnOr (A : FnOk P w K mg base CX k f fd ps sp) (B : FnOk P w K mg base CX k f fd ps sp') : FnOk P w K mg base CX k f fd ps (fun vs H Q E => sp vs H Q E ∨ sp' vs H Q E) :=
  ⟨fun vs H Q E h => h.elim (A.len vs H Q E) (B.len vs H Q E), fun A' outer s H args us vs Q E hr he hb hv h => h.elim (A.run A' outer s H args us vs Q E hr he hb hv) (B.run A' outer s H args us vs Q E hr he hb hv)⟩
theorem fnN (F : FnQ K x qual st [] f fd) (S : FnScope N ps (defScope st)) (len : ∀ vs H Q E, sp vs H Q E → vs.length = ps.length)
    (hbody : ∀ (cdv : Value) (A : Around) (outer : List Env) (s : Shared) (H : Hp) (vs : List V) (Q : VK) (E : XK), Room k (A.deeper (envOfC qual (defScope st) s.heap.objs.size f cdv)) → sp vs H Q E →
      ∃ t, PSs (cxOf (L2.CX P w) P w K mg base N qual (defScope st) f cdv A outer s H E).nox (defBody st) t ∧ t { nx := fun _ H' => Q .non H', rt := Q } (start N vs) H) :
    FnOk P w K mg base (L2.CX P w) (k + 1) f fd ps sp :=
  F.ok S len fun cdv A outer s H vs Q E hr h => by obtain ⟨t, h1, h2⟩ := hbody cdv A outer s H vs Q E hr h; exact ⟨t, h1.nox, h2⟩
end
end Tk

set_option Elab.async false
set_option linter.all false
set_option maxRecDepth 100000
set_option maxHeartbeats 4000000
/-! Errors: calls in a try, isinstance of what was caught. -/
namespace Tk
open PySem PySem.Spec PyProof.Rows L2
section
variable {X : Cx} {k : Nat} {f C : Addr} {ps : List Str} {sp : Sp} {dvs : List V} {E : L2.St → XK} {x m : Str} {p pos apos : Pos} {e o : Expr} {es : List Expr} {ta : TE} {t : TA}
/-- C(e, ..) in a try: what is raised is wished for at the slots as they are -/
def tMakeS (C : Addr) (sp : Sp) (dvs : List V) (E : L2.St → XK) (t : TA) : TE := fun σ H Q => t σ H fun vs H1 => ∀ x dx, H1 x = none → H1 dx = none → dx ≠ x →
  sp (.ref x :: (vs ++ dvs)) (upd (upd H1 dx (.own x)) x (.ins C dx [])) (fun v H2 => v = .non ∧ Q (.ref x) H2) (E σ)
theorem pe_makeSH (M : Mk X.K C f) (h : HasX X k f ps dvs sp) (hr : Room (k + 1) X.A) (hg : Gl X x) (hm : X.mg x = some (.ref C)) (hx : ∀ σ, PassesAt (L2.CX X.prog X.w) X σ (E σ)) (ha : PA X (e :: es) t)
    (hdb : (x == ("__debug__" : Str)) = false := by decide) (he : starEach (e :: es) X.env = (false, eval e X.env) :: starEach es X.env := by rfl) (hpl : (backTo pos (starEach es X.env)).any (·.1) = false := by rfl) :
    PE X (.Call (.Name x p) (e :: es) [] pos) (tMakeS C sp dvs E t) := by
  obtain ⟨_, fd, ds, hd, hb, F⟩ := h
  constructor
  intro pins s σ H Q I hq0
  refine wpAny_Call_Name_kw (ld_glob I hg hm (PySem.W.callWith_K (h₀ := X.base) I.ok.mod.kin M.kp (thn (ha.run pos pins s σ H _ I hq0) ?_) he hpl) hdb)
  rintro us s1 ⟨vs, H1, I1, r, q⟩
  refine ⟨I1.kIn, ?_⟩
  have q' := q (s1.heap.objs.size + 1) s1.heap.objs.size (I1.hok.fresh (Nat.le_succ _)) (I1.hok.fresh (Nat.le_refl _)) (Nat.ne_of_lt (Nat.lt_succ_self _))
  have I2 := Inv.made (C := C) I1
  have rr : Vals (V.ref (s1.heap.objs.size + 1) :: (vs ++ dvs)) (Value.ref (s1.heap.objs.size + 1) :: us ++ ds) := .cons rfl (r.append hd)
  have hl := rr.length.symm.trans (F.len _ _ _ _ q')
  have go := F.run _ X.stack _ _ ⟨Value.ref (s1.heap.objs.size + 1) :: us, []⟩ _ _ _ _ (hr.make C us []) (I2.env0.make C us []) (hb _ _ I2.kIn hl) rr q'
  refine wpAny_call (make_map (f := f) I1.kIn M.makes M.init (beq_iff_eq.mp M.fn) (codeAny_mono go ?_))
  intro res s' z
  cases res with
  | error err => exact hx σ pins _ _ err s' I2 z
  | ok fl => cases fl with
    | ret u =>
      obtain ⟨v, H', I3, rv, ev, q3⟩ := I2.after z
      subst ev
      exact ⟨rv, V.ref (s1.heap.objs.size + 1), H', I3, rfl, q3⟩
    | _ => exact False.elim z
/-- o.m(e, ..) in a try -/
def tMethS (C : Addr) (m : Str) (sp : Sp) (dvs : List V) (E : L2.St → XK) (ta : TE) (t : TA) : TE := fun σ H Q => ta σ H fun x H1 => ∃ a dx fs, x = .ref a ∧ H1 a = some (.ins C dx fs) ∧ fs.lookup m = none ∧
  t σ H1 fun vs H2 => sp (x :: (vs ++ dvs)) H2 Q (E σ)
theorem pe_methSH {pl : Sem Bool} (he : PE X o ta) (c : Cls X.K C) (hm : Meth X.K C m f) (h : HasX X k f ps dvs sp) (hr : Room k X.A) (hx : ∀ σ, PassesAt (L2.CX X.prog X.w) X σ (E σ)) (ha : PA X (e :: es) t)
    (hst : starEach (e :: es) X.env = (false, eval e X.env) :: starEach es X.env := by rfl) (hpl : (backTo pos (starEach es X.env)).any (·.1) = false := by rfl)
    (ht : eval (.Call (.Attribute o m apos) (e :: es) [] pos) X.env = (do
      let ov ← eval o X.env
      standAt apos.atName
      let (f, first) ← holding [ov] (getMethod ov m pl)
      callWith pos f first (backTo pos (starEach (e :: es) X.env)) (backToKw pos (keywordEach [] X.env))) := by rfl) :
    PE X (.Call (.Attribute o m apos) (e :: es) [] pos) (tMethS C m sp dvs E ta t) := by
  obtain ⟨_, fd, ds, hd, hb, F⟩ := h
  constructor
  intro pins s σ H Q I hq0
  refine PySem.W.methodCall_KW (pl := pl) (thn (he.run pins s σ H _ I hq0) ?_) ht
  rintro u s1 ⟨x, H1, I1, rx, a, dx, fs, rfl, ea, l, q⟩
  cases rx
  refine getmeth_ok I1 ea c hm l (PySem.W.callWith_K (first := [.ref a]) (h₀ := X.base) I.ok.mod.kin hm.kp (thn (ha.run pos pins s1 σ H1 _ I1 q) ?_) hst hpl)
  rintro us s2 ⟨vs, H2, I2, r, q2⟩
  exact ⟨I2.kIn, run_fnSD (us := .ref a :: us) (vs := .ref a :: vs) F hr hb hd (hx σ) I2 (.cons rfl r) q2⟩
/-- isinstance of the caught exception, its class D (no fields) told by the reading -/
def rIsEq (K : PySem.W.Frag) (D a : Addr) (cls : Value) (d : Option Addr) : List V → Hp → VK → Prop := fun xs H Q => cls = .ref D ∧ d = none ∧ rIsE K D a xs H Q
theorem call_isEq {a D : Addr} {oe : Obj} {cls : Value} {d : Option Addr} {pn : List (Addr × Obj)} (c : ExcC X.K D) (hz : Zc cls d oe) (hf : ∃ vs, oe.data = .fields vs) : CallR (X.suite a ((a, oe) :: pn)) (.builtin "isinstance") (rIsEq X.K D a cls d) := by
  intro pins s σ H xs us Q I r h
  obtain ⟨rfl, rfl, h⟩ := h
  exact call_isE (X := X) (a := a) (oe := oe) (pn := pn) c hz hf pins s σ H xs us Q I r h
def rIsET (K : PySem.W.Frag) (D a : Addr) (cls : Value) (d : Option Addr) : List V → Hp → VK → Prop := fun xs H Q => cls = .ref D ∧ d = none ∧ ∃ (tp : Addr) (cs : List V) (us : List Value) (b : Bool), xs = [.ref a, .ref tp] ∧ H tp = some (.tup cs) ∧ Paired ClsV cs us ∧ PySem.W.kitAny K (.ref D) us = some b ∧ Q (.bl b) H
theorem call_isET {a D : Addr} {oe : Obj} {cls : Value} {d : Option Addr} {pn : List (Addr × Obj)} (c : ExcC X.K D) (hz : Zc cls d oe) (hf : ∃ vs, oe.data = .fields vs) : CallR (X.suite a ((a, oe) :: pn)) (.builtin "isinstance") (rIsET X.K D a cls d) := by
  intro pins s σ H xs us Q I r h
  obtain ⟨rfl, rfl, tp, cs, ws, b, rfl, htp, hcs, e, q⟩ := h
  obtain ⟨u1, u2, rfl, r1, r2⟩ := vals2 r
  cases r1; cases r2
  obtain ⟨hget, _⟩ := I.pin (a, oe) (List.mem_append.mpr (.inl List.mem_cons_self))
  obtain ⟨vs, hv⟩ := hf
  have J : PySem.W.InstAt s.heap a oe D none := by
    obtain ⟨oc, od, oda, osl⟩ := oe
    obtain ⟨h1, h2⟩ := hz
    dsimp only at h1 h2 hv
    subst h1 h2 hv
    exact ⟨hget, rfl, rfl, trivial⟩
  have ob : ObjOk X.prog X.w H s.heap tp (.tup cs) := I.hok tp _ htp
  obtain ⟨_, its, rv, ⟨oc, od, oda, osl⟩, g1, g2, n, g3⟩ := ob
  dsimp only at g2 g3
  subst g2 g3
  have ew := ClsV.all hcs rv
  subst ew
  exact PySem.W.kia_tup (PySem.W.handS_kitx_exc c.hg c.hk c.hs c.hd c.ha c.hn c.ht c.hm) I.kIn J g1 e (fun z => nomatch z) fun tk => ⟨.bl b, H, I.kept (t' := tk) fun _ _ z => z, rfl, q⟩
end
end Tk
namespace Tk
open PySem PySem.Spec PyProof.Rows L2
theorem cx_none {P : Program} {w : World} {outer : List Env} {H : Hp} {s s' : Shared} {e : Value} (h : L2.CX P w outer H s E0 e s') : False := by
  obtain ⟨_, _, _, _, _, _, _, _, _, _, _, _, z⟩ := h
  exact z
/-- a def that raises nothing, seen so -/
theorem fn0 {P : Program} {w : World} {K : PySem.W.Frag} {mg : Str → Option Value} {base : Heap} {k : Nat} {f : Addr} {fd : FuncData} {ps : List Str} {sp : Sp} (F : FnOk P w K mg base (L2.CX P w) k f fd ps sp) :
    FnOk P w K mg base CX0 k f fd ps (fun vs H Q _ => sp vs H Q E0) :=
  ⟨fun vs H Q _ h => F.len vs H Q E0 h, fun A outer s H args us vs Q E hr he hb hv h => codeAny_mono (F.run A outer s H args us vs Q E0 hr he hb hv h) (fun r s' z => by
    cases r with
    | error e => exact (cx_none z).elim
    | ok fl => cases fl <;> exact z)⟩
end Tk

set_option Elab.async false
set_option linter.all false
set_option maxRecDepth 100000
set_option maxHeartbeats 4000000
/-! Errors with fields: what was caught is asked for its class and read. -/
namespace Tk
open PySem PySem.Spec PyProof.Rows L2
section
variable {X : Cx}
theorem xd_inst {a D dd : Addr} {oe : Obj} {pn : List (Addr × Obj)} {fs : List (Str × V)} {pins : List (Addr × Obj)} {σ : L2.St} {H : Hp} {s : Shared} (I : Inv (X.suite a ((a, oe) :: pn)) pins σ H s)
    (hz : Zc (.ref D) (some dd) oe) (hf : ∃ vs, oe.data = .fields vs) (h : H dd = some (.xd fs)) : ∃ od, PySem.W.InstAt s.heap a oe D (some od) := by
  obtain ⟨hget, _⟩ := I.pin (a, oe) (List.mem_append.mpr (.inl List.mem_cons_self))
  obtain ⟨vs, hv⟩ := hf
  have hx : ObjOk X.prog X.w H s.heap dd (.xd fs) := I.hok dd _ h
  obtain ⟨mA, hns, hr⟩ := hx
  obtain ⟨od, ho, hl⟩ := lookIn_ns hns
  exact ⟨od, hget, hz.1, by unfold PySem.W.notCls; rw [hv] <;> rfl, by rw [hz.2]; exact ho⟩
theorem exc_cls {K : PySem.W.Frag} {D : Addr} (c : ExcC K D) : (PySem.W.clsIn K D).isSome = true := by
  obtain ⟨cd, hc, _⟩ := PySem.W.any_some c.hd
  rw [hc]; rfl
/-- isinstance of the caught exception, one that has fields -/
def rIsEd (K : PySem.W.Frag) (D a : Addr) (cls : Value) (d : Option Addr) : List V → Hp → VK → Prop := fun xs H Q => cls = .ref D ∧ (∃ dd fs, d = some dd ∧ H dd = some (.xd fs)) ∧ rIsE K D a xs H Q
theorem call_isEd {a D : Addr} {oe : Obj} {cls : Value} {d : Option Addr} {pn : List (Addr × Obj)} (c : ExcC X.K D) (hz : Zc cls d oe) (hf : ∃ vs, oe.data = .fields vs) : CallR (X.suite a ((a, oe) :: pn)) (.builtin "isinstance") (rIsEd X.K D a cls d) := by
  intro pins s σ H xs us Q I r h
  obtain ⟨rfl, ⟨dd, fs, rfl, hd⟩, cc, cv, b, rfl, hcv, e, q⟩ := h
  obtain ⟨u1, u2, rfl, r1, r2⟩ := vals2 r
  cases r1
  have ec := hcv _ r2
  subst ec
  obtain ⟨od, J⟩ := xd_inst I hz hf hd
  exact PySem.W.kia_one (PySem.W.kitx_exc (exc_cls c) c.hg c.hk c.hs c.ha c.hn c.ht c.hm) I.kIn J e (fun z => nomatch z) fun tk => ⟨.bl b, H, I.kept (t' := tk) fun _ _ z => z, rfl, q⟩
def rIsETd (K : PySem.W.Frag) (D a : Addr) (cls : Value) (d : Option Addr) : List V → Hp → VK → Prop := fun xs H Q => cls = .ref D ∧ (∃ dd fs, d = some dd ∧ H dd = some (.xd fs)) ∧ ∃ (tp : Addr) (cs : List V) (us : List Value) (b : Bool), xs = [.ref a, .ref tp] ∧ H tp = some (.tup cs) ∧ Paired ClsV cs us ∧ PySem.W.kitAny K (.ref D) us = some b ∧ Q (.bl b) H
theorem call_isETd {a D : Addr} {oe : Obj} {cls : Value} {d : Option Addr} {pn : List (Addr × Obj)} (c : ExcC X.K D) (hz : Zc cls d oe) (hf : ∃ vs, oe.data = .fields vs) : CallR (X.suite a ((a, oe) :: pn)) (.builtin "isinstance") (rIsETd X.K D a cls d) := by
  intro pins s σ H xs us Q I r h
  obtain ⟨rfl, ⟨dd, fs, rfl, hd⟩, tp, cs, ws, b, rfl, htp, hcs, e, q⟩ := h
  obtain ⟨u1, u2, rfl, r1, r2⟩ := vals2 r
  cases r1; cases r2
  obtain ⟨od, J⟩ := xd_inst I hz hf hd
  have ob : ObjOk X.prog X.w H s.heap tp (.tup cs) := I.hok tp _ htp
  obtain ⟨_, its, rv, ⟨oc, od', oda, osl⟩, g1, g2, n, g3⟩ := ob
  dsimp only at g2 g3
  subst g2 g3
  have ew := ClsV.all hcs rv
  subst ew
  exact PySem.W.kia_tup (PySem.W.kitx_exc (exc_cls c) c.hg c.hk c.hs c.ha c.hn c.ht c.hm) I.kIn J g1 e (fun z => nomatch z) fun tk => ⟨.bl b, H, I.kept (t' := tk) fun _ _ z => z, rfl, q⟩
end
/-- an error class over ValueError, as it lies there -/
def clsO (C : Addr) (o : Obj) : Bool := match o.data with
  | .cls cd => decide (o.cls = .type "type") && (decide (cd.mro.head? = some (.ref C)) && (HandSPX.refsVE cd.mro.tail && (decide (o.slots.size = 6) && (decide (o.slots[4]? = some (some (.builtin "ValueError.__new__"))) && (cd.hasDict && !cd.hasDel)))))
  | _ => false
theorem six {α : Type} {l : List α} (h : l.length = 6) : ∃ a b c d e f, l = [a, b, c, d, e, f] := by
  match l, h with
  | [a, b, c, d, e, f], _ => exact ⟨a, b, c, d, e, f, rfl⟩
theorem clsO_ok {C : Addr} {o : Obj} (h : clsO C o = true) : ∃ nm q N bs bm sn sub ab col dd k0 k1 k2 k3 k5, o = excClassObj nm q C N bs bm true sn sub ab col dd k0 k1 k2 k3 k5 "ValueError.__new__" ∧ HandSPX.refsVE bm = true := by
  obtain ⟨oc, od, oda, osl⟩ := o
  unfold clsO at h
  split at h
  case h_2 => cases h
  rename_i cd e
  dsimp only at e
  subst e
  obtain ⟨h1, h⟩ := He.ba h
  obtain ⟨h2, h⟩ := He.ba h
  obtain ⟨h3, h⟩ := He.ba h
  obtain ⟨h4, h⟩ := He.ba h
  obtain ⟨h5, h⟩ := He.ba h
  obtain ⟨h6, h7⟩ := He.ba h
  replace h1 := of_decide_eq_true h1
  replace h2 := of_decide_eq_true h2
  replace h4 := of_decide_eq_true h4
  replace h5 := of_decide_eq_true h5
  obtain ⟨nm, bs, mro, ns, qn, hd, sn, sub, ab, col, del⟩ := cd
  dsimp only at h1 h2 h3 h4 h5 h6 h7
  obtain ⟨l⟩ := osl
  obtain ⟨k0, k1, k2, k3, k4, k5, rfl⟩ := six (show l.length = 6 from h4)
  replace h5 : k4 = some (.builtin "ValueError.__new__") := by simpa using h5
  cases mro with
  | nil => cases h2
  | cons m bm =>
    replace h2 : m = .ref C := by simpa using h2
    subst h1 h2 h5 h6
    replace h7 : del = false := by simpa using h7
    subst h7
    exact ⟨nm, qn, ns, bs, bm, sn, sub, ab, col, od, k0, k1, k2, k3, k5, rfl, h3⟩
/-- what the head tells of such a class with its own __init__ and a field -/
structure OexF (K : PySem.W.Frag) (C f : Addr) (fld : Str) : Prop where
  T : OexC K C
  iC : PySem.W.findIn K (.ref C) "__init__" = some (some (.ref f))
  tI : PySem.W.typeIn K (.ref f) = some (.type "function")
  no : PySem.W.findIn K (.ref C) fld = some none
  xf : XfC K C
def oexB (K : PySem.W.Frag) (x fld : Str) : Bool :=
  (match K.lookup (He.ga K x) with
    | some o => clsO (He.ga K x) o
    | none => false) &&
  (decide (PySem.W.findIn K (.ref (He.ga K x)) "__setattr__" = some (some (.builtin "object.__setattr__"))) &&
  (decide (PySem.W.subIn K (.ref (He.ga K x)) (.type "BaseException") = some true) &&
  (decide (PySem.W.typeIn K (.ref (He.ga K x)) = some (.type "type")) &&
  (PySem.W.keepIn K (.ref (He.ga K x)) &&
  (decide (PySem.W.findIn K (.ref (He.ga K x)) "__init__" = some (some (.ref (He.ma K (He.ga K x) "__init__")))) &&
  (decide (PySem.W.typeIn K (.ref (He.ma K (He.ga K x) "__init__")) = some (.type "function")) &&
  (decide (PySem.W.findIn K (.ref (He.ga K x)) fld = some none) && xfB K (He.ga K x))))))))
theorem oexB_ok {K : PySem.W.Frag} {x fld : Str} (h : oexB K x fld = true) : OexF K (He.ga K x) (He.ma K (He.ga K x) "__init__") fld := by
  obtain ⟨h1, h⟩ := He.ba h
  obtain ⟨h2, h⟩ := He.ba h
  obtain ⟨h3, h⟩ := He.ba h
  obtain ⟨h4, h⟩ := He.ba h
  obtain ⟨h5, h⟩ := He.ba h
  obtain ⟨h6, h⟩ := He.ba h
  obtain ⟨h7, h⟩ := He.ba h
  obtain ⟨h8, h9⟩ := He.ba h
  have hc : ∃ nm q N bs bm sn sub ab col dd k0 k1 k2 k3 k5, K.lookup (He.ga K x) = some (excClassObj nm q (He.ga K x) N bs bm true sn sub ab col dd k0 k1 k2 k3 k5 "ValueError.__new__") ∧ HandSPX.refsVE bm = true := by
    cases e : K.lookup (He.ga K x) with
    | none => rw [e] at h1; cases h1
    | some o =>
      rw [e] at h1
      obtain ⟨nm, q, N, bs, bm, sn, sub, ab, col, dd, k0, k1, k2, k3, k5, eo, hb⟩ := clsO_ok h1
      exact ⟨nm, q, N, bs, bm, sn, sub, ab, col, dd, k0, k1, k2, k3, k5, by rw [eo], hb⟩
  exact ⟨⟨hc, of_decide_eq_true h2, of_decide_eq_true h3, of_decide_eq_true h4, h5⟩, of_decide_eq_true h6, of_decide_eq_true h7, of_decide_eq_true h8, xfB_ok h9⟩
end Tk

set_option Elab.async false
set_option linter.all false
set_option maxRecDepth 100000
set_option maxHeartbeats 4000000
/-! Tuples of texts that the top leaves. -/
namespace Tk
open PySem PySem.Spec PyProof.Rows L2
def strsB : List Value → List Str → Bool
  | [], [] => true
  | .str x _ :: r, y :: s => decide (x = y) && strsB r s
  | _, _ => false
theorem strsB_ok : ∀ {us : List Value} {ys : List Str}, strsB us ys = true → Vals (ys.map V.str) us := by
  intro us
  induction us with
  | nil =>
    intro ys h
    cases ys with
    | nil => exact .nil
    | cons y s => cases h
  | cons u r ih =>
    intro ys h
    cases ys with
    | nil => cases u <;> cases h
    | cons y s =>
      cases u with
      | str x t =>
        obtain ⟨h1, h2⟩ := He.ba (show (decide (x = y) && strsB r s) = true from h)
        have e := of_decide_eq_true h1
        subst e
        exact .cons ⟨t, rfl⟩ (ih h2)
      | _ => cases h
def tupO (o : Obj) (l : List Str) : Bool := match o.data with
  | .seq its n => decide (o.cls = .type "tuple") && (decide (its.size ≤ sizeLine) && strsB its.toList l)
  | _ => false
def tupB (K : PySem.W.Frag) (x : Str) (l : List Str) : Bool := match K.lookup (He.ga K x) with
  | some o => tupO o l
  | none => false
theorem tupO_ok {o : Obj} {l : List Str} (h : tupO o l = true) : ∃ its n, o.cls = .type "tuple" ∧ o.data = .seq its n ∧ its.size ≤ sizeLine ∧ Vals (l.map V.str) its.toList := by
  unfold tupO at h
  split at h
  · rename_i its n q
    obtain ⟨h1, h⟩ := He.ba h
    obtain ⟨h2, h3⟩ := He.ba h
    exact ⟨its, n, of_decide_eq_true h1, q, of_decide_eq_true h2, strsB_ok h3⟩
  · cases h
theorem tupB_ok {K : PySem.W.Frag} {x : Str} {l : List Str} (h : tupB K x l = true) (H : Hp) : SqT K H (He.ga K x) (l.map V.str) := by
  unfold tupB at h
  cases e : K.lookup (He.ga K x) with
  | none => rw [e] at h; cases h
  | some o =>
    rw [e] at h
    obtain ⟨its, n, h1, h2, h3, h4⟩ := tupO_ok h
    exact .inr ⟨o, its, n, e, h1, h2, h3, h4⟩
end Tk

set_option Elab.async false
set_option linter.all false
set_option maxRecDepth 100000
set_option maxHeartbeats 0
/-! ### the text by places, the head -/
namespace Hd
open PySem PySem.Spec PyProof.Rows L2 Tk
def top (i : Nat) : Stmt := PySem.Challenge.pw_notesttells_k61_whole_papers_are_read_ex.main.body.getD i (.Pass ⟨0, 0, 0, 0⟩)
abbrev s__wall : Stmt := top 1
abbrev s__digits : Stmt := top 11
abbrev s_total : Stmt := top 13
abbrev s_are_lots : Stmt := top 14
abbrev s__table : Stmt := top 20
abbrev s__fault : Stmt := top 21
abbrev s__out_of : Stmt := top 22
abbrev s__is_square : Stmt := top 23
abbrev s__leads_on : Stmt := top 24
abbrev s_words_of : Stmt := top 29
abbrev s_number_of : Stmt := top 30
abbrev s_ratio_of : Stmt := top 31
abbrev s_paper_lines : Stmt := top 34
abbrev s_read_paper : Stmt := top 35
abbrev s__ratios_line : Stmt := top 36
abbrev s__read_rest : Stmt := top 37
abbrev s__many : Stmt := top 38
abbrev s__step : Stmt := top 39
abbrev s__ratios : Stmt := top 40
abbrev s__law_pool : Stmt := top 42
abbrev s__law_draw : Stmt := top 43
abbrev s__law_same : Stmt := top 44
abbrev s__law_less : Stmt := top 45
abbrev s__law_plus : Stmt := top 46
abbrev s__law_minus : Stmt := top 47
abbrev s__law_times : Stmt := top 48
abbrev s__law_cells : Stmt := top 49
abbrev s__law_machine : Stmt := top 50
abbrev s__law_renamed : Stmt := top 51
abbrev s__law_split : Stmt := top 52
abbrev s__law_changed : Stmt := top 53
abbrev s__law_pair : Stmt := top 54
abbrev s__law_made : Stmt := top 55
abbrev s__law_next : Stmt := top 56
abbrev s__law_text : Stmt := top 57
abbrev s__law_row_text : Stmt := top 58
abbrev s__law_signed : Stmt := top 59
abbrev s__law_drawn : Stmt := top 60
abbrev s__law_digits : Stmt := top 61
abbrev s__law_read : Stmt := top 62
abbrev s__law_word : Stmt := top 63
abbrev s__law_changed_lines : Stmt := top 64
abbrev s__law_opens : Stmt := top 65
abbrev s__law_bad : Stmt := top 66
abbrev s_law : Stmt := top 67
abbrev s_BadText_init : Stmt := inClass (top 4) 0
abbrev s_BadPaper_init : Stmt := inClass (top 5) 0
abbrev s_BadMachine_init : Stmt := inClass (top 6) 0
abbrev s_TooLarge_init : Stmt := inClass (top 7) 0
abbrev s_Ratio_init : Stmt := inClass (top 12) 0
abbrev s_Ratio_add : Stmt := inClass (top 12) 1
abbrev s_Ratio_sub : Stmt := inClass (top 12) 2
abbrev s_Ratio_mul : Stmt := inClass (top 12) 3
abbrev s_Ratio_eq : Stmt := inClass (top 12) 4
abbrev s_Ratio_str : Stmt := inClass (top 12) 5
abbrev s_Ratio_less : Stmt := inClass (top 12) 6
abbrev s_Ratio_by : Stmt := inClass (top 12) 7
abbrev s_Machine_init : Stmt := inClass (top 19) 0
abbrev s_Machine_eq : Stmt := inClass (top 19) 1
abbrev s_Machine_states : Stmt := inClass (top 19) 2
abbrev s_Machine_buttons : Stmt := inClass (top 19) 3
abbrev s_Machine_answers : Stmt := inClass (top 19) 4
abbrev s_Found_init : Stmt := inClass (top 26) 0
abbrev s_Found_eq : Stmt := inClass (top 26) 1
abbrev FnP (K : PySem.W.Frag) (x q : Str) (st : Stmt) (ds : List V) (f : Addr) (fd : FuncData) : Prop := FunD K x q (defArgs st) (defBody st) (defScope st) ds [] f fd
def d__wall : He.DefD := ⟨("_wall", none), "_wall", "_wall", defArgs s__wall, defBody s__wall, defScope s__wall, [], []⟩
def d__digits : He.DefD := ⟨("_digits", none), "_digits", "_digits", defArgs s__digits, defBody s__digits, defScope s__digits, [], []⟩
def d_total : He.DefD := ⟨("total", none), "total", "total", defArgs s_total, defBody s_total, defScope s_total, [], []⟩
def d_are_lots : He.DefD := ⟨("are_lots", none), "are_lots", "are_lots", defArgs s_are_lots, defBody s_are_lots, defScope s_are_lots, [], []⟩
def d__table : He.DefD := ⟨("_table", none), "_table", "_table", defArgs s__table, defBody s__table, defScope s__table, [], []⟩
def d__fault : He.DefD := ⟨("_fault", none), "_fault", "_fault", defArgs s__fault, defBody s__fault, defScope s__fault, [], []⟩
def d__out_of : He.DefD := ⟨("_out_of", none), "_out_of", "_out_of", defArgs s__out_of, defBody s__out_of, defScope s__out_of, [], []⟩
def d__is_square : He.DefD := ⟨("_is_square", none), "_is_square", "_is_square", defArgs s__is_square, defBody s__is_square, defScope s__is_square, [], []⟩
def d__leads_on : He.DefD := ⟨("_leads_on", none), "_leads_on", "_leads_on", defArgs s__leads_on, defBody s__leads_on, defScope s__leads_on, [], []⟩
def d_words_of : He.DefD := ⟨("words_of", none), "words_of", "words_of", defArgs s_words_of, defBody s_words_of, defScope s_words_of, [], []⟩
def d_number_of : He.DefD := ⟨("number_of", none), "number_of", "number_of", defArgs s_number_of, defBody s_number_of, defScope s_number_of, [], []⟩
def d_ratio_of : He.DefD := ⟨("ratio_of", none), "ratio_of", "ratio_of", defArgs s_ratio_of, defBody s_ratio_of, defScope s_ratio_of, [], []⟩
def d_paper_lines : He.DefD := ⟨("paper_lines", none), "paper_lines", "paper_lines", defArgs s_paper_lines, defBody s_paper_lines, defScope s_paper_lines, [], []⟩
def d_read_paper : He.DefD := ⟨("read_paper", none), "read_paper", "read_paper", defArgs s_read_paper, defBody s_read_paper, defScope s_read_paper, [], []⟩
def d__ratios_line : He.DefD := ⟨("_ratios_line", none), "_ratios_line", "_ratios_line", defArgs s__ratios_line, defBody s__ratios_line, defScope s__ratios_line, [], []⟩
def d__read_rest : He.DefD := ⟨("_read_rest", none), "_read_rest", "_read_rest", defArgs s__read_rest, defBody s__read_rest, defScope s__read_rest, [], []⟩
def d__many : He.DefD := ⟨("_many", none), "_many", "_many", defArgs s__many, defBody s__many, defScope s__many, [], []⟩
def d__step : He.DefD := ⟨("_step", none), "_step", "_step", defArgs s__step, defBody s__step, defScope s__step, [], []⟩
def d__ratios : He.DefD := ⟨("_ratios", none), "_ratios", "_ratios", defArgs s__ratios, defBody s__ratios, defScope s__ratios, [], []⟩
def d__law_pool : He.DefD := ⟨("_law_pool", none), "_law_pool", "_law_pool", defArgs s__law_pool, defBody s__law_pool, defScope s__law_pool, [], []⟩
def d__law_draw : He.DefD := ⟨("_law_draw", none), "_law_draw", "_law_draw", defArgs s__law_draw, defBody s__law_draw, defScope s__law_draw, [], []⟩
def d__law_same : He.DefD := ⟨("_law_same", none), "_law_same", "_law_same", defArgs s__law_same, defBody s__law_same, defScope s__law_same, [], []⟩
def d__law_less : He.DefD := ⟨("_law_less", none), "_law_less", "_law_less", defArgs s__law_less, defBody s__law_less, defScope s__law_less, [], []⟩
def d__law_plus : He.DefD := ⟨("_law_plus", none), "_law_plus", "_law_plus", defArgs s__law_plus, defBody s__law_plus, defScope s__law_plus, [], []⟩
def d__law_minus : He.DefD := ⟨("_law_minus", none), "_law_minus", "_law_minus", defArgs s__law_minus, defBody s__law_minus, defScope s__law_minus, [], []⟩
def d__law_times : He.DefD := ⟨("_law_times", none), "_law_times", "_law_times", defArgs s__law_times, defBody s__law_times, defScope s__law_times, [], []⟩
def d__law_cells : He.DefD := ⟨("_law_cells", none), "_law_cells", "_law_cells", defArgs s__law_cells, defBody s__law_cells, defScope s__law_cells, [], []⟩
def d__law_machine : He.DefD := ⟨("_law_machine", none), "_law_machine", "_law_machine", defArgs s__law_machine, defBody s__law_machine, defScope s__law_machine, [], []⟩
def d__law_renamed : He.DefD := ⟨("_law_renamed", none), "_law_renamed", "_law_renamed", defArgs s__law_renamed, defBody s__law_renamed, defScope s__law_renamed, [], []⟩
def d__law_split : He.DefD := ⟨("_law_split", none), "_law_split", "_law_split", defArgs s__law_split, defBody s__law_split, defScope s__law_split, [], []⟩
def d__law_changed : He.DefD := ⟨("_law_changed", none), "_law_changed", "_law_changed", defArgs s__law_changed, defBody s__law_changed, defScope s__law_changed, [], []⟩
def d__law_pair : He.DefD := ⟨("_law_pair", none), "_law_pair", "_law_pair", defArgs s__law_pair, defBody s__law_pair, defScope s__law_pair, [], []⟩
def d__law_made : He.DefD := ⟨("_law_made", none), "_law_made", "_law_made", defArgs s__law_made, defBody s__law_made, defScope s__law_made, [], []⟩
def d__law_next : He.DefD := ⟨("_law_next", none), "_law_next", "_law_next", defArgs s__law_next, defBody s__law_next, defScope s__law_next, [], []⟩
def d__law_text : He.DefD := ⟨("_law_text", none), "_law_text", "_law_text", defArgs s__law_text, defBody s__law_text, defScope s__law_text, [], []⟩
def d__law_row_text : He.DefD := ⟨("_law_row_text", none), "_law_row_text", "_law_row_text", defArgs s__law_row_text, defBody s__law_row_text, defScope s__law_row_text, [], []⟩
def d__law_signed : He.DefD := ⟨("_law_signed", none), "_law_signed", "_law_signed", defArgs s__law_signed, defBody s__law_signed, defScope s__law_signed, [], []⟩
def d__law_drawn : He.DefD := ⟨("_law_drawn", none), "_law_drawn", "_law_drawn", defArgs s__law_drawn, defBody s__law_drawn, defScope s__law_drawn, [], []⟩
def d__law_digits : He.DefD := ⟨("_law_digits", none), "_law_digits", "_law_digits", defArgs s__law_digits, defBody s__law_digits, defScope s__law_digits, [], []⟩
def d__law_read : He.DefD := ⟨("_law_read", none), "_law_read", "_law_read", defArgs s__law_read, defBody s__law_read, defScope s__law_read, [], []⟩
def d__law_word : He.DefD := ⟨("_law_word", none), "_law_word", "_law_word", defArgs s__law_word, defBody s__law_word, defScope s__law_word, [], []⟩
def d__law_changed_lines : He.DefD := ⟨("_law_changed_lines", none), "_law_changed_lines", "_law_changed_lines", defArgs s__law_changed_lines, defBody s__law_changed_lines, defScope s__law_changed_lines, [], []⟩
def d__law_opens : He.DefD := ⟨("_law_opens", none), "_law_opens", "_law_opens", defArgs s__law_opens, defBody s__law_opens, defScope s__law_opens, [], []⟩
def d__law_bad : He.DefD := ⟨("_law_bad", none), "_law_bad", "_law_bad", defArgs s__law_bad, defBody s__law_bad, defScope s__law_bad, [], []⟩
def d_law : He.DefD := ⟨("law", none), "law", "law", defArgs s_law, defBody s_law, defScope s_law, [], []⟩
def d_BadText_init : He.DefD := ⟨("BadText", some "__init__"), "__init__", "BadText.__init__", defArgs s_BadText_init, defBody s_BadText_init, defScope s_BadText_init, [], []⟩
def d_BadPaper_init : He.DefD := ⟨("BadPaper", some "__init__"), "__init__", "BadPaper.__init__", defArgs s_BadPaper_init, defBody s_BadPaper_init, defScope s_BadPaper_init, [], []⟩
def d_BadMachine_init : He.DefD := ⟨("BadMachine", some "__init__"), "__init__", "BadMachine.__init__", defArgs s_BadMachine_init, defBody s_BadMachine_init, defScope s_BadMachine_init, [], []⟩
def d_TooLarge_init : He.DefD := ⟨("TooLarge", some "__init__"), "__init__", "TooLarge.__init__", defArgs s_TooLarge_init, defBody s_TooLarge_init, defScope s_TooLarge_init, [], []⟩
def d_Ratio_init : He.DefD := ⟨("Ratio", some "__init__"), "__init__", "Ratio.__init__", defArgs s_Ratio_init, defBody s_Ratio_init, defScope s_Ratio_init, [.int 1], []⟩
def d_Ratio_add : He.DefD := ⟨("Ratio", some "__add__"), "__add__", "Ratio.__add__", defArgs s_Ratio_add, defBody s_Ratio_add, defScope s_Ratio_add, [], []⟩
def d_Ratio_sub : He.DefD := ⟨("Ratio", some "__sub__"), "__sub__", "Ratio.__sub__", defArgs s_Ratio_sub, defBody s_Ratio_sub, defScope s_Ratio_sub, [], []⟩
def d_Ratio_mul : He.DefD := ⟨("Ratio", some "__mul__"), "__mul__", "Ratio.__mul__", defArgs s_Ratio_mul, defBody s_Ratio_mul, defScope s_Ratio_mul, [], []⟩
def d_Ratio_eq : He.DefD := ⟨("Ratio", some "__eq__"), "__eq__", "Ratio.__eq__", defArgs s_Ratio_eq, defBody s_Ratio_eq, defScope s_Ratio_eq, [], []⟩
def d_Ratio_str : He.DefD := ⟨("Ratio", some "__str__"), "__str__", "Ratio.__str__", defArgs s_Ratio_str, defBody s_Ratio_str, defScope s_Ratio_str, [], []⟩
def d_Ratio_less : He.DefD := ⟨("Ratio", some "less"), "less", "Ratio.less", defArgs s_Ratio_less, defBody s_Ratio_less, defScope s_Ratio_less, [], []⟩
def d_Ratio_by : He.DefD := ⟨("Ratio", some "by"), "by", "Ratio.by", defArgs s_Ratio_by, defBody s_Ratio_by, defScope s_Ratio_by, [], []⟩
def d_Machine_init : He.DefD := ⟨("Machine", some "__init__"), "__init__", "Machine.__init__", defArgs s_Machine_init, defBody s_Machine_init, defScope s_Machine_init, [], []⟩
def d_Machine_eq : He.DefD := ⟨("Machine", some "__eq__"), "__eq__", "Machine.__eq__", defArgs s_Machine_eq, defBody s_Machine_eq, defScope s_Machine_eq, [], []⟩
def d_Machine_states : He.DefD := ⟨("Machine", some "states"), "states", "Machine.states", defArgs s_Machine_states, defBody s_Machine_states, defScope s_Machine_states, [], []⟩
def d_Machine_buttons : He.DefD := ⟨("Machine", some "buttons"), "buttons", "Machine.buttons", defArgs s_Machine_buttons, defBody s_Machine_buttons, defScope s_Machine_buttons, [], []⟩
def d_Machine_answers : He.DefD := ⟨("Machine", some "answers"), "answers", "Machine.answers", defArgs s_Machine_answers, defBody s_Machine_answers, defScope s_Machine_answers, [], []⟩
def d_Found_init : He.DefD := ⟨("Found", some "__init__"), "__init__", "Found.__init__", defArgs s_Found_init, defBody s_Found_init, defScope s_Found_init, [], []⟩
def d_Found_eq : He.DefD := ⟨("Found", some "__eq__"), "__eq__", "Found.__eq__", defArgs s_Found_eq, defBody s_Found_eq, defScope s_Found_eq, [], []⟩
def fn : List He.DefD := [d__wall, d__digits, d_total, d_are_lots, d__table, d__fault, d__out_of, d__is_square, d__leads_on, d_words_of, d_number_of, d_ratio_of, d_paper_lines, d_read_paper, d__ratios_line, d__read_rest, d__many, d__step, d__ratios, d__law_pool, d__law_draw, d__law_same, d__law_less, d__law_plus, d__law_minus, d__law_times, d__law_cells, d__law_machine, d__law_renamed, d__law_split, d__law_changed, d__law_pair, d__law_made, d__law_next, d__law_text, d__law_row_text, d__law_signed, d__law_drawn, d__law_digits, d__law_read, d__law_word, d__law_changed_lines, d__law_opens, d__law_bad, d_law, d_BadText_init, d_BadPaper_init, d_BadMachine_init, d_TooLarge_init, d_Ratio_init, d_Ratio_add, d_Ratio_sub, d_Ratio_mul, d_Ratio_eq, d_Ratio_str, d_Ratio_less, d_Ratio_by, d_Machine_init, d_Machine_eq, d_Machine_states, d_Machine_buttons, d_Machine_answers, d_Found_init, d_Found_eq]
def fas (K : PySem.W.Frag) : List Bool := [(He.Fa.free "ValueError").ok K,
  (He.Fa.free "abs").ok K,
  (He.Fa.free "all").ok K,
  (He.Fa.free "any").ok K,
  (He.Fa.free "bool").ok K,
  (He.Fa.free "divmod").ok K,
  (He.Fa.free "int").ok K,
  (He.Fa.free "isinstance").ok K,
  (He.Fa.free "len").ok K,
  (He.Fa.free "list").ok K,
  (He.Fa.free "range").ok K,
  (He.Fa.free "str").ok K,
  (He.Fa.free "sum").ok K,
  (He.Fa.free "tuple").ok K,
  (He.Fa.glo "_wall").ok K,
  (He.Fa.glo "_digits").ok K,
  (He.Fa.glo "total").ok K,
  (He.Fa.glo "are_lots").ok K,
  (He.Fa.glo "_table").ok K,
  (He.Fa.glo "_fault").ok K,
  (He.Fa.glo "_out_of").ok K,
  (He.Fa.glo "_is_square").ok K,
  (He.Fa.glo "_leads_on").ok K,
  (He.Fa.glo "words_of").ok K,
  (He.Fa.glo "number_of").ok K,
  (He.Fa.glo "ratio_of").ok K,
  (He.Fa.glo "paper_lines").ok K,
  (He.Fa.glo "read_paper").ok K,
  (He.Fa.glo "_ratios_line").ok K,
  (He.Fa.glo "_read_rest").ok K,
  (He.Fa.glo "_many").ok K,
  (He.Fa.glo "_step").ok K,
  (He.Fa.glo "_ratios").ok K,
  (He.Fa.glo "_law_pool").ok K,
  (He.Fa.glo "_law_draw").ok K,
  (He.Fa.glo "_law_same").ok K,
  (He.Fa.glo "_law_less").ok K,
  (He.Fa.glo "_law_plus").ok K,
  (He.Fa.glo "_law_minus").ok K,
  (He.Fa.glo "_law_times").ok K,
  (He.Fa.glo "_law_cells").ok K,
  (He.Fa.glo "_law_machine").ok K,
  (He.Fa.glo "_law_renamed").ok K,
  (He.Fa.glo "_law_split").ok K,
  (He.Fa.glo "_law_changed").ok K,
  (He.Fa.glo "_law_pair").ok K,
  (He.Fa.glo "_law_made").ok K,
  (He.Fa.glo "_law_next").ok K,
  (He.Fa.glo "_law_text").ok K,
  (He.Fa.glo "_law_row_text").ok K,
  (He.Fa.glo "_law_signed").ok K,
  (He.Fa.glo "_law_drawn").ok K,
  (He.Fa.glo "_law_digits").ok K,
  (He.Fa.glo "_law_read").ok K,
  (He.Fa.glo "_law_word").ok K,
  (He.Fa.glo "_law_changed_lines").ok K,
  (He.Fa.glo "_law_opens").ok K,
  (He.Fa.glo "_law_bad").ok K,
  (He.Fa.glo "law").ok K,
  blB K "gcd" "math.gcd",
  (He.Fa.int "PART_END" (10000000000000000000000000000000000000000000000000000000000000000)).ok K,
  (He.Fa.int "MOST_STATES" (12)).ok K,
  (He.Fa.int "MOST_BUTTONS" (4)).ok K,
  (He.Fa.int "MOST_ANSWERS" (4)).ok K,
  (He.Fa.int "MOST_PART" (999999999999999999999999999999999999999999999999999999999999)).ok K,
  (He.Fa.int "MOST_VECTORS" (24)).ok K,
  (He.Fa.glo "TestError").ok K,
  (He.Fa.keep "TestError").ok K,
  (He.Fa.exc "TestError").ok K,
  isEB K "TestError",
  (He.Fa.glo "BadText").ok K,
  (He.Fa.keep "BadText").ok K,
  isEB K "BadText",
  oexB K "BadText" "at",
  (He.Fa.glo "BadPaper").ok K,
  (He.Fa.keep "BadPaper").ok K,
  isEB K "BadPaper",
  oexB K "BadPaper" "at",
  (He.Fa.glo "BadMachine").ok K,
  (He.Fa.keep "BadMachine").ok K,
  isEB K "BadMachine",
  oexB K "BadMachine" "what",
  (He.Fa.glo "TooLarge").ok K,
  (He.Fa.keep "TooLarge").ok K,
  isEB K "TooLarge",
  oexB K "TooLarge" "what",
  (He.Fa.glo "BadRatio").ok K,
  (He.Fa.keep "BadRatio").ok K,
  (He.Fa.exc "BadRatio").ok K,
  isEB K "BadRatio",
  (He.Fa.glo "Ratio").ok K,
  (He.Fa.keep "Ratio").ok K,
  (He.Fa.cls "Ratio").ok K,
  instB K "Ratio",
  (He.Fa.mkr "Ratio").ok K,
  PySem.W.selfFirst K (He.ga K "Ratio"),
  (He.Fa.meth "Ratio" "__init__").ok K,
  (He.Fa.meth "Ratio" "__add__").ok K,
  (He.Fa.meth "Ratio" "__sub__").ok K,
  (He.Fa.meth "Ratio" "__mul__").ok K,
  (He.Fa.meth "Ratio" "__eq__").ok K,
  (He.Fa.meth "Ratio" "__str__").ok K,
  (He.Fa.meth "Ratio" "less").ok K,
  (He.Fa.meth "Ratio" "by").ok K,
  (He.Fa.noat "Ratio" "num").ok K,
  (He.Fa.noat "Ratio" "den").ok K,
  (He.Fa.glo "Machine").ok K,
  (He.Fa.keep "Machine").ok K,
  (He.Fa.cls "Machine").ok K,
  instB K "Machine",
  (He.Fa.mkr "Machine").ok K,
  PySem.W.selfFirst K (He.ga K "Machine"),
  (He.Fa.meth "Machine" "__init__").ok K,
  (He.Fa.meth "Machine" "__eq__").ok K,
  (He.Fa.meth "Machine" "states").ok K,
  (He.Fa.meth "Machine" "buttons").ok K,
  (He.Fa.meth "Machine" "answers").ok K,
  (He.Fa.noat "Machine" "start").ok K,
  (He.Fa.noat "Machine" "moves").ok K,
  (He.Fa.glo "Found").ok K,
  (He.Fa.keep "Found").ok K,
  (He.Fa.cls "Found").ok K,
  instB K "Found",
  (He.Fa.mkr "Found").ok K,
  PySem.W.selfFirst K (He.ga K "Found"),
  (He.Fa.meth "Found" "__init__").ok K,
  (He.Fa.meth "Found" "__eq__").ok K,
  (He.Fa.noat "Found" "kind").ok K,
  (He.Fa.noat "Found" "vectors").ok K,
  (He.Fa.noat "Found" "start").ok K,
  (He.Fa.noat "Found" "moves").ok K,
  (He.Fa.noat "Found" "way").ok K,
  decide (PySem.W.kitOne K (.ref (He.ga K "BadText")) (.type "ValueError") = some true),
  decide (PySem.W.kitOne K (.ref (He.ga K "BadText")) (.ref (He.ga K "TestError")) = some true),
  decide (PySem.W.exmOne K (.ref (He.ga K "BadText")) (.ref (He.ga K "TestError")) = some true),
  decide (PySem.W.kitOne K (.ref (He.ga K "BadText")) (.ref (He.ga K "BadText")) = some true),
  decide (PySem.W.exmOne K (.ref (He.ga K "BadText")) (.ref (He.ga K "BadText")) = some true),
  decide (PySem.W.kitOne K (.ref (He.ga K "BadText")) (.ref (He.ga K "BadPaper")) = some false),
  decide (PySem.W.exmOne K (.ref (He.ga K "BadText")) (.ref (He.ga K "BadPaper")) = some false),
  decide (PySem.W.kitOne K (.ref (He.ga K "BadText")) (.ref (He.ga K "BadMachine")) = some false),
  decide (PySem.W.exmOne K (.ref (He.ga K "BadText")) (.ref (He.ga K "BadMachine")) = some false),
  decide (PySem.W.kitOne K (.ref (He.ga K "BadText")) (.ref (He.ga K "TooLarge")) = some false),
  decide (PySem.W.exmOne K (.ref (He.ga K "BadText")) (.ref (He.ga K "TooLarge")) = some false),
  decide (PySem.W.kitOne K (.ref (He.ga K "BadText")) (.ref (He.ga K "BadRatio")) = some false),
  decide (PySem.W.exmOne K (.ref (He.ga K "BadText")) (.ref (He.ga K "BadRatio")) = some false),
  decide (PySem.W.kitOne K (.ref (He.ga K "BadPaper")) (.type "ValueError") = some true),
  decide (PySem.W.kitOne K (.ref (He.ga K "BadPaper")) (.ref (He.ga K "TestError")) = some true),
  decide (PySem.W.exmOne K (.ref (He.ga K "BadPaper")) (.ref (He.ga K "TestError")) = some true),
  decide (PySem.W.kitOne K (.ref (He.ga K "BadPaper")) (.ref (He.ga K "BadText")) = some false),
  decide (PySem.W.exmOne K (.ref (He.ga K "BadPaper")) (.ref (He.ga K "BadText")) = some false),
  decide (PySem.W.kitOne K (.ref (He.ga K "BadPaper")) (.ref (He.ga K "BadPaper")) = some true),
  decide (PySem.W.exmOne K (.ref (He.ga K "BadPaper")) (.ref (He.ga K "BadPaper")) = some true),
  decide (PySem.W.kitOne K (.ref (He.ga K "BadPaper")) (.ref (He.ga K "BadMachine")) = some false),
  decide (PySem.W.exmOne K (.ref (He.ga K "BadPaper")) (.ref (He.ga K "BadMachine")) = some false),
  decide (PySem.W.kitOne K (.ref (He.ga K "BadPaper")) (.ref (He.ga K "TooLarge")) = some false),
  decide (PySem.W.exmOne K (.ref (He.ga K "BadPaper")) (.ref (He.ga K "TooLarge")) = some false),
  decide (PySem.W.kitOne K (.ref (He.ga K "BadPaper")) (.ref (He.ga K "BadRatio")) = some false),
  decide (PySem.W.exmOne K (.ref (He.ga K "BadPaper")) (.ref (He.ga K "BadRatio")) = some false),
  decide (PySem.W.kitOne K (.ref (He.ga K "BadMachine")) (.type "ValueError") = some true),
  decide (PySem.W.kitOne K (.ref (He.ga K "BadMachine")) (.ref (He.ga K "TestError")) = some true),
  decide (PySem.W.exmOne K (.ref (He.ga K "BadMachine")) (.ref (He.ga K "TestError")) = some true),
  decide (PySem.W.kitOne K (.ref (He.ga K "BadMachine")) (.ref (He.ga K "BadText")) = some false),
  decide (PySem.W.exmOne K (.ref (He.ga K "BadMachine")) (.ref (He.ga K "BadText")) = some false),
  decide (PySem.W.kitOne K (.ref (He.ga K "BadMachine")) (.ref (He.ga K "BadPaper")) = some false),
  decide (PySem.W.exmOne K (.ref (He.ga K "BadMachine")) (.ref (He.ga K "BadPaper")) = some false),
  decide (PySem.W.kitOne K (.ref (He.ga K "BadMachine")) (.ref (He.ga K "BadMachine")) = some true),
  decide (PySem.W.exmOne K (.ref (He.ga K "BadMachine")) (.ref (He.ga K "BadMachine")) = some true),
  decide (PySem.W.kitOne K (.ref (He.ga K "BadMachine")) (.ref (He.ga K "TooLarge")) = some false),
  decide (PySem.W.exmOne K (.ref (He.ga K "BadMachine")) (.ref (He.ga K "TooLarge")) = some false),
  decide (PySem.W.kitOne K (.ref (He.ga K "BadMachine")) (.ref (He.ga K "BadRatio")) = some false),
  decide (PySem.W.exmOne K (.ref (He.ga K "BadMachine")) (.ref (He.ga K "BadRatio")) = some false),
  decide (PySem.W.kitOne K (.ref (He.ga K "TooLarge")) (.type "ValueError") = some true),
  decide (PySem.W.kitOne K (.ref (He.ga K "TooLarge")) (.ref (He.ga K "TestError")) = some true),
  decide (PySem.W.exmOne K (.ref (He.ga K "TooLarge")) (.ref (He.ga K "TestError")) = some true),
  decide (PySem.W.kitOne K (.ref (He.ga K "TooLarge")) (.ref (He.ga K "BadText")) = some false),
  decide (PySem.W.exmOne K (.ref (He.ga K "TooLarge")) (.ref (He.ga K "BadText")) = some false),
  decide (PySem.W.kitOne K (.ref (He.ga K "TooLarge")) (.ref (He.ga K "BadPaper")) = some false),
  decide (PySem.W.exmOne K (.ref (He.ga K "TooLarge")) (.ref (He.ga K "BadPaper")) = some false),
  decide (PySem.W.kitOne K (.ref (He.ga K "TooLarge")) (.ref (He.ga K "BadMachine")) = some false),
  decide (PySem.W.exmOne K (.ref (He.ga K "TooLarge")) (.ref (He.ga K "BadMachine")) = some false),
  decide (PySem.W.kitOne K (.ref (He.ga K "TooLarge")) (.ref (He.ga K "TooLarge")) = some true),
  decide (PySem.W.exmOne K (.ref (He.ga K "TooLarge")) (.ref (He.ga K "TooLarge")) = some true),
  decide (PySem.W.kitOne K (.ref (He.ga K "TooLarge")) (.ref (He.ga K "BadRatio")) = some false),
  decide (PySem.W.exmOne K (.ref (He.ga K "TooLarge")) (.ref (He.ga K "BadRatio")) = some false),
  decide (PySem.W.kitOne K (.ref (He.ga K "BadRatio")) (.type "ValueError") = some true),
  decide (PySem.W.kitOne K (.ref (He.ga K "BadRatio")) (.ref (He.ga K "TestError")) = some true),
  decide (PySem.W.exmOne K (.ref (He.ga K "BadRatio")) (.ref (He.ga K "TestError")) = some true),
  decide (PySem.W.kitOne K (.ref (He.ga K "BadRatio")) (.ref (He.ga K "BadText")) = some false),
  decide (PySem.W.exmOne K (.ref (He.ga K "BadRatio")) (.ref (He.ga K "BadText")) = some false),
  decide (PySem.W.kitOne K (.ref (He.ga K "BadRatio")) (.ref (He.ga K "BadPaper")) = some false),
  decide (PySem.W.exmOne K (.ref (He.ga K "BadRatio")) (.ref (He.ga K "BadPaper")) = some false),
  decide (PySem.W.kitOne K (.ref (He.ga K "BadRatio")) (.ref (He.ga K "BadMachine")) = some false),
  decide (PySem.W.exmOne K (.ref (He.ga K "BadRatio")) (.ref (He.ga K "BadMachine")) = some false),
  decide (PySem.W.kitOne K (.ref (He.ga K "BadRatio")) (.ref (He.ga K "TooLarge")) = some false),
  decide (PySem.W.exmOne K (.ref (He.ga K "BadRatio")) (.ref (He.ga K "TooLarge")) = some false),
  decide (PySem.W.kitOne K (.ref (He.ga K "BadRatio")) (.ref (He.ga K "BadRatio")) = some true),
  decide (PySem.W.exmOne K (.ref (He.ga K "BadRatio")) (.ref (He.ga K "BadRatio")) = some true),
  decide (PySem.W.kitOne K (.type "NoneType") (.ref (He.ga K "Ratio")) = some false)]
def ex (K : PySem.W.Frag) : Bool := (fas K).all id
theorem fas_at {K : PySem.W.Frag} (c : ex K = true) (i : Nat) {b : Bool} (h : (fas K)[i]? = some b) : b = true := List.all_eq_true.mp c b (List.mem_of_getElem? h)
structure Dt (K : PySem.W.Frag) (mg : Str → Option Value) : Prop where
  s : SaysY ex fn K
  n : ∃ h : Heap, K.In h ∧ h.Ns mainGlobals mg
section
variable {K : PySem.W.Frag} {mg : Str → Option Value}
theorem free_ValueError (D : Dt K mg) : mg "ValueError" = none := by obtain ⟨h, X, G⟩ := D.n; exact He.free_ok X G (fas_at D.s.more 0 rfl)
theorem free_abs (D : Dt K mg) : mg "abs" = none := by obtain ⟨h, X, G⟩ := D.n; exact He.free_ok X G (fas_at D.s.more 1 rfl)
theorem free_all (D : Dt K mg) : mg "all" = none := by obtain ⟨h, X, G⟩ := D.n; exact He.free_ok X G (fas_at D.s.more 2 rfl)
theorem free_any (D : Dt K mg) : mg "any" = none := by obtain ⟨h, X, G⟩ := D.n; exact He.free_ok X G (fas_at D.s.more 3 rfl)
theorem free_bool (D : Dt K mg) : mg "bool" = none := by obtain ⟨h, X, G⟩ := D.n; exact He.free_ok X G (fas_at D.s.more 4 rfl)
theorem free_divmod (D : Dt K mg) : mg "divmod" = none := by obtain ⟨h, X, G⟩ := D.n; exact He.free_ok X G (fas_at D.s.more 5 rfl)
theorem free_int (D : Dt K mg) : mg "int" = none := by obtain ⟨h, X, G⟩ := D.n; exact He.free_ok X G (fas_at D.s.more 6 rfl)
theorem free_isinstance (D : Dt K mg) : mg "isinstance" = none := by obtain ⟨h, X, G⟩ := D.n; exact He.free_ok X G (fas_at D.s.more 7 rfl)
theorem free_len (D : Dt K mg) : mg "len" = none := by obtain ⟨h, X, G⟩ := D.n; exact He.free_ok X G (fas_at D.s.more 8 rfl)
theorem free_list (D : Dt K mg) : mg "list" = none := by obtain ⟨h, X, G⟩ := D.n; exact He.free_ok X G (fas_at D.s.more 9 rfl)
theorem free_range (D : Dt K mg) : mg "range" = none := by obtain ⟨h, X, G⟩ := D.n; exact He.free_ok X G (fas_at D.s.more 10 rfl)
theorem free_str (D : Dt K mg) : mg "str" = none := by obtain ⟨h, X, G⟩ := D.n; exact He.free_ok X G (fas_at D.s.more 11 rfl)
theorem free_sum (D : Dt K mg) : mg "sum" = none := by obtain ⟨h, X, G⟩ := D.n; exact He.free_ok X G (fas_at D.s.more 12 rfl)
theorem free_tuple (D : Dt K mg) : mg "tuple" = none := by obtain ⟨h, X, G⟩ := D.n; exact He.free_ok X G (fas_at D.s.more 13 rfl)
theorem glo__wall (D : Dt K mg) : mg "_wall" = some (.ref (He.ga K "_wall")) := by obtain ⟨h, X, G⟩ := D.n; exact He.glo_ok X G (fas_at D.s.more 14 rfl)
theorem glo__digits (D : Dt K mg) : mg "_digits" = some (.ref (He.ga K "_digits")) := by obtain ⟨h, X, G⟩ := D.n; exact He.glo_ok X G (fas_at D.s.more 15 rfl)
theorem glo_total (D : Dt K mg) : mg "total" = some (.ref (He.ga K "total")) := by obtain ⟨h, X, G⟩ := D.n; exact He.glo_ok X G (fas_at D.s.more 16 rfl)
theorem glo_are_lots (D : Dt K mg) : mg "are_lots" = some (.ref (He.ga K "are_lots")) := by obtain ⟨h, X, G⟩ := D.n; exact He.glo_ok X G (fas_at D.s.more 17 rfl)
theorem glo__table (D : Dt K mg) : mg "_table" = some (.ref (He.ga K "_table")) := by obtain ⟨h, X, G⟩ := D.n; exact He.glo_ok X G (fas_at D.s.more 18 rfl)
theorem glo__fault (D : Dt K mg) : mg "_fault" = some (.ref (He.ga K "_fault")) := by obtain ⟨h, X, G⟩ := D.n; exact He.glo_ok X G (fas_at D.s.more 19 rfl)
theorem glo__out_of (D : Dt K mg) : mg "_out_of" = some (.ref (He.ga K "_out_of")) := by obtain ⟨h, X, G⟩ := D.n; exact He.glo_ok X G (fas_at D.s.more 20 rfl)
theorem glo__is_square (D : Dt K mg) : mg "_is_square" = some (.ref (He.ga K "_is_square")) := by obtain ⟨h, X, G⟩ := D.n; exact He.glo_ok X G (fas_at D.s.more 21 rfl)
theorem glo__leads_on (D : Dt K mg) : mg "_leads_on" = some (.ref (He.ga K "_leads_on")) := by obtain ⟨h, X, G⟩ := D.n; exact He.glo_ok X G (fas_at D.s.more 22 rfl)
theorem glo_words_of (D : Dt K mg) : mg "words_of" = some (.ref (He.ga K "words_of")) := by obtain ⟨h, X, G⟩ := D.n; exact He.glo_ok X G (fas_at D.s.more 23 rfl)
theorem glo_number_of (D : Dt K mg) : mg "number_of" = some (.ref (He.ga K "number_of")) := by obtain ⟨h, X, G⟩ := D.n; exact He.glo_ok X G (fas_at D.s.more 24 rfl)
theorem glo_ratio_of (D : Dt K mg) : mg "ratio_of" = some (.ref (He.ga K "ratio_of")) := by obtain ⟨h, X, G⟩ := D.n; exact He.glo_ok X G (fas_at D.s.more 25 rfl)
theorem glo_paper_lines (D : Dt K mg) : mg "paper_lines" = some (.ref (He.ga K "paper_lines")) := by obtain ⟨h, X, G⟩ := D.n; exact He.glo_ok X G (fas_at D.s.more 26 rfl)
theorem glo_read_paper (D : Dt K mg) : mg "read_paper" = some (.ref (He.ga K "read_paper")) := by obtain ⟨h, X, G⟩ := D.n; exact He.glo_ok X G (fas_at D.s.more 27 rfl)
theorem glo__ratios_line (D : Dt K mg) : mg "_ratios_line" = some (.ref (He.ga K "_ratios_line")) := by obtain ⟨h, X, G⟩ := D.n; exact He.glo_ok X G (fas_at D.s.more 28 rfl)
theorem glo__read_rest (D : Dt K mg) : mg "_read_rest" = some (.ref (He.ga K "_read_rest")) := by obtain ⟨h, X, G⟩ := D.n; exact He.glo_ok X G (fas_at D.s.more 29 rfl)
theorem glo__many (D : Dt K mg) : mg "_many" = some (.ref (He.ga K "_many")) := by obtain ⟨h, X, G⟩ := D.n; exact He.glo_ok X G (fas_at D.s.more 30 rfl)
theorem glo__step (D : Dt K mg) : mg "_step" = some (.ref (He.ga K "_step")) := by obtain ⟨h, X, G⟩ := D.n; exact He.glo_ok X G (fas_at D.s.more 31 rfl)
theorem glo__ratios (D : Dt K mg) : mg "_ratios" = some (.ref (He.ga K "_ratios")) := by obtain ⟨h, X, G⟩ := D.n; exact He.glo_ok X G (fas_at D.s.more 32 rfl)
theorem glo__law_pool (D : Dt K mg) : mg "_law_pool" = some (.ref (He.ga K "_law_pool")) := by obtain ⟨h, X, G⟩ := D.n; exact He.glo_ok X G (fas_at D.s.more 33 rfl)
theorem glo__law_draw (D : Dt K mg) : mg "_law_draw" = some (.ref (He.ga K "_law_draw")) := by obtain ⟨h, X, G⟩ := D.n; exact He.glo_ok X G (fas_at D.s.more 34 rfl)
theorem glo__law_same (D : Dt K mg) : mg "_law_same" = some (.ref (He.ga K "_law_same")) := by obtain ⟨h, X, G⟩ := D.n; exact He.glo_ok X G (fas_at D.s.more 35 rfl)
theorem glo__law_less (D : Dt K mg) : mg "_law_less" = some (.ref (He.ga K "_law_less")) := by obtain ⟨h, X, G⟩ := D.n; exact He.glo_ok X G (fas_at D.s.more 36 rfl)
theorem glo__law_plus (D : Dt K mg) : mg "_law_plus" = some (.ref (He.ga K "_law_plus")) := by obtain ⟨h, X, G⟩ := D.n; exact He.glo_ok X G (fas_at D.s.more 37 rfl)
theorem glo__law_minus (D : Dt K mg) : mg "_law_minus" = some (.ref (He.ga K "_law_minus")) := by obtain ⟨h, X, G⟩ := D.n; exact He.glo_ok X G (fas_at D.s.more 38 rfl)
theorem glo__law_times (D : Dt K mg) : mg "_law_times" = some (.ref (He.ga K "_law_times")) := by obtain ⟨h, X, G⟩ := D.n; exact He.glo_ok X G (fas_at D.s.more 39 rfl)
theorem glo__law_cells (D : Dt K mg) : mg "_law_cells" = some (.ref (He.ga K "_law_cells")) := by obtain ⟨h, X, G⟩ := D.n; exact He.glo_ok X G (fas_at D.s.more 40 rfl)
theorem glo__law_machine (D : Dt K mg) : mg "_law_machine" = some (.ref (He.ga K "_law_machine")) := by obtain ⟨h, X, G⟩ := D.n; exact He.glo_ok X G (fas_at D.s.more 41 rfl)
theorem glo__law_renamed (D : Dt K mg) : mg "_law_renamed" = some (.ref (He.ga K "_law_renamed")) := by obtain ⟨h, X, G⟩ := D.n; exact He.glo_ok X G (fas_at D.s.more 42 rfl)
theorem glo__law_split (D : Dt K mg) : mg "_law_split" = some (.ref (He.ga K "_law_split")) := by obtain ⟨h, X, G⟩ := D.n; exact He.glo_ok X G (fas_at D.s.more 43 rfl)
theorem glo__law_changed (D : Dt K mg) : mg "_law_changed" = some (.ref (He.ga K "_law_changed")) := by obtain ⟨h, X, G⟩ := D.n; exact He.glo_ok X G (fas_at D.s.more 44 rfl)
theorem glo__law_pair (D : Dt K mg) : mg "_law_pair" = some (.ref (He.ga K "_law_pair")) := by obtain ⟨h, X, G⟩ := D.n; exact He.glo_ok X G (fas_at D.s.more 45 rfl)
theorem glo__law_made (D : Dt K mg) : mg "_law_made" = some (.ref (He.ga K "_law_made")) := by obtain ⟨h, X, G⟩ := D.n; exact He.glo_ok X G (fas_at D.s.more 46 rfl)
theorem glo__law_next (D : Dt K mg) : mg "_law_next" = some (.ref (He.ga K "_law_next")) := by obtain ⟨h, X, G⟩ := D.n; exact He.glo_ok X G (fas_at D.s.more 47 rfl)
theorem glo__law_text (D : Dt K mg) : mg "_law_text" = some (.ref (He.ga K "_law_text")) := by obtain ⟨h, X, G⟩ := D.n; exact He.glo_ok X G (fas_at D.s.more 48 rfl)
theorem glo__law_row_text (D : Dt K mg) : mg "_law_row_text" = some (.ref (He.ga K "_law_row_text")) := by obtain ⟨h, X, G⟩ := D.n; exact He.glo_ok X G (fas_at D.s.more 49 rfl)
theorem glo__law_signed (D : Dt K mg) : mg "_law_signed" = some (.ref (He.ga K "_law_signed")) := by obtain ⟨h, X, G⟩ := D.n; exact He.glo_ok X G (fas_at D.s.more 50 rfl)
theorem glo__law_drawn (D : Dt K mg) : mg "_law_drawn" = some (.ref (He.ga K "_law_drawn")) := by obtain ⟨h, X, G⟩ := D.n; exact He.glo_ok X G (fas_at D.s.more 51 rfl)
theorem glo__law_digits (D : Dt K mg) : mg "_law_digits" = some (.ref (He.ga K "_law_digits")) := by obtain ⟨h, X, G⟩ := D.n; exact He.glo_ok X G (fas_at D.s.more 52 rfl)
theorem glo__law_read (D : Dt K mg) : mg "_law_read" = some (.ref (He.ga K "_law_read")) := by obtain ⟨h, X, G⟩ := D.n; exact He.glo_ok X G (fas_at D.s.more 53 rfl)
theorem glo__law_word (D : Dt K mg) : mg "_law_word" = some (.ref (He.ga K "_law_word")) := by obtain ⟨h, X, G⟩ := D.n; exact He.glo_ok X G (fas_at D.s.more 54 rfl)
theorem glo__law_changed_lines (D : Dt K mg) : mg "_law_changed_lines" = some (.ref (He.ga K "_law_changed_lines")) := by obtain ⟨h, X, G⟩ := D.n; exact He.glo_ok X G (fas_at D.s.more 55 rfl)
theorem glo__law_opens (D : Dt K mg) : mg "_law_opens" = some (.ref (He.ga K "_law_opens")) := by obtain ⟨h, X, G⟩ := D.n; exact He.glo_ok X G (fas_at D.s.more 56 rfl)
theorem glo__law_bad (D : Dt K mg) : mg "_law_bad" = some (.ref (He.ga K "_law_bad")) := by obtain ⟨h, X, G⟩ := D.n; exact He.glo_ok X G (fas_at D.s.more 57 rfl)
theorem glo_law (D : Dt K mg) : mg "law" = some (.ref (He.ga K "law")) := by obtain ⟨h, X, G⟩ := D.n; exact He.glo_ok X G (fas_at D.s.more 58 rfl)
theorem blt_gcd (D : Dt K mg) : mg "gcd" = some (.builtin "math.gcd") := by obtain ⟨h, X, G⟩ := D.n; exact blB_ok X G (fas_at D.s.more 59 rfl)
theorem int_PART_END (D : Dt K mg) : ∃ t, mg "PART_END" = some (.int (10000000000000000000000000000000000000000000000000000000000000000) t) := by obtain ⟨h, X, G⟩ := D.n; exact He.int_ok X G (fas_at D.s.more 60 rfl)
theorem int_MOST_STATES (D : Dt K mg) : ∃ t, mg "MOST_STATES" = some (.int (12) t) := by obtain ⟨h, X, G⟩ := D.n; exact He.int_ok X G (fas_at D.s.more 61 rfl)
theorem int_MOST_BUTTONS (D : Dt K mg) : ∃ t, mg "MOST_BUTTONS" = some (.int (4) t) := by obtain ⟨h, X, G⟩ := D.n; exact He.int_ok X G (fas_at D.s.more 62 rfl)
theorem int_MOST_ANSWERS (D : Dt K mg) : ∃ t, mg "MOST_ANSWERS" = some (.int (4) t) := by obtain ⟨h, X, G⟩ := D.n; exact He.int_ok X G (fas_at D.s.more 63 rfl)
theorem int_MOST_PART (D : Dt K mg) : ∃ t, mg "MOST_PART" = some (.int (999999999999999999999999999999999999999999999999999999999999) t) := by obtain ⟨h, X, G⟩ := D.n; exact He.int_ok X G (fas_at D.s.more 64 rfl)
theorem int_MOST_VECTORS (D : Dt K mg) : ∃ t, mg "MOST_VECTORS" = some (.int (24) t) := by obtain ⟨h, X, G⟩ := D.n; exact He.int_ok X G (fas_at D.s.more 65 rfl)
theorem glo_TestError (D : Dt K mg) : mg "TestError" = some (.ref (He.ga K "TestError")) := by obtain ⟨h, X, G⟩ := D.n; exact He.glo_ok X G (fas_at D.s.more 66 rfl)
theorem kp_TestError (D : Dt K mg) : PySem.W.keepIn K (.ref (He.ga K "TestError")) = true := He.keep_ok (fas_at D.s.more 67 rfl)
theorem exc_TestError (D : Dt K mg) : PySem.W.excIn K (He.ga K "TestError") He.veBase "ValueError.__new__" = true ∧ PySem.W.keepIn K (.ref (He.ga K "TestError")) = true ∧ PySem.W.subIn K (.ref (He.ga K "TestError")) (.type "BaseException") = some true ∧ PySem.W.typeIn K (.ref (He.ga K "TestError")) = some (.type "type") := He.exc_ok (fas_at D.s.more 68 rfl)
theorem isE_TestError (D : Dt K mg) : ExcC K (He.ga K "TestError") := isEB_ok (fas_at D.s.more 69 rfl)
theorem glo_BadText (D : Dt K mg) : mg "BadText" = some (.ref (He.ga K "BadText")) := by obtain ⟨h, X, G⟩ := D.n; exact He.glo_ok X G (fas_at D.s.more 70 rfl)
theorem kp_BadText (D : Dt K mg) : PySem.W.keepIn K (.ref (He.ga K "BadText")) = true := He.keep_ok (fas_at D.s.more 71 rfl)
theorem isE_BadText (D : Dt K mg) : ExcC K (He.ga K "BadText") := isEB_ok (fas_at D.s.more 72 rfl)
theorem oex_BadText (D : Dt K mg) : OexF K (He.ga K "BadText") (He.ma K (He.ga K "BadText") "__init__") "at" := oexB_ok (fas_at D.s.more 73 rfl)
theorem glo_BadPaper (D : Dt K mg) : mg "BadPaper" = some (.ref (He.ga K "BadPaper")) := by obtain ⟨h, X, G⟩ := D.n; exact He.glo_ok X G (fas_at D.s.more 74 rfl)
theorem kp_BadPaper (D : Dt K mg) : PySem.W.keepIn K (.ref (He.ga K "BadPaper")) = true := He.keep_ok (fas_at D.s.more 75 rfl)
theorem isE_BadPaper (D : Dt K mg) : ExcC K (He.ga K "BadPaper") := isEB_ok (fas_at D.s.more 76 rfl)
theorem oex_BadPaper (D : Dt K mg) : OexF K (He.ga K "BadPaper") (He.ma K (He.ga K "BadPaper") "__init__") "at" := oexB_ok (fas_at D.s.more 77 rfl)
theorem glo_BadMachine (D : Dt K mg) : mg "BadMachine" = some (.ref (He.ga K "BadMachine")) := by obtain ⟨h, X, G⟩ := D.n; exact He.glo_ok X G (fas_at D.s.more 78 rfl)
theorem kp_BadMachine (D : Dt K mg) : PySem.W.keepIn K (.ref (He.ga K "BadMachine")) = true := He.keep_ok (fas_at D.s.more 79 rfl)
theorem isE_BadMachine (D : Dt K mg) : ExcC K (He.ga K "BadMachine") := isEB_ok (fas_at D.s.more 80 rfl)
theorem oex_BadMachine (D : Dt K mg) : OexF K (He.ga K "BadMachine") (He.ma K (He.ga K "BadMachine") "__init__") "what" := oexB_ok (fas_at D.s.more 81 rfl)
theorem glo_TooLarge (D : Dt K mg) : mg "TooLarge" = some (.ref (He.ga K "TooLarge")) := by obtain ⟨h, X, G⟩ := D.n; exact He.glo_ok X G (fas_at D.s.more 82 rfl)
theorem kp_TooLarge (D : Dt K mg) : PySem.W.keepIn K (.ref (He.ga K "TooLarge")) = true := He.keep_ok (fas_at D.s.more 83 rfl)
theorem isE_TooLarge (D : Dt K mg) : ExcC K (He.ga K "TooLarge") := isEB_ok (fas_at D.s.more 84 rfl)
theorem oex_TooLarge (D : Dt K mg) : OexF K (He.ga K "TooLarge") (He.ma K (He.ga K "TooLarge") "__init__") "what" := oexB_ok (fas_at D.s.more 85 rfl)
theorem glo_BadRatio (D : Dt K mg) : mg "BadRatio" = some (.ref (He.ga K "BadRatio")) := by obtain ⟨h, X, G⟩ := D.n; exact He.glo_ok X G (fas_at D.s.more 86 rfl)
theorem kp_BadRatio (D : Dt K mg) : PySem.W.keepIn K (.ref (He.ga K "BadRatio")) = true := He.keep_ok (fas_at D.s.more 87 rfl)
theorem exc_BadRatio (D : Dt K mg) : PySem.W.excIn K (He.ga K "BadRatio") He.veBase "ValueError.__new__" = true ∧ PySem.W.keepIn K (.ref (He.ga K "BadRatio")) = true ∧ PySem.W.subIn K (.ref (He.ga K "BadRatio")) (.type "BaseException") = some true ∧ PySem.W.typeIn K (.ref (He.ga K "BadRatio")) = some (.type "type") := He.exc_ok (fas_at D.s.more 88 rfl)
theorem isE_BadRatio (D : Dt K mg) : ExcC K (He.ga K "BadRatio") := isEB_ok (fas_at D.s.more 89 rfl)
theorem glo_Ratio (D : Dt K mg) : mg "Ratio" = some (.ref (He.ga K "Ratio")) := by obtain ⟨h, X, G⟩ := D.n; exact He.glo_ok X G (fas_at D.s.more 90 rfl)
theorem kp_Ratio (D : Dt K mg) : PySem.W.keepIn K (.ref (He.ga K "Ratio")) = true := He.keep_ok (fas_at D.s.more 91 rfl)
theorem cls_Ratio (D : Dt K mg) : Cls K (He.ga K "Ratio") := He.cls_ok (fas_at D.s.more 92 rfl)
theorem inst_Ratio (D : Dt K mg) : InstC K (He.ga K "Ratio") := instB_ok (fas_at D.s.more 93 rfl)
theorem mkr_Ratio (D : Dt K mg) : Mk K (He.ga K "Ratio") (He.ma K (He.ga K "Ratio") "__init__") := He.mkr_ok (fas_at D.s.more 94 rfl)
theorem self_Ratio (D : Dt K mg) : PySem.W.selfFirst K (He.ga K "Ratio") = true := fas_at D.s.more 95 rfl
theorem me_Ratio_init (D : Dt K mg) : Meth K (He.ga K "Ratio") "__init__" (He.ma K (He.ga K "Ratio") "__init__") := He.meth_ok (fas_at D.s.more 96 rfl)
theorem me_Ratio_add (D : Dt K mg) : Meth K (He.ga K "Ratio") "__add__" (He.ma K (He.ga K "Ratio") "__add__") := He.meth_ok (fas_at D.s.more 97 rfl)
theorem me_Ratio_sub (D : Dt K mg) : Meth K (He.ga K "Ratio") "__sub__" (He.ma K (He.ga K "Ratio") "__sub__") := He.meth_ok (fas_at D.s.more 98 rfl)
theorem me_Ratio_mul (D : Dt K mg) : Meth K (He.ga K "Ratio") "__mul__" (He.ma K (He.ga K "Ratio") "__mul__") := He.meth_ok (fas_at D.s.more 99 rfl)
theorem me_Ratio_eq (D : Dt K mg) : Meth K (He.ga K "Ratio") "__eq__" (He.ma K (He.ga K "Ratio") "__eq__") := He.meth_ok (fas_at D.s.more 100 rfl)
theorem me_Ratio_str (D : Dt K mg) : Meth K (He.ga K "Ratio") "__str__" (He.ma K (He.ga K "Ratio") "__str__") := He.meth_ok (fas_at D.s.more 101 rfl)
theorem me_Ratio_less (D : Dt K mg) : Meth K (He.ga K "Ratio") "less" (He.ma K (He.ga K "Ratio") "less") := He.meth_ok (fas_at D.s.more 102 rfl)
theorem me_Ratio_by (D : Dt K mg) : Meth K (He.ga K "Ratio") "by" (He.ma K (He.ga K "Ratio") "by") := He.meth_ok (fas_at D.s.more 103 rfl)
theorem na_Ratio_num (D : Dt K mg) : NoAttr K (He.ga K "Ratio") "num" := He.noat_ok (fas_at D.s.more 104 rfl)
theorem na_Ratio_den (D : Dt K mg) : NoAttr K (He.ga K "Ratio") "den" := He.noat_ok (fas_at D.s.more 105 rfl)
theorem glo_Machine (D : Dt K mg) : mg "Machine" = some (.ref (He.ga K "Machine")) := by obtain ⟨h, X, G⟩ := D.n; exact He.glo_ok X G (fas_at D.s.more 106 rfl)
theorem kp_Machine (D : Dt K mg) : PySem.W.keepIn K (.ref (He.ga K "Machine")) = true := He.keep_ok (fas_at D.s.more 107 rfl)
theorem cls_Machine (D : Dt K mg) : Cls K (He.ga K "Machine") := He.cls_ok (fas_at D.s.more 108 rfl)
theorem inst_Machine (D : Dt K mg) : InstC K (He.ga K "Machine") := instB_ok (fas_at D.s.more 109 rfl)
theorem mkr_Machine (D : Dt K mg) : Mk K (He.ga K "Machine") (He.ma K (He.ga K "Machine") "__init__") := He.mkr_ok (fas_at D.s.more 110 rfl)
theorem self_Machine (D : Dt K mg) : PySem.W.selfFirst K (He.ga K "Machine") = true := fas_at D.s.more 111 rfl
theorem me_Machine_init (D : Dt K mg) : Meth K (He.ga K "Machine") "__init__" (He.ma K (He.ga K "Machine") "__init__") := He.meth_ok (fas_at D.s.more 112 rfl)
theorem me_Machine_eq (D : Dt K mg) : Meth K (He.ga K "Machine") "__eq__" (He.ma K (He.ga K "Machine") "__eq__") := He.meth_ok (fas_at D.s.more 113 rfl)
theorem me_Machine_states (D : Dt K mg) : Meth K (He.ga K "Machine") "states" (He.ma K (He.ga K "Machine") "states") := He.meth_ok (fas_at D.s.more 114 rfl)
theorem me_Machine_buttons (D : Dt K mg) : Meth K (He.ga K "Machine") "buttons" (He.ma K (He.ga K "Machine") "buttons") := He.meth_ok (fas_at D.s.more 115 rfl)
theorem me_Machine_answers (D : Dt K mg) : Meth K (He.ga K "Machine") "answers" (He.ma K (He.ga K "Machine") "answers") := He.meth_ok (fas_at D.s.more 116 rfl)
theorem na_Machine_start (D : Dt K mg) : NoAttr K (He.ga K "Machine") "start" := He.noat_ok (fas_at D.s.more 117 rfl)
theorem na_Machine_moves (D : Dt K mg) : NoAttr K (He.ga K "Machine") "moves" := He.noat_ok (fas_at D.s.more 118 rfl)
theorem glo_Found (D : Dt K mg) : mg "Found" = some (.ref (He.ga K "Found")) := by obtain ⟨h, X, G⟩ := D.n; exact He.glo_ok X G (fas_at D.s.more 119 rfl)
theorem kp_Found (D : Dt K mg) : PySem.W.keepIn K (.ref (He.ga K "Found")) = true := He.keep_ok (fas_at D.s.more 120 rfl)
theorem cls_Found (D : Dt K mg) : Cls K (He.ga K "Found") := He.cls_ok (fas_at D.s.more 121 rfl)
theorem inst_Found (D : Dt K mg) : InstC K (He.ga K "Found") := instB_ok (fas_at D.s.more 122 rfl)
theorem mkr_Found (D : Dt K mg) : Mk K (He.ga K "Found") (He.ma K (He.ga K "Found") "__init__") := He.mkr_ok (fas_at D.s.more 123 rfl)
theorem self_Found (D : Dt K mg) : PySem.W.selfFirst K (He.ga K "Found") = true := fas_at D.s.more 124 rfl
theorem me_Found_init (D : Dt K mg) : Meth K (He.ga K "Found") "__init__" (He.ma K (He.ga K "Found") "__init__") := He.meth_ok (fas_at D.s.more 125 rfl)
theorem me_Found_eq (D : Dt K mg) : Meth K (He.ga K "Found") "__eq__" (He.ma K (He.ga K "Found") "__eq__") := He.meth_ok (fas_at D.s.more 126 rfl)
theorem na_Found_kind (D : Dt K mg) : NoAttr K (He.ga K "Found") "kind" := He.noat_ok (fas_at D.s.more 127 rfl)
theorem na_Found_vectors (D : Dt K mg) : NoAttr K (He.ga K "Found") "vectors" := He.noat_ok (fas_at D.s.more 128 rfl)
theorem na_Found_start (D : Dt K mg) : NoAttr K (He.ga K "Found") "start" := He.noat_ok (fas_at D.s.more 129 rfl)
theorem na_Found_moves (D : Dt K mg) : NoAttr K (He.ga K "Found") "moves" := He.noat_ok (fas_at D.s.more 130 rfl)
theorem na_Found_way (D : Dt K mg) : NoAttr K (He.ga K "Found") "way" := He.noat_ok (fas_at D.s.more 131 rfl)
theorem kitV_BadText (D : Dt K mg) : PySem.W.kitOne K (.ref (He.ga K "BadText")) (.type "ValueError") = some true := of_decide_eq_true (fas_at D.s.more 132 rfl)
theorem kit_BadText_TestError (D : Dt K mg) : PySem.W.kitOne K (.ref (He.ga K "BadText")) (.ref (He.ga K "TestError")) = some true := of_decide_eq_true (fas_at D.s.more 133 rfl)
theorem exm_BadText_TestError (D : Dt K mg) : PySem.W.exmOne K (.ref (He.ga K "BadText")) (.ref (He.ga K "TestError")) = some true := of_decide_eq_true (fas_at D.s.more 134 rfl)
theorem kit_BadText_BadText (D : Dt K mg) : PySem.W.kitOne K (.ref (He.ga K "BadText")) (.ref (He.ga K "BadText")) = some true := of_decide_eq_true (fas_at D.s.more 135 rfl)
theorem exm_BadText_BadText (D : Dt K mg) : PySem.W.exmOne K (.ref (He.ga K "BadText")) (.ref (He.ga K "BadText")) = some true := of_decide_eq_true (fas_at D.s.more 136 rfl)
theorem kit_BadText_BadPaper (D : Dt K mg) : PySem.W.kitOne K (.ref (He.ga K "BadText")) (.ref (He.ga K "BadPaper")) = some false := of_decide_eq_true (fas_at D.s.more 137 rfl)
theorem exm_BadText_BadPaper (D : Dt K mg) : PySem.W.exmOne K (.ref (He.ga K "BadText")) (.ref (He.ga K "BadPaper")) = some false := of_decide_eq_true (fas_at D.s.more 138 rfl)
theorem kit_BadText_BadMachine (D : Dt K mg) : PySem.W.kitOne K (.ref (He.ga K "BadText")) (.ref (He.ga K "BadMachine")) = some false := of_decide_eq_true (fas_at D.s.more 139 rfl)
theorem exm_BadText_BadMachine (D : Dt K mg) : PySem.W.exmOne K (.ref (He.ga K "BadText")) (.ref (He.ga K "BadMachine")) = some false := of_decide_eq_true (fas_at D.s.more 140 rfl)
theorem kit_BadText_TooLarge (D : Dt K mg) : PySem.W.kitOne K (.ref (He.ga K "BadText")) (.ref (He.ga K "TooLarge")) = some false := of_decide_eq_true (fas_at D.s.more 141 rfl)
theorem exm_BadText_TooLarge (D : Dt K mg) : PySem.W.exmOne K (.ref (He.ga K "BadText")) (.ref (He.ga K "TooLarge")) = some false := of_decide_eq_true (fas_at D.s.more 142 rfl)
theorem kit_BadText_BadRatio (D : Dt K mg) : PySem.W.kitOne K (.ref (He.ga K "BadText")) (.ref (He.ga K "BadRatio")) = some false := of_decide_eq_true (fas_at D.s.more 143 rfl)
theorem exm_BadText_BadRatio (D : Dt K mg) : PySem.W.exmOne K (.ref (He.ga K "BadText")) (.ref (He.ga K "BadRatio")) = some false := of_decide_eq_true (fas_at D.s.more 144 rfl)
theorem kitV_BadPaper (D : Dt K mg) : PySem.W.kitOne K (.ref (He.ga K "BadPaper")) (.type "ValueError") = some true := of_decide_eq_true (fas_at D.s.more 145 rfl)
theorem kit_BadPaper_TestError (D : Dt K mg) : PySem.W.kitOne K (.ref (He.ga K "BadPaper")) (.ref (He.ga K "TestError")) = some true := of_decide_eq_true (fas_at D.s.more 146 rfl)
theorem exm_BadPaper_TestError (D : Dt K mg) : PySem.W.exmOne K (.ref (He.ga K "BadPaper")) (.ref (He.ga K "TestError")) = some true := of_decide_eq_true (fas_at D.s.more 147 rfl)
theorem kit_BadPaper_BadText (D : Dt K mg) : PySem.W.kitOne K (.ref (He.ga K "BadPaper")) (.ref (He.ga K "BadText")) = some false := of_decide_eq_true (fas_at D.s.more 148 rfl)
theorem exm_BadPaper_BadText (D : Dt K mg) : PySem.W.exmOne K (.ref (He.ga K "BadPaper")) (.ref (He.ga K "BadText")) = some false := of_decide_eq_true (fas_at D.s.more 149 rfl)
theorem kit_BadPaper_BadPaper (D : Dt K mg) : PySem.W.kitOne K (.ref (He.ga K "BadPaper")) (.ref (He.ga K "BadPaper")) = some true := of_decide_eq_true (fas_at D.s.more 150 rfl)
theorem exm_BadPaper_BadPaper (D : Dt K mg) : PySem.W.exmOne K (.ref (He.ga K "BadPaper")) (.ref (He.ga K "BadPaper")) = some true := of_decide_eq_true (fas_at D.s.more 151 rfl)
theorem kit_BadPaper_BadMachine (D : Dt K mg) : PySem.W.kitOne K (.ref (He.ga K "BadPaper")) (.ref (He.ga K "BadMachine")) = some false := of_decide_eq_true (fas_at D.s.more 152 rfl)
theorem exm_BadPaper_BadMachine (D : Dt K mg) : PySem.W.exmOne K (.ref (He.ga K "BadPaper")) (.ref (He.ga K "BadMachine")) = some false := of_decide_eq_true (fas_at D.s.more 153 rfl)
theorem kit_BadPaper_TooLarge (D : Dt K mg) : PySem.W.kitOne K (.ref (He.ga K "BadPaper")) (.ref (He.ga K "TooLarge")) = some false := of_decide_eq_true (fas_at D.s.more 154 rfl)
theorem exm_BadPaper_TooLarge (D : Dt K mg) : PySem.W.exmOne K (.ref (He.ga K "BadPaper")) (.ref (He.ga K "TooLarge")) = some false := of_decide_eq_true (fas_at D.s.more 155 rfl)
theorem kit_BadPaper_BadRatio (D : Dt K mg) : PySem.W.kitOne K (.ref (He.ga K "BadPaper")) (.ref (He.ga K "BadRatio")) = some false := of_decide_eq_true (fas_at D.s.more 156 rfl)
theorem exm_BadPaper_BadRatio (D : Dt K mg) : PySem.W.exmOne K (.ref (He.ga K "BadPaper")) (.ref (He.ga K "BadRatio")) = some false := of_decide_eq_true (fas_at D.s.more 157 rfl)
theorem kitV_BadMachine (D : Dt K mg) : PySem.W.kitOne K (.ref (He.ga K "BadMachine")) (.type "ValueError") = some true := of_decide_eq_true (fas_at D.s.more 158 rfl)
theorem kit_BadMachine_TestError (D : Dt K mg) : PySem.W.kitOne K (.ref (He.ga K "BadMachine")) (.ref (He.ga K "TestError")) = some true := of_decide_eq_true (fas_at D.s.more 159 rfl)
theorem exm_BadMachine_TestError (D : Dt K mg) : PySem.W.exmOne K (.ref (He.ga K "BadMachine")) (.ref (He.ga K "TestError")) = some true := of_decide_eq_true (fas_at D.s.more 160 rfl)
theorem kit_BadMachine_BadText (D : Dt K mg) : PySem.W.kitOne K (.ref (He.ga K "BadMachine")) (.ref (He.ga K "BadText")) = some false := of_decide_eq_true (fas_at D.s.more 161 rfl)
theorem exm_BadMachine_BadText (D : Dt K mg) : PySem.W.exmOne K (.ref (He.ga K "BadMachine")) (.ref (He.ga K "BadText")) = some false := of_decide_eq_true (fas_at D.s.more 162 rfl)
theorem kit_BadMachine_BadPaper (D : Dt K mg) : PySem.W.kitOne K (.ref (He.ga K "BadMachine")) (.ref (He.ga K "BadPaper")) = some false := of_decide_eq_true (fas_at D.s.more 163 rfl)
theorem exm_BadMachine_BadPaper (D : Dt K mg) : PySem.W.exmOne K (.ref (He.ga K "BadMachine")) (.ref (He.ga K "BadPaper")) = some false := of_decide_eq_true (fas_at D.s.more 164 rfl)
theorem kit_BadMachine_BadMachine (D : Dt K mg) : PySem.W.kitOne K (.ref (He.ga K "BadMachine")) (.ref (He.ga K "BadMachine")) = some true := of_decide_eq_true (fas_at D.s.more 165 rfl)
theorem exm_BadMachine_BadMachine (D : Dt K mg) : PySem.W.exmOne K (.ref (He.ga K "BadMachine")) (.ref (He.ga K "BadMachine")) = some true := of_decide_eq_true (fas_at D.s.more 166 rfl)
theorem kit_BadMachine_TooLarge (D : Dt K mg) : PySem.W.kitOne K (.ref (He.ga K "BadMachine")) (.ref (He.ga K "TooLarge")) = some false := of_decide_eq_true (fas_at D.s.more 167 rfl)
theorem exm_BadMachine_TooLarge (D : Dt K mg) : PySem.W.exmOne K (.ref (He.ga K "BadMachine")) (.ref (He.ga K "TooLarge")) = some false := of_decide_eq_true (fas_at D.s.more 168 rfl)
theorem kit_BadMachine_BadRatio (D : Dt K mg) : PySem.W.kitOne K (.ref (He.ga K "BadMachine")) (.ref (He.ga K "BadRatio")) = some false := of_decide_eq_true (fas_at D.s.more 169 rfl)
theorem exm_BadMachine_BadRatio (D : Dt K mg) : PySem.W.exmOne K (.ref (He.ga K "BadMachine")) (.ref (He.ga K "BadRatio")) = some false := of_decide_eq_true (fas_at D.s.more 170 rfl)
theorem kitV_TooLarge (D : Dt K mg) : PySem.W.kitOne K (.ref (He.ga K "TooLarge")) (.type "ValueError") = some true := of_decide_eq_true (fas_at D.s.more 171 rfl)
theorem kit_TooLarge_TestError (D : Dt K mg) : PySem.W.kitOne K (.ref (He.ga K "TooLarge")) (.ref (He.ga K "TestError")) = some true := of_decide_eq_true (fas_at D.s.more 172 rfl)
theorem exm_TooLarge_TestError (D : Dt K mg) : PySem.W.exmOne K (.ref (He.ga K "TooLarge")) (.ref (He.ga K "TestError")) = some true := of_decide_eq_true (fas_at D.s.more 173 rfl)
theorem kit_TooLarge_BadText (D : Dt K mg) : PySem.W.kitOne K (.ref (He.ga K "TooLarge")) (.ref (He.ga K "BadText")) = some false := of_decide_eq_true (fas_at D.s.more 174 rfl)
theorem exm_TooLarge_BadText (D : Dt K mg) : PySem.W.exmOne K (.ref (He.ga K "TooLarge")) (.ref (He.ga K "BadText")) = some false := of_decide_eq_true (fas_at D.s.more 175 rfl)
theorem kit_TooLarge_BadPaper (D : Dt K mg) : PySem.W.kitOne K (.ref (He.ga K "TooLarge")) (.ref (He.ga K "BadPaper")) = some false := of_decide_eq_true (fas_at D.s.more 176 rfl)
theorem exm_TooLarge_BadPaper (D : Dt K mg) : PySem.W.exmOne K (.ref (He.ga K "TooLarge")) (.ref (He.ga K "BadPaper")) = some false := of_decide_eq_true (fas_at D.s.more 177 rfl)
theorem kit_TooLarge_BadMachine (D : Dt K mg) : PySem.W.kitOne K (.ref (He.ga K "TooLarge")) (.ref (He.ga K "BadMachine")) = some false := of_decide_eq_true (fas_at D.s.more 178 rfl)
theorem exm_TooLarge_BadMachine (D : Dt K mg) : PySem.W.exmOne K (.ref (He.ga K "TooLarge")) (.ref (He.ga K "BadMachine")) = some false := of_decide_eq_true (fas_at D.s.more 179 rfl)
theorem kit_TooLarge_TooLarge (D : Dt K mg) : PySem.W.kitOne K (.ref (He.ga K "TooLarge")) (.ref (He.ga K "TooLarge")) = some true := of_decide_eq_true (fas_at D.s.more 180 rfl)
theorem exm_TooLarge_TooLarge (D : Dt K mg) : PySem.W.exmOne K (.ref (He.ga K "TooLarge")) (.ref (He.ga K "TooLarge")) = some true := of_decide_eq_true (fas_at D.s.more 181 rfl)
theorem kit_TooLarge_BadRatio (D : Dt K mg) : PySem.W.kitOne K (.ref (He.ga K "TooLarge")) (.ref (He.ga K "BadRatio")) = some false := of_decide_eq_true (fas_at D.s.more 182 rfl)
theorem exm_TooLarge_BadRatio (D : Dt K mg) : PySem.W.exmOne K (.ref (He.ga K "TooLarge")) (.ref (He.ga K "BadRatio")) = some false := of_decide_eq_true (fas_at D.s.more 183 rfl)
theorem kitV_BadRatio (D : Dt K mg) : PySem.W.kitOne K (.ref (He.ga K "BadRatio")) (.type "ValueError") = some true := of_decide_eq_true (fas_at D.s.more 184 rfl)
theorem kit_BadRatio_TestError (D : Dt K mg) : PySem.W.kitOne K (.ref (He.ga K "BadRatio")) (.ref (He.ga K "TestError")) = some true := of_decide_eq_true (fas_at D.s.more 185 rfl)
theorem exm_BadRatio_TestError (D : Dt K mg) : PySem.W.exmOne K (.ref (He.ga K "BadRatio")) (.ref (He.ga K "TestError")) = some true := of_decide_eq_true (fas_at D.s.more 186 rfl)
theorem kit_BadRatio_BadText (D : Dt K mg) : PySem.W.kitOne K (.ref (He.ga K "BadRatio")) (.ref (He.ga K "BadText")) = some false := of_decide_eq_true (fas_at D.s.more 187 rfl)
theorem exm_BadRatio_BadText (D : Dt K mg) : PySem.W.exmOne K (.ref (He.ga K "BadRatio")) (.ref (He.ga K "BadText")) = some false := of_decide_eq_true (fas_at D.s.more 188 rfl)
theorem kit_BadRatio_BadPaper (D : Dt K mg) : PySem.W.kitOne K (.ref (He.ga K "BadRatio")) (.ref (He.ga K "BadPaper")) = some false := of_decide_eq_true (fas_at D.s.more 189 rfl)
theorem exm_BadRatio_BadPaper (D : Dt K mg) : PySem.W.exmOne K (.ref (He.ga K "BadRatio")) (.ref (He.ga K "BadPaper")) = some false := of_decide_eq_true (fas_at D.s.more 190 rfl)
theorem kit_BadRatio_BadMachine (D : Dt K mg) : PySem.W.kitOne K (.ref (He.ga K "BadRatio")) (.ref (He.ga K "BadMachine")) = some false := of_decide_eq_true (fas_at D.s.more 191 rfl)
theorem exm_BadRatio_BadMachine (D : Dt K mg) : PySem.W.exmOne K (.ref (He.ga K "BadRatio")) (.ref (He.ga K "BadMachine")) = some false := of_decide_eq_true (fas_at D.s.more 192 rfl)
theorem kit_BadRatio_TooLarge (D : Dt K mg) : PySem.W.kitOne K (.ref (He.ga K "BadRatio")) (.ref (He.ga K "TooLarge")) = some false := of_decide_eq_true (fas_at D.s.more 193 rfl)
theorem exm_BadRatio_TooLarge (D : Dt K mg) : PySem.W.exmOne K (.ref (He.ga K "BadRatio")) (.ref (He.ga K "TooLarge")) = some false := of_decide_eq_true (fas_at D.s.more 194 rfl)
theorem kit_BadRatio_BadRatio (D : Dt K mg) : PySem.W.kitOne K (.ref (He.ga K "BadRatio")) (.ref (He.ga K "BadRatio")) = some true := of_decide_eq_true (fas_at D.s.more 195 rfl)
theorem exm_BadRatio_BadRatio (D : Dt K mg) : PySem.W.exmOne K (.ref (He.ga K "BadRatio")) (.ref (He.ga K "BadRatio")) = some true := of_decide_eq_true (fas_at D.s.more 196 rfl)
theorem kitN_Ratio (D : Dt K mg) : PySem.W.kitOne K (.type "NoneType") (.ref (He.ga K "Ratio")) = some false := of_decide_eq_true (fas_at D.s.more 197 rfl)
theorem fd__wall (D : Dt K mg) : ∃ fd, FnP K "_wall" "_wall" s__wall [] (He.ga K "_wall") fd := D.s.get 0 (d := d__wall) rfl
theorem fd__digits (D : Dt K mg) : ∃ fd, FnP K "_digits" "_digits" s__digits [] (He.ga K "_digits") fd := D.s.get 1 (d := d__digits) rfl
theorem fd_total (D : Dt K mg) : ∃ fd, FnP K "total" "total" s_total [] (He.ga K "total") fd := D.s.get 2 (d := d_total) rfl
theorem fd_are_lots (D : Dt K mg) : ∃ fd, FnP K "are_lots" "are_lots" s_are_lots [] (He.ga K "are_lots") fd := D.s.get 3 (d := d_are_lots) rfl
theorem fd__table (D : Dt K mg) : ∃ fd, FnP K "_table" "_table" s__table [] (He.ga K "_table") fd := D.s.get 4 (d := d__table) rfl
theorem fd__fault (D : Dt K mg) : ∃ fd, FnP K "_fault" "_fault" s__fault [] (He.ga K "_fault") fd := D.s.get 5 (d := d__fault) rfl
theorem fd__out_of (D : Dt K mg) : ∃ fd, FnP K "_out_of" "_out_of" s__out_of [] (He.ga K "_out_of") fd := D.s.get 6 (d := d__out_of) rfl
theorem fd__is_square (D : Dt K mg) : ∃ fd, FnP K "_is_square" "_is_square" s__is_square [] (He.ga K "_is_square") fd := D.s.get 7 (d := d__is_square) rfl
theorem fd__leads_on (D : Dt K mg) : ∃ fd, FnP K "_leads_on" "_leads_on" s__leads_on [] (He.ga K "_leads_on") fd := D.s.get 8 (d := d__leads_on) rfl
theorem fd_words_of (D : Dt K mg) : ∃ fd, FnP K "words_of" "words_of" s_words_of [] (He.ga K "words_of") fd := D.s.get 9 (d := d_words_of) rfl
theorem fd_number_of (D : Dt K mg) : ∃ fd, FnP K "number_of" "number_of" s_number_of [] (He.ga K "number_of") fd := D.s.get 10 (d := d_number_of) rfl
theorem fd_ratio_of (D : Dt K mg) : ∃ fd, FnP K "ratio_of" "ratio_of" s_ratio_of [] (He.ga K "ratio_of") fd := D.s.get 11 (d := d_ratio_of) rfl
theorem fd_paper_lines (D : Dt K mg) : ∃ fd, FnP K "paper_lines" "paper_lines" s_paper_lines [] (He.ga K "paper_lines") fd := D.s.get 12 (d := d_paper_lines) rfl
theorem fd_read_paper (D : Dt K mg) : ∃ fd, FnP K "read_paper" "read_paper" s_read_paper [] (He.ga K "read_paper") fd := D.s.get 13 (d := d_read_paper) rfl
theorem fd__ratios_line (D : Dt K mg) : ∃ fd, FnP K "_ratios_line" "_ratios_line" s__ratios_line [] (He.ga K "_ratios_line") fd := D.s.get 14 (d := d__ratios_line) rfl
theorem fd__read_rest (D : Dt K mg) : ∃ fd, FnP K "_read_rest" "_read_rest" s__read_rest [] (He.ga K "_read_rest") fd := D.s.get 15 (d := d__read_rest) rfl
theorem fd__many (D : Dt K mg) : ∃ fd, FnP K "_many" "_many" s__many [] (He.ga K "_many") fd := D.s.get 16 (d := d__many) rfl
theorem fd__step (D : Dt K mg) : ∃ fd, FnP K "_step" "_step" s__step [] (He.ga K "_step") fd := D.s.get 17 (d := d__step) rfl
theorem fd__ratios (D : Dt K mg) : ∃ fd, FnP K "_ratios" "_ratios" s__ratios [] (He.ga K "_ratios") fd := D.s.get 18 (d := d__ratios) rfl
theorem fd__law_pool (D : Dt K mg) : ∃ fd, FnP K "_law_pool" "_law_pool" s__law_pool [] (He.ga K "_law_pool") fd := D.s.get 19 (d := d__law_pool) rfl
theorem fd__law_draw (D : Dt K mg) : ∃ fd, FnP K "_law_draw" "_law_draw" s__law_draw [] (He.ga K "_law_draw") fd := D.s.get 20 (d := d__law_draw) rfl
theorem fd__law_same (D : Dt K mg) : ∃ fd, FnP K "_law_same" "_law_same" s__law_same [] (He.ga K "_law_same") fd := D.s.get 21 (d := d__law_same) rfl
theorem fd__law_less (D : Dt K mg) : ∃ fd, FnP K "_law_less" "_law_less" s__law_less [] (He.ga K "_law_less") fd := D.s.get 22 (d := d__law_less) rfl
theorem fd__law_plus (D : Dt K mg) : ∃ fd, FnP K "_law_plus" "_law_plus" s__law_plus [] (He.ga K "_law_plus") fd := D.s.get 23 (d := d__law_plus) rfl
theorem fd__law_minus (D : Dt K mg) : ∃ fd, FnP K "_law_minus" "_law_minus" s__law_minus [] (He.ga K "_law_minus") fd := D.s.get 24 (d := d__law_minus) rfl
theorem fd__law_times (D : Dt K mg) : ∃ fd, FnP K "_law_times" "_law_times" s__law_times [] (He.ga K "_law_times") fd := D.s.get 25 (d := d__law_times) rfl
theorem fd__law_cells (D : Dt K mg) : ∃ fd, FnP K "_law_cells" "_law_cells" s__law_cells [] (He.ga K "_law_cells") fd := D.s.get 26 (d := d__law_cells) rfl
theorem fd__law_machine (D : Dt K mg) : ∃ fd, FnP K "_law_machine" "_law_machine" s__law_machine [] (He.ga K "_law_machine") fd := D.s.get 27 (d := d__law_machine) rfl
theorem fd__law_renamed (D : Dt K mg) : ∃ fd, FnP K "_law_renamed" "_law_renamed" s__law_renamed [] (He.ga K "_law_renamed") fd := D.s.get 28 (d := d__law_renamed) rfl
theorem fd__law_split (D : Dt K mg) : ∃ fd, FnP K "_law_split" "_law_split" s__law_split [] (He.ga K "_law_split") fd := D.s.get 29 (d := d__law_split) rfl
theorem fd__law_changed (D : Dt K mg) : ∃ fd, FnP K "_law_changed" "_law_changed" s__law_changed [] (He.ga K "_law_changed") fd := D.s.get 30 (d := d__law_changed) rfl
theorem fd__law_pair (D : Dt K mg) : ∃ fd, FnP K "_law_pair" "_law_pair" s__law_pair [] (He.ga K "_law_pair") fd := D.s.get 31 (d := d__law_pair) rfl
theorem fd__law_made (D : Dt K mg) : ∃ fd, FnP K "_law_made" "_law_made" s__law_made [] (He.ga K "_law_made") fd := D.s.get 32 (d := d__law_made) rfl
theorem fd__law_next (D : Dt K mg) : ∃ fd, FnP K "_law_next" "_law_next" s__law_next [] (He.ga K "_law_next") fd := D.s.get 33 (d := d__law_next) rfl
theorem fd__law_text (D : Dt K mg) : ∃ fd, FnP K "_law_text" "_law_text" s__law_text [] (He.ga K "_law_text") fd := D.s.get 34 (d := d__law_text) rfl
theorem fd__law_row_text (D : Dt K mg) : ∃ fd, FnP K "_law_row_text" "_law_row_text" s__law_row_text [] (He.ga K "_law_row_text") fd := D.s.get 35 (d := d__law_row_text) rfl
theorem fd__law_signed (D : Dt K mg) : ∃ fd, FnP K "_law_signed" "_law_signed" s__law_signed [] (He.ga K "_law_signed") fd := D.s.get 36 (d := d__law_signed) rfl
theorem fd__law_drawn (D : Dt K mg) : ∃ fd, FnP K "_law_drawn" "_law_drawn" s__law_drawn [] (He.ga K "_law_drawn") fd := D.s.get 37 (d := d__law_drawn) rfl
theorem fd__law_digits (D : Dt K mg) : ∃ fd, FnP K "_law_digits" "_law_digits" s__law_digits [] (He.ga K "_law_digits") fd := D.s.get 38 (d := d__law_digits) rfl
theorem fd__law_read (D : Dt K mg) : ∃ fd, FnP K "_law_read" "_law_read" s__law_read [] (He.ga K "_law_read") fd := D.s.get 39 (d := d__law_read) rfl
theorem fd__law_word (D : Dt K mg) : ∃ fd, FnP K "_law_word" "_law_word" s__law_word [] (He.ga K "_law_word") fd := D.s.get 40 (d := d__law_word) rfl
theorem fd__law_changed_lines (D : Dt K mg) : ∃ fd, FnP K "_law_changed_lines" "_law_changed_lines" s__law_changed_lines [] (He.ga K "_law_changed_lines") fd := D.s.get 41 (d := d__law_changed_lines) rfl
theorem fd__law_opens (D : Dt K mg) : ∃ fd, FnP K "_law_opens" "_law_opens" s__law_opens [] (He.ga K "_law_opens") fd := D.s.get 42 (d := d__law_opens) rfl
theorem fd__law_bad (D : Dt K mg) : ∃ fd, FnP K "_law_bad" "_law_bad" s__law_bad [] (He.ga K "_law_bad") fd := D.s.get 43 (d := d__law_bad) rfl
theorem fd_law (D : Dt K mg) : ∃ fd, FnP K "law" "law" s_law [] (He.ga K "law") fd := D.s.get 44 (d := d_law) rfl
theorem fd_BadText_init (D : Dt K mg) : ∃ fd, FnP K "__init__" "BadText.__init__" s_BadText_init [] (He.ma K (He.ga K "BadText") "__init__") fd := D.s.get 45 (d := d_BadText_init) rfl
theorem fd_BadPaper_init (D : Dt K mg) : ∃ fd, FnP K "__init__" "BadPaper.__init__" s_BadPaper_init [] (He.ma K (He.ga K "BadPaper") "__init__") fd := D.s.get 46 (d := d_BadPaper_init) rfl
theorem fd_BadMachine_init (D : Dt K mg) : ∃ fd, FnP K "__init__" "BadMachine.__init__" s_BadMachine_init [] (He.ma K (He.ga K "BadMachine") "__init__") fd := D.s.get 47 (d := d_BadMachine_init) rfl
theorem fd_TooLarge_init (D : Dt K mg) : ∃ fd, FnP K "__init__" "TooLarge.__init__" s_TooLarge_init [] (He.ma K (He.ga K "TooLarge") "__init__") fd := D.s.get 48 (d := d_TooLarge_init) rfl
theorem fd_Ratio_init (D : Dt K mg) : ∃ fd, FnP K "__init__" "Ratio.__init__" s_Ratio_init [V.int 1] (He.ma K (He.ga K "Ratio") "__init__") fd := D.s.get 49 (d := d_Ratio_init) rfl
theorem fd_Ratio_add (D : Dt K mg) : ∃ fd, FnP K "__add__" "Ratio.__add__" s_Ratio_add [] (He.ma K (He.ga K "Ratio") "__add__") fd := D.s.get 50 (d := d_Ratio_add) rfl
theorem fd_Ratio_sub (D : Dt K mg) : ∃ fd, FnP K "__sub__" "Ratio.__sub__" s_Ratio_sub [] (He.ma K (He.ga K "Ratio") "__sub__") fd := D.s.get 51 (d := d_Ratio_sub) rfl
theorem fd_Ratio_mul (D : Dt K mg) : ∃ fd, FnP K "__mul__" "Ratio.__mul__" s_Ratio_mul [] (He.ma K (He.ga K "Ratio") "__mul__") fd := D.s.get 52 (d := d_Ratio_mul) rfl
theorem fd_Ratio_eq (D : Dt K mg) : ∃ fd, FnP K "__eq__" "Ratio.__eq__" s_Ratio_eq [] (He.ma K (He.ga K "Ratio") "__eq__") fd := D.s.get 53 (d := d_Ratio_eq) rfl
theorem fd_Ratio_str (D : Dt K mg) : ∃ fd, FnP K "__str__" "Ratio.__str__" s_Ratio_str [] (He.ma K (He.ga K "Ratio") "__str__") fd := D.s.get 54 (d := d_Ratio_str) rfl
theorem fd_Ratio_less (D : Dt K mg) : ∃ fd, FnP K "less" "Ratio.less" s_Ratio_less [] (He.ma K (He.ga K "Ratio") "less") fd := D.s.get 55 (d := d_Ratio_less) rfl
theorem fd_Ratio_by (D : Dt K mg) : ∃ fd, FnP K "by" "Ratio.by" s_Ratio_by [] (He.ma K (He.ga K "Ratio") "by") fd := D.s.get 56 (d := d_Ratio_by) rfl
theorem fd_Machine_init (D : Dt K mg) : ∃ fd, FnP K "__init__" "Machine.__init__" s_Machine_init [] (He.ma K (He.ga K "Machine") "__init__") fd := D.s.get 57 (d := d_Machine_init) rfl
theorem fd_Machine_eq (D : Dt K mg) : ∃ fd, FnP K "__eq__" "Machine.__eq__" s_Machine_eq [] (He.ma K (He.ga K "Machine") "__eq__") fd := D.s.get 58 (d := d_Machine_eq) rfl
theorem fd_Machine_states (D : Dt K mg) : ∃ fd, FnP K "states" "Machine.states" s_Machine_states [] (He.ma K (He.ga K "Machine") "states") fd := D.s.get 59 (d := d_Machine_states) rfl
theorem fd_Machine_buttons (D : Dt K mg) : ∃ fd, FnP K "buttons" "Machine.buttons" s_Machine_buttons [] (He.ma K (He.ga K "Machine") "buttons") fd := D.s.get 60 (d := d_Machine_buttons) rfl
theorem fd_Machine_answers (D : Dt K mg) : ∃ fd, FnP K "answers" "Machine.answers" s_Machine_answers [] (He.ma K (He.ga K "Machine") "answers") fd := D.s.get 61 (d := d_Machine_answers) rfl
theorem fd_Found_init (D : Dt K mg) : ∃ fd, FnP K "__init__" "Found.__init__" s_Found_init [] (He.ma K (He.ga K "Found") "__init__") fd := D.s.get 62 (d := d_Found_init) rfl
theorem fd_Found_eq (D : Dt K mg) : ∃ fd, FnP K "__eq__" "Found.__eq__" s_Found_eq [] (He.ma K (He.ga K "Found") "__eq__") fd := D.s.get 63 (d := d_Found_eq) rfl
end
abbrev R : PySem.W.OpenRow := PySem.W.OpenLaw.row PySem.Challenge.rw_notesttells_k61_whole_papers_are_read_ex
abbrev hk : PySem.W.Hook := hookY 4 ex fn
def ob (s : PySem.W.SharedT) : He.AlD := obsYG 4 ex fn (HandSHeadRun.getT s)
theorem ob_eq (s : PySem.W.SharedT) : ob s = hk.obs s.abs := obsYG_eq (HandSHeadRun.getT_eq s)
def loose0 : List Str := ["_wall", "__name__", "TestError", "BadText", "BadPaper", "BadMachine", "TooLarge", "BadRatio", "PART_END", "_digits", "Ratio", "total", "are_lots", "MOST_STATES", "MOST_BUTTONS", "MOST_ANSWERS", "Machine", "_table", "_fault", "_out_of"]
def loose1 : List Str := ["_is_square", "_leads_on", "Found", "MOST_PART", "words_of", "number_of", "ratio_of", "MOST_VECTORS", "paper_lines", "read_paper", "_ratios_line", "_read_rest", "_many", "_step", "_ratios", "_law_pool", "_law_draw", "_law_same", "_law_less", "_law_plus"]
def loose2 : List Str := ["_law_minus", "_law_times", "_law_cells", "_law_machine", "_law_renamed", "_law_split", "_law_changed", "_law_pair", "_law_made", "_law_next", "_law_text", "_law_row_text", "_law_signed", "_law_drawn", "_law_digits", "_law_read", "_law_word", "_law_changed_lines", "_law_opens", "_law_bad"]
def loose : List Str := loose0 ++ loose1 ++ loose2
abbrev vw : Program := PySem.W.view R.prog [0, 67]
theorem run (w : World) : HandSHeadRun.RunEqI R vw hk ob 20000 loose w := by
  unfold HandSHeadRun.RunEqI
  kernel_rfl
end Hd


set_option Elab.async false
set_option linter.all false
set_option maxRecDepth 100000
set_option maxHeartbeats 4000000
namespace K
open PySem PySem.Spec PyProof.Rows L2 Tk Hd Mt
/-! ### a fraction as it stands -/
theorem nd_ : ¬ (("num" : Str) = "den") := by decide +kernel
def rf (q : Rat) : List (Str × V) := putF "den" (.int q.den) (putF "num" (.int q.num) [])
theorem rf_num (q : Rat) : (rf q).lookup ("num" : Str) = some (.int q.num) := by
  unfold rf; rw [lookup_putF, if_neg nd_, lookup_putF, if_pos rfl]
theorem rf_den (q : Rat) : (rf q).lookup ("den" : Str) = some (.int q.den) := by
  unfold rf; rw [lookup_putF, if_pos rfl]
theorem rf_no (q : Rat) {m : Str} (h1 : ¬ m = "den") (h2 : ¬ m = "num") : (rf q).lookup m = none := by
  unfold rf; rw [lookup_putF, if_neg h1, lookup_putF, if_neg h2]; rfl
abbrev CR (K : PySem.W.Frag) : Addr := He.ga K "Ratio"
abbrev CB (K : PySem.W.Frag) : Addr := He.ga K "BadRatio"
def iR (C : Addr) : Rp Rat := fun H v q => ∃ a dx, v = .ref a ∧ H a = some (.ins C dx (rf q))
instance {C : Addr} : Mono (iR C) := ⟨fun s ⟨a, dx, e, h⟩ => ⟨a, dx, e, s _ _ h⟩⟩
/-- numbers that // still takes -/
def Sm (i : Int) : Prop := i.natAbs < 2 ^ 2000
theorem Sm.div {n d : Int} (h : 0 < d) (hd : Sm d) : CDivW n (gz n d) :=
  wide_div (gz_pos h) (Nat.lt_of_le_of_lt (by have := gz_le (n := n) h; have := gz_pos (n := n) h; omega) hd) (by decide) (by decide)
theorem Sm.mul {a b : Int} (ha : Sm a) (hb : Sm b) : CMulW a b := wide_mul ha hb (by decide) (by decide) (by decide)
theorem sm_of {i : Int} (h1 : -(2 ^ 1999) < i) (h2 : i < 2 ^ 1999) : Sm i := by
  have : i.natAbs < 2 ^ 1999 := by omega
  exact Nat.lt_trans this (Nat.pow_lt_pow_right (by decide) (by decide))

/-- Ratio.__init__ -/
def spInit (C B : Addr) : Sp := fun vs H Q E => ∃ (x dx : Addr) (n d : Int), vs = [.ref x, .int n, .int d] ∧ H x = some (.ins C dx []) ∧ Sm d ∧
  (0 < d → Q .non (upd H x (.ins C dx (rf (rt n d))))) ∧ (d ≤ 0 → E (.ref B) none H)
section
variable {P : Program} {w : World} {K : PySem.W.Frag} {mg : Str → Option Value} {base : Heap}
theorem sc_init : FnScope ["self", "num", "den", "common"] ["self", "num", "den"] (defScope s_Ratio_init) := ⟨rfl, rfl, rfl, by decide +kernel, rfl, by decide +kernel, by decide +kernel⟩
theorem ok_init (D : Dt K mg) {fd : FuncData} (F : FnP K "__init__" "Ratio.__init__" s_Ratio_init [.int 1] (He.ma K (CR K) "__init__") fd) :
    FnOk P w K mg base (L2.CX P w) 1 (He.ma K (CR K) "__init__") fd ["self", "num", "den"] (spInit (CR K) (CB K)) := by
  refine F.ok sc_init (fun vs H Q E h => ?_) (fun cdv A outer s H vs Q E hr h => ?_)
  · obtain ⟨x, dx, n, d, rfl, _⟩ := h; rfl
  · obtain ⟨x, dx, n, d, rfl, hx, hd, k1, k2⟩ := h
    obtain ⟨xP, kP, bP, tP⟩ := exc_BadRatio D
    refine ⟨_, pss_cons (ps_if (pt_cmpR op_le (pv 2) pe_int (nomark _)) (pss_one (ps_raise rfl (takes_of rfl rfl rfl rfl) (pmk_own PySem.F.excBase_ValueError xP (glo_BadRatio D) kP (raises_own bP tP) rfl))) pss_nil)
      (pss_cons (ps_set (i := 3) sc_init.nd rfl (Or.inl rfl) (pe_callBfun cr_gcd rfl (blt_gcd D) (pa_cons (pv 1) (pa_cons (pv 2) pa_nil))))
      (pss_cons (ps_fld (pv 0) (pe_op op_fdivW (pv 1) (pv 3)) rfl) (pss_one (ps_fld (pv 0) (pe_op op_fdivW (pv 2) (pv 3)) rfl)))), ?_⟩
    refine ⟨_, rfl, _, _, rfl, rfl, _, rfl, ifD (fun hle => ?_) (fun hgt => ?_)⟩
    · exact k2 hle
    · have h0 : 0 < d := by omega
      refine ⟨_, rfl, _, rfl, n, d, rfl, ?_⟩
      refine ⟨_, rfl, _, rfl, _, _, rfl, rfl, Sm.div h0 hd, _, rfl, x, _, dx, _, rfl, hx, cls_Ratio D, na_Ratio_num D, (by show 0 < 1000; decide), ?_⟩
      refine ⟨_, rfl, _, rfl, _, _, rfl, rfl, Sm.div h0 hd, _, rfl, x, _, dx, _, rfl, upd_same, cls_Ratio D, na_Ratio_den D, (by show 1 < 1000; decide), ?_⟩
      have e1 := rt_num (n := n) h0
      have e2 := rt_den (n := n) h0
      have e3 : putF "den" (V.int (d / gz n d)) (putF "num" (V.int (n / gz n d)) []) = rf (rt n d) := by rw [← e1, ← e2]; rfl
      rw [upd_upd]
      have := k1 h0
      rw [← e3] at this
      exact this
theorem has_init (D : Dt K mg) : Has P w K mg base 1 (He.ma K (CR K) "__init__") ["self", "num", "den"] [] (spInit (CR K) (CB K)) := by
  obtain ⟨fd, F⟩ := fd_Ratio_init D
  obtain ⟨ds, h1, h2⟩ := FunD.binds1 (ps := ["self", "num", "den"]) F 3 1 (by simp) rfl (fun T kV doc pm an cdv ct us its hu hi => match us, hu, its, hi with | [_, _, _], _, [_], _ => ⟨_, rfl, rfl⟩)
  exact ⟨F.kp, fd, ds, h1, h2, ok_init D F⟩
theorem has_init1 (D : Dt K mg) : Has P w K mg base 1 (He.ma K (CR K) "__init__") ["self", "num", "den"] [.int 1] (spInit (CR K) (CB K)) := by
  obtain ⟨fd, F⟩ := fd_Ratio_init D
  obtain ⟨ds, h1, h2⟩ := FunD.binds1 (ps := ["self", "num", "den"]) F 2 0 (by simp) rfl (fun T kV doc pm an cdv ct us its hu hi => match us, hu, its, hi with | [_, _], _, [_], _ => ⟨_, rfl, rfl⟩)
  exact ⟨F.kp, fd, ds, h1, h2, ok_init D F⟩
end
end K

set_option Elab.async false
set_option linter.all false
set_option maxRecDepth 100000
set_option maxHeartbeats 4000000
set_option exponentiation.threshold 5000
namespace K
open PySem PySem.Spec PyProof.Rows L2 Tk Hd Mt
/-- what is wanted of a def that hands back an x and leaves all else -/
def Ret {α : Type} (ms : List Addr) (I H : Hp) (R : Rp α) (x : α) (Q : VK) : Prop := ∀ I' H' v, Gr ms I H I' H' → R I' v x → Q v H'
theorem upd3 {H : Hp} {x : Addr} {a b c : HO} : upd (upd (upd H x a) x b) x c = upd H x c := by rw [upd_upd, upd_upd]
theorem rat_new {ms : List Addr} {I H : Hp} {x dx C : Addr} {q : Rat} (s : Same I H) (nx : H x = none) (nd : H dx = none) (ne : dx ≠ x) :
    Gr ms I H (upd (upd I dx (.own x)) x (.ins C dx (rf q))) (upd (upd (upd H dx (.own x)) x (.ins C dx [])) x (.ins C dx (rf q))) ∧ iR C (upd (upd I dx (.own x)) x (.ins C dx (rf q))) (.ref x) q := by
  rw [upd_upd]
  refine ⟨(Gr.new s nd).trans (Gr.new (sBoth s) ?_), x, dx, rfl, upd_same⟩
  rw [upd_ne (Ne.symm ne)]; exact nx
def Fit (q : Rat) : Prop := q.num.natAbs < 2 ^ 900 ∧ q.den < 2 ^ 900
theorem fit_lt {a b : Int} {m n k : Nat} (ha : a.natAbs < 2 ^ m) (hb : b.natAbs < 2 ^ n) (h : m + n ≤ k) : (a * b).natAbs < 2 ^ k :=
  Nat.lt_of_lt_of_le (wide_lt ha hb) (Nat.pow_le_pow_right (by decide) h)
theorem Fit.mul_n {p q : Rat} (hp : Fit p) (hq : Fit q) : CMulW p.num q.den := wide_mul hp.1 (show (q.den : Int).natAbs < 2 ^ 900 from hq.2) (by decide) (by decide) (by decide)
theorem Fit.mul_d {p q : Rat} (hp : Fit p) (hq : Fit q) : CMulW p.den q.den := wide_mul (show (p.den : Int).natAbs < 2 ^ 900 from hp.2) (show (q.den : Int).natAbs < 2 ^ 900 from hq.2) (by decide) (by decide) (by decide)
theorem Fit.mul_nn {p q : Rat} (hp : Fit p) (hq : Fit q) : CMulW p.num q.num := wide_mul hp.1 hq.1 (by decide) (by decide) (by decide)
theorem Fit.sm_dd {p q : Rat} (hp : Fit p) (hq : Fit q) : Sm ((p.den : Int) * q.den) := fit_lt (m := 900) (n := 900) (show (p.den : Int).natAbs < 2 ^ 900 from hp.2) (show (q.den : Int).natAbs < 2 ^ 900 from hq.2) (by decide)
theorem dd_pos (p q : Rat) : 0 < (p.den : Int) * q.den := Int.mul_pos (den_pos p) (den_pos q)
theorem rt_add (p q : Rat) : rt (p.num * q.den + q.num * p.den) (p.den * q.den) = p + q := by
  have h1 : (p.den : Int) ≠ 0 := by have := den_pos p; omega
  have h2 : (q.den : Int) ≠ 0 := by have := den_pos q; omega
  unfold rt
  rw [← Rat.divInt_add_divInt _ _ h1 h2, Rat.num_divInt_den, Rat.num_divInt_den]
theorem rt_sub (p q : Rat) : rt (p.num * q.den - q.num * p.den) (p.den * q.den) = p - q := by
  have h1 : (p.den : Int) ≠ 0 := by have := den_pos p; omega
  have h2 : (q.den : Int) ≠ 0 := by have := den_pos q; omega
  have e : p - q = rt p.num p.den + rt (-q.num) q.den := by
    rw [rt_self, show rt (-q.num) q.den = -q from by rw [show rt (-q.num) q.den = -(rt q.num q.den) from by unfold rt; rw [Rat.neg_divInt], rt_self]]
    exact Rat.sub_eq_add_neg p q
  rw [e]; unfold rt
  rw [Rat.divInt_add_divInt _ _ h1 h2]
  congr 1
  rw [Int.neg_mul]; omega
theorem rt_mul (p q : Rat) : rt (p.num * q.num) (p.den * q.den) = p * q := by
  unfold rt
  rw [← Rat.divInt_mul_divInt, Rat.num_divInt_den, Rat.num_divInt_den]

section
variable {P : Program} {w : World} {K : PySem.W.Frag} {mg : Str → Option Value} {base : Heap}
/-- an operator that makes a new fraction of two -/
def spBin (C : Addr) (g : Rat → Rat → Rat) : Sp := fun vs H Q _ => ∃ (I : Hp) (a b : V) (p q : Rat), vs = [a, b] ∧ Same I H ∧ iR C I a p ∧ iR C I b q ∧ Fit p ∧ Fit q ∧ Ret [] I H (iR C) (g p q) Q
theorem bin2 {f : Addr} {fd : FuncData} {st : Stmt} {x qual : Str} (F : FnP K x qual st [] f fd)
    (h : ∀ (kV doc pm : Value) (an : Option Addr) (cdv ct : Value) (us : List Value), us.length = 2 → bindArgs (PySem.W.fnOf x qual (defArgs st) (defBody st) (defScope st) .none kV doc pm an cdv ct) ⟨us, []⟩ = pure ((["self", "other"] : List Str).zip us)) : Binds K fd ["self", "other"] [] := FunD.bindsN F h
theorem sc_add : FnScope ["self", "other"] ["self", "other"] (defScope s_Ratio_add) := ⟨rfl, rfl, rfl, by decide +kernel, rfl, by decide +kernel, by decide +kernel⟩
theorem ok_add (D : Dt K mg) : Has P w K mg base 3 (He.ma K (CR K) "__add__") ["self", "other"] [] (spBin (CR K) (· + ·)) := by
  obtain ⟨fd, F⟩ := fd_Ratio_add D
  have H_Ratio_init := has_init (P := P) (w := w) (base := base) D
  refine hasN F (F.bindsN fun _ _ _ _ _ _ us hl => match us, hl with | [_, _], _ => rfl) sc_add (fun vs H Q E h => ?_) (fun cdv A outer s H vs Q E hr h => ?_)
  · obtain ⟨I, a, b, p, q, rfl, _⟩ := h; rfl
  · obtain ⟨I, va, vb, p, q, rfl, s0, ⟨a, dx, rfl, ha⟩, ⟨b, dy, rfl, hb⟩, fp, fq, k⟩ := h
    have ha' := s0 _ _ ha
    have hb' := s0 _ _ hb
    refine ⟨_, (pss_one (ps_ret (pe_makeH (mkr_Ratio D) H_Ratio_init (hr.mono (by decide)) rfl (glo_Ratio D) passL (pa_cons (pe_op op_add (pe_op op_mulW (pe_fld (pv 0) rfl) (pe_fld (pv 1) rfl)) (pe_op op_mulW (pe_fld (pv 1) rfl) (pe_fld (pv 0) rfl))) (pa_cons (pe_op op_mulW (pe_fld (pv 0) rfl) (pe_fld (pv 1) rfl)) pa_nil))))), ?_⟩
    refine ⟨_, rfl, _, _, _, _, _, rfl, ha', cls_Ratio D, na_Ratio_num D, rf_num p, _, rfl, _, _, _, _, _, rfl, hb', cls_Ratio D, na_Ratio_den D, rf_den q, _, _, rfl, rfl, fp.mul_n fq, _, rfl, _, _, _, _, _, rfl, hb', cls_Ratio D, na_Ratio_num D, rf_num q, _, rfl, _, _, _, _, _, rfl, ha', cls_Ratio D, na_Ratio_den D, rf_den p, _, _, rfl, rfl, fq.mul_n fp, _, _, rfl, rfl, ?_⟩
    refine ⟨_, rfl, _, _, _, _, _, rfl, ha', cls_Ratio D, na_Ratio_den D, rf_den p, _, rfl, _, _, _, _, _, rfl, hb', cls_Ratio D, na_Ratio_den D, rf_den q, _, _, rfl, rfl, fp.mul_d fq, fun x dx nx nd ne => ?_⟩
    refine ⟨x, dx, _, _, rfl, upd_same, fp.sm_dd fq, fun _ => ⟨rfl, ?_⟩, fun hle => absurd (dd_pos p q) (by omega)⟩
    obtain ⟨g, r⟩ := rat_new (ms := []) (q := rt (p.num * q.den + q.num * p.den) (p.den * q.den)) s0 nx nd ne
    rw [rt_add] at r g
    rw [rt_add]
    exact k _ _ _ g r
theorem sc_mul : FnScope ["self", "other"] ["self", "other"] (defScope s_Ratio_mul) := ⟨rfl, rfl, rfl, by decide +kernel, rfl, by decide +kernel, by decide +kernel⟩
theorem ok_mul (D : Dt K mg) : Has P w K mg base 3 (He.ma K (CR K) "__mul__") ["self", "other"] [] (spBin (CR K) (· * ·)) := by
  obtain ⟨fd, F⟩ := fd_Ratio_mul D
  have H_Ratio_init := has_init (P := P) (w := w) (base := base) D
  refine hasN F (F.bindsN fun _ _ _ _ _ _ us hl => match us, hl with | [_, _], _ => rfl) sc_mul (fun vs H Q E h => ?_) (fun cdv A outer s H vs Q E hr h => ?_)
  · obtain ⟨I, a, b, p, q, rfl, _⟩ := h; rfl
  · obtain ⟨I, va, vb, p, q, rfl, s0, ⟨a, dx, rfl, ha⟩, ⟨b, dy, rfl, hb⟩, fp, fq, k⟩ := h
    have ha' := s0 _ _ ha
    have hb' := s0 _ _ hb
    refine ⟨_, (pss_one (ps_ret (pe_makeH (mkr_Ratio D) H_Ratio_init (hr.mono (by decide)) rfl (glo_Ratio D) passL (pa_cons (pe_op op_mulW (pe_fld (pv 0) rfl) (pe_fld (pv 1) rfl)) (pa_cons (pe_op op_mulW (pe_fld (pv 0) rfl) (pe_fld (pv 1) rfl)) pa_nil))))), ?_⟩
    refine ⟨_, rfl, _, _, _, _, _, rfl, ha', cls_Ratio D, na_Ratio_num D, rf_num p, _, rfl, _, _, _, _, _, rfl, hb', cls_Ratio D, na_Ratio_num D, rf_num q, _, _, rfl, rfl, fp.mul_nn fq, _, rfl, _, _, _, _, _, rfl, ha', cls_Ratio D, na_Ratio_den D, rf_den p, _, rfl, _, _, _, _, _, rfl, hb', cls_Ratio D, na_Ratio_den D, rf_den q, _, _, rfl, rfl, fp.mul_d fq, fun x dx nx nd ne => ?_⟩
    refine ⟨x, dx, _, _, rfl, upd_same, fp.sm_dd fq, fun _ => ⟨rfl, ?_⟩, fun hle => absurd (dd_pos p q) (by omega)⟩
    obtain ⟨g, r⟩ := rat_new (ms := []) (q := rt (p.num * q.num) (p.den * q.den)) s0 nx nd ne
    rw [rt_mul] at r g
    rw [rt_mul]
    exact k _ _ _ g r
end
end K

set_option Elab.async false
set_option linter.all false
set_option maxRecDepth 100000
set_option maxHeartbeats 4000000
set_option exponentiation.threshold 5000
namespace K
open PySem PySem.Spec PyProof.Rows L2 Tk Hd Mt
theorem rt_div_pos (p q : Rat) : rt (p.num * q.den) (q.num * p.den) = p / q := by
  unfold rt
  rw [Rat.div_def, Rat.inv_def, Int.mul_comm q.num]
  rw [← Rat.divInt_mul_divInt, Rat.num_divInt_den]
theorem rt_div_neg (p q : Rat) : rt (-p.num * q.den) (-q.num * p.den) = p / q := by
  rw [← rt_div_pos]; unfold rt
  rw [Int.neg_mul, Int.neg_mul, Rat.neg_divInt_neg]
theorem kit_self {K : PySem.W.Frag} {t : Value} : PySem.W.kitOne K t t = some true := by
  unfold PySem.W.kitOne; rw [if_pos (by simp)]
theorem str_app (a b : String) : (PySem.Str.ofString (a ++ b)) = PySem.Str.ofString a ++ PySem.Str.ofString b := by
  rw [PySem.Str.ofString_eq_toList, PySem.Str.ofString_eq_toList, PySem.Str.ofString_eq_toList, String.toList_append, List.map_append]
  show _ = PySem.Str.append _ _
  simp [PySem.Str.append]
theorem empty_app (a : Str) : Str.empty ++ a = a := by
  show PySem.Str.append _ _ = _
  simp [PySem.Str.append, PySem.Str.empty]
/-- str of a fraction -/
def rtext (q : Rat) : Str := if (q.den : Int) > 1 then (PySem.Str.ofString (toString q.num)) ++ ("/" : Str) ++ (PySem.Str.ofString (toString (q.den : Int))) else PySem.Str.ofString (toString q.num)
def Few (i : Int) : Prop := i.natAbs < 10 ^ 64
theorem Few.log {i : Int} (h : Few i) : i.natAbs.log2 < 1920 := by
  by_cases h0 : i.natAbs = 0
  · rw [h0]; decide
  · exact (Nat.log2_lt h0).mpr (Nat.lt_of_lt_of_le h (by decide +kernel))
theorem txt_len {i : Int} (h : Few i) : (PySem.Str.ofString (toString i)).length ≤ 1000 := by
  have e := int_text_length_le10 (a := i) (k := 64) (by decide) h
  rw [PySem.ofString_length]; omega
theorem app_len (a b : Str) : (a ++ b).length = a.length + b.length := by
  show (PySem.Str.append a b).length = _
  simp [PySem.Str.append, PySem.Str.length]
theorem line_of {n : Nat} (h : n ≤ 100000) : n ≤ sizeLine := Nat.le_trans h (by decide)
theorem neg_text {n : Int} (h : n < 0) : Str.empty ++ ("-" : Str) ++ PySem.Str.ofString (toString (-n)) = PySem.Str.ofString (toString n) := by
  rw [toString_neg h, str_app, empty_app, Int.zero_sub]
section
variable {P : Program} {w : World} {K : PySem.W.Frag} {mg : Str → Option Value} {base : Heap}
def spEq (C : Addr) : Sp := fun vs H Q _ => ∃ (I : Hp) (a b : V) (p q : Rat), vs = [a, b] ∧ Same I H ∧ iR C I a p ∧ iR C I b q ∧ Q (.bl (decide (p = q))) H
def spLess (C : Addr) : Sp := fun vs H Q _ => ∃ (I : Hp) (a b : V) (p q : Rat), vs = [a, b] ∧ Same I H ∧ iR C I a p ∧ iR C I b q ∧ Fit p ∧ Fit q ∧ Q (.bl (decide (p < q))) H
def spBy (C B : Addr) : Sp := fun vs H Q E => ∃ (I : Hp) (a b : V) (p q : Rat), vs = [a, b] ∧ Same I H ∧ iR C I a p ∧ iR C I b q ∧ Fit p ∧ Fit q ∧ (q ≠ 0 → Ret [] I H (iR C) (p / q) Q) ∧ (q = 0 → E (.ref B) none H)
def spStr (C : Addr) : Sp := fun vs H Q _ => ∃ (I : Hp) (a : V) (p : Rat), vs = [a] ∧ Same I H ∧ iR C I a p ∧ Few p.num ∧ Few p.den ∧ Q (.str (rtext p)) H
def spDig : Sp := fun vs H Q _ => ∃ n : Int, vs = [.int n] ∧ Few n ∧ Q (.str (PySem.Str.ofString (toString n))) H
theorem sc_eq : FnScope ["self", "other"] ["self", "other"] (defScope s_Ratio_eq) := ⟨rfl, rfl, rfl, by decide +kernel, rfl, by decide +kernel, by decide +kernel⟩
theorem eq_parts (p q : Rat) : (p = q) ↔ (p.num = q.num ∧ (p.den : Int) = q.den) := by
  constructor
  · rintro rfl; exact ⟨rfl, rfl⟩
  · rintro ⟨h1, h2⟩
    exact Rat.ext h1 (by omega)
theorem ok_eq (D : Dt K mg) : Has P w K mg base 1 (He.ma K (CR K) "__eq__") ["self", "other"] [] (spEq (CR K)) := by
  obtain ⟨fd, F⟩ := fd_Ratio_eq D
  refine hasN F (F.bindsN fun _ _ _ _ _ _ us hl => match us, hl with | [_, _], _ => rfl) sc_eq (fun vs H Q E h => ?_) (fun cdv A outer s H vs Q E hr h => ?_)
  · obtain ⟨I, a, b, p, q, rfl, _⟩ := h; rfl
  · obtain ⟨I, va, vb, p, q, rfl, s0, ⟨a, dx, rfl, ha⟩, ⟨b, dy, rfl, hb⟩, k⟩ := h
    have ha' := s0 _ _ ha
    have hb' := s0 _ _ hb
    refine ⟨_, (pss_one (ps_ret (pe_and (pe_callB call_isi rfl (free_isinstance D) (by decide +kernel) (pa_cons (pv 1) (pa_cons (pe_glob (v := .ref (He.ga K "Ratio")) rfl (glo_Ratio D) rfl) pa_nil))) (pe_and (pe_cmpR op_eq (pe_fld (pv 0) rfl) (pe_fld (pv 1) rfl) (nomark _)) (pe_one (pe_cmpR op_eq (pe_fld (pv 0) rfl) (pe_fld (pv 1) rfl) (nomark _))))))), ?_⟩
    refine ⟨_, rfl, _, _, _, _, true, rfl, .own _, (inst_Ratio D).ty (cls_Ratio D) hb', kit_self, _, rfl, iteT ?_⟩
    refine ⟨_, rfl, _, _, _, _, _, rfl, ha', cls_Ratio D, na_Ratio_num D, rf_num p, _, rfl, _, _, _, _, _, rfl, hb', cls_Ratio D, na_Ratio_num D, rf_num q, rfl, _, rfl, ?_⟩
    have e : decide (p = q) = (decide (V.int p.num = V.int q.num) && decide (V.int (p.den : Int) = V.int q.den)) := by
      rw [← Bool.decide_and]; exact decide_eq_decide.mpr (by rw [eq_parts]; simp)
    rw [e] at k
    refine ifB (fun c => ?_) (fun c => ?_)
    · refine ⟨_, rfl, _, _, _, _, _, rfl, ha', cls_Ratio D, na_Ratio_den D, rf_den p, _, rfl, _, _, _, _, _, rfl, hb', cls_Ratio D, na_Ratio_den D, rf_den q, rfl, ?_⟩
      rw [c, Bool.true_and] at k
      exact k
    · rw [c, Bool.false_and] at k
      exact k
end
end K

set_option Elab.async false
set_option linter.all false
set_option maxRecDepth 100000
set_option maxHeartbeats 4000000
set_option exponentiation.threshold 5000
namespace K
open PySem PySem.Spec PyProof.Rows L2 Tk Hd Mt
/-! ### the law's draws -/
def plist (c : Addr) (pos : Nat) (big seed left bud : Int) : List V := [.ref c, .int pos, .int big, .int seed, .int left, .int bud]
def PoolOk (I H : Hp) (p : Addr) : Prop := I p = none ∧ ∃ (c : Addr) (cells : List Int) (pos : Nat) (big seed left bud : Int), I c = some (.lst (cells.map V.int)) ∧ cells.length ≤ 100000 ∧ pos ≤ cells.length ∧ H p = some (.lst (plist c pos big seed left bud))
theorem PoolOk.up {ms : List Addr} {I H I' H' : Hp} {p : Addr} (h : PoolOk I H p) (g : Gr ms I H I' H') (n : p ∉ ms) : PoolOk I' H' p := by
  obtain ⟨i, c, cells, pos, b, s, l, u, h1, h2, h3, h4⟩ := h
  exact ⟨g.out i h4, c, cells, pos, b, s, l, u, g.ii _ _ h1, h2, h3, g.at h4 n⟩
section
variable {P : Program} {w : World} {K : PySem.W.Frag} {mg : Str → Option Value} {base : Heap}
def spPool (K : PySem.W.Frag) : Sp := fun vs H Q _ => ∃ (I : Hp) (a : Addr) (ns : List Int) (b : Int), vs = [.ref a, .int b] ∧ Same I H ∧ SqL K H a (ns.map V.int) ∧ ns.length ≤ 100000 ∧
  ∀ I' H' p, Gr [] I H I' H' → PoolOk I' H' p → H p = none → Q (.ref p) H'
theorem sc_pool : FnScope ["script", "budget"] ["script", "budget"] (defScope s__law_pool) := ⟨rfl, rfl, rfl, by decide +kernel, rfl, by decide +kernel, by decide +kernel⟩
theorem ok_pool (D : Dt K mg) : Has P w K mg base 1 (He.ga K "_law_pool") ["script", "budget"] [] (spPool K) := by
  obtain ⟨fd, F⟩ := fd__law_pool D
  refine hasN F (F.bindsN fun _ _ _ _ _ _ us hl => match us, hl with | [_, _], _ => rfl) sc_pool (fun vs H Q E h => ?_) (fun cdv A outer s H vs Q E hr h => ?_)
  · obtain ⟨I, a, ns, b, rfl, _⟩ := h; rfl
  · obtain ⟨I, a, ns, b, rfl, s0, hS, hl, k⟩ := h
    refine ⟨_, (pss_one (ps_ret (pe_lst (pa_cons (pe_callTy call_list_of rfl (free_list D) (by decide +kernel) (pa_cons (pv 0) pa_nil)) (pa_cons pe_int (pa_cons pe_int (pa_cons pe_int (pa_cons pe_int (pa_cons (pv 1) pa_nil))))))))), ?_⟩
    refine ⟨_, rfl, a, _, rfl, .inl hS, fun c hc => ?_⟩
    refine ⟨_, rfl, (by show 6 ≤ sizeLine; decide), fun p hp => ?_⟩
    have npc : p ≠ c := fun e => by rw [e, upd_same] at hp; cases hp
    have hp0 : H p = none := by rw [upd_ne npc] at hp; exact hp
    have g : Gr [] I H (upd I c (.lst (ns.map V.int))) (upd (upd H c (.lst (ns.map V.int))) p (.lst (plist c 0 0 1 0 b))) := (Gr.new s0 hc).trans (Gr.tmp (sBoth s0) hp)
    exact k _ _ p g ⟨by rw [upd_ne npc]; exact s0.free hp0, c, ns, 0, 0, 1, 0, b, upd_same, hl, Nat.zero_le _, upd_same⟩ hp0
def spDraw : Sp := fun vs H Q _ => ∃ (I : Hp) (p : Addr) (n : Int), vs = [.ref p, .int n] ∧ Same I H ∧ PoolOk I H p ∧ 0 < n ∧ n < 2 ^ 64 ∧
  ∀ (v : Int) H', 0 ≤ v → v < n → Gr [p] I H I H' → PoolOk I H' p → Q (.int v) H'
theorem sc_draw : FnScope ["pool", "size", "cell", "value"] ["pool", "size"] (defScope s__law_draw) := ⟨rfl, rfl, rfl, by decide +kernel, rfl, by decide +kernel, by decide +kernel⟩
theorem mulc {i : Int} {j : Int} (h1 : -(2 ^ 64) < j) (h2 : j < 2 ^ 64) : CMul i j := .inr ⟨h1, h2⟩
theorem ok_draw (D : Dt K mg) : Has P w K mg base 1 (He.ga K "_law_draw") ["pool", "size"] [] spDraw := by
  obtain ⟨fd, F⟩ := fd__law_draw D
  refine hasN F (F.bindsN fun _ _ _ _ _ _ us hl => match us, hl with | [_, _], _ => rfl) sc_draw (fun vs H Q E h => ?_) (fun cdv A outer s H vs Q E hr h => ?_)
  · obtain ⟨I, p, n, rfl, _⟩ := h; rfl
  · obtain ⟨I, p, n, rfl, s0, ⟨hI, c, cells, pos, big, seed, left, bud, hc, hl, hpos, hp⟩, hn0, hn1, k⟩ := h
    refine ⟨_, (pss_cons (ps_if (PW.pt (pw_and (pt_cmpR op_le (pe_ix ix_list (pv 0) pe_int (fun _ _ => rfl)) pe_int (nomark _)) (pw_and (pt_cmpR op_le (pe_ix ix_list (pv 0) pe_int (fun _ _ => rfl)) pe_int (nomark _)) (pw_and1 (pt_cmpR op_lt (pe_ix ix_list (pv 0) pe_int (fun _ _ => rfl)) (pe_callB call_len rfl (free_len D) PySem.boot_len (pa_cons (pe_ix ix_list (pv 0) pe_int (fun _ _ => rfl)) pa_nil)) (nomark _))))))
      (pss_cons (ps_set (i := 2) sc_draw.nd rfl (Or.inl rfl) (pe_ix ix_list (pe_ix ix_list (pv 0) pe_int (fun _ _ => rfl)) (pe_ix ix_list (pv 0) pe_int (fun _ _ => rfl)) (fun _ _ => rfl)))
      (pss_cons (ps_asg (pe_op op_add (pe_ix ix_list (pv 0) pe_int (fun _ _ => rfl)) pe_int) (pg_sub (pv 0) pe_int set_list))
      (pss_cons (ps_asg (pe_op op_mod (pe_callTy call_int1 rfl (free_int D) (by decide +kernel) (pa_cons (pe_op op_add (pe_op op_mul (pe_ix ix_list (pv 0) pe_int (fun _ _ => rfl)) pe_int) (pv 2)) pa_nil)) pe_int) (pg_sub (pv 0) pe_int set_list))
      (pss_cons (ps_asg pe_int (pg_sub (pv 0) pe_int set_list))
      (pss_one (ps_if (pt_cmpR op_ge (pv 2) (pe_op op_pow pe_int pe_int) (nomark _))
      (pss_one (ps_asg (pv 2) (pg_sub (pv 0) pe_int set_list)))
      pss_nil))))))
      pss_nil)
      (pss_cons (ps_if (pt_cmpR op_gt (pe_ix ix_list (pv 0) pe_int (fun _ _ => rfl)) pe_int (nomark _))
      (pss_cons (ps_set (i := 3) sc_draw.nd rfl (Or.inl rfl) (pe_op op_mod (pe_callTy call_int1 rfl (free_int D) (by decide +kernel) (pa_cons (pe_ix ix_list (pv 0) pe_int (fun _ _ => rfl)) pa_nil)) (pv 1)))
      (pss_cons (ps_asg (pe_op op_fdivW (pe_ix ix_list (pv 0) pe_int (fun _ _ => rfl)) (pv 1)) (pg_sub (pv 0) pe_int set_list))
      (pss_cons (ps_asg pe_int (pg_sub (pv 0) pe_int set_list))
      (pss_one (ps_ret (pv 3))))))
      pss_nil)
      (pss_cons (ps_asg (pe_op op_sub (pe_ix ix_list (pv 0) pe_int (fun _ _ => rfl)) pe_int) (pg_sub (pv 0) pe_int set_list))
      (pss_cons (ps_asg (pe_op op_mod (pe_callTy call_int1 rfl (free_int D) (by decide +kernel) (pa_cons (pe_op op_add (pe_op op_mul (pe_ix ix_list (pv 0) pe_int (fun _ _ => rfl)) pe_int) pe_int) pa_nil)) pe_int) (pg_sub (pv 0) pe_int set_list))
      (pss_one (ps_ret (pe_op op_mod (pe_op op_mod (pe_callTy call_int1 rfl (free_int D) (by decide +kernel) (pa_cons (pe_op op_add (pe_op op_mul (pe_ix ix_list (pv 0) pe_int (fun _ _ => rfl)) pe_int) pe_int) pa_nil)) pe_int) (pv 1)))))))), ?_⟩
    refine seq_cut (fun σ' H' => ∃ (v : Option V) (pos' : Nat) (big' seed' left' : Int), σ' = [some (.ref p), some (.int n), v, none] ∧ Gr [p] I H I H' ∧ pos' ≤ cells.length ∧ H' p = some (.lst (plist c pos' big' seed' left' bud))) (fun nx q => ?_) ?_
    · have hc' := s0 _ _ hc
      have stay : nx [some (.ref p), some (.int n), none, none] H := q _ _ ⟨none, pos, big, seed, left, rfl, Gr.refl s0, hpos, hp⟩
      refine ⟨_, rfl, _, _, _, _, rfl, rfl, SqL.of hp, at_of (j := 2) rfl rfl, _, _, rfl, rfl, _, rfl, ifD (fun _ => ?_) (fun _ => iteF stay)⟩
      refine ⟨_, rfl, _, _, _, _, rfl, rfl, SqL.of hp, at_of (j := 4) rfl rfl, _, _, rfl, rfl, _, rfl, ifD (fun _ => ?_) (fun _ => iteF stay)⟩
      refine ⟨_, rfl, _, _, _, _, rfl, rfl, SqL.of hp, at_of (j := 1) rfl rfl, _, rfl, _, _, _, _, rfl, rfl, SqL.of hp, at_of (j := 0) rfl rfl, _, cells.length, rfl, .inl ⟨_, SqL.of hc', by simp⟩, _, _, rfl, rfl, _, rfl, ?_⟩
      refine ifD (fun hlt => ?_) (fun _ => stay)
      have hlt' : pos < cells.length := by omega
      have hcell : (cells.map V.int)[pos]? = some (.int cells[pos]) := by rw [List.getElem?_map, List.getElem?_eq_getElem hlt']; rfl
      refine ⟨_, rfl, _, _, _, _, rfl, rfl, SqL.of hp, at_of (j := 0) rfl rfl, _, rfl, _, _, _, _, rfl, rfl, SqL.of hp, at_of (j := 1) rfl rfl, _, _, _, _, rfl, rfl, SqL.of hc', at_of rfl hcell, ?_⟩
      refine ⟨_, rfl, _, _, _, _, rfl, rfl, SqL.of hp, at_of (j := 1) rfl rfl, _, _, rfl, rfl, _, rfl, _, _, _, _, rfl, rfl, hp, (show ixN _ _ = some 1 from rfl), ?_⟩
      refine ⟨_, rfl, _, _, _, _, rfl, rfl, SqL.of upd_same, at_of (j := 3) rfl rfl, _, _, rfl, rfl, mulc (by decide) (by decide), _, rfl, _, _, rfl, rfl, .inl ⟨_, rfl, _, _, rfl, rfl, (by show (0 : Int) < 2147483647; decide), _, rfl, _, _, _, _, rfl, rfl, upd_same, (show ixN _ _ = some 3 from rfl), ?_⟩⟩
      refine ⟨_, rfl, _, _, _, _, rfl, rfl, upd_same, (show ixN _ _ = some 4 from rfl), ?_⟩
      have hg : ∀ l : List V, Gr [p] I H I (upd H p (.lst l)) := fun l => Gr.mut s0 hI (by simp)
      refine ⟨_, rfl, _, _, rfl, rfl, ⟨by decide, by decide, by decide⟩, _, _, rfl, rfl, _, rfl, ifD (fun _ => ?_) (fun _ => ?_)⟩
      · refine ⟨_, rfl, _, rfl, _, _, _, _, rfl, rfl, upd_same, (show ixN _ _ = some 2 from rfl), ?_⟩
        refine q _ _ ⟨some (.int cells[pos]), pos + 1, cells[pos], (seed * 31 + cells[pos]) % 2147483647, 7, rfl, ?_, by omega, ?_⟩
        · rw [upd_upd, upd_upd, upd_upd]; exact hg _
        · rw [upd_same]; rfl
      · refine q _ _ ⟨some (.int cells[pos]), pos + 1, big, (seed * 31 + cells[pos]) % 2147483647, 7, rfl, ?_, by omega, ?_⟩
        · rw [upd_upd, upd_upd]; exact hg _
        · rw [upd_same]; rfl
    · rintro σ' H' ⟨v, pos, big, seed, left, rfl, g, hpos, hp⟩
      have s1 : Same I H' := g.ih
      refine ⟨_, rfl, _, _, _, _, rfl, rfl, SqL.of hp, at_of (j := 2) rfl rfl, _, _, rfl, rfl, _, rfl, ifD (fun _ => ?_) (fun _ => ?_)⟩
      · refine ⟨_, rfl, _, _, _, _, rfl, rfl, SqL.of hp, at_of (j := 2) rfl rfl, .inl ⟨_, rfl, _, rfl, _, _, rfl, rfl, hn0, ?_⟩⟩
        refine ⟨_, rfl, _, _, _, _, rfl, rfl, SqL.of hp, at_of (j := 2) rfl rfl, _, rfl, _, _, rfl, rfl, wide_div hn0 (b := 64) (by omega) (by decide) (by decide), _, rfl, _, _, _, _, rfl, rfl, hp, (show ixN _ _ = some 2 from rfl), ?_⟩
        refine ⟨_, rfl, _, _, _, _, rfl, rfl, upd_same, (show ixN _ _ = some 4 from rfl), _, rfl, ?_⟩
        have hm := Int.emod_nonneg big (by omega : n ≠ 0)
        have hm2 := Int.emod_lt_of_pos big hn0
        rw [upd_upd]
        exact k _ _ hm hm2 (g.trans (Gr.mut s1 hI (by simp))) ⟨hI, c, cells, pos, big / n, seed, 0, bud, hc, hl, hpos, upd_same⟩
      · refine ⟨_, rfl, _, _, _, _, rfl, rfl, SqL.of hp, at_of (j := 4) rfl rfl, _, _, rfl, rfl, _, rfl, _, _, _, _, rfl, rfl, hp, (show ixN _ _ = some 4 from rfl), ?_⟩
        refine ⟨_, rfl, _, _, _, _, rfl, rfl, SqL.of upd_same, at_of (j := 3) rfl rfl, _, _, rfl, rfl, mulc (by decide) (by decide), _, _, rfl, rfl, .inl ⟨_, rfl, _, _, rfl, rfl, (by show (0 : Int) < 2147483647; decide), _, rfl, _, _, _, _, rfl, rfl, upd_same, (show ixN _ _ = some 3 from rfl), ?_⟩⟩
        refine ⟨_, rfl, _, _, _, _, rfl, rfl, SqL.of upd_same, at_of (j := 3) rfl rfl, _, _, rfl, rfl, mulc (by decide) (by decide), _, _, rfl, rfl, .inl ⟨_, rfl, _, _, rfl, rfl, (by show (0 : Int) < 2147483647; decide), _, rfl, _, _, rfl, rfl, hn0, ?_⟩⟩
        rw [upd_upd]
        exact k _ _ (Int.emod_nonneg _ (by omega)) (Int.emod_lt_of_pos _ hn0) (g.trans (Gr.mut s1 hI (by simp))) ⟨hI, c, cells, pos, big, _, left - 1, bud, hc, hl, hpos, upd_same⟩
/-! ### the law's own fractions -/
def iQ : Rp Rat := fun H v q => ∃ a, v = .ref a ∧ H a = some (.tup [.int q.num, .int q.den])
instance : Mono iQ := ⟨fun s ⟨a, e, h⟩ => ⟨a, e, s _ _ h⟩⟩
def spLs : Sp := fun vs H Q _ => ∃ (I : Hp) (n d : Int), vs = [.int n, .int d] ∧ Same I H ∧ 0 < d ∧ d < 2 ^ 1999 ∧ Ret [] I H iQ (rt n d) Q
theorem sc_less_ : FnScope ["num", "den", "a", "b", "k"] ["num", "den"] (defScope s__law_less) := ⟨rfl, rfl, rfl, by decide +kernel, rfl, by decide +kernel, by decide +kernel⟩
theorem ok_ls (D : Dt K mg) : Has P w K mg base 1 (He.ga K "_law_less") ["num", "den"] [] spLs := by
  obtain ⟨fd, F⟩ := fd__law_less D
  refine hasN F (F.bindsN fun _ _ _ _ _ _ us hl => match us, hl with | [_, _], _ => rfl) sc_less_ (fun vs H Q E h => ?_) (fun cdv A outer s H vs Q E hr h => ?_)
  · obtain ⟨I, n, d, rfl, _⟩ := h; rfl
  · obtain ⟨I, n, d, rfl, s0, hd, hd2, k⟩ := h
    refine ⟨_, (pss_cons (ps_set (i := 2) sc_less_.nd rfl (Or.inl rfl) (pe_callB call_abs rfl (free_abs D) (by decide +kernel) (pa_cons (pv 0) pa_nil)))
      (pss_cons (ps_set (i := 3) sc_less_.nd rfl (Or.inl rfl) (pv 1))
      (pss_cons (ps_for PassesOwn.never rfl (pi_range1 rfl (free_range D) (pa_cons pe_int pa_nil)) (pg_name (i := 4) sc_less_.nd rfl (Or.inl rfl))
      (pss_cons (ps_if (pt_cmpR op_eq (pv 3) pe_int (nomark _))
      (pss_one ps_break)
      pss_nil)
      (pss_one (ps_par (i := 2) (j := 3) rfl sc_less_.nd rfl rfl (by decide) rfl rfl (pa_cons (pv 3) (pa_cons (pe_op op_mod (pe_callTy call_int1 rfl (free_int D) (by decide +kernel) (pa_cons (pv 2) pa_nil)) (pv 3)) pa_nil)) rfl))))
      (pss_one (ps_ret (pe_tup (pa_cons (pe_op op_fdivW (pv 0) (pv 2)) (pa_cons (pe_op op_fdivW (pv 1) (pv 2)) pa_nil)))))))), ?_⟩
    refine ⟨_, rfl, _, rfl, _, rfl, 4000, rfl, by decide, by decide, ?_⟩
    refine for_rangeP (n := 4000) (fun σ' H' => ∃ (b v : Option V), σ' = [some (.int n), some (.int d), some (.int (gz n d)), b, v] ∧ H' = H)
      (fun i σ' H' => ∃ (a b : Int) (v : Option V), σ' = [some (.int n), some (.int d), some (.int a), some (.int b), v] ∧ H' = H ∧ 0 ≤ a ∧ 0 ≤ b ∧ eu (4000 - i) a b = gz n d)
      ⟨_, d, none, rfl, rfl, by split <;> omega, by omega, eu_gz hd hd2⟩ (fun nx q i σ' H' hi h => ?_) (fun σ' H' h => ?_) ?_
    · obtain ⟨a, b, v, rfl, rfl, ha, hb, he⟩ := h
      obtain ⟨j, hj⟩ : ∃ j, 4000 - i = j + 1 := ⟨4000 - i - 1, by omega⟩
      have hj2 : 4000 - (i + 1) = j := by omega
      rw [hj] at he
      refine ⟨_, rfl, rfl, _, rfl, ifD (fun h0 => ?_) (fun h0 => ?_)⟩
      · have e0 : b = 0 := by simpa using h0
        rw [e0, eu_zero] at he
        exact q _ _ ⟨_, _, by rw [he]; rfl, rfl⟩
      · have e0 : ¬ b = 0 := by simpa using h0
        have b0 : 0 < b := by omega
        refine ⟨_, rfl, _, rfl, .inl ⟨_, rfl, _, rfl, _, _, rfl, rfl, b0, _, _, rfl, ?_⟩⟩
        have he' : eu j b (a % b) = gz n d := by rw [← he]; show _ = if b = 0 then a else eu j b (a % b); rw [if_neg e0]
        exact ⟨b, a % b, _, rfl, rfl, hb, Int.emod_nonneg _ e0, by rw [hj2]; exact he'⟩
    · obtain ⟨a, b, v, rfl, rfl, _, _, he⟩ := h
      have he' : a = gz n d := by rw [← he]; rfl
      rw [he']
      exact ⟨_, _, rfl, rfl⟩
    · rintro σ' H' ⟨b, v, rfl, rfl⟩
      have sm : Sm d := by show d.natAbs < 2 ^ 2000; have : d.natAbs < 2 ^ 1999 := by omega
                           exact Nat.lt_trans this (by decide)
      refine ⟨_, rfl, _, rfl, _, _, rfl, rfl, sm.div hd, _, rfl, _, rfl, _, _, rfl, rfl, sm.div hd, (by show 2 ≤ sizeLine; decide), fun p hp => ?_⟩
      have e1 := rt_num (n := n) hd
      have e2 := rt_den (n := n) hd
      have z := k _ _ (.ref p) (Gr.new (o := .tup [.int (rt n d).num, .int (rt n d).den]) s0 hp) ⟨p, rfl, upd_same⟩
      rw [e1, e2] at z
      exact z
end
end K

set_option Elab.async false
set_option linter.all false
set_option maxRecDepth 100000
set_option maxHeartbeats 4000000
/-! Data as the law compares it. -/
namespace Tk
open PySem PySem.Spec PyProof.Rows L2
inductive Da where
  | non | bl (b : Bool) | int (i : Int) | str (s : Str) | lst (l : List Da) | tup (l : List Da)
mutual
def eqd : Da → Da → Bool
  | .non, .non => true
  | .bl a, .bl b => decide (a = b)
  | .int a, .int b => decide (a = b)
  | .str a, .str b => decide (a = b)
  | .lst a, .lst b => eqds a b
  | .tup a, .tup b => eqds a b
  | _, _ => false
def eqds : List Da → List Da → Bool
  | [], [] => true
  | a :: r, b :: s => eqd a b && eqds r s
  | _, _ => false
end
mutual
def dep : Da → Nat
  | .lst l => deps l + 1
  | .tup l => deps l + 1
  | _ => 0
def deps : List Da → Nat
  | [] => 0
  | a :: r => max (dep a) (deps r)
end
mutual
def tame : Da → Prop
  | .lst l => l.length ≤ 1000000 ∧ tames l
  | .tup l => l.length ≤ 1000000 ∧ tames l
  | _ => True
def tames : List Da → Prop
  | [] => True
  | a :: r => tame a ∧ tames r
end
mutual
def dR (H : Hp) : V → Da → Prop
  | v, .non => v = .non
  | v, .bl b => v = .bl b
  | v, .int i => v = .int i
  | v, .str s => v = .str s
  | v, .lst l => ∃ a vs, v = .ref a ∧ H a = some (.lst vs) ∧ dRs H vs l
  | v, .tup l => ∃ a vs, v = .ref a ∧ H a = some (.tup vs) ∧ dRs H vs l
def dRs (H : Hp) : List V → List Da → Prop
  | vs, [] => vs = []
  | vs, d :: ds => ∃ v r, vs = v :: r ∧ dR H v d ∧ dRs H r ds
end
mutual
theorem dR_up {H H' : Hp} (s : Same H H') : ∀ (v : V) (d : Da), dR H v d → dR H' v d
  | v, .non, h => h
  | v, .bl _, h => h
  | v, .int _, h => h
  | v, .str _, h => h
  | v, .lst l, h => by
    simp only [dR] at h ⊢
    obtain ⟨a, vs, e, h1, h2⟩ := h
    exact ⟨a, vs, e, s _ _ h1, dRs_up s vs l h2⟩
  | v, .tup l, h => by
    simp only [dR] at h ⊢
    obtain ⟨a, vs, e, h1, h2⟩ := h
    exact ⟨a, vs, e, s _ _ h1, dRs_up s vs l h2⟩
theorem dRs_up {H H' : Hp} (s : Same H H') : ∀ (vs : List V) (ds : List Da), dRs H vs ds → dRs H' vs ds
  | vs, [], h => by simp only [dRs] at h ⊢; exact h
  | vs, d :: ds, h => by
    simp only [dRs] at h ⊢
    obtain ⟨v, r, e, h1, h2⟩ := h
    exact ⟨v, r, e, dR_up s v d h1, dRs_up s r ds h2⟩
end
theorem dRs_len {H : Hp} : ∀ {vs : List V} {ds : List Da}, dRs H vs ds → vs.length = ds.length
  | vs, [], h => by simp only [dRs] at h; subst h; rfl
  | vs, d :: ds, h => by
    simp only [dRs] at h
    obtain ⟨v, r, rfl, _, h2⟩ := h
    simp [dRs_len h2]
theorem dRs_at {H : Hp} : ∀ {vs : List V} {ds : List Da} {i : Nat} {d : Da}, dRs H vs ds → ds[i]? = some d → ∃ v, vs[i]? = some v ∧ dR H v d
  | _, [], _, _, _, e => by simp at e
  | vs, d :: ds, 0, x, h, e => by
    simp only [dRs] at h
    obtain ⟨v, r, rfl, h1, _⟩ := h
    simp at e; subst e
    exact ⟨v, rfl, h1⟩
  | vs, d :: ds, i + 1, x, h, e => by
    simp only [dRs] at h
    obtain ⟨v, r, rfl, _, h2⟩ := h
    obtain ⟨u, h3, h4⟩ := dRs_at (i := i) (d := x) h2 (by simpa using e)
    exact ⟨u, by simpa using h3, h4⟩
theorem tames_at : ∀ {ds : List Da} {i : Nat} {d : Da}, tames ds → ds[i]? = some d → tame d
  | [], _, _, _, e => by simp at e
  | d :: ds, 0, x, h, e => by simp at e; subst e; exact h.1
  | d :: ds, i + 1, x, h, e => tames_at (ds := ds) (i := i) h.2 (by simpa using e)
theorem deps_at : ∀ {ds : List Da} {i : Nat} {d : Da}, ds[i]? = some d → dep d ≤ deps ds
  | [], _, _, e => by simp at e
  | d :: ds, 0, x, e => by simp at e; subst e; simp only [deps]; omega
  | d :: ds, i + 1, x, e => by
    have := deps_at (ds := ds) (i := i) (d := x) (by simpa using e)
    simp only [deps]; omega
mutual
theorem eqd_iff : ∀ a b : Da, eqd a b = true ↔ a = b
  | .non, b => by cases b <;> simp [eqd]
  | .bl x, b => by cases b <;> simp [eqd]
  | .int x, b => by cases b <;> simp [eqd]
  | .str x, b => by cases b <;> simp [eqd]
  | .lst x, b => by cases b <;> simp [eqd]; exact eqds_iff _ _
  | .tup x, b => by cases b <;> simp [eqd]; exact eqds_iff _ _
theorem eqds_iff : ∀ a b : List Da, eqds a b = true ↔ a = b
  | [], b => by cases b <;> simp [eqds]
  | a :: r, b => by
    cases b with
    | nil => simp [eqds]
    | cons b s => simp [eqds, eqd_iff a b, eqds_iff r s]
end
theorem eqds_len : ∀ {a b : List Da}, a.length ≠ b.length → eqds a b = false
  | [], [], h => absurd rfl h
  | [], _ :: _, _ => rfl
  | _ :: _, [], _ => rfl
  | a :: r, b :: s, h => by
    have := eqds_len (a := r) (b := s) (by simpa using h)
    simp [eqds, this]
theorem eqds_false : ∀ {a b : List Da} {i : Nat} {x y : Da}, a[i]? = some x → b[i]? = some y → eqd x y = false → eqds a b = false
  | [], _, _, _, _, h, _, _ => by simp at h
  | _ :: _, [], _, _, _, _, h, _ => by simp at h
  | a :: r, b :: s, 0, x, y, h1, h2, h3 => by simp at h1 h2; subst h1 h2; simp [eqds, h3]
  | a :: r, b :: s, i + 1, x, y, h1, h2, h3 => by
    have := eqds_false (a := r) (b := s) (i := i) (by simpa using h1) (by simpa using h2) h3
    simp [eqds, this]
theorem eqds_true : ∀ {a b : List Da}, a.length = b.length → (∀ (i : Nat) (x y : Da), a[i]? = some x → b[i]? = some y → eqd x y = true) → eqds a b = true
  | [], [], _, _ => rfl
  | [], _ :: _, h, _ => by simp at h
  | _ :: _, [], h, _ => by simp at h
  | a :: r, b :: s, h, k => by
    simp only [eqds, Bool.and_eq_true]
    exact ⟨k 0 a b rfl rfl, eqds_true (by simpa using h) fun i x y h1 h2 => k (i + 1) x y (by simpa using h1) (by simpa using h2)⟩
/-- its kind -/
def knd : Da → String
  | .non => "NoneType" | .bl _ => "bool" | .int _ => "int" | .str _ => "str" | .lst _ => "list" | .tup _ => "tuple"
def isT : Da → String → Bool
  | .non, _ => false
  | .bl _, T => T == "bool" || T == "int"
  | .int _, T => T == "int"
  | .str _, T => T == "str"
  | .lst _, T => T == "list"
  | .tup _, T => T == "tuple"
theorem knd_ty {K : PySem.W.Frag} {H : Hp} {v : V} {d : Da} (h : dR H v d) : TyX K H v (.type (knd d)) := by
  cases d with
  | non => simp only [dR] at h; subst h; exact .base .non
  | bl b => simp only [dR] at h; subst h; exact .base (.bl b)
  | int b => simp only [dR] at h; subst h; exact .base (.int b)
  | str b => simp only [dR] at h; subst h; exact .base (.str b)
  | lst l => simp only [dR] at h; obtain ⟨a, vs, rfl, h1, _⟩ := h; exact .base (.lst h1)
  | tup l => simp only [dR] at h; obtain ⟨a, vs, rfl, h1, _⟩ := h; exact .base (.tup h1)
theorem knd_tuple {K : PySem.W.Frag} (d : Da) : PySem.W.kitOne K (.type (knd d)) (.type "tuple") = some (isT d "tuple") := by cases d <;> rfl
theorem knd_list {K : PySem.W.Frag} (d : Da) : PySem.W.kitOne K (.type (knd d)) (.type "list") = some (isT d "list") := by cases d <;> rfl
theorem knd_bool {K : PySem.W.Frag} (d : Da) : PySem.W.kitOne K (.type (knd d)) (.type "bool") = some (isT d "bool") := by cases d <;> rfl
theorem knd_int {K : PySem.W.Frag} (d : Da) : PySem.W.kitOne K (.type (knd d)) (.type "int") = some (isT d "int") := by cases d <;> rfl
theorem knd_str {K : PySem.W.Frag} (d : Da) : PySem.W.kitOne K (.type (knd d)) (.type "str") = some (isT d "str") := by cases d <;> rfl
def isNon : Da → Bool
  | .non => true
  | _ => false
theorem non_dec {H : Hp} {v : V} {d : Da} (h : dR H v d) : decide (v = V.non) = isNon d := by
  cases d with
  | non => simp only [dR] at h; subst h; rfl
  | bl b => simp only [dR] at h; subst h; rfl
  | int b => simp only [dR] at h; subst h; rfl
  | str b => simp only [dR] at h; subst h; rfl
  | lst l => simp only [dR] at h; obtain ⟨a, vs, rfl, h1, _⟩ := h; rfl
  | tup l => simp only [dR] at h; obtain ⟨a, vs, rfl, h1, _⟩ := h; rfl
end Tk

set_option Elab.async false
set_option linter.all false
set_option maxRecDepth 100000
set_option maxHeartbeats 4000000
set_option exponentiation.threshold 5000
namespace K
open PySem PySem.Spec PyProof.Rows L2 Tk Hd Mt
section
variable {P : Program} {w : World} {K : PySem.W.Frag} {mg : Str → Option Value} {base : Heap}
/-! ### _law_same -/
def spSame (n : Nat) : Sp := fun vs H Q _ => ∃ (a d : V) (x y : Da), vs = [a, d] ∧ dR H a x ∧ dR H d y ∧ dep y ≤ n ∧ tame x ∧ tame y ∧ Q (.bl (eqd x y)) H
theorem sc_same : FnScope ["actual", "due", "k"] ["actual", "due"] (defScope s__law_same) := ⟨rfl, rfl, rfl, by decide +kernel, rfl, by decide +kernel, by decide +kernel⟩
theorem dec_bl' (a b : Bool) : decide (V.bl a = V.bl b) = (a == b) := dec_bl
/-- nothing in it: no list, no tuple -/
theorem ok_same0 (D : Dt K mg) {fd : FuncData} (F : FnP K "_law_same" "_law_same" s__law_same [] (He.ga K "_law_same") fd) : FnOk P w K mg base (L2.CX P w) 1 (He.ga K "_law_same") fd ["actual", "due"] (fun vs H Q _ => ∃ (a d : V) (x y : Da), vs = [a, d] ∧ dR H a x ∧ dR H d y ∧ isT y "tuple" = false ∧ isT y "list" = false ∧ Q (.bl (eqd x y)) H) := by
  refine fnN F sc_same (fun vs H Q E h => ?_) (fun cdv A outer s H vs Q E hr h => ?_)
  · obtain ⟨a, d, x, y, rfl, _⟩ := h; rfl
  · obtain ⟨a, d, x, y, rfl, hx, hy, y1, y2, k⟩ := h
    refine ⟨_, (pss_cons (ps_if (PW.pt (pw_or (pt_val (pe_callB call_isi rfl (free_isinstance D) (by decide +kernel) (pa_cons (pv 1) (pa_cons (pe_bltn (v := .ty "tuple") rfl (free_tuple D) (by decide +kernel) rfl) pa_nil)))) (pw_or1 (pt_val (pe_callB call_isi rfl (free_isinstance D) (by decide +kernel) (pa_cons (pv 1) (pa_cons (pe_bltn (v := .ty "list") rfl (free_list D) (by decide +kernel) rfl) pa_nil))))))) pss_never pss_nil)
      (pss_cons (ps_if (PW.pt (pw_or (pt_cmpR op_isN (pv 1) pe_non (nomark _)) (pw_or1 (pt_val (pe_callB call_isi rfl (free_isinstance D) (by decide +kernel) (pa_cons (pv 1) (pa_cons (pe_bltn (v := .ty "bool") rfl (free_bool D) (by decide +kernel) rfl) pa_nil)))))))
      (pss_one (ps_ret (pe_and (pe_cmpR op_eq (pe_cmpR op_isN (pv 0) pe_non (nomark _)) (pe_cmpR op_isN (pv 1) pe_non (nomark _)) (nomark _)) (pe_and (pe_or (pe_cmpR op_isN (pv 1) pe_non (nomark _)) (pe_one (pe_callB call_isi rfl (free_isinstance D) (by decide +kernel) (pa_cons (pv 0) (pa_cons (pe_bltn (v := .ty "bool") rfl (free_bool D) (by decide +kernel) rfl) pa_nil))))) (pe_one (pe_cmpR op_eq (pv 0) (pv 1) (nomark _)))))))
      pss_nil)
      (pss_cons (ps_if (pt_val (pe_callB call_isi rfl (free_isinstance D) (by decide +kernel) (pa_cons (pv 1) (pa_cons (pe_bltn (v := .ty "int") rfl (free_int D) (by decide +kernel) rfl) pa_nil))))
      (pss_one (ps_ret (pe_and (pe_callB call_isi rfl (free_isinstance D) (by decide +kernel) (pa_cons (pv 0) (pa_cons (pe_bltn (v := .ty "int") rfl (free_int D) (by decide +kernel) rfl) pa_nil))) (pe_and (pe_not (pe_callB call_isi rfl (free_isinstance D) (by decide +kernel) (pa_cons (pv 0) (pa_cons (pe_bltn (v := .ty "bool") rfl (free_bool D) (by decide +kernel) rfl) pa_nil)))) (pe_one (pe_cmpR op_eq (pv 0) (pv 1) (nomark _)))))))
      pss_nil)
      (pss_one (ps_ret (pe_and (pe_callB call_isi rfl (free_isinstance D) (by decide +kernel) (pa_cons (pv 0) (pa_cons (pe_bltn (v := .ty "str") rfl (free_str D) (by decide +kernel) rfl) pa_nil))) (pe_one (pe_cmpR op_eq (pv 0) (pv 1) (nomark _))))))))), ?_⟩
    have cv : ∀ T : String, ClsV (.ty T) (.type T) := fun T => .ty T
    refine ⟨_, rfl, _, _, _, _, _, rfl, cv _, knd_ty hy, knd_tuple y, _, rfl, ifF y1 ?_⟩
    refine ⟨_, rfl, _, _, _, _, _, rfl, cv _, knd_ty hy, knd_list y, _, rfl, ifF y2 ?_⟩
    have nx := non_dec hx
    have ny := non_dec hy
    refine ⟨_, rfl, rfl, _, rfl, ?_⟩
    rw [ny]
    have finN : isNon y = true ∨ isT y "bool" = true → ∀ σ : L2.St, True := fun _ _ => trivial
    cases y with
    | lst l => simp [isT] at y2
    | tup l => simp [isT] at y1
    | non =>
      refine iteT ?_
      simp only [dR] at hy
      subst hy
      refine ⟨_, rfl, rfl, _, rfl, rfl, rfl, _, rfl, ?_⟩
      rw [nx, ny]
      cases x with
      | non =>
        simp only [dR] at hx; subst hx
        refine iteT ⟨_, rfl, rfl, _, rfl, iteT ⟨_, rfl, iteT ⟨_, rfl, _, rfl, rfl, ?_⟩⟩⟩
        exact k
      | _ => exact iteF k
    | bl b =>
      refine iteF ⟨_, rfl, _, _, _, _, _, rfl, cv _, knd_ty hy, knd_bool (.bl b), _, rfl, iteT ?_⟩
      refine ⟨_, rfl, rfl, _, rfl, rfl, rfl, _, rfl, ?_⟩
      rw [nx, ny]
      simp only [dR] at hy
      subst hy
      cases x with
      | non => exact iteF k
      | bl c =>
        refine iteT ⟨_, rfl, rfl, _, rfl, iteF ⟨_, rfl, _, _, _, _, _, rfl, cv _, knd_ty hx, knd_bool (.bl c), _, rfl, iteT ?_⟩⟩
        simp only [dR] at hx
        subst hx
        refine ⟨_, rfl, _, rfl, rfl, ?_⟩
        have e : decide (V.bl c = V.bl b) = eqd (.bl c) (.bl b) := by simp [eqd]
        rw [← e] at k; exact k
      | int i => exact iteT ⟨_, rfl, rfl, _, rfl, iteF ⟨_, rfl, _, _, _, _, _, rfl, cv _, knd_ty hx, knd_bool (.int i), _, rfl, iteF k⟩⟩
      | str i => exact iteT ⟨_, rfl, rfl, _, rfl, iteF ⟨_, rfl, _, _, _, _, _, rfl, cv _, knd_ty hx, knd_bool (.str i), _, rfl, iteF k⟩⟩
      | lst i => exact iteT ⟨_, rfl, rfl, _, rfl, iteF ⟨_, rfl, _, _, _, _, _, rfl, cv _, knd_ty hx, knd_bool (.lst i), _, rfl, iteF k⟩⟩
      | tup i => exact iteT ⟨_, rfl, rfl, _, rfl, iteF ⟨_, rfl, _, _, _, _, _, rfl, cv _, knd_ty hx, knd_bool (.tup i), _, rfl, iteF k⟩⟩
    | int b =>
      refine iteF ⟨_, rfl, _, _, _, _, _, rfl, cv _, knd_ty hy, knd_bool (.int b), _, rfl, iteF ?_⟩
      refine ⟨_, rfl, _, _, _, _, _, rfl, cv _, knd_ty hy, knd_int (.int b), _, rfl, iteT ?_⟩
      simp only [dR] at hy
      subst hy
      cases x with
      | int c =>
        refine ⟨_, rfl, _, _, _, _, _, rfl, cv _, knd_ty hx, knd_int (.int c), _, rfl, iteT ?_⟩
        refine ⟨_, rfl, _, _, _, _, _, rfl, cv _, knd_ty hx, knd_bool (.int c), _, rfl, _, rfl, iteT ?_⟩
        simp only [dR] at hx
        subst hx
        refine ⟨_, rfl, _, rfl, rfl, ?_⟩
        have e : decide (V.int c = V.int b) = eqd (.int c) (.int b) := by simp [eqd]
        rw [← e] at k; exact k
      | bl c =>
        refine ⟨_, rfl, _, _, _, _, _, rfl, cv _, knd_ty hx, knd_int (.bl c), _, rfl, iteT ?_⟩
        exact ⟨_, rfl, _, _, _, _, _, rfl, cv _, knd_ty hx, knd_bool (.bl c), _, rfl, _, rfl, iteF k⟩
      | non => exact ⟨_, rfl, _, _, _, _, _, rfl, cv _, knd_ty hx, knd_int .non, _, rfl, iteF k⟩
      | str c => exact ⟨_, rfl, _, _, _, _, _, rfl, cv _, knd_ty hx, knd_int (.str c), _, rfl, iteF k⟩
      | lst c => exact ⟨_, rfl, _, _, _, _, _, rfl, cv _, knd_ty hx, knd_int (.lst c), _, rfl, iteF k⟩
      | tup c => exact ⟨_, rfl, _, _, _, _, _, rfl, cv _, knd_ty hx, knd_int (.tup c), _, rfl, iteF k⟩
    | str b =>
      refine iteF ⟨_, rfl, _, _, _, _, _, rfl, cv _, knd_ty hy, knd_bool (.str b), _, rfl, iteF ?_⟩
      refine ⟨_, rfl, _, _, _, _, _, rfl, cv _, knd_ty hy, knd_int (.str b), _, rfl, iteF ?_⟩
      simp only [dR] at hy
      subst hy
      cases x with
      | str c =>
        refine ⟨_, rfl, _, _, _, _, _, rfl, cv _, knd_ty hx, knd_str (.str c), _, rfl, iteT ?_⟩
        simp only [dR] at hx
        subst hx
        refine ⟨_, rfl, _, rfl, rfl, ?_⟩
        have e : decide (V.str c = V.str b) = eqd (.str c) (.str b) := by simp [eqd]
        rw [← e] at k; exact k
      | bl c => exact ⟨_, rfl, _, _, _, _, _, rfl, cv _, knd_ty hx, knd_str (.bl c), _, rfl, iteF k⟩
      | non => exact ⟨_, rfl, _, _, _, _, _, rfl, cv _, knd_ty hx, knd_str .non, _, rfl, iteF k⟩
      | int c => exact ⟨_, rfl, _, _, _, _, _, rfl, cv _, knd_ty hx, knd_str (.int c), _, rfl, iteF k⟩
      | lst c => exact ⟨_, rfl, _, _, _, _, _, rfl, cv _, knd_ty hx, knd_str (.lst c), _, rfl, iteF k⟩
      | tup c => exact ⟨_, rfl, _, _, _, _, _, rfl, cv _, knd_ty hx, knd_str (.tup c), _, rfl, iteF k⟩
/-- a list or a tuple -/
theorem ok_sameS (D : Dt K mg) (n : Nat) (HREC : Has P w K mg base (n + 1) (He.ga K "_law_same") ["actual", "due"] [] (spSame n)) {fd : FuncData} (F : FnP K "_law_same" "_law_same" s__law_same [] (He.ga K "_law_same") fd) :
    FnOk P w K mg base (L2.CX P w) (n + 2) (He.ga K "_law_same") fd ["actual", "due"] (fun vs H Q _ => ∃ (a d : V) (x y : Da), vs = [a, d] ∧ dR H a x ∧ dR H d y ∧ dep y ≤ n + 1 ∧ tame x ∧ tame y ∧ (isT y "tuple" = true ∨ isT y "list" = true) ∧ Q (.bl (eqd x y)) H) := by
  refine fnN F sc_same (fun vs H Q E h => ?_) (fun cdv A outer s H vs Q E hr h => ?_)
  · obtain ⟨a, d, x, y, rfl, _⟩ := h; rfl
  · obtain ⟨a, d, x, y, rfl, hx, hy, dy, tx, ty, yy, k⟩ := h
    refine ⟨_, (pss_cons (ps_if (PW.pt (pw_or (pt_val (pe_callB call_isi rfl (free_isinstance D) (by decide +kernel) (pa_cons (pv 1) (pa_cons (pe_bltn (v := .ty "tuple") rfl (free_tuple D) (by decide +kernel) rfl) pa_nil)))) (pw_or1 (pt_val (pe_callB call_isi rfl (free_isinstance D) (by decide +kernel) (pa_cons (pv 1) (pa_cons (pe_bltn (v := .ty "list") rfl (free_list D) (by decide +kernel) rfl) pa_nil)))))))
      (pss_cons (ps_if (PW.pt (pw_or (pt_cmpR op_ne (pe_callB call_isi rfl (free_isinstance D) (by decide +kernel) (pa_cons (pv 1) (pa_cons (pe_bltn (v := .ty "tuple") rfl (free_tuple D) (by decide +kernel) rfl) pa_nil))) (pe_callB call_isi rfl (free_isinstance D) (by decide +kernel) (pa_cons (pv 0) (pa_cons (pe_bltn (v := .ty "tuple") rfl (free_tuple D) (by decide +kernel) rfl) pa_nil))) (nomark _)) (pw_or1 (pt_cmpR op_ne (pe_callB call_isi rfl (free_isinstance D) (by decide +kernel) (pa_cons (pv 1) (pa_cons (pe_bltn (v := .ty "list") rfl (free_list D) (by decide +kernel) rfl) pa_nil))) (pe_callB call_isi rfl (free_isinstance D) (by decide +kernel) (pa_cons (pv 0) (pa_cons (pe_bltn (v := .ty "list") rfl (free_list D) (by decide +kernel) rfl) pa_nil))) (nomark _)))))
      (pss_one (ps_ret pe_bl))
      pss_nil)
      (pss_cons (ps_if (pt_cmpR op_ne (pe_callB call_len rfl (free_len D) PySem.boot_len (pa_cons (pv 0) pa_nil)) (pe_callB call_len rfl (free_len D) PySem.boot_len (pa_cons (pv 1) pa_nil)) (nomark _))
      (pss_one (ps_ret pe_bl))
      pss_nil)
      (pss_cons (ps_for PassesOwn.never rfl (pi_range1 rfl (free_range D) (pa_cons (pe_callB call_len rfl (free_len D) PySem.boot_len (pa_cons (pv 1) pa_nil)) pa_nil)) (pg_name (i := 2) sc_same.nd rfl (Or.inl rfl))
      (pss_one (ps_if (pt_not (pt_val (pe_callH HREC (hr.mono (by omega)) rfl (glo__law_same D) passL (pa_cons (pe_ix ix_seq (pv 0) (pv 2) (fun _ _ => rfl)) (pa_cons (pe_ix ix_seq (pv 1) (pv 2) (fun _ _ => rfl)) pa_nil)))))
      (pss_one (ps_ret pe_bl))
      pss_nil)))
      (pss_one (ps_ret pe_bl)))))
      pss_nil)
      pss_never), ?_⟩
    have cv : ∀ T : String, ClsV (.ty T) (.type T) := fun T => .ty T
    cases y with
    | non => simp [isT] at yy
    | bl b => simp [isT] at yy
    | int b => simp [isT] at yy
    | str b => simp [isT] at yy
    | lst l =>
      refine ⟨_, rfl, _, _, _, _, _, rfl, cv _, knd_ty hy, knd_tuple _, _, rfl, iteF ⟨_, rfl, _, _, _, _, _, rfl, cv _, knd_ty hy, knd_list _, _, rfl, iteT ?_⟩⟩
      refine ⟨_, rfl, _, _, _, _, _, rfl, cv _, knd_ty hy, knd_tuple _, _, rfl, _, _, _, _, _, rfl, cv _, knd_ty hx, knd_tuple x, rfl, _, rfl, ?_⟩
      cases x with
      | lst l' =>
        refine ifF rfl ?_
        refine ⟨_, rfl, _, _, _, _, _, rfl, cv _, knd_ty hy, knd_list _, _, rfl, _, _, _, _, _, rfl, cv _, knd_ty hx, knd_list _, rfl, _, rfl, ifF rfl ?_⟩
        simp only [dR] at hx hy
        obtain ⟨pa, va, rfl, ha, ra⟩ := hx
        obtain ⟨pd, vd, rfl, hd, rd⟩ := hy
        have la := dRs_len ra
        have ld := dRs_len rd
        have hl : l.length ≤ 1000000 := ty.1
        refine ⟨_, rfl, _, l'.length, rfl, .inl ⟨_, SqL.of ha, la.symm⟩, _, rfl, _, l.length, rfl, .inl ⟨_, SqL.of hd, ld.symm⟩, rfl, _, rfl, ?_⟩
        by_cases hlen : l'.length = l.length
        · refine ifF (by rw [hlen]; simp) ?_
          refine ⟨_, rfl, _, l.length, rfl, .inl ⟨_, SqL.of hd, ld.symm⟩, _, rfl, by omega, by omega, ?_⟩
          refine for_range (n := l.length) (fun i σ' H' => ∃ v : Option V, σ' = [some (.ref pa), some (.ref pd), v] ∧ H' = H ∧ ∀ (j : Nat) (x y : Da), j < i → l'[j]? = some x → l[j]? = some y → eqd x y = true)
            ⟨none, rfl, rfl, fun j _ _ h => absurd h (Nat.not_lt_zero j)⟩ (fun i σ' H' hi h => ?_) (fun σ' H' h => ?_)
          · obtain ⟨v, rfl, rfl, hj⟩ := h
            obtain ⟨u1, e1, r1⟩ := dRs_at ra (List.getElem?_eq_getElem (by omega : i < l'.length))
            obtain ⟨u2, e2, r2⟩ := dRs_at rd (List.getElem?_eq_getElem hi)
            refine ⟨_, rfl, _, rfl, .inl ⟨_, _, _, _, rfl, rfl, SqL.of ha, at_of (j := i) (by omega) e1, ?_⟩⟩
            refine ⟨_, rfl, _, rfl, .inl ⟨_, _, _, _, rfl, rfl, SqL.of hd, at_of (j := i) (by omega) e2, ?_⟩⟩
            have dd : dep l[i] ≤ n := by
              have := deps_at (List.getElem?_eq_getElem hi)
              simp only [dep] at dy; omega
            refine ⟨_, _, _, _, rfl, r1, r2, dd, tames_at tx.2 (List.getElem?_eq_getElem (by omega)), tames_at ty.2 (List.getElem?_eq_getElem hi), _, rfl, ?_⟩
            cases e : eqd l'[i] l[i] with
            | false =>
              refine iteT ?_
              have z : eqd (.lst l') (.lst l) = false := by simp only [eqd]; exact eqds_false (List.getElem?_eq_getElem (by omega)) (List.getElem?_eq_getElem hi) e
              rw [z] at k; exact k
            | true =>
              refine iteF ⟨_, rfl, rfl, fun j x y hji h1 h2 => ?_⟩
              by_cases q : j = i
              · subst q; rw [List.getElem?_eq_getElem (by omega)] at h1 h2; rw [← Option.some.inj h1, ← Option.some.inj h2]; exact e
              · exact hj j x y (by omega) h1 h2
          · obtain ⟨v, rfl, rfl, hj⟩ := h
            have z : eqd (.lst l') (.lst l) = true := by
              simp only [eqd]
              exact eqds_true hlen fun i x y h1 h2 => hj i x y (by have := (List.getElem?_eq_some_iff.mp h2).1; omega) h1 h2
            rw [z] at k; exact k
        · refine ifT (by simp; omega) ?_
          have z : eqd (.lst l') (.lst l) = false := by simp only [eqd]; exact eqds_len hlen
          rw [z] at k; exact k
      | non =>
        refine ifF rfl ⟨_, rfl, _, _, _, _, _, rfl, cv _, knd_ty hy, knd_list _, _, rfl, _, _, _, _, _, rfl, cv _, knd_ty hx, knd_list _, rfl, _, rfl, ifT rfl k⟩
      | bl b =>
        refine ifF rfl ⟨_, rfl, _, _, _, _, _, rfl, cv _, knd_ty hy, knd_list _, _, rfl, _, _, _, _, _, rfl, cv _, knd_ty hx, knd_list _, rfl, _, rfl, ifT rfl k⟩
      | int b =>
        refine ifF rfl ⟨_, rfl, _, _, _, _, _, rfl, cv _, knd_ty hy, knd_list _, _, rfl, _, _, _, _, _, rfl, cv _, knd_ty hx, knd_list _, rfl, _, rfl, ifT rfl k⟩
      | str b =>
        refine ifF rfl ⟨_, rfl, _, _, _, _, _, rfl, cv _, knd_ty hy, knd_list _, _, rfl, _, _, _, _, _, rfl, cv _, knd_ty hx, knd_list _, rfl, _, rfl, ifT rfl k⟩
      | tup b =>
        exact ifT rfl k
    | tup l =>
      refine ⟨_, rfl, _, _, _, _, _, rfl, cv _, knd_ty hy, knd_tuple _, _, rfl, iteT ?_⟩
      refine ⟨_, rfl, _, _, _, _, _, rfl, cv _, knd_ty hy, knd_tuple _, _, rfl, _, _, _, _, _, rfl, cv _, knd_ty hx, knd_tuple x, rfl, _, rfl, ?_⟩
      cases x with
      | tup l' =>
        refine ifF rfl ?_
        refine ⟨_, rfl, _, _, _, _, _, rfl, cv _, knd_ty hy, knd_list _, _, rfl, _, _, _, _, _, rfl, cv _, knd_ty hx, knd_list _, rfl, _, rfl, ifF rfl ?_⟩
        simp only [dR] at hx hy
        obtain ⟨pa, va, rfl, ha, ra⟩ := hx
        obtain ⟨pd, vd, rfl, hd, rd⟩ := hy
        have la := dRs_len ra
        have ld := dRs_len rd
        have hl : l.length ≤ 1000000 := ty.1
        refine ⟨_, rfl, _, l'.length, rfl, .inr ⟨_, SqT.of ha, la.symm⟩, _, rfl, _, l.length, rfl, .inr ⟨_, SqT.of hd, ld.symm⟩, rfl, _, rfl, ?_⟩
        by_cases hlen : l'.length = l.length
        · refine ifF (by rw [hlen]; simp) ?_
          refine ⟨_, rfl, _, l.length, rfl, .inr ⟨_, SqT.of hd, ld.symm⟩, _, rfl, by omega, by omega, ?_⟩
          refine for_range (n := l.length) (fun i σ' H' => ∃ v : Option V, σ' = [some (.ref pa), some (.ref pd), v] ∧ H' = H ∧ ∀ (j : Nat) (x y : Da), j < i → l'[j]? = some x → l[j]? = some y → eqd x y = true)
            ⟨none, rfl, rfl, fun j _ _ h => absurd h (Nat.not_lt_zero j)⟩ (fun i σ' H' hi h => ?_) (fun σ' H' h => ?_)
          · obtain ⟨v, rfl, rfl, hj⟩ := h
            obtain ⟨u1, e1, r1⟩ := dRs_at ra (List.getElem?_eq_getElem (by omega : i < l'.length))
            obtain ⟨u2, e2, r2⟩ := dRs_at rd (List.getElem?_eq_getElem hi)
            refine ⟨_, rfl, _, rfl, .inr (.inl ⟨_, _, _, _, rfl, rfl, SqT.of ha, at_of (j := i) (by omega) e1, ?_⟩)⟩
            refine ⟨_, rfl, _, rfl, .inr (.inl ⟨_, _, _, _, rfl, rfl, SqT.of hd, at_of (j := i) (by omega) e2, ?_⟩)⟩
            have dd : dep l[i] ≤ n := by
              have := deps_at (List.getElem?_eq_getElem hi)
              simp only [dep] at dy; omega
            refine ⟨_, _, _, _, rfl, r1, r2, dd, tames_at tx.2 (List.getElem?_eq_getElem (by omega)), tames_at ty.2 (List.getElem?_eq_getElem hi), _, rfl, ?_⟩
            cases e : eqd l'[i] l[i] with
            | false =>
              refine iteT ?_
              have z : eqd (.tup l') (.tup l) = false := by simp only [eqd]; exact eqds_false (List.getElem?_eq_getElem (by omega)) (List.getElem?_eq_getElem hi) e
              rw [z] at k; exact k
            | true =>
              refine iteF ⟨_, rfl, rfl, fun j x y hji h1 h2 => ?_⟩
              by_cases q : j = i
              · subst q; rw [List.getElem?_eq_getElem (by omega)] at h1 h2; rw [← Option.some.inj h1, ← Option.some.inj h2]; exact e
              · exact hj j x y (by omega) h1 h2
          · obtain ⟨v, rfl, rfl, hj⟩ := h
            have z : eqd (.tup l') (.tup l) = true := by
              simp only [eqd]
              exact eqds_true hlen fun i x y h1 h2 => hj i x y (by have := (List.getElem?_eq_some_iff.mp h2).1; omega) h1 h2
            rw [z] at k; exact k
        · refine ifT (by simp; omega) ?_
          have z : eqd (.tup l') (.tup l) = false := by simp only [eqd]; exact eqds_len hlen
          rw [z] at k; exact k
      | non =>
        exact ifT rfl k
      | bl b =>
        exact ifT rfl k
      | int b =>
        exact ifT rfl k
      | str b =>
        exact ifT rfl k
      | lst b =>
        exact ifT rfl k
theorem ok_same (D : Dt K mg) : ∀ n, Has P w K mg base (n + 1) (He.ga K "_law_same") ["actual", "due"] [] (spSame n)
  | 0 => by
    obtain ⟨fd, F⟩ := fd__law_same D
    have b := F.bindsN (ps := ["actual", "due"]) fun _ _ _ _ _ _ us hl => match us, hl with | [_, _], _ => rfl
    refine ⟨F.kp, fd, [], .nil, b, (ok_same0 D F).imp fun vs H Q E h => ?_⟩
    obtain ⟨x, y, dx, dy, h1, h2, h3, h4, _, _, k⟩ := h
    refine ⟨x, y, dx, dy, h1, h2, h3, ?_, ?_, k⟩ <;> cases dy <;> first | rfl | (simp only [dep] at h4; omega)
  | n + 1 => by
    obtain ⟨fd, F⟩ := fd__law_same D
    have b := F.bindsN (ps := ["actual", "due"]) fun _ _ _ _ _ _ us hl => match us, hl with | [_, _], _ => rfl
    refine ⟨F.kp, fd, [], .nil, b, (fnOr ((ok_same0 D F).mono (by omega)) (ok_sameS D n (ok_same D n) F)).imp fun vs H Q E h => ?_⟩
    obtain ⟨x, y, dx, dy, h1, h2, h3, h4, h5, h6, k⟩ := h
    by_cases q : isT dy "tuple" = true ∨ isT dy "list" = true
    · exact .inr ⟨x, y, dx, dy, h1, h2, h3, h4, h5, h6, q, k⟩
    · refine .inl ⟨x, y, dx, dy, h1, h2, h3, ?_, ?_, k⟩ <;> cases dy <;> first | rfl | exact absurd (by first | exact .inl rfl | exact .inr rfl) q
/-! ### the law's sums, differences, products -/
def iZ : Rp (Int × Int) := fun H v p => ∃ a, v = .ref a ∧ H a = some (.tup [.int p.1, .int p.2])
instance : Mono iZ := ⟨fun s ⟨a, e, h⟩ => ⟨a, e, s _ _ h⟩⟩
def Fz (p : Int × Int) : Prop := p.1.natAbs < 2 ^ 900 ∧ p.2.natAbs < 2 ^ 900 ∧ 0 < p.2
def spZ (g h : Int × Int → Int × Int → Int) : Sp := fun vs H Q _ => ∃ (I : Hp) (a b : V) (p q : Int × Int), vs = [a, b] ∧ Same I H ∧ iZ I a p ∧ iZ I b q ∧ Fz p ∧ Fz q ∧ Ret [] I H iQ (rt (g p q) (h p q)) Q
theorem Fz.mul12 {p q : Int × Int} (hp : Fz p) (hq : Fz q) : CMulW p.1 q.2 := wide_mul hp.1 hq.2.1 (by decide) (by decide) (by decide)
theorem Fz.mul11 {p q : Int × Int} (hp : Fz p) (hq : Fz q) : CMulW p.1 q.1 := wide_mul hp.1 hq.1 (by decide) (by decide) (by decide)
theorem Fz.mul22 {p q : Int × Int} (hp : Fz p) (hq : Fz q) : CMulW p.2 q.2 := wide_mul hp.2.1 hq.2.1 (by decide) (by decide) (by decide)
theorem Fz.pos {p q : Int × Int} (hp : Fz p) (hq : Fz q) : 0 < p.2 * q.2 := Int.mul_pos hp.2.2 hq.2.2
theorem Fz.lt {p q : Int × Int} (hp : Fz p) (hq : Fz q) : p.2 * q.2 < 2 ^ 1999 := by
  have h := fit_lt (k := 1800) hp.2.1 hq.2.1 (by decide)
  have h2 : (2 : Nat) ^ 1800 < 2 ^ 1999 := by decide
  have h3 := hp.pos hq
  omega
theorem sc_plus : FnScope ["one", "other"] ["one", "other"] (defScope s__law_plus) := ⟨rfl, rfl, rfl, by decide +kernel, rfl, by decide +kernel, by decide +kernel⟩
theorem ok_plus (D : Dt K mg) : Has P w K mg base 2 (He.ga K "_law_plus") ["one", "other"] [] (spZ (fun p q => p.1 * q.2 + q.1 * p.2) fun p q => p.2 * q.2) := by
  obtain ⟨fd, F⟩ := fd__law_plus D
  have H__law_less := ok_ls (P := P) (w := w) (base := base) D
  refine hasN F (F.bindsN fun _ _ _ _ _ _ us hl => match us, hl with | [_, _], _ => rfl) sc_plus (fun vs H Q E h => ?_) (fun cdv A outer s H vs Q E hr h => ?_)
  · obtain ⟨I, a, b, p, q, rfl, _⟩ := h; rfl
  · obtain ⟨I, va, vb, p, q, rfl, s0, ⟨a, rfl, ha⟩, ⟨b, rfl, hb⟩, fp, fq, k⟩ := h
    have ha' := s0 _ _ ha
    have hb' := s0 _ _ hb
    refine ⟨_, (pss_one (ps_ret (pe_callH H__law_less (hr.mono (by decide)) rfl (glo__law_less D) passL (pa_cons (pe_op op_add (pe_op op_mulW (pe_ix ix_tup (pv 0) pe_int (fun _ _ => rfl)) (pe_ix ix_tup (pv 1) pe_int (fun _ _ => rfl))) (pe_op op_mulW (pe_ix ix_tup (pv 1) pe_int (fun _ _ => rfl)) (pe_ix ix_tup (pv 0) pe_int (fun _ _ => rfl)))) (pa_cons (pe_op op_mulW (pe_ix ix_tup (pv 0) pe_int (fun _ _ => rfl)) (pe_ix ix_tup (pv 1) pe_int (fun _ _ => rfl))) pa_nil))))), ?_⟩
    refine ⟨_, rfl, _, _, _, _, rfl, rfl, SqT.of ha', at_of (j := 0) rfl rfl, _, rfl, _, _, _, _, rfl, rfl, SqT.of hb', at_of (j := 1) rfl rfl, _, _, rfl, rfl, fp.mul12 fq, _, rfl, _, _, _, _, rfl, rfl, SqT.of hb', at_of (j := 0) rfl rfl, _, rfl, _, _, _, _, rfl, rfl, SqT.of ha', at_of (j := 1) rfl rfl, _, _, rfl, rfl, fq.mul12 fp, _, _, rfl, rfl, ?_⟩
    exact ⟨_, rfl, _, _, _, _, rfl, rfl, SqT.of ha', at_of (j := 1) rfl rfl, _, rfl, _, _, _, _, rfl, rfl, SqT.of hb', at_of (j := 1) rfl rfl, _, _, rfl, rfl, fp.mul22 fq, I, _, _, rfl, s0, fp.pos fq, fp.lt fq, k⟩
theorem sc_minus : FnScope ["one", "other"] ["one", "other"] (defScope s__law_minus) := ⟨rfl, rfl, rfl, by decide +kernel, rfl, by decide +kernel, by decide +kernel⟩
theorem ok_minus (D : Dt K mg) : Has P w K mg base 2 (He.ga K "_law_minus") ["one", "other"] [] (spZ (fun p q => p.1 * q.2 - q.1 * p.2) fun p q => p.2 * q.2) := by
  obtain ⟨fd, F⟩ := fd__law_minus D
  have H__law_less := ok_ls (P := P) (w := w) (base := base) D
  refine hasN F (F.bindsN fun _ _ _ _ _ _ us hl => match us, hl with | [_, _], _ => rfl) sc_minus (fun vs H Q E h => ?_) (fun cdv A outer s H vs Q E hr h => ?_)
  · obtain ⟨I, a, b, p, q, rfl, _⟩ := h; rfl
  · obtain ⟨I, va, vb, p, q, rfl, s0, ⟨a, rfl, ha⟩, ⟨b, rfl, hb⟩, fp, fq, k⟩ := h
    have ha' := s0 _ _ ha
    have hb' := s0 _ _ hb
    refine ⟨_, (pss_one (ps_ret (pe_callH H__law_less (hr.mono (by decide)) rfl (glo__law_less D) passL (pa_cons (pe_op op_sub (pe_op op_mulW (pe_ix ix_tup (pv 0) pe_int (fun _ _ => rfl)) (pe_ix ix_tup (pv 1) pe_int (fun _ _ => rfl))) (pe_op op_mulW (pe_ix ix_tup (pv 1) pe_int (fun _ _ => rfl)) (pe_ix ix_tup (pv 0) pe_int (fun _ _ => rfl)))) (pa_cons (pe_op op_mulW (pe_ix ix_tup (pv 0) pe_int (fun _ _ => rfl)) (pe_ix ix_tup (pv 1) pe_int (fun _ _ => rfl))) pa_nil))))), ?_⟩
    refine ⟨_, rfl, _, _, _, _, rfl, rfl, SqT.of ha', at_of (j := 0) rfl rfl, _, rfl, _, _, _, _, rfl, rfl, SqT.of hb', at_of (j := 1) rfl rfl, _, _, rfl, rfl, fp.mul12 fq, _, rfl, _, _, _, _, rfl, rfl, SqT.of hb', at_of (j := 0) rfl rfl, _, rfl, _, _, _, _, rfl, rfl, SqT.of ha', at_of (j := 1) rfl rfl, _, _, rfl, rfl, fq.mul12 fp, _, _, rfl, rfl, ?_⟩
    exact ⟨_, rfl, _, _, _, _, rfl, rfl, SqT.of ha', at_of (j := 1) rfl rfl, _, rfl, _, _, _, _, rfl, rfl, SqT.of hb', at_of (j := 1) rfl rfl, _, _, rfl, rfl, fp.mul22 fq, I, _, _, rfl, s0, fp.pos fq, fp.lt fq, k⟩
theorem sc_times : FnScope ["one", "other"] ["one", "other"] (defScope s__law_times) := ⟨rfl, rfl, rfl, by decide +kernel, rfl, by decide +kernel, by decide +kernel⟩
theorem ok_times (D : Dt K mg) : Has P w K mg base 2 (He.ga K "_law_times") ["one", "other"] [] (spZ (fun p q => p.1 * q.1) fun p q => p.2 * q.2) := by
  obtain ⟨fd, F⟩ := fd__law_times D
  have H__law_less := ok_ls (P := P) (w := w) (base := base) D
  refine hasN F (F.bindsN fun _ _ _ _ _ _ us hl => match us, hl with | [_, _], _ => rfl) sc_times (fun vs H Q E h => ?_) (fun cdv A outer s H vs Q E hr h => ?_)
  · obtain ⟨I, a, b, p, q, rfl, _⟩ := h; rfl
  · obtain ⟨I, va, vb, p, q, rfl, s0, ⟨a, rfl, ha⟩, ⟨b, rfl, hb⟩, fp, fq, k⟩ := h
    have ha' := s0 _ _ ha
    have hb' := s0 _ _ hb
    refine ⟨_, (pss_one (ps_ret (pe_callH H__law_less (hr.mono (by decide)) rfl (glo__law_less D) passL (pa_cons (pe_op op_mulW (pe_ix ix_tup (pv 0) pe_int (fun _ _ => rfl)) (pe_ix ix_tup (pv 1) pe_int (fun _ _ => rfl))) (pa_cons (pe_op op_mulW (pe_ix ix_tup (pv 0) pe_int (fun _ _ => rfl)) (pe_ix ix_tup (pv 1) pe_int (fun _ _ => rfl))) pa_nil))))), ?_⟩
    exact ⟨_, rfl, _, _, _, _, rfl, rfl, SqT.of ha', at_of (j := 0) rfl rfl, _, rfl, _, _, _, _, rfl, rfl, SqT.of hb', at_of (j := 0) rfl rfl, _, _, rfl, rfl, fp.mul11 fq, _, rfl, _, _, _, _, rfl, rfl, SqT.of ha', at_of (j := 1) rfl rfl, _, rfl, _, _, _, _, rfl, rfl, SqT.of hb', at_of (j := 1) rfl rfl, _, _, rfl, rfl, fp.mul22 fq, I, _, _, rfl, s0, fp.pos fq, fp.lt fq, k⟩
end
end K

set_option Elab.async false
set_option linter.all false
set_option maxRecDepth 100000
set_option maxHeartbeats 4000000
/-! Walks over things that stay; the lists that comprehensions make of them. -/
namespace Tk
open PySem PySem.Spec PyProof.Rows L2
/-- a thing walked in n turns, at turn i the value xs i -/
structure Wk (J : It) (n : Nat) (xs : Nat → V) (I : Hp) : Prop where
  go : ∀ i H, Same I H → i < n → J.go i H
  stop : ∀ H, Same I H → J.stop n H
  yld : ∀ i H x H', Same I H → i < n → J.yld i H x H' → x = xs i ∧ H' = H
def gv (vs : List V) (i : Nat) : V := vs.getD i .non
theorem gv_at {vs : List V} {i : Nat} (h : i < vs.length) : vs[i]? = some (gv vs i) := by
  unfold gv; rw [List.getD_eq_getElem?_getD, List.getElem?_eq_getElem h]; rfl
theorem gv_of {vs : List V} {i : Nat} {v : V} (h : vs[i]? = some v) : gv vs i = v := by
  unfold gv; rw [List.getD_eq_getElem?_getD, h]; rfl
section
variable {K : PySem.W.Frag} {I : Hp} {a : Addr} {vs : List V}
theorem wk_list (h : I a = some (.lst vs)) : Wk (Itl K a) vs.length (gv vs) I :=
  ⟨fun i H s hi => ⟨vs, _, SqL.of (s _ _ h), gv_at hi⟩, fun H s => ⟨vs, SqL.of (s _ _ h), Nat.le_refl _⟩,
    fun i H x H' s hi y => ⟨(gv_of (y.2 vs (SqL.of (s _ _ h)))).symm, y.1⟩⟩
theorem wk_tup (h : I a = some (.tup vs)) : Wk (Itt K a) vs.length (gv vs) I :=
  ⟨fun i H s hi => ⟨vs, _, SqT.of (s _ _ h), gv_at hi⟩, fun H s => ⟨vs, SqT.of (s _ _ h), Nat.le_refl _⟩,
    fun i H x H' s hi y => ⟨(gv_of (y.2 vs (SqT.of (s _ _ h)))).symm, y.1⟩⟩
theorem wk_range {lo : Int} {n : Nat} : Wk (Itr lo n) n (fun i => .int (lo + i)) I :=
  ⟨fun i H s hi => hi, fun H s => Nat.le_refl _, fun i H x H' s hi y => ⟨y.2, y.1⟩⟩
/-- a list or a tuple -/
def LtR (K : PySem.W.Frag) (x : V) (H1 : Hp) (R : It → Hp → Prop) : Prop := ∃ a, x = .ref a ∧ (((∃ xs, SqL K H1 a xs) ∧ R (Itl K a) H1) ∨ ((∃ xs, SqT K H1 a xs) ∧ R (Itt K a) H1))
def iLT (K : PySem.W.Frag) (tl : TE) : TI := fun σ H R => tl σ H fun x H1 => LtR K x H1 R
theorem pi_lt {X : Cx} {tg l : Expr} {tl : TE} (hl : PE X l tl) : PI X tg l (iLT X.K tl) := by
  refine ⟨fun pins s σ H R Iv h => ?_⟩
  refine thn (hl.run pins s σ H _ Iv h) fun v s1 q => ?_
  obtain ⟨x, H1, I1, r1, b, rfl, q⟩ := q
  cases r1
  rcases q with ⟨⟨xs, hq⟩, q⟩ | ⟨⟨xs, hq⟩, q⟩
  · have z : ∀ (te : TE) (v : V), True := fun _ _ => trivial
    obtain ⟨its, rv, p, hz⟩ := I1.list hq
    refine wpAny_pyIter_list p.isList ?_
    have ne : ∀ b' o, s1.heap.get? b' = some o → (s1.heap.push { cls := .type "list_iterator", data := .fields #[.ref b, .int 0 0] }).get? b' = some o := fun b' o e => Heap.get?_push_of_some _ e
    refine ⟨s1.heap.objs.size, [s1.heap.objs.size], _, _, H1, rfl, I1.kept (t' := s1.toks) ne, turn_list b s1.heap.objs.size, ⟨_, Heap.get?_push_size _ rfl, rfl, rfl⟩, fun b' hb => ?_, q⟩
    have e : b' = s1.heap.objs.size := by simpa using hb
    subst e
    exact I1.fpOk (Nat.le_refl _) (I1.hok.fresh (Nat.le_refl _))
  · obtain ⟨its, rv, p, hz⟩ := I1.tuple hq
    refine wpAny_pyIter_tuple p ?_
    have ne : ∀ b' o, s1.heap.get? b' = some o → (s1.heap.push { cls := .type "tuple_iterator", data := .fields #[.ref b, .int 0 0] }).get? b' = some o := fun b' o e => Heap.get?_push_of_some _ e
    refine ⟨s1.heap.objs.size, [s1.heap.objs.size], _, _, H1, rfl, I1.kept (t' := s1.toks) ne, turn_tuple b s1.heap.objs.size, ⟨_, Heap.get?_push_size _ rfl, rfl, rfl⟩, fun b' hb => ?_, q⟩
    have e : b' = s1.heap.objs.size := by simpa using hb
    subst e
    exact I1.fpOk (Nat.le_refl _) (I1.hok.fresh (Nat.le_refl _))
end
theorem lt_of {K : PySem.W.Frag} {I H : Hp} {a : Addr} {vs : List V} {R : It → Hp → Prop} (h : I a = some (.lst vs) ∨ I a = some (.tup vs)) (s : Same I H) (k : ∀ J, Wk J vs.length (gv vs) I → R J H) : LtR K (.ref a) H R :=
  ⟨a, rfl, h.elim (fun h => .inl ⟨⟨vs, SqL.of (s _ _ h)⟩, k _ (wk_list h)⟩) fun h => .inr ⟨⟨vs, SqT.of (s _ _ h)⟩, k _ (wk_tup h)⟩⟩
/-- a loop over such a thing -/
theorem for_wk {J : It} {n : Nat} {xs : Nat → V} {I : Hp} {g : TG} {tb : TS} {D : Ends} {σ : L2.St} {H : Hp} (W : Wk J n xs I) (Post : L2.St → Hp → Prop) (Pv : Nat → L2.St → Hp → Prop) (hS : ∀ i σ H, Pv i σ H → Same I H) (h0 : Pv 0 σ H)
    (hs : ∀ nx : L2.St → Hp → Prop, (∀ σ' H', Post σ' H' → nx σ' H') → ∀ i σ H, i < n → Pv i σ H → g (xs i) σ H fun σ2 H2 => tb { D with nx := Pv (i + 1), ct := Pv (i + 1), bk := nx } σ2 H2)
    (hd : ∀ σ H, Pv n σ H → Post σ H) (fin : ∀ σ' H', Post σ' H' → D.nx σ' H') :
    ∃ Wz : Nat → Nat → L2.St → Hp → Prop, (∃ m, Wz 0 m σ H) ∧ ∀ i m σ H, Wz i m σ H →
      (J.stop i H ∧ D.nx σ H) ∨ (J.go i H ∧ ∃ N : L2.St → Hp → Prop, (∀ σ' H', N σ' H' → ∃ m', m' < m ∧ Wz (i + 1) m' σ' H') ∧ ∀ x H', J.yld i H x H' → g x σ H' fun σ2 H2 => tb { D with nx := N, ct := N, bk := D.nx } σ2 H2) := by
  refine ⟨fun i m σ H => m = n - i ∧ i ≤ n ∧ Pv i σ H, ⟨n, rfl, Nat.zero_le _, h0⟩, ?_⟩
  rintro i m σ H ⟨rfl, hi, p⟩
  have s := hS i σ H p
  by_cases hlt : i < n
  · refine .inr ⟨W.go i H s hlt, Pv (i + 1), fun σ' H' p' => ⟨n - (i + 1), by omega, rfl, hlt, p'⟩, fun x H' y => ?_⟩
    obtain ⟨rfl, rfl⟩ := W.yld i H x H' s hlt y
    exact hs D.nx fin i σ _ hlt p
  · have e : i = n := by omega
    subst e
    exact .inl ⟨W.stop H s, fin σ H (hd σ H p)⟩
/-- the rest of a comprehension's reading, behind its iterator -/
abbrev LcR (J : It) (g : TG) (tt : TT) (te : TE) (vs : List Nat) (σ : L2.St) (H1 : Hp) (D : Addr) (Qd : Hp → Prop) : Prop :=
  ∃ W : Nat → Nat → Hp → Prop, (∃ m, W 0 m (upd H1 D (.lst []))) ∧ ∀ i m H, W i m H →
      (J.stop i H ∧ Qd H) ∨ (J.go i H ∧ ∃ Nx : Hp → Prop, (∀ H', Nx H' → ∃ m', m' < m ∧ W (i + 1) m' H') ∧ ∀ x H', J.yld i H x H' → g x (wipe σ vs) H' fun σ2 H2 => wipe σ2 vs = wipe σ vs ∧ tt σ2 H2 fun b H3 =>
        if b = true then te σ2 H3 fun y H4 => ∃ acc, H4 D = some (.lst acc) ∧ acc.length < sizeLine ∧ Nx (upd H4 D (.lst (acc ++ [y]))) else Nx H3)
theorem All2.snoc {α : Type} {R : V → α → Prop} {vs : List V} {xs : List α} {v : V} {x : α} (h : All2 R vs xs) (r : R v x) : All2 R (vs ++ [v]) (xs ++ [x]) := h.append (.cons r .nil)
/-- what a heap's own rule bears: the list under way at D, and that it stays from then on -/
structure Stb (Jv : Hp → Hp → Prop) (D : Addr) : Prop where
  chg : ∀ {I H : Hp} {l : List V}, I D = none → Jv I H → Jv I (upd H D (.lst l))
  frz : ∀ {I H : Hp} {o : HO}, I D = none → Jv I H → Jv (upd I D o) H
theorem stb_true {D : Addr} : Stb (fun _ _ => True) D := ⟨fun _ _ => trivial, fun _ _ => trivial⟩
theorem Gr.drop {m : Addr} {ms : List Addr} {I H I' H' : Hp} (g : Gr (m :: ms) I H I' H') (h : H m = none) : Gr ms I H I' H' :=
  ⟨g.ii, g.ih, fun a o n e => g.hh a o (fun z => (List.mem_cons.mp z).elim (fun q => by rw [q, h] at e; cases e) n) e, g.th, g.nw⟩
/-- a comprehension without tests over such a thing: one element a turn, what it is told by Rl -/
theorem lc_wk {β : Type} {J : It} {n : Nat} {xs : Nat → V} {I H1 : Hp} {g : TG} {tt : TT} {te : TE} {vs : List Nat} {σ : L2.St} {D : Addr} {Qd : Hp → Prop} (ms : List Addr) (Sy : Rp β) [Mono Sy] (Rl : Nat → β → Prop) (Jv : Hp → Hp → Prop)
    (W : Wk J n xs I) (s0 : Same I H1) (hD : H1 D = none) (hm : D ∉ ms) (hn : n < sizeLine) (st : Stb Jv D) (j0 : Jv I H1)
    (step : ∀ (i : Nat) (I' H' : Hp) (Nx : Hp → Prop) (Qk : VK), i < n → Same I I' → Same I' H' → Jv I' H' → (∀ I'' H'' y z, Gr ms I' H' I'' H'' → Jv I'' H'' → Sy I'' y z → Rl i z → Qk y H'') →
      g (xs i) (wipe σ vs) H' fun σ2 H2 => wipe σ2 vs = wipe σ vs ∧ tt σ2 H2 fun b H3 => if b = true then te σ2 H3 Qk else Nx H3)
    (hd : ∀ I' H' ys zs, Gr ms I H1 I' H' → I' D = some (.lst ys) → All2 (Sy I') ys zs → zs.length = n → (∀ i z, zs[i]? = some z → Rl i z) → Jv I' H' → Qd H') :
    LcR J g tt te vs σ H1 D Qd := by
  refine ⟨fun i m H => m = n - i ∧ i ≤ n ∧ ∃ I' ys zs, Gr ms I H1 I' H ∧ I' D = none ∧ H D = some (.lst ys) ∧ All2 (Sy I') ys zs ∧ zs.length = i ∧ (∀ i z, zs[i]? = some z → Rl i z) ∧ Jv I' H,
    ⟨n, rfl, Nat.zero_le _, I, [], [], (Gr.tmp s0 hD), s0.free hD, upd_same, .nil, rfl, fun i z h => by simp at h, st.chg (s0.free hD) j0⟩, ?_⟩
  rintro i m H ⟨rfl, hi, I', ys, zs, gr, hI, hH, a2, hl, rl, jv⟩
  have s : Same I H := gr.ii.trans gr.ih
  by_cases hlt : i < n
  · refine .inr ⟨W.go i H s hlt, fun H' => i + 1 ≤ n ∧ ∃ I' ys zs, Gr ms I H1 I' H' ∧ I' D = none ∧ H' D = some (.lst ys) ∧ All2 (Sy I') ys zs ∧ zs.length = i + 1 ∧ (∀ i z, zs[i]? = some z → Rl i z) ∧ Jv I' H',
      fun H' p => ⟨n - (i + 1), by omega, rfl, p.1, p.2⟩, fun x H' y => ?_⟩
    obtain ⟨rfl, rfl⟩ := W.yld i H x H' s hlt y
    refine step i I' H' _ _ hlt gr.ii gr.ih jv fun I'' H'' y z g2 jv2 sy r => ?_
    have hD2 : H'' D = some (.lst ys) := g2.at hH hm
    have hI2 : I'' D = none := g2.out hI hH
    refine ⟨ys, hD2, by rw [a2.len, hl]; omega, hlt, I'', ys ++ [y], zs ++ [z], ?_, hI2, upd_same, (a2.mono fun _ _ => up g2.ii).snoc sy, by rw [List.length_append, hl]; rfl, fun j u hu => ?_, st.chg hI2 jv2⟩
    · have g3 := gr.trans g2
      exact ((g3.mono (ns := D :: ms) fun _ z => List.mem_cons_of_mem _ z).trans (Gr.mut g3.ih hI2 List.mem_cons_self)).drop hD
    · by_cases hj : j < zs.length
      · rw [List.getElem?_append_left hj] at hu; exact rl j u hu
      · rw [List.getElem?_append_right (by omega)] at hu
        have : j - zs.length = 0 := by
          rcases Nat.eq_zero_or_pos (j - zs.length) with h | h
          · exact h
          · rw [List.getElem?_eq_none (by simp; omega)] at hu; cases hu
        rw [this] at hu
        simp at hu
        subst hu
        have : j = i := by omega
        rw [this]; exact r
  · have e : i = n := by omega
    subst e
    refine .inl ⟨W.stop H s, hd (upd I' D (.lst ys)) H ys zs (gr.mono (fun _ z => List.mem_cons_of_mem _ z) |>.frz s0 hD hH) upd_same (a2.mono fun _ _ => up (sNew hI)) hl rl (st.frz hI jv)⟩
end Tk

set_option Elab.async false
set_option linter.all false
set_option maxRecDepth 100000
set_option maxHeartbeats 4000000
/-! zip of a list or a tuple with a tuple. -/
namespace Tk
open PySem PySem.Spec PyProof.Rows L2
def SqB (K : PySem.W.Frag) (l : Bool) (H : Hp) (a : Addr) (xs : List V) : Prop := match l with
  | true => SqL K H a xs
  | false => SqT K H a xs
def ItB (l : Bool) (h : Heap) (i a : Addr) (k : Nat) : Prop := match l with
  | true => h.IsListIter i a k
  | false => h.IsTupleIter i a k
def IsB (l : Bool) (h : Heap) (a : Addr) (its : Array Value) : Prop := match l with
  | true => h.IsList a its
  | false => h.IsTuple a its
theorem ItB.fld {l : Bool} {h : Heap} {i a : Addr} {k : Nat} (t : ItB l h i a k) : ∃ o, h.get? i = some o ∧ ∀ v, o.data ≠ .cell v := by
  cases l with
  | true => obtain ⟨o, e, _, d⟩ := t; exact ⟨o, e, fun v q => by rw [d] at q; cases q⟩
  | false => obtain ⟨o, e, _, d⟩ := t; exact ⟨o, e, fun v q => by rw [d] at q; cases q⟩
theorem ItB.keep {l : Bool} {h h' : Heap} {i a : Addr} {k : Nat} (t : ItB l h i a k) (e : ∀ o, h.get? i = some o → h'.get? i = some o) : ItB l h' i a k := by
  cases l with
  | true => exact Heap.IsListIter.at t e
  | false => exact Heap.IsTupleIter.at t e
theorem drawsB {prog : Program} {w : World} {A : Around} (hh : A.handled = none) (l : Bool) (it a : Addr) (hne : a ≠ it) (its : Array Value) :
    Draws prog w A it [it, a] its.size (fun i v => its[i]? = some v) (fun i h => ItB l h it a i ∧ IsB l h a its) := by
  cases l with
  | true => exact Draws.list hh it a hne its
  | false => exact Draws.tuple hh it a hne its
section
variable {X : Cx} {pins : List (Addr × Obj)} {σ : L2.St} {H : Hp} {s : Shared}
theorem sqB_at {l : Bool} {a : Addr} {xs : List V} (I : Inv X pins σ H s) (h : SqB X.K l H a xs) : ∃ its : List Value, Vals xs its ∧ IsB l s.heap a its.toArray ∧ a < s.heap.objs.size := by
  cases l with
  | true => obtain ⟨its, r, p, _⟩ := I.list h; exact ⟨its, r, p.isList, p.lt⟩
  | false =>
    obtain ⟨its, r, p, _⟩ := I.tuple h
    obtain ⟨o, e, _⟩ := id p
    exact ⟨its, r, p, Heap.lt_size e⟩
theorem sqB_inj {l : Bool} {a : Addr} {xs ys : List V} (I : Inv X pins σ H s) (h : SqB X.K l H a xs) (k : SqB X.K l H a ys) : xs = ys := by
  cases l with
  | true => exact I.list_inj h k
  | false => exact I.tuple_inj h k
end
/-- new pairs of what stands at a and at b -/
def ItzM (K : PySem.W.Frag) (l m : Bool) (a b : Addr) : It :=
  ⟨fun i H => ∃ xs ys x y, (SqB K l H a xs ∧ xs[i]? = some x) ∧ SqB K m H b ys ∧ ys[i]? = some y,
    fun i H v H' => ∃ t x y, v = .ref t ∧ H t = none ∧ H' = upd H t (.tup [x, y]) ∧ (∀ xs, SqB K l H a xs → xs[i]? = some x) ∧ ∀ ys, SqB K m H b ys → ys[i]? = some y,
    fun i H => ∃ xs ys, SqB K l H a xs ∧ SqB K m H b ys ∧ i ≤ xs.length ∧ i ≤ ys.length ∧ (i = xs.length ∨ i = ys.length)⟩
/-- where the five objects of a zip lie -/
structure Zs (z TI TO i1 i2 a b : Addr) : Prop where
  sep : ZipSep2 z TI TO i1 i2 [i1, a] [i2, b]
  a1 : a ≠ i1
  b2 : b ≠ i2
theorem two_not {c x y : Addr} (h1 : c ≠ x) (h2 : c ≠ y) : c ∉ [x, y] := fun h => by
  rcases List.mem_cons.mp h with e | h
  · exact h1 e
  · rcases List.mem_cons.mp h with e | h
    · exact h2 e
    · exact nomatch h
theorem zs_new {n a b : Addr} (ha : a < n) (hb : b < n) : Zs (n + 4) (n + 2) (n + 3) n (n + 1) a b := by
  have D := PySem.W.ktu_apart n a b ha hb
  exact ⟨⟨D.TIz, D.TOz, D.TITO, D.TIi1, List.mem_cons_self, two_not D.i1z.symm D.l1z.symm, two_not D.TOi1 D.l1TO.symm, D.TIi2, List.mem_cons_self, two_not D.i2z.symm D.l2z.symm, two_not D.TOi2 D.l2TO.symm, two_not D.i12 D.l2i1.symm, two_not D.i12.symm D.l1i2.symm⟩, D.l1i1, D.l2i2⟩
theorem turn_zipM {P : Program} {w : World} {K : PySem.W.Frag} {elts : List Expr} {kk : Nat} {tpos : Pos} {l m : Bool} {a b z TI TO i1 i2 : Addr} (Z : Zs z TI TO i1 i2 a b) :
    Turn P w K (.Tuple elts kk tpos) (ItzM K l m a b) [z, TI, TO, i1, i2] z (fun i h => (IsZip h z TI TO .none ∧ IsPair h TI (.ref i1) (.ref i2) ∧ ∃ x y, IsPair h TO x y) ∧ ItB l h i1 a i ∧ ItB m h i2 b i) where
  mem := List.mem_cons_self
  obj := fun i h ⟨⟨hz, hI, x, y, hO⟩, h1, h2⟩ c hc => by
    simp only [List.mem_cons, List.not_mem_nil, or_false] at hc
    rcases hc with rfl | rfl | rfl | rfl | rfl
    · exact ⟨_, hz, nofun⟩
    · exact ⟨_, hI, nofun⟩
    · exact ⟨_, hO, nofun⟩
    · exact h1.fld
    · exact h2.fld
  keep := fun i h h' ⟨⟨hz, hI, x, y, hO⟩, h1, h2⟩ k =>
    ⟨⟨k _ (by simp) _ hz, k _ (by simp) _ hI, x, y, k _ (by simp) _ hO⟩, h1.keep (k _ (by simp)), h2.keep (k _ (by simp))⟩
  item := by
    rintro X rfl rfl rfl hc i pins s σ H E Iv hf ⟨⟨hz, hI, x0, y0, hO⟩, h1, h2⟩ ⟨xs, ys, x, y, ⟨qx, hx⟩, qy, hy⟩
    obtain ⟨its, rv, p1, _⟩ := sqB_at Iv qx
    obtain ⟨jts, rw', p2, _⟩ := sqB_at Iv qy
    obtain ⟨u, hu, ru⟩ := rv.get hx
    obtain ⟨u2, hu2, ru2⟩ := rw'.get hy
    have hh : X.A.in1.handled = none := Iv.ok.hd hc
    have lz := Heap.lt_size hz
    have b1 : i < its.toArray.size := by
      have := (List.getElem?_eq_some_iff.mp hu).1; simpa using this
    have b2 : i < jts.toArray.size := by
      have := (List.getElem?_eq_some_iff.mp hu2).1; simpa using this
    refine wpAny_pyNext_zipD2_item Z.sep (drawsB (A := X.A.in1) hh l i1 a Z.a1 its.toArray) (drawsB (A := X.A.in1) hh m i2 b Z.b2 jts.toArray) hz hI hO ⟨h1, p1⟩ ⟨h2, p2⟩ b1 b2 fun v1 v2 h' tk e1 e2 z' O' d1 d2 hT hs hk => ?_
    have e1' : u = v1 := by
      have : its.toArray[i]? = some u := by simpa using hu
      rw [this] at e1; exact Option.some.inj e1
    have e2' : u2 = v2 := by
      have : jts.toArray[i]? = some u2 := by simpa using hu2
      rw [this] at e2; exact Option.some.inj e2
    subst e1' e2'
    refine ⟨_, rfl, wpAny_letOwnedTupleGo_zip (s := { s with heap := h', toks := tk }) z' fun h'' z'' sb => ?_⟩
    have hT2 : h''.get? s.heap.objs.size = some { cls := .type "tuple", data := .seq #[u, u2] } := (sb.2 _ (Nat.ne_of_gt lz)).trans hT
    have hn : H s.heap.objs.size = none := Iv.hok.fresh (Nat.le_refl _)
    have kp : ∀ c o, c ∉ [z, TI, TO, i1, i2] → s.heap.get? c = some o → h''.get? c = some o := fun c o hcn q => by
      simp only [List.mem_cons, List.not_mem_nil, or_false, not_or] at hcn
      exact (sb.2 c hcn.1).trans (hk c o hcn.1 hcn.2.2.1 hcn.2.2.2.1 hcn.2.2.2.2 q)
    have I1 : Inv X pins σ (upd H s.heap.objs.size (.tup [x, y])) { s with heap := h'', toks := tk } :=
      Iv.turnedNew (t' := tk) (ch := [z, TI, TO, i1, i2]) kp hf (Nat.le_refl _) ⟨by show 2 ≤ sizeLine; decide, [u, u2], .cons ru (.cons ru2 .nil), ⟨_, hT2, rfl, _, rfl⟩⟩
    have S := Z.sep
    refine ⟨.ref s.heap.objs.size, _, I1, rfl, ⟨_, x, y, rfl, hn, rfl, fun l hl => by rw [sqB_inj Iv hl qx]; exact hx, fun l hl => by rw [sqB_inj Iv hl qy]; exact hy⟩,
      ⟨⟨z'', (sb.2 _ S.TIz).trans (hk _ _ S.TIz S.TITO S.TIi1 S.TIi2 hI), u, u2, (sb.2 _ S.TOz).trans O'⟩, d1.1.keep fun o q => (sb.2 _ S.zi1.symm).trans q, d2.1.keep fun o q => (sb.2 _ S.zi2.symm).trans q⟩, fun c hcm => ?_⟩
    have hlt : c ≠ s.heap.objs.size := by
      simp only [List.mem_cons, List.not_mem_nil, or_false] at hcm
      rcases hcm with rfl | rfl | rfl | rfl | rfl
      · exact Nat.ne_of_lt lz
      · exact Nat.ne_of_lt (Heap.lt_size hI)
      · exact Nat.ne_of_lt (Heap.lt_size hO)
      · obtain ⟨_, e, _⟩ := h1.fld; exact Nat.ne_of_lt (Heap.lt_size e)
      · obtain ⟨_, e, _⟩ := h2.fld; exact Nat.ne_of_lt (Heap.lt_size e)
    rw [upd_ne hlt]
    exact (hf c hcm).1
  done := by
    rintro X rfl rfl rfl hc i pins s σ H E Iv hf ⟨⟨hz, hI, x0, y0, hO⟩, h1, h2⟩ ⟨xs, ys, qx, qy, l1, l2, hend⟩
    obtain ⟨its, rv, p1, _⟩ := sqB_at Iv qx
    obtain ⟨jts, rw', p2, _⟩ := sqB_at Iv qy
    have hh : X.A.in1.handled = none := Iv.ok.hd hc
    have n1 := rv.length
    have n2 := rw'.length
    refine wpAny_pyNext_zipD2_end Z.sep (drawsB (A := X.A.in1) hh l i1 a Z.a1 its.toArray) (drawsB (A := X.A.in1) hh m i2 b Z.b2 jts.toArray) hz hI hO ⟨h1, p1⟩ ⟨h2, p2⟩ (by simp; omega) (by simp; omega)
      (by simp only [List.size_toArray]; omega) fun h' tk hk => ⟨rfl, Iv.turnedL (t' := tk) (ch := [z, TI, TO, i1, i2]) (fun c o hcn q => ?_) hf⟩
    simp only [List.mem_cons, List.not_mem_nil, or_false, not_or] at hcn
    exact hk c o hcn.1 hcn.2.2.1 hcn.2.2.2.1 hcn.2.2.2.2 q
  self := fun A i s Q E st h => wpAny_pyIter_zip st.1.1 h
def iZipM (K : PySem.W.Frag) (ta : TA) : TI := fun σ H R => ta σ H fun vs H1 => ∃ (l m : Bool) (a b : Addr) (xs ys : List V), vs = [.ref a, .ref b] ∧ SqB K l H1 a xs ∧ SqB K m H1 b ys ∧ R (ItzM K l m a b) H1
theorem beginsB (l : Bool) (a : Addr) (its : Array Value) : ∃ o : Obj, Begins (.ref a) o (fun h => IsB l h a its) ∧ ∀ h i, h.get? i = some o → ItB l h i a 0 := by
  cases l with
  | true => exact ⟨_, begins_list a its, fun h i e => ⟨_, e, rfl, rfl⟩⟩
  | false => exact ⟨_, begins_tuple a its, fun h i e => ⟨_, e, rfl, rfl⟩⟩
theorem pi_zipM {X : Cx} {e e2 : Expr} {ta : TA} {p pos tpos : Pos} {elts : List Expr} {kk : Nat} (hg : Gl X "zip") (hm : X.mg "zip" = none) (ha : PA X [e, e2] ta)
    (hs : starEach [e, e2] X.env = (false, eval e X.env) :: starEach [e2] X.env := by rfl) (hpl : (backTo pos (starEach [e2] X.env)).any (·.1) = false := by rfl) :
    PI X (.Tuple elts kk tpos) (.Call (.Name "zip" p) [e, e2] [] pos) (iZipM X.K ta) := by
  refine ⟨fun pins s σ H R Iv h => ?_⟩
  refine Call_ (ld_blt Iv hg hm PyProof.Rows.boot_zip (PyProof.Rows.callWith_type1 (thn (ha.run pos pins s σ H _ Iv h) fun us s1 q1 => ?_) hs hpl))
  obtain ⟨vs, H1, I1, r1, l, m, a, b, xs, ys, rfl, qx, qy, q⟩ := q1
  cases r1 with
  | cons ra rr =>
    cases rr with
    | cons rb rr =>
      cases rr
      cases ra
      cases rb
      obtain ⟨its, _, p1, la⟩ := sqB_at I1 qx
      obtain ⟨jts, _, p2, lb⟩ := sqB_at I1 qy
      obtain ⟨o1, B1, k1⟩ := beginsB l a its.toArray
      obtain ⟨o2, B2, k2⟩ := beginsB m b jts.toArray
      refine zip_begins2 B1 B2 p1 p2 fun h' hz hI hO g1 g2 hsz hk => wpAny_pyIter_zip hz ?_
      refine ⟨_, _, _, _, H1, rfl, I1.kept (t' := s1.toks) hk, turn_zipM (zs_new la lb), ⟨⟨hz, hI, _, _, hO⟩, k1 _ _ g1, k2 _ _ g2⟩, fun c hcm => ?_, q⟩
      have hle : s1.heap.objs.size ≤ c := by
        simp only [List.mem_cons, List.not_mem_nil, or_false] at hcm
        rcases hcm with rfl | rfl | rfl | rfl | rfl
        · exact Nat.le_add_right _ _
        · exact Nat.le_add_right _ _
        · exact Nat.le_add_right _ _
        · exact Nat.le_refl _
        · exact Nat.le_add_right _ _
      exact I1.fpOk hle (I1.hok.fresh hle)
end Tk

set_option Elab.async false
set_option linter.all false
set_option maxRecDepth 100000
set_option maxHeartbeats 4000000
/-! Rules that name K itself (in a comprehension's block the context's K is no name that the reading could keep). -/
namespace Tk
open PySem PySem.Spec PyProof.Rows L2
structure rTup (K : PySem.W.Frag) (xs : List V) (H : Hp) (Q : VK) : Prop where
  h : ∃ p ys, xs = [.ref p] ∧ ((SqL K H p ys ∧ ∀ l, H l = none → Q (.ref l) (upd H l (.tup ys))) ∨ (SqT K H p ys ∧ Q (.ref p) H))
section
variable {X : Cx} (K : PySem.W.Frag) {e l : Expr} {ta : TE} {f : Str} {pos p tpos : Pos} {tg : Expr} {tl : TE}
theorem pe_fldK (he : PE X e ta) (hb : attributeBase e f X.env (eval e X.env) = eval e X.env) (hK : X.K = K := by rfl) : PE X (.Attribute e f pos) (tFld K ta f) := hK ▸ pe_fld he hb
theorem ix_listK (hK : X.K = K := by rfl) : IxR X (rIxL K) := hK ▸ ix_list
theorem ix_tupK (hK : X.K = K := by rfl) : IxR X (rIxT K) := hK ▸ ix_tup
theorem sl_listK (hK : X.K = K := by rfl) : SlR X (rSlL K) := hK ▸ sl_list
theorem call_lenK (hK : X.K = K := by rfl) : CallR X (.builtin "len") (fun xs H Q => ∃ x n, xs = [x] ∧ LenV K x H n ∧ Q (.int n) H) := hK ▸ call_len
theorem call_list_ofK (hK : X.K = K := by rfl) : CallR X (.type "list") (fun xs H Q => ∃ p ys, xs = [.ref p] ∧ (SqL K H p ys ∨ SqT K H p ys) ∧ ∀ l, H l = none → Q (.ref l) (upd H l (.lst ys))) := hK ▸ call_list_of
theorem call_tuple_ofK (hK : X.K = K := by rfl) : CallR X (.type "tuple") (rTup K) := by
  subst hK
  intro pins s σ H vs us Q I r h
  exact call_tuple_of pins s σ H vs us Q I r h.h
theorem op_catTK (hK : X.K = K := by rfl) : OpR X (binaryOp .Add) (rCatT K) := hK ▸ op_catT
theorem op_neDK (hu : X.A.units + 64 < cLine) (hK : X.K = K := by rfl) : OpR X (compareOp .NotEq) (rNeD K) := hK ▸ op_neD hu
theorem op_eqDK (hu : X.A.units + 64 < cLine) (hK : X.K = K := by rfl) : OpR X (compareOp .Eq) (rEqD K) := hK ▸ op_eqD hu
theorem pg_tupK {es : List Expr} {k : Nat} {t : TGs} {n : Nat} (hc : X.calm = true) (h : PGs X es t) (hK : X.K = K := by rfl)
    (hn : (assignEach es X.env).length = n := by rfl) (hst : (assignEach es X.env).findIdx? (·.1) = none := by rfl) : PG X (.Tuple es k pos) (gTup K n t) := hK ▸ pg_tup hc h hn hst
theorem pi_listK (hl : PE X l tl) (hK : X.K = K := by rfl) : PI X tg l (iList K tl) := hK ▸ pi_list hl
theorem pi_tupK (hl : PE X l tl) (hK : X.K = K := by rfl) : PI X tg l (iTup K tl) := hK ▸ pi_tup hl
theorem pi_ltK (hl : PE X l tl) (hK : X.K = K := by rfl) : PI X tg l (iLT K tl) := hK ▸ pi_lt hl
theorem pi_zipMK {e2 : Expr} {t2 : TA} {elts : List Expr} {kk : Nat} (hg : Gl X "zip") (hm : X.mg "zip" = none) (ha : PA X [e, e2] t2) (hK : X.K = K := by rfl)
    (hs : starEach [e, e2] X.env = (false, eval e X.env) :: starEach [e2] X.env := by rfl) (hpl : (backTo pos (starEach [e2] X.env)).any (·.1) = false := by rfl) :
    PI X (.Tuple elts kk tpos) (.Call (.Name "zip" p) [e, e2] [] pos) (iZipM K t2) := hK ▸ pi_zipM hg hm ha hs hpl
theorem cr_allK (hc : X.calm = true) (hK : X.K = K := by rfl) : CallR X (.builtin "all") (rAll K) := hK ▸ cr_all hc
theorem cr_anyK (hc : X.calm = true) (hK : X.K = K := by rfl) : CallR X (.builtin "any") (rAny K) := hK ▸ cr_any hc
theorem cr_sumK (hc : X.calm = true) (hK : X.K = K := by rfl) : CallR X (.builtin "sum") (rSum K) := hK ▸ cr_sum hc
theorem call_isiK (hK : X.K = K := by rfl) : CallR X (.builtin "isinstance") (rIsi K) := hK ▸ call_isi
end
end Tk

set_option Elab.async false
set_option linter.all false
set_option maxRecDepth 100000
set_option maxHeartbeats 4000000
/-! Two clauses: all elements in one list. -/
namespace Tk
open PySem PySem.Spec PyProof.Rows L2
def flat {β : Type} (ks : Nat → Nat) (f : Nat → Nat → β) (n : Nat) : List β := (List.range n).flatMap fun i => (List.range (ks i)).map (f i)
theorem flat_succ {β : Type} {ks : Nat → Nat} {f : Nat → Nat → β} {n : Nat} : flat ks f (n + 1) = flat ks f n ++ (List.range (ks n)).map (f n) := by
  unfold flat; rw [List.range_succ, List.flatMap_append]; simp
theorem flat_le {β : Type} {ks : Nat → Nat} {f : Nat → Nat → β} {i n : Nat} (h : i ≤ n) : (flat ks f i).length ≤ (flat ks f n).length := by
  induction n with
  | zero => have : i = 0 := by omega
            subst this; exact Nat.le_refl _
  | succ n ih =>
    by_cases e : i = n + 1
    · subst e; exact Nat.le_refl _
    · refine Nat.le_trans (ih (by omega)) ?_
      rw [flat_succ, List.length_append]; omega
theorem flat_lt {β : Type} {ks : Nat → Nat} {f : Nat → Nat → β} {i j n : Nat} (h : i < n) (hj : j < ks i) : (flat ks f i ++ (List.range j).map (f i)).length < (flat ks f n).length := by
  have := flat_le (ks := ks) (f := f) (i := i + 1) (n := n) h
  rw [flat_succ] at this
  simp only [List.length_append, List.length_map, List.length_range] at this ⊢
  omega
abbrev LcR2 (J : It) (g : TG) (tt : TT) (wi1 : TI) (g1 : TG) (tt1 : TT) (te : TE) (vs vs1 : List Nat) (σ : L2.St) (H1 : Hp) (D : Addr) (Qd : Hp → Prop) : Prop :=
  ∃ W : Nat → Nat → Hp → Prop, (∃ m, W 0 m (upd H1 D (.lst []))) ∧ ∀ i m H, W i m H →
  (J.stop i H ∧ Qd H) ∨ (J.go i H ∧ ∃ Nx : Hp → Prop, (∀ H', Nx H' → ∃ m', m' < m ∧ W (i + 1) m' H') ∧ ∀ x H', J.yld i H x H' → g x (wipe σ vs) H' fun σ2 H2 => wipe σ2 vs = wipe σ vs ∧ tt σ2 H2 fun b H3 =>
    if b = true then wi1 σ2 H3 fun J1 H4 => ∃ W1 : Nat → Nat → Hp → Prop, (∃ m, W1 0 m H4) ∧ ∀ j k H, W1 j k H →
      (J1.stop j H ∧ Nx H) ∨ (J1.go j H ∧ ∃ Nx1 : Hp → Prop, (∀ H', Nx1 H' → ∃ k', k' < k ∧ W1 (j + 1) k' H') ∧ ∀ x H', J1.yld j H x H' → g1 x (wipe σ2 vs1) H' fun σ3 H5 => wipe σ3 vs1 = wipe σ2 vs1 ∧ tt1 σ3 H5 fun b H6 =>
        if b = true then te σ3 H6 fun y H7 => ∃ acc, H7 D = some (.lst acc) ∧ acc.length < sizeLine ∧ Nx1 (upd H7 D (.lst (acc ++ [y]))) else Nx1 H6)
    else Nx H3)
theorem lc2_wk {β : Type} {J : It} {n : Nat} {xs : Nat → V} {I H1 : Hp} {g g1 : TG} {tt tt1 : TT} {te : TE} {wi1 : TI} {vs vs1 : List Nat} {σ : L2.St} {D : Addr} {Qd : Hp → Prop} (Sy : Rp β) [Mono Sy] (ks : Nat → Nat) (f : Nat → Nat → β)
    (W : Wk J n xs I) (s0 : Same I H1) (hD : H1 D = none) (hn : (flat ks f n).length ≤ sizeLine)
    (step : ∀ (i : Nat) (I' H' : Hp) (Nx : Hp → Prop) (R2 : L2.St → It → Hp → Prop), i < n → Same I I' → Same I' H' →
      (∀ (σ2 : L2.St) (J1 : It) (xs1 : Nat → V), Wk J1 (ks i) xs1 I' →
        (∀ (j : Nat) (I2 H2 : Hp) (Nx1 : Hp → Prop) (Qk : VK), j < ks i → Same I' I2 → Same I2 H2 → (∀ I'' H'' y, Gr [] I2 H2 I'' H'' → Sy I'' y (f i j) → Qk y H'') →
          g1 (xs1 j) (wipe σ2 vs1) H2 fun σ3 H5 => wipe σ3 vs1 = wipe σ2 vs1 ∧ tt1 σ3 H5 fun b H6 => if b = true then te σ3 H6 Qk else Nx1 H6) → R2 σ2 J1 H') →
      g (xs i) (wipe σ vs) H' fun σ2 H2 => wipe σ2 vs = wipe σ vs ∧ tt σ2 H2 fun b H3 => if b = true then wi1 σ2 H3 (R2 σ2) else Nx H3)
    (hd : ∀ I' H' ys, Gr [] I H1 I' H' → I' D = some (.lst ys) → All2 (Sy I') ys (flat ks f n) → Qd H') :
    LcR2 J g tt wi1 g1 tt1 te vs vs1 σ H1 D Qd := by
  let Mid : List β → Hp → Prop := fun zs H => ∃ I' ys, Gr [] I H1 I' H ∧ I' D = none ∧ H D = some (.lst ys) ∧ All2 (Sy I') ys zs
  refine ⟨fun i m H => m = n - i ∧ i ≤ n ∧ Mid (flat ks f i) H, ⟨n, rfl, Nat.zero_le _, I, [], (Gr.tmp s0 hD), s0.free hD, upd_same, .nil⟩, ?_⟩
  rintro i m H ⟨rfl, hi, I', ys, gr, hI, hH, a2⟩
  have s : Same I H := gr.ii.trans gr.ih
  by_cases hlt : i < n
  · refine .inr ⟨W.go i H s hlt, fun H' => i + 1 ≤ n ∧ Mid (flat ks f (i + 1)) H', fun H' p => ⟨n - (i + 1), by omega, rfl, p.1, p.2⟩, fun x H' y => ?_⟩
    obtain ⟨rfl, rfl⟩ := W.yld i H x H' s hlt y
    refine step i I' H' _ (fun σ2 J1 H4 => ∃ W1 : Nat → Nat → Hp → Prop, (∃ m, W1 0 m H4) ∧ ∀ j k H, W1 j k H → _) hlt gr.ii gr.ih fun σ2 J1 xs1 W1 st => ?_
    refine ⟨fun j k H => k = ks i - j ∧ j ≤ ks i ∧ ∃ I2 ys, Gr [] I H1 I2 H ∧ Same I' I2 ∧ I2 D = none ∧ H D = some (.lst ys) ∧ All2 (Sy I2) ys (flat ks f i ++ (List.range j).map (f i)),
      ⟨ks i, rfl, Nat.zero_le _, I', ys, gr, Same.refl _, hI, hH, by simpa using a2⟩, ?_⟩
    rintro j k H2 ⟨rfl, hj, I2, ys2, gr2, s2, hI2, hH2, a22⟩
    by_cases hjl : j < ks i
    · refine .inr ⟨W1.go j H2 (s2.trans gr2.ih) hjl, fun H => j + 1 ≤ ks i ∧ ∃ I2 ys, Gr [] I H1 I2 H ∧ Same I' I2 ∧ I2 D = none ∧ H D = some (.lst ys) ∧ All2 (Sy I2) ys (flat ks f i ++ (List.range (j + 1)).map (f i)),
        fun H p => ⟨ks i - (j + 1), by omega, rfl, p.1, p.2⟩, fun x H3 y => ?_⟩
      obtain ⟨rfl, rfl⟩ := W1.yld j H2 x H3 (s2.trans gr2.ih) hjl y
      refine st j I2 H3 _ _ hjl s2 gr2.ih fun I3 H4 y g3 sy => ?_
      have hD4 := g3.at hH2 (by simp)
      have hI3 := g3.out hI2 hH2
      have ll := a22.len
      refine ⟨ys2, hD4, Nat.lt_of_lt_of_le (by rw [ll]; exact flat_lt hlt hjl) hn, hjl, I3, ys2 ++ [y], ?_, s2.trans g3.ii, hI3, upd_same, ?_⟩
      · have g4 := gr2.trans g3
        exact ((g4.mono (ns := [D]) fun _ z => nomatch z).trans (Gr.mut g4.ih hI3 List.mem_cons_self)).drop hD
      · rw [List.range_succ, List.map_append, ← List.append_assoc]
        exact (a22.mono fun _ _ => up g3.ii).snoc sy
    · have e : j = ks i := by omega
      subst e
      exact .inl ⟨W1.stop H2 (s2.trans gr2.ih), hlt, I2, ys2, gr2, hI2, hH2, by rw [flat_succ]; exact a22⟩
  · have e : i = n := by omega
    subst e
    exact .inl ⟨W.stop H s, hd (upd I' D (.lst ys)) H ys (gr.mono (ns := [D]) (fun _ z => nomatch z) |>.frz s0 hD hH) upd_same (a2.mono fun _ _ => up (sNew hI))⟩
end Tk
namespace Tk
open PySem PySem.Spec PyProof.Rows L2
section
variable {α β : Type} {K : PySem.W.Frag}
def iA (R : Rp α) : Rp (List α) := fun H v xs => ∃ a vs, v = .ref a ∧ (H a = some (.lst vs) ∨ H a = some (.tup vs)) ∧ All2 (R H) vs xs
instance {R : Rp α} [m : Mono R] : Mono (iA R) := ⟨fun s ⟨a, vs, e, h, t⟩ => ⟨a, vs, e, h.elim (fun h => .inl (s _ _ h)) (fun h => .inr (s _ _ h)), t.mono fun _ _ => m.up s⟩⟩
theorem iA.l {R : Rp α} {H : Hp} {v : V} {xs : List α} (h : iL R H v xs) : iA R H v xs := by
  obtain ⟨a, vs, e, h, t⟩ := h; exact ⟨a, vs, e, .inl h, t⟩
theorem iA.t {R : Rp α} {H : Hp} {v : V} {xs : List α} (h : iT R H v xs) : iA R H v xs := by
  obtain ⟨a, vs, e, h, t⟩ := h; exact ⟨a, vs, e, .inr h, t⟩
theorem All2.imp {R S : V → α → Prop} {vs : List V} {xs : List α} (h : All2 R vs xs) (k : ∀ v x, R v x → S v x) : All2 S vs xs := h.mono k
theorem gv2 {R : V → α → Prop} {vs : List V} {xs : List α} {i : Nat} {x : α} (h : All2 R vs xs) (e : xs[i]? = some x) : R (gv vs i) x := by
  obtain ⟨v, h1, h2⟩ := h.get' e
  rw [gv_of h1]; exact h2
/-- tuple(v) -/
theorem tup_of {R : Rp α} [Mono R] {I H : Hp} {v : V} {xs : List α} {Q : VK} (h : iA R I v xs) (s : Same I H) (k : ∀ I' H' v', Gr [] I H I' H' → iT R I' v' xs → Q v' H') :
    rTup K [v] H Q := by
  obtain ⟨a, vs, rfl, h, t⟩ := h
  refine ⟨⟨a, vs, rfl, h.elim (fun h => .inl ⟨SqL.of (s _ _ h), fun l hl => ?_⟩) (fun h => .inr ⟨SqT.of (s _ _ h), k _ _ _ (Gr.refl s) ⟨a, vs, rfl, h, t⟩⟩)⟩⟩
  have g := Gr.new (ms := []) (o := .tup vs) s hl
  exact k _ _ _ g ⟨l, vs, rfl, upd_same, t.mono fun _ _ => up g.ii⟩
theorem len_of {R : Rp α} {I H : Hp} {v : V} {xs : List α} (h : iA R I v xs) (s : Same I H) : LenV K v H xs.length := by
  obtain ⟨a, vs, rfl, h, t⟩ := h
  rw [← t.len]
  exact h.elim (fun h => .inl ⟨_, SqL.of (s _ _ h), rfl⟩) fun h => .inr ⟨_, SqT.of (s _ _ h), rfl⟩
/-- a new list of what stands for the same things -/
theorem lc_id {J : It} {R Sy : Rp α} [Mono R] [Mono Sy] {vs : List V} {xs : List α} {I H1 : Hp} {g : TG} {tt : TT} {te : TE} {vz : List Nat} {σ : L2.St} {D : Addr} {Qd : Hp → Prop}
    (W : Wk J vs.length (gv vs) I) (a2 : All2 (R I) vs xs) (s0 : Same I H1) (hD : H1 D = none) (hn : xs.length < sizeLine)
    (step : ∀ (i : Nat) (x : α) (I' H' : Hp) (Nx : Hp → Prop) (Qk : VK), xs[i]? = some x → R I' (gv vs i) x → Same I' H' → (∀ I'' H'' y, Gr [] I' H' I'' H'' → Sy I'' y x → Qk y H'') →
      g (gv vs i) (wipe σ vz) H' fun σ2 H2 => wipe σ2 vz = wipe σ vz ∧ tt σ2 H2 fun b H3 => if b = true then te σ2 H3 Qk else Nx H3)
    (hd : ∀ I' H', Gr [] I H1 I' H' → iL Sy I' (.ref D) xs → Qd H') : LcR J g tt te vz σ H1 D Qd := by
  have hl := a2.len
  refine lc_wk [] Sy (fun i z => xs[i]? = some z) (fun _ _ => True) W s0 hD (by simp) (by rw [hl]; exact hn) stb_true trivial (fun i I' H' Nx Qk hi s1 s2 _ kk => ?_) (fun I' H' ys zs g1 hD' b2 hz rl _ => ?_)
  · obtain ⟨x, hx⟩ : ∃ x, xs[i]? = some x := ⟨xs[i]'(by omega), List.getElem?_eq_getElem (by omega)⟩
    exact step i x I' H' Nx Qk hx (up s1 (gv2 a2 hx)) s2 fun I'' H'' y g2 sy => kk _ _ _ _ g2 trivial sy hx
  · have e : zs = xs := by
      refine List.ext_getElem? fun i => ?_
      by_cases hi : i < zs.length
      · rw [rl i _ (List.getElem?_eq_getElem hi), List.getElem?_eq_getElem hi]
      · rw [List.getElem?_eq_none (by omega), List.getElem?_eq_none (by omega)]
    subst e
    exact hd I' H' g1 ⟨D, ys, rfl, hD', b2⟩
theorem map_of {xs : List α} {zs : List β} {f : α → β} (h : zs.length = xs.length) (r : ∀ (i : Nat) (z : β), zs[i]? = some z → ∃ x, xs[i]? = some x ∧ z = f x) : zs = xs.map f := by
  refine List.ext_getElem? fun i => ?_
  by_cases hi : i < zs.length
  · obtain ⟨x, h1, h2⟩ := r i _ (List.getElem?_eq_getElem hi)
    rw [List.getElem?_map, h1, List.getElem?_eq_getElem hi, h2]; rfl
  · rw [List.getElem?_eq_none (by omega), List.getElem?_eq_none (by simp; omega)]
end
end Tk
namespace Tk
open PySem PySem.Spec PyProof.Rows L2
section
variable {α : Type} {K : PySem.W.Frag}
theorem bls_of {H : Hp} : ∀ {vs : List V} {bs : List Bool}, All2 (iB H) vs bs → vs = bs.map V.bl
  | _, _, .nil => rfl
  | _, _, .cons a t => by rw [a, bls_of t]; rfl
theorem all_any {bs : List Bool} {xs : List α} {p : α → Prop} [DecidablePred p] (h : bs.length = xs.length) (r : ∀ (i : Nat) (b : Bool), bs[i]? = some b → ∃ x, xs[i]? = some x ∧ b = decide (p x)) :
    bs.all id = decide (∀ x ∈ xs, p x) ∧ bs.any id = decide (∃ x ∈ xs, p x) := by
  have e : bs = xs.map fun x => decide (p x) := map_of h r
  subst e
  constructor
  · rw [Bool.eq_iff_iff, List.all_eq_true, decide_eq_true_iff]
    simp
  · rw [Bool.eq_iff_iff, List.any_eq_true, decide_eq_true_iff]
    simp
theorem lc_bool {J : It} {R : Rp α} [Mono R] {p : α → Prop} [DecidablePred p] {vs : List V} {xs : List α} {I H1 : Hp} {g : TG} {tt : TT} {te : TE} {vz : List Nat} {σ : L2.St} {D : Addr} {Qd : Hp → Prop}
    (W : Wk J vs.length (gv vs) I) (a2 : All2 (R I) vs xs) (s0 : Same I H1) (hD : H1 D = none) (hn : xs.length < sizeLine)
    (step : ∀ (i : Nat) (x : α) (I' H' : Hp) (Nx : Hp → Prop) (Qk : VK), xs[i]? = some x → R I' (gv vs i) x → Same I I' → Same I' H' → (∀ I'' H'', Gr [] I' H' I'' H'' → Qk (.bl (decide (p x))) H'') →
      g (gv vs i) (wipe σ vz) H' fun σ2 H2 => wipe σ2 vz = wipe σ vz ∧ tt σ2 H2 fun b H3 => if b = true then te σ2 H3 Qk else Nx H3)
    (hd : ∀ I' H' (bs : List Bool), Gr [] I H1 I' H' → SqL K H' D (bs.map V.bl) → bs.all id = decide (∀ x ∈ xs, p x) → bs.any id = decide (∃ x ∈ xs, p x) → Qd H') : LcR J g tt te vz σ H1 D Qd := by
  have hl := a2.len
  refine lc_wk [] iB (fun i b => ∃ x, xs[i]? = some x ∧ b = decide (p x)) (fun _ _ => True) W s0 hD (by simp) (by rw [hl]; exact hn) stb_true trivial (fun i I' H' Nx Qk hi s1 s2 _ kk => ?_) (fun I' H' ys zs g1 hD' b2 hz rl _ => ?_)
  · obtain ⟨x, hx⟩ : ∃ x, xs[i]? = some x := ⟨xs[i]'(by omega), List.getElem?_eq_getElem (by omega)⟩
    exact step i x I' H' Nx Qk hx (up s1 (gv2 a2 hx)) s1 s2 fun I'' H'' g2 => kk _ _ _ _ g2 trivial rfl ⟨x, hx, rfl⟩
  · have e := all_any (p := p) (by rw [hz, hl]) rl
    exact hd I' H' zs g1 (SqL.of (g1.ih _ _ (by rw [← bls_of b2]; exact hD'))) e.1 e.2
end
end Tk
namespace Tk
open PySem PySem.Spec PyProof.Rows L2
theorem All2.up {α : Type} {R : Rp α} [Mono R] {I I' : Hp} {vs : List V} {xs : List α} (h : All2 (R I) vs xs) (s : Same I I') : All2 (R I') vs xs := h.mono fun _ _ => Tk.up s
end Tk
namespace Tk
open PySem PySem.Spec PyProof.Rows L2
section
variable {β : Type} {K : PySem.W.Frag}
theorem range_of {n : Nat} {f : Nat → β} {zs : List β} (hl : zs.length = n) (r : ∀ (i : Nat) (z : β), zs[i]? = some z → z = f i) : zs = (List.range n).map f := by
  refine map_of (by rw [hl, List.length_range]) fun i z h => ⟨i, ?_, r i z h⟩
  have : i < zs.length := (List.getElem?_eq_some_iff.mp h).1
  rw [List.getElem?_range (by omega)]
/-- over a zip: new pairs -/
theorem lc_zip {l m : Bool} {a b : Addr} {vs us : List V} {n : Nat} {I H1 : Hp} {g : TG} {tt : TT} {te : TE} {vz : List Nat} {σ : L2.St} {D : Addr} {Qd : Hp → Prop} (Sy : Rp β) [Mono Sy] (f : Nat → β)
    (qa : ∀ H, Same I H → SqB K l H a vs) (qb : ∀ H, Same I H → SqB K m H b us) (la : vs.length = n) (lb : us.length = n) (s0 : Same I H1) (hD : H1 D = none) (hn : n < sizeLine)
    (step : ∀ (i : Nat) (t : Addr) (I' H' : Hp) (Nx : Hp → Prop) (Qk : VK), i < n → Same I I' → Same I' H' → H' t = some (.tup [gv vs i, gv us i]) → (∀ I'' H'' y, Gr [] I' H' I'' H'' → Sy I'' y (f i) → Qk y H'') →
      g (.ref t) (wipe σ vz) H' fun σ2 H2 => wipe σ2 vz = wipe σ vz ∧ tt σ2 H2 fun b H3 => if b = true then te σ2 H3 Qk else Nx H3)
    (hd : ∀ I' H', Gr [] I H1 I' H' → iL Sy I' (.ref D) ((List.range n).map f) → Qd H') : LcR (ItzM K l m a b) g tt te vz σ H1 D Qd := by
  refine ⟨fun i k H => k = n - i ∧ i ≤ n ∧ ∃ I' ys zs, Gr [] I H1 I' H ∧ I' D = none ∧ H D = some (.lst ys) ∧ All2 (Sy I') ys zs ∧ zs.length = i ∧ ∀ i z, zs[i]? = some z → z = f i,
    ⟨n, rfl, Nat.zero_le _, I, [], [], (Gr.tmp s0 hD), s0.free hD, upd_same, .nil, rfl, fun i z h => by simp at h⟩, ?_⟩
  rintro i k H ⟨rfl, hi, I', ys, zs, gr, hI, hH, a2, hl, rl⟩
  have s : Same I H := gr.ii.trans gr.ih
  by_cases hlt : i < n
  · refine .inr ⟨⟨vs, us, _, _, ⟨qa H s, gv_at (by omega)⟩, qb H s, gv_at (by omega)⟩, fun H' => i + 1 ≤ n ∧ ∃ I' ys zs, Gr [] I H1 I' H' ∧ I' D = none ∧ H' D = some (.lst ys) ∧ All2 (Sy I') ys zs ∧ zs.length = i + 1 ∧ ∀ i z, zs[i]? = some z → z = f i,
      fun H' p => ⟨n - (i + 1), by omega, rfl, p.1, p.2⟩, fun x H' y => ?_⟩
    obtain ⟨t, u, v, rfl, ht, rfl, y1, y2⟩ := y
    have e1 := gv_of (y1 vs (qa H s))
    have e2 := gv_of (y2 us (qb H s))
    subst e1 e2
    have g1 : Gr [] I' H I' (upd H t (.tup [gv vs i, gv us i])) := Gr.tmp gr.ih ht
    refine step i t I' _ _ _ hlt gr.ii g1.ih upd_same fun I'' H'' y g2 sy => ?_
    have g3 := g1.trans g2
    have hD2 : H'' D = some (.lst ys) := g3.at hH (by simp)
    have hI2 : I'' D = none := g3.out hI hH
    refine ⟨ys, hD2, by rw [a2.len, hl]; omega, hlt, I'', ys ++ [y], zs ++ [f i], ?_, hI2, upd_same, (a2.mono fun _ _ => up g2.ii).snoc sy, by rw [List.length_append, hl]; rfl, fun j w hw => ?_⟩
    · have g4 := gr.trans g3
      exact ((g4.mono (ns := [D]) fun _ z => nomatch z).trans (Gr.mut g4.ih hI2 List.mem_cons_self)).drop hD
    · by_cases hj : j < zs.length
      · rw [List.getElem?_append_left hj] at hw; exact rl j w hw
      · rw [List.getElem?_append_right (by omega)] at hw
        have h0 : j - zs.length = 0 := by
          rcases Nat.eq_zero_or_pos (j - zs.length) with h | h
          · exact h
          · rw [List.getElem?_eq_none (by simp; omega)] at hw; cases hw
        rw [h0] at hw
        simp at hw
        have : j = i := by omega
        rw [this]; exact hw.symm
  · have e : i = n := by omega
    subst e
    refine .inl ⟨⟨vs, us, qa H s, qb H s, by omega, by omega, .inl la.symm⟩, hd (upd I' D (.lst ys)) H (gr.mono (ns := [D]) (fun _ z => nomatch z) |>.frz s0 hD hH) ⟨D, ys, rfl, upd_same, ?_⟩⟩
    rw [← range_of hl rl]
    exact a2.mono fun _ _ => up (sNew hI)
/-- over numbers: what is told of each -/
theorem lc_range1 {lo : Int} {n : Nat} {I H1 : Hp} {g : TG} {tt : TT} {te : TE} {vz : List Nat} {σ : L2.St} {D : Addr} {Qd : Hp → Prop} (Sy : Rp β) [Mono Sy] (f : Nat → β) (s0 : Same I H1) (hD : H1 D = none) (hn : n < sizeLine)
    (step : ∀ (i : Nat) (I' H' : Hp) (Nx : Hp → Prop) (Qk : VK), i < n → Same I I' → Same I' H' → (∀ I'' H'' y, Gr [] I' H' I'' H'' → Sy I'' y (f i) → Qk y H'') →
      g (.int (lo + i)) (wipe σ vz) H' fun σ2 H2 => wipe σ2 vz = wipe σ vz ∧ tt σ2 H2 fun b H3 => if b = true then te σ2 H3 Qk else Nx H3)
    (hd : ∀ I' H', Gr [] I H1 I' H' → iL Sy I' (.ref D) ((List.range n).map f) → Qd H') : LcR (Itr lo n) g tt te vz σ H1 D Qd := by
  refine lc_wk [] Sy (fun i z => z = f i) (fun _ _ => True) (wk_range (I := I)) s0 hD (by simp) hn stb_true trivial (fun i I' H' Nx Qk hi s1 s2 _ kk => ?_) (fun I' H' ys zs g1 hD' b2 hz rl _ => ?_)
  · exact step i I' H' Nx Qk hi s1 s2 fun I'' H'' y g2 sy => kk _ _ _ _ g2 trivial sy rfl
  · exact hd I' H' g1 ⟨D, ys, rfl, hD', by rw [← range_of hz rl]; exact b2⟩
end
end Tk

set_option linter.all false
/-! Sums of fractions; chances of machines. -/
namespace Mt
/-- a natural number of N-ths, at most B in all -/
def Gd (N B : Nat) (q : Rat) : Prop := 0 < N ∧ ∃ a : Nat, a ≤ B * N ∧ q = rt a N
theorem rt_addN (a b : Int) {n : Int} (h : n ≠ 0) : rt a n + rt b n = rt (a + b) n := by
  unfold rt
  rw [Rat.divInt_add_divInt _ _ h h, ← Int.add_mul]
  exact Rat.divInt_mul_right h
theorem Gd.zero {N : Nat} (h : 0 < N) : Gd N 0 0 := ⟨h, 0, by omega, by simp [rt]⟩
theorem Gd.add {N B C : Nat} {p q : Rat} (h : Gd N B p) (k : Gd N C q) : Gd N (B + C) (p + q) := by
  obtain ⟨n, a, ha, rfl⟩ := h
  obtain ⟨_, b, hb, rfl⟩ := k
  exact ⟨n, a + b, by rw [Nat.add_mul]; omega, by rw [rt_addN _ _ (by omega)]; rfl⟩
theorem Gd.mul {N M B C : Nat} {p q : Rat} (h : Gd N B p) (k : Gd M C q) : Gd (N * M) (B * C) (p * q) := by
  obtain ⟨n, a, ha, rfl⟩ := h
  obtain ⟨m, b, hb, rfl⟩ := k
  refine ⟨Nat.mul_pos n m, a * b, ?_, ?_⟩
  · have := Nat.mul_le_mul ha hb
    calc a * b ≤ B * N * (C * M) := this
      _ = B * C * (N * M) := by grind
  · unfold rt; rw [Rat.divInt_mul_divInt]; simp
theorem Gd.mono {N B C : Nat} {q : Rat} (h : Gd N B q) (l : B ≤ C) : Gd N C q := by
  obtain ⟨n, a, ha, rfl⟩ := h
  exact ⟨n, a, Nat.le_trans ha (Nat.mul_le_mul_right _ l), rfl⟩
theorem Gd.scale {N B : Nat} {q : Rat} (h : Gd N B q) {M : Nat} (m : 0 < M) : Gd (N * M) B q := by
  obtain ⟨n, a, ha, rfl⟩ := h
  refine ⟨Nat.mul_pos n m, a * M, ?_, ?_⟩
  · rw [← Nat.mul_assoc]; exact Nat.mul_le_mul_right _ ha
  · unfold rt
    have := Rat.divInt_mul_right (n := (a : Int)) (d := (N : Int)) (a := (M : Int)) (by omega)
    rw [← this]; simp
theorem Gd.nonneg {N B : Nat} {q : Rat} (h : Gd N B q) : 0 ≤ q.num := by
  obtain ⟨n, a, ha, rfl⟩ := h
  rw [rt_num (by omega)]
  exact Int.ediv_nonneg (by omega) (by have := gz_pos (n := (a : Int)) (d := (N : Int)) (by omega); omega)
theorem Gd.size {N B : Nat} {q : Rat} (h : Gd N B q) : q.num.natAbs ≤ B * N ∧ q.den ≤ N := by
  obtain ⟨n, a, ha, rfl⟩ := h
  have g := gz_pos (n := (a : Int)) (d := (N : Int)) (by omega)
  have e1 := rt_num (n := (a : Int)) (d := (N : Int)) (by omega)
  have e2 := rt_den (n := (a : Int)) (d := (N : Int)) (by omega)
  have l1 : (a : Int) / gz a N ≤ a := Int.ediv_le_self _ (by omega)
  have l2 : (N : Int) / gz a N ≤ N := Int.ediv_le_self _ (by omega)
  have l3 : 0 ≤ (a : Int) / gz a N := Int.ediv_nonneg (by omega) (by omega)
  rw [← e1] at l1 l3
  rw [← e2] at l2
  omega
/-- a sum of n -/
def S : Nat → (Nat → Rat) → Rat
  | 0, _ => 0
  | n + 1, f => S n f + f n
theorem S_congr {n : Nat} {f g : Nat → Rat} (h : ∀ i, i < n → f i = g i) : S n f = S n g := by
  induction n with
  | zero => rfl
  | succ n ih => simp only [S]; rw [ih fun i hi => h i (by omega), h n (by omega)]
theorem S_add (n : Nat) (f g : Nat → Rat) : S n (fun i => f i + g i) = S n f + S n g := by
  induction n with
  | zero => simp only [S]; grind
  | succ n ih => simp only [S]; rw [ih]; grind
theorem S_mul (n : Nat) (c : Rat) (f : Nat → Rat) : S n (fun i => c * f i) = c * S n f := by
  induction n with
  | zero => simp only [S]; grind
  | succ n ih => simp only [S]; rw [ih]; grind
theorem S_mulr (n : Nat) (c : Rat) (f : Nat → Rat) : S n (fun i => f i * c) = S n f * c := by
  induction n with
  | zero => simp only [S]; grind
  | succ n ih => simp only [S]; rw [ih]; grind
theorem S_zero (n : Nat) : S n (fun _ => 0) = 0 := by
  induction n with
  | zero => rfl
  | succ n ih => simp only [S]; rw [ih]; grind
theorem S_comm (m n : Nat) (f : Nat → Nat → Rat) : S m (fun i => S n (fun j => f i j)) = S n (fun j => S m (fun i => f i j)) := by
  induction m with
  | zero => simp only [S]; rw [S_zero]
  | succ m ih => simp only [S]; rw [ih, ← S_add]
theorem S_app (m n : Nat) (f : Nat → Rat) : S (m + n) f = S m f + S n (fun i => f (m + i)) := by
  induction n with
  | zero => simp only [S, Nat.add_zero]; grind
  | succ n ih => rw [← Nat.add_assoc]; simp only [S]; rw [ih]; grind
theorem S_blocks (m n : Nat) (f : Nat → Rat) : S (m * n) f = S m (fun a => S n (fun k => f (a * n + k))) := by
  induction m with
  | zero => simp [S]
  | succ m ih => rw [Nat.succ_mul, S_app, ih]; rfl
theorem S_gd {N B n : Nat} {f : Nat → Rat} (hN : 0 < N) (h : ∀ i, i < n → Gd N B (f i)) : Gd N (n * B) (S n f) := by
  induction n with
  | zero => simp only [S, Nat.zero_mul]; exact Gd.zero hN
  | succ n ih => simp only [S]; rw [Nat.succ_mul]; exact (ih fun i hi => h i (by omega)).add (h n (by omega))
abbrev gq (l : List Rat) (i : Nat) : Rat := l.getD i 0
/-- the sum of a list -/
def tot (l : List Rat) : Rat := S l.length (gq l)
theorem gq_lt {l : List Rat} {i : Nat} (h : i < l.length) : l[i]? = some (gq l i) := by
  unfold gq; rw [List.getD_eq_getElem?_getD, List.getElem?_eq_getElem h]; rfl
theorem gq_of {l : List Rat} {i : Nat} {q : Rat} (h : l[i]? = some q) : gq l i = q := by
  unfold gq; rw [List.getD_eq_getElem?_getD, h]; rfl
theorem tot_app (a b : List Rat) : tot (a ++ b) = tot a + tot b := by
  unfold tot
  rw [List.length_append, S_app]
  congr 1
  · refine S_congr fun i hi => ?_
    unfold gq; rw [List.getD_eq_getElem?_getD, List.getD_eq_getElem?_getD, List.getElem?_append_left hi]
  · refine S_congr fun i hi => ?_
    unfold gq; rw [List.getD_eq_getElem?_getD, List.getD_eq_getElem?_getD, List.getElem?_append_right (by omega)]
    congr 2; omega
theorem tot_gd {N B : Nat} {l : List Rat} (hN : 0 < N) (h : ∀ q ∈ l, Gd N B q) : Gd N (l.length * B) (tot l) :=
  S_gd hN fun i hi => h _ (List.mem_of_getElem? (gq_lt hi))
end Mt

set_option linter.all false
/-! Machines of fractions, the chances of their ways. -/
namespace Mt
abbrev Rows := List (List Rat)
abbrev Ma := List Rat × List (List Rows)
abbrev gl {α : Type} (l : List (List α)) (i : Nat) : List α := l.getD i []
theorem gl_lt {α : Type} {l : List (List α)} {i : Nat} (h : i < l.length) : l[i]? = some (gl l i) := by
  unfold gl; rw [List.getD_eq_getElem?_getD, List.getElem?_eq_getElem h]; rfl
theorem gl_of {α : Type} {l : List (List α)} {i : Nat} {q : List α} (h : l[i]? = some q) : gl l i = q := by
  unfold gl; rw [List.getD_eq_getElem?_getD, h]; rfl
def wt (M : Ma) (b a s k : Nat) : Rat := gq (gl (gl (gl M.2 b) a) s) k
def nzl (l : List Rat) : Nat := l.countP (fun q => decide (q ≠ 0))
structure MOk (M : Ma) (n bs as : Nat) : Prop where
  n0 : 0 < n
  n1 : n ≤ 12
  b0 : 0 < bs
  b1 : bs ≤ 4
  a0 : 0 < as
  a1 : as ≤ 4
  l0 : M.1.length = n
  l1 : M.2.length = bs
  l2 : ∀ b, b < bs → (gl M.2 b).length = as
  l3 : ∀ b a, b < bs → a < as → (gl (gl M.2 b) a).length = n
  l4 : ∀ b a s, b < bs → a < as → s < n → (gl (gl (gl M.2 b) a) s).length = n
  g0 : ∀ s, s < n → Gd 2160 1 (gq M.1 s)
  g1 : ∀ b a s k, b < bs → a < as → s < n → k < n → Gd 2160 1 (wt M b a s k)
  s0 : tot M.1 = 1
  s1 : ∀ b s, b < bs → s < n → S as (fun a => S n (wt M b a s)) = 1
/-- behind so many splits -/
structure MPk (kk : Nat) (M : Ma) (n bs as : Nat) : Prop where
  n0 : 0 < n
  n1 : n ≤ 12
  b0 : 0 < bs
  b1 : bs ≤ 4
  a0 : 0 < as
  a1 : as ≤ 4
  l0 : M.1.length = n
  l1 : M.2.length = bs
  l2 : ∀ b, b < bs → (gl M.2 b).length = as
  l3 : ∀ b a, b < bs → a < as → (gl (gl M.2 b) a).length = n
  l4 : ∀ b a s, b < bs → a < as → s < n → (gl (gl (gl M.2 b) a) s).length = n
  g0 : ∀ s, s < n → Gd (60 * 6 ^ kk) 1 (gq M.1 s)
  g1 : ∀ b a s k, b < bs → a < as → s < n → k < n → Gd (60 * 6 ^ kk) 1 (wt M b a s k)
  s0 : tot M.1 = 1
  s1 : ∀ b s, b < bs → s < n → S as (fun a => S n (wt M b a s)) = 1
theorem tot_one (q : Rat) : tot [q] = q := by
  show (0 : Rat) + gq [q] 0 = q
  show (0 : Rat) + q = q
  grind
theorem tot_snoc (l : List Rat) (q : Rat) : tot (l ++ [q]) = tot l + q := by rw [tot_app, tot_one]
theorem nz_take {l : List Rat} {i : Nat} (h : i < l.length) : nzl (l.take (i + 1)) = nzl (l.take i) + (if gq l i = 0 then 0 else 1) := by
  unfold nzl
  rw [List.take_succ_eq_append_getElem h, List.countP_append]
  have e : gq l i = l[i] := gq_of (List.getElem?_eq_getElem h)
  rw [e]
  by_cases hz : l[i] = 0 <;> simp [hz]
/-- what _law_cells makes -/
structure Cells (c : Nat) (l : List Rat) : Prop where
  len : l.length = c
  gd : ∀ q ∈ l, Gd 60 1 q
  tot : tot l = 1
  nz : nzl l ≤ 3
theorem tot_cons (q : Rat) (l : List Rat) : Mt.tot (q :: l) = q + Mt.tot l := by
  rw [show q :: l = [q] ++ l from rfl, tot_app, tot_one]
theorem tot_rt {W : Nat} (hW : 0 < W) : ∀ ws : List Nat, Mt.tot (ws.map fun w : Nat => rt w W) = rt (ws.sum : Nat) W
  | [] => by simp [Mt.tot, S, rt]
  | w :: r => by
    rw [List.map_cons, tot_cons, tot_rt hW r, rt_addN _ _ (by omega), List.sum_cons]
    congr 1
theorem rt_zero_iff {w W : Nat} (hW : 0 < W) : rt w W = 0 ↔ w = 0 := by
  constructor
  · intro h
    have e := rt_num (n := (w : Int)) (d := (W : Int)) (by omega)
    rw [h] at e
    have g := gz_pos (n := (w : Int)) (d := (W : Int)) (by omega)
    have hd : gz (w : Int) (W : Int) ∣ (w : Int) := by unfold gz; exact Int.ofNat_dvd_left.mpr (Nat.gcd_dvd_left _ _)
    obtain ⟨m, hm⟩ := hd
    have e2 := Int.ediv_mul_cancel (a := (w : Int)) (b := gz w W) ⟨m, hm⟩
    rw [← e] at e2
    have e3 : (0 : Rat).num = 0 := rfl
    rw [e3] at e2; omega
  · rintro rfl; simp [rt]
theorem rt_same {n : Int} (h : 0 < n) : rt n n = 1 := by
  have e1 := rt_num (n := n) h
  have e2 := rt_den (n := n) h
  have g : gz n n = n := by unfold gz; rw [Nat.gcd_self]; omega
  rw [g, Int.ediv_self (by omega)] at e1 e2
  exact Rat.ext e1 (by have : (1 : Rat).den = 1 := rfl; omega)
theorem gd_part {w W : Nat} (h0 : 0 < W) (h1 : W ≤ 6) (h2 : w ≤ W) : Gd 60 1 (rt w W) := by
  have hd : W ∣ 60 := by
    have : W = 1 ∨ W = 2 ∨ W = 3 ∨ W = 4 ∨ W = 5 ∨ W = 6 := by omega
    rcases this with rfl | rfl | rfl | rfl | rfl | rfl <;> decide
  obtain ⟨m, hm⟩ := hd
  have g : Gd W 1 (rt w W) := ⟨h0, w, by omega, rfl⟩
  have m0 : 0 < m := by rcases Nat.eq_zero_or_pos m with h | h; · rw [h] at hm; simp at hm
                        · exact h
  have := g.scale m0
  rw [← hm] at this
  exact this
theorem le_sum_of_mem : ∀ {l : List Nat} {w : Nat}, w ∈ l → w ≤ l.sum
  | a :: r, w, h => by
    rw [List.sum_cons]
    rcases List.mem_cons.mp h with rfl | h
    · omega
    · have := le_sum_of_mem h; omega
theorem cells_of {ws : List Nat} {c k : Nat} (hl : ws.length = c) (h0 : 0 < ws.sum) (h1 : ws.sum ≤ 6) (hz : ws.countP (fun w => decide (w ≠ 0)) ≤ k) (hk : k ≤ 3) : Cells c (ws.map fun w : Nat => rt w (ws.sum : Nat)) := by
  refine ⟨by rw [List.length_map]; exact hl, fun q hq => ?_, ?_, ?_⟩
  · obtain ⟨w, hw, rfl⟩ := List.mem_map.mp hq
    exact gd_part h0 h1 (le_sum_of_mem hw)
  · rw [tot_rt h0]
    exact rt_same (by omega)
  · unfold nzl
    rw [List.countP_map]
    refine Nat.le_trans (Nat.le_of_eq ?_) (Nat.le_trans hz hk)
    refine List.countP_congr fun w _ => ?_
    simp only [Function.comp, decide_eq_true_eq]
    exact not_congr (rt_zero_iff h0)
theorem sum_set : ∀ {l : List Nat} {i v : Nat} (h : i < l.length), (l.set i v).sum + l[i] = l.sum + v
  | a :: r, 0, v, h => by simp; omega
  | a :: r, i + 1, v, h => by
    have := sum_set (l := r) (i := i) (v := v) (by simpa using h)
    simp only [List.set_cons_succ, List.sum_cons, List.getElem_cons_succ]
    omega
theorem nz_set {l : List Nat} {i v : Nat} (h : i < l.length) : (l.set i v).countP (fun w => decide (w ≠ 0)) ≤ l.countP (fun w => decide (w ≠ 0)) + 1 := by
  rw [List.countP_set h]
  split <;> split <;> omega
/-- rows cut into answers -/
theorem cut_gq {l : List Rat} {n a k : Nat} (h : k < n) : gq ((l.drop (a * n)).take n) k = gq l (a * n + k) := by
  unfold gq
  rw [List.getD_eq_getElem?_getD, List.getD_eq_getElem?_getD, List.getElem?_take_of_lt h, List.getElem?_drop]
theorem cut_sum {l : List Rat} {n as : Nat} (h : l.length = as * n) : S as (fun a => S n (gq ((l.drop (a * n)).take n))) = tot l := by
  unfold tot
  rw [h, S_blocks]
  exact S_congr fun a _ => S_congr fun k hk => cut_gq hk
theorem cut_nz (l : List Rat) (a n : Nat) : nzl ((l.drop a).take n) ≤ nzl l := ((List.take_sublist _ _).trans (List.drop_sublist _ _)).countP_le
end Mt

set_option Elab.async false
set_option linter.all false
set_option maxRecDepth 100000
set_option maxHeartbeats 4000000
set_option exponentiation.threshold 5000
namespace K
open PySem PySem.Spec PyProof.Rows L2 Tk Hd Mt
/-! ### sums of fractions -/
def Fits (qs : List Rat) : Prop := (∀ q ∈ qs, Fit q) ∧ ∀ i, i ≤ qs.length → Fit (S i (gq qs))
theorem fit_gd {N B : Nat} {q : Rat} (h : Gd N B q) (hb : B ≤ 2 ^ 400) (hn : N ≤ 2 ^ 400) : Fit q := by
  obtain ⟨h1, h2⟩ := h.size
  have h3 : B * N ≤ 2 ^ 400 * 2 ^ 400 := Nat.mul_le_mul hb hn
  have h4 : (2 : Nat) ^ 400 * 2 ^ 400 < 2 ^ 900 := by decide
  have h5 : (2 : Nat) ^ 400 < 2 ^ 900 := by decide
  exact ⟨by omega, by omega⟩
theorem fits_gd {N B : Nat} {qs : List Rat} (hN : 0 < N) (h : ∀ q ∈ qs, Gd N B q) (hb : qs.length * B ≤ 2 ^ 400) (hn : N ≤ 2 ^ 400) : Fits qs := by
  refine ⟨fun q hq => fit_gd (h q hq) ?_ hn, fun i hi => fit_gd (S_gd hN fun j hj => h _ (List.mem_of_getElem? (gq_lt (by omega)))) ?_ hn⟩
  · cases qs with
    | nil => cases hq
    | cons a r => rw [List.length_cons, Nat.succ_mul] at hb; omega
  · exact Nat.le_trans (Nat.mul_le_mul_right _ hi) hb
section
variable {P : Program} {w : World} {K : PySem.W.Frag} {mg : Str → Option Value} {base : Heap}
def spTotal (C : Addr) : Sp := fun vs H Q _ => ∃ (I : Hp) (a : V) (qs : List Rat), vs = [a] ∧ Same I H ∧ iA (iR C) I a qs ∧ Fits qs ∧ Ret [] I H (iR C) (tot qs) Q
theorem sc_total : FnScope ["ratios", "found", "ratio"] ["ratios"] (defScope s_total) := ⟨rfl, rfl, rfl, by decide +kernel, rfl, by decide +kernel, by decide +kernel⟩
theorem ok_total (D : Dt K mg) : Has P w K mg base 4 (He.ga K "total") ["ratios"] [] (spTotal (CR K)) := by
  obtain ⟨fd, F⟩ := fd_total D
  have H_Ratio_init := has_init1 (P := P) (w := w) (base := base) D
  have H_Ratio_add := ok_add (P := P) (w := w) (base := base) D
  refine hasN F (F.bindsN fun _ _ _ _ _ _ us hl => match us, hl with | [_], _ => rfl) sc_total (fun vs H Q E h => ?_) (fun cdv A outer s H vs Q E hr h => ?_)
  · obtain ⟨I, a, qs, rfl, _⟩ := h; rfl
  · obtain ⟨I, va, qs, rfl, s0, ⟨a, vs, rfl, ha, a2⟩, ft, k⟩ := h
    refine ⟨_, (pss_cons (ps_set (i := 1) sc_total.nd rfl (Or.inl rfl) (pe_makeH (mkr_Ratio (K := K) D) H_Ratio_init (hr.mono (by decide)) rfl (glo_Ratio D) passL (pa_cons pe_int pa_nil)))
      (pss_cons (ps_for PassesOwn.never rfl (pi_ltK K (pv 0)) (pg_name (i := 2) sc_total.nd rfl (Or.inl rfl))
      (pss_one (ps_set (i := 1) sc_total.nd rfl (Or.inl rfl) (pe_op (op_ownH H_Ratio_add (hr.mono (by decide)) passL (self_Ratio (K := K) D) (me_Ratio_add (K := K) D)) (pv 1) (pv 2)))))
      (pss_one (ps_ret (pv 1))))), ?_⟩
    (try dsimp only)
    refine seq_cut (fun σ' H1 => ∃ (I1 : Hp) (fv : V), σ' = [some (.ref a), some fv, none] ∧ Gr [] I H I1 H1 ∧ iR (CR K) I1 fv (S 0 (gq qs))) (fun nx q => ?_) ?_
    · refine fun x dx nx nd ne => ⟨x, dx, _, _, rfl, upd_same, sm_of (by decide) (by decide), fun _ => ⟨rfl, ?_⟩, fun h => absurd h (by decide)⟩
      obtain ⟨g1, r1⟩ := rat_new (ms := []) (C := CR K) (q := rt 0 1) s0 nx nd ne
      exact q _ _ ⟨_, _, rfl, g1, by
        have : rt 0 1 = S 0 (gq qs) := by simp [rt, S]
        rw [← this]; exact r1⟩
    rintro σ' H1 ⟨I1, fv0, rfl, g1, r1⟩
    (try dsimp only)
    have hl := a2.len
    refine ⟨_, rfl, lt_of (ha.imp (g1.ii _ _) (g1.ii _ _)) g1.ih fun J W => for_wk W
      (fun σ' H' => ∃ (I' : Hp) (fv : V) (v : Option V), σ' = [some (.ref a), some fv, v] ∧ Gr [] I H I' H' ∧ iR (CR K) I' fv (tot qs))
      (fun i σ' H' => ∃ (I' : Hp) (fv : V) (v : Option V), σ' = [some (.ref a), some fv, v] ∧ Gr [] I H I' H' ∧ Same I1 I' ∧ iR (CR K) I' fv (S i (gq qs)))
      (fun i σ' H' h => by obtain ⟨I', fv, v, _, gr, s, _⟩ := h; exact s.trans gr.ih)
      ⟨I1, fv0, none, rfl, g1, Same.refl _, r1⟩ (fun nx q i σ' H' hi h => ?_) (fun σ' H' h => ?_) ?_⟩
    · obtain ⟨I', fv, v, rfl, gr, s1, rf⟩ := h
      have hq := gq_lt (l := qs) (i := i) (by omega)
      have rq := up (g1.ii.trans s1) (gv2 a2 hq)
      obtain ⟨b, dy, eb, hb⟩ := id rq
      obtain ⟨c, dz, rfl, hc⟩ := id rf
      rw [eb] at rq ⊢
      refine ⟨_, rfl, _, rfl, c, b, dz, dy, _, _, rfl, rfl, gr.ih _ _ hc, gr.ih _ _ hb, I', _, _, _, _, rfl, gr.ih, rf, rq, ft.2 i (by omega), ft.1 _ (List.mem_of_getElem? hq), fun I2 H2 v2 g2 r2 => ?_⟩
      exact ⟨I2, v2, _, rfl, gr.trans g2, s1.trans g2.ii, r2⟩
    · obtain ⟨I', fv, v, rfl, gr, s1, rf⟩ := h
      rw [hl] at rf
      exact ⟨I', fv, v, rfl, gr, rf⟩
    · rintro σ' H' ⟨I', fv, v, rfl, gr, rf⟩
      exact ⟨_, rfl, k _ _ _ gr rf⟩
/-! lots -/
def lots (qs : List Rat) : Bool := decide (∀ q ∈ qs, 0 ≤ q.num) && decide (tot qs = 1)
theorem all_of {α : Type} {bs : List Bool} {xs : List α} {p : α → Prop} [DecidablePred p] (h : bs.length = xs.length) (r : ∀ (i : Nat) (b : Bool), bs[i]? = some b → ∃ x, xs[i]? = some x ∧ b = decide (p x)) : bs.all id = decide (∀ x ∈ xs, p x) := by
  rw [Bool.eq_iff_iff, List.all_eq_true, decide_eq_true_iff]
  constructor
  · intro k x hx
    obtain ⟨i, hi, e⟩ := List.getElem_of_mem hx
    have hb : bs[i]? = some bs[i] := List.getElem?_eq_getElem (by omega)
    obtain ⟨y, h1, h2⟩ := r i _ hb
    have := k _ (List.mem_of_getElem? hb)
    rw [List.getElem?_eq_getElem hi] at h1
    have e2 := Option.some.inj h1
    rw [h2] at this
    rw [← e, e2]; simpa using this
  · intro k b hb
    obtain ⟨i, hi, e⟩ := List.getElem_of_mem hb
    obtain ⟨y, h1, h2⟩ := r i b (by rw [List.getElem?_eq_getElem hi, e])
    rw [h2]; simpa using k y (List.mem_of_getElem? h1)
def spLots (C : Addr) : Sp := fun vs H Q _ => ∃ (I : Hp) (a : V) (qs : List Rat), vs = [a] ∧ Same I H ∧ iA (iR C) I a qs ∧ Fits qs ∧ qs.length ≤ 100000 ∧ ∀ I' H', Gr [] I H I' H' → Q (.bl (lots qs)) H'
theorem sc_are_lots : FnScope ["ratios", "ratio"] ["ratios"] (defScope s_are_lots) := ⟨rfl, rfl, rfl, by decide +kernel, rfl, by decide +kernel, by decide +kernel⟩
theorem ok_lots (D : Dt K mg) : Has P w K mg base 5 (He.ga K "are_lots") ["ratios"] [] (spLots (CR K)) := by
  obtain ⟨fd, F⟩ := fd_are_lots D
  have H_Ratio_init := has_init1 (P := P) (w := w) (base := base) D
  have H_Ratio_eq := ok_eq (P := P) (w := w) (base := base) D
  have H_total := ok_total (P := P) (w := w) (base := base) D
  refine hasN F (F.bindsN fun _ _ _ _ _ _ us hl => match us, hl with | [_], _ => rfl) sc_are_lots (fun vs H Q E h => ?_) (fun cdv A outer s H vs Q E hr h => ?_)
  · obtain ⟨I, a, qs, rfl, _⟩ := h; rfl
  · obtain ⟨I, va, qs, rfl, s0, ra, ft, hz, k⟩ := h
    obtain ⟨a, vs, rfl, ha, a2⟩ := id ra
    refine ⟨_, (pss_one (ps_ret (pe_and (pe_callB (cr_allK K rfl) rfl (free_all D) (by decide +kernel) (pa_cons (pe_lc (own := [("ratio", 1)]) (g := gName 1) rfl sc_are_lots.nd (pi_ltK K (pv 0)) (blkOk_by (own := [("ratio", 1)]) (N := ["ratios", "ratio"]) (by kernel_rfl)) (fun _ _ _ _ _ => (pg_name (i := 1) sc_are_lots.nd rfl (Or.inl rfl))) (fun _ _ _ _ _ => pts_nil) (fun _ _ _ _ _ => (pe_cmpR op_ge (pe_fldK K (pv 1) rfl) pe_int (nomark _)))) pa_nil))
      (pe_one (pe_cmpR (op_eqOwnH H_Ratio_eq (hr.mono (by decide)) passL (me_Ratio_eq (K := K) D)) (pe_callH H_total (hr.mono (by decide)) rfl (glo_total D) passL (pa_cons (pv 0) pa_nil)) (pe_makeH (mkr_Ratio (K := K) D) H_Ratio_init (hr.mono (by decide)) rfl (glo_Ratio D) passL (pa_cons pe_int pa_nil)) (nomark _)))))), ?_⟩
    have hl := a2.len
    refine ⟨_, rfl, lt_of ha s0 fun J W l hD => lc_wk [] iB (fun i b => ∃ q, qs[i]? = some q ∧ b = decide (0 ≤ q.num)) (fun _ _ => True) W s0 hD (by simp) (Nat.lt_of_le_of_lt (by omega : vs.length ≤ 100000) (by decide)) stb_true trivial (fun i I' H' Nx Qk hi s1 s2 _ kk => ?_) (fun I' H' ys zs g1 hD' b2 hn rl _ => ?_)⟩
    · have hq := gq_lt (l := qs) (i := i) (by omega)
      obtain ⟨b, dy, eb, hb⟩ := id (up (s1.trans s2) (gv2 a2 hq))
      rw [eb]
      refine ⟨rfl, ?_⟩
      refine ⟨_, rfl, _, _, _, _, _, rfl, hb, cls_Ratio D, na_Ratio_num D, rf_num (gq qs i), _, _, rfl, rfl, ?_⟩
      exact kk _ _ _ _ (Gr.refl s2) trivial rfl ⟨_, hq, rfl⟩
    · have e := all_of (p := fun q : Rat => 0 ≤ q.num) (xs := qs) (by rw [hn, hl]) rl
      refine ⟨_, zs, rfl, SqL.of (g1.ih _ _ (by rw [← bls_of b2]; exact hD')), _, rfl, ?_⟩
      rw [e]
      refine ifB (fun c => ?_) (fun c => ?_)
      · refine ⟨_, rfl, I', _, qs, rfl, g1.ih, up g1.ii ra, ft, fun I2 H2 tv g2 rt2 => ?_⟩
        refine fun x dx nx nd ne => ⟨x, dx, _, _, rfl, upd_same, sm_of (by decide) (by decide), fun _ => ⟨rfl, ?_⟩, fun h => absurd h (by decide)⟩
        obtain ⟨g3, r3⟩ := rat_new (ms := []) (C := CR K) (q := rt 1 1) g2.ih nx nd ne
        have g4 := (g1.trans g2).trans g3
        obtain ⟨t, dt, rfl, ht⟩ := id (up g3.ii rt2)
        refine ⟨t, _, dt, _, _, _, rfl, rfl, g3.ih _ _ ht, upd_same, _, _, _, _, _, rfl, g3.ih, up g3.ii rt2, r3, ?_⟩
        have z := k _ _ g4
        unfold lots at z
        rw [c, Bool.true_and] at z
        rw [show rt 1 1 = 1 from rt_same (by decide)]
        exact z
      · have z := k _ _ g1
        unfold lots at z
        rw [c, Bool.false_and] at z
        exact z
end
end K

set_option Elab.async false
set_option linter.all false
set_option maxRecDepth 100000
set_option maxHeartbeats 4000000
set_option exponentiation.threshold 5000
namespace K
open PySem PySem.Spec PyProof.Rows L2 Tk Hd Mt
section
variable {P : Program} {w : World} {K : PySem.W.Frag} {mg : Str → Option Value} {base : Heap}
/-! ### machines: rows kept as tuples -/
theorem lt_line {n : Nat} (h : n ≤ 100000) : n < sizeLine := Nat.lt_of_le_of_lt h (by decide)
def spTable (C : Addr) : Sp := fun vs H Q _ => ∃ (I : Hp) (a : V) (rows : Rows), vs = [a] ∧ Same I H ∧ iA (iA (iR C)) I a rows ∧ rows.length ≤ 100000 ∧ Ret [] I H (iT (iT (iR C))) rows Q
theorem sc_table : FnScope ["rows", "row"] ["rows"] (defScope s__table) := ⟨rfl, rfl, rfl, by decide +kernel, rfl, by decide +kernel, by decide +kernel⟩
theorem ok_table (D : Dt K mg) : Has P w K mg base 1 (He.ga K "_table") ["rows"] [] (spTable (CR K)) := by
  obtain ⟨fd, F⟩ := fd__table D
  refine hasN F (F.bindsN fun _ _ _ _ _ _ us hl => match us, hl with | [_], _ => rfl) sc_table (fun vs H Q E h => ?_) (fun cdv A outer s H vs Q E hr h => ?_)
  · obtain ⟨I, a, qs, rfl, _⟩ := h; rfl
  · obtain ⟨I, va, rows, rfl, s0, ra, hz, k⟩ := h
    obtain ⟨a, vs, rfl, ha, a2⟩ := id ra
    refine ⟨_, (pss_one (ps_ret (pe_callTy (call_tuple_ofK K) rfl (free_tuple D) (by decide +kernel) (pa_cons (pe_lc (own := [("row", 1)]) (g := gName 1) rfl sc_table.nd (pi_ltK K (pv 0)) (blkOk_by (own := [("row", 1)]) (N := ["rows", "row"]) (by kernel_rfl)) (fun _ _ _ _ _ => (pg_name (i := 1) sc_table.nd rfl (Or.inl rfl))) (fun _ _ _ _ _ => pts_nil) (fun _ _ _ _ _ => (pe_callTy (call_tuple_ofK K) rfl (free_tuple D) (by decide +kernel) (pa_cons (pv 1) pa_nil)))) pa_nil)))), ?_⟩
    refine ⟨_, rfl, lt_of ha s0 fun J W l hD => lc_id (R := iA (iR (CR K))) (Sy := iT (iR (CR K))) W a2 s0 hD (lt_line hz) (fun i x I' H' Nx Qk hx rx sx kk => ?_) (fun I' H' g1 r1 => ?_)⟩
    · exact ⟨rfl, _, rfl, tup_of rx sx kk⟩
    · exact tup_of (iA.l r1) g1.ih fun I2 H2 v2 g2 r2 => k _ _ _ (g1.trans g2) r2
def spOut : Sp := fun vs H Q _ => ∃ (m n : Int), vs = [.int m, .int n] ∧ Q (.bl (decide (m < 1) || decide (m > n))) H
theorem sc_out_of : FnScope ["many", "most"] ["many", "most"] (defScope s__out_of) := ⟨rfl, rfl, rfl, by decide +kernel, rfl, by decide +kernel, by decide +kernel⟩
theorem ok_out (D : Dt K mg) : Has P w K mg base 1 (He.ga K "_out_of") ["many", "most"] [] spOut := by
  obtain ⟨fd, F⟩ := fd__out_of D
  refine hasN F (F.bindsN fun _ _ _ _ _ _ us hl => match us, hl with | [_, _], _ => rfl) sc_out_of (fun vs H Q E h => ?_) (fun cdv A outer s H vs Q E hr h => ?_)
  · obtain ⟨m, n, rfl, _⟩ := h; rfl
  · obtain ⟨m, n, rfl, k⟩ := h
    refine ⟨_, (pss_one (ps_ret (pe_or (pe_cmpR op_lt (pv 0) pe_int (nomark _)) (pe_one (pe_cmpR op_gt (pv 0) (pv 1) (nomark _)))))), ?_⟩
    refine ⟨_, rfl, _, _, rfl, rfl, _, rfl, ifB (fun c => ?_) (fun c => ?_)⟩
    · rw [c, Bool.true_or] at k; exact k
    · rw [c, Bool.false_or] at k; exact ⟨_, rfl, _, rfl, _, _, rfl, rfl, k⟩
def square (rows : Rows) (n : Nat) : Bool := decide (rows.length = n) && decide (∀ r ∈ rows, r.length = n)
def spSquare (C : Addr) : Sp := fun vs H Q _ => ∃ (I : Hp) (a : V) (rows : Rows) (n : Nat), vs = [a, .int n] ∧ Same I H ∧ iT (iT (iR C)) I a rows ∧ rows.length ≤ 100000 ∧ ∀ I' H', Gr [] I H I' H' → Q (.bl (square rows n)) H'
theorem sc_is_square : FnScope ["rows", "states", "row"] ["rows", "states"] (defScope s__is_square) := ⟨rfl, rfl, rfl, by decide +kernel, rfl, by decide +kernel, by decide +kernel⟩
theorem dec_cast (a b : Nat) : decide ((a : Int) = b) = decide (a = b) := decide_eq_decide.mpr (by omega)
theorem dec_vi (a b : Nat) : decide (V.int (a : Int) = V.int b) = decide (a = b) := decide_eq_decide.mpr ⟨fun h => by injection h with h; omega, fun h => by rw [h]⟩
theorem ok_square (D : Dt K mg) : Has P w K mg base 1 (He.ga K "_is_square") ["rows", "states"] [] (spSquare (CR K)) := by
  obtain ⟨fd, F⟩ := fd__is_square D
  refine hasN F (F.bindsN fun _ _ _ _ _ _ us hl => match us, hl with | [_, _], _ => rfl) sc_is_square (fun vs H Q E h => ?_) (fun cdv A outer s H vs Q E hr h => ?_)
  · obtain ⟨I, a, rows, n, rfl, _⟩ := h; rfl
  · obtain ⟨I, va, rows, n, rfl, s0, ra, hz, k⟩ := h
    obtain ⟨a, vs, rfl, ha, a2⟩ := id ra
    have hl := a2.len
    refine ⟨_, (pss_one (ps_ret (pe_and (pe_cmpR op_eq (pe_callB (call_lenK K) rfl (free_len D) PySem.boot_len (pa_cons (pv 0) pa_nil)) (pv 1) (nomark _)) (pe_one (pe_callB (cr_allK K rfl) rfl (free_all D) (by decide +kernel) (pa_cons (pe_lc (own := [("row", 2)]) (g := gName 2) rfl sc_is_square.nd (pi_tupK K (pv 0)) (blkOk_by (own := [("row", 2)]) (N := ["rows", "states", "row"]) (by kernel_rfl)) (fun _ _ _ _ _ => (pg_name (i := 2) sc_is_square.nd rfl (Or.inl rfl))) (fun _ _ _ _ _ => pts_nil) (fun _ _ _ _ _ => (pe_cmpR op_eq (pe_callB (call_lenK K) rfl (free_len D) PySem.boot_len (pa_cons (pv 2) pa_nil)) (pv 1) (nomark _)))) pa_nil)))))), ?_⟩
    refine ⟨_, rfl, _, rows.length, rfl, len_of (iA.t ra) s0, _, rfl, rfl, _, rfl, ifB (fun c => ?_) (fun c => ?_)⟩
    · refine ⟨_, rfl, a, rfl, ⟨_, SqT.of (s0 _ _ ha)⟩, fun l hD => lc_bool (K := K) (R := iT (iR (CR K))) (p := fun r : List Rat => r.length = n) (wk_tup ha) a2 s0 hD (lt_line hz) (fun i r I' H' Nx Qk hx rx _ sx kk => ?_) (fun I' H' bs g1 hD' b1 _ => ?_)⟩
      · refine ⟨rfl, _, rfl, _, r.length, rfl, len_of (iA.t rx) sx, _, rfl, rfl, ?_⟩
        have z := kk _ _ (Gr.refl sx)
        rw [← dec_vi] at z
        exact z
      · refine ⟨_, bs, rfl, hD', ?_⟩
        have z := k _ _ g1
        unfold square at z
        rw [← dec_vi, c, Bool.true_and, ← b1] at z
        exact z
    · have z := k _ _ (Gr.refl s0)
      unfold square at z
      rw [← dec_vi, c, Bool.false_and] at z
      exact z
/-- all weights of a state on one button -/
def lead (parts : List Rows) (s : Nat) : List Rat := flat (fun a => (gl (gl parts a) s).length) (fun a j => gq (gl (gl parts a) s) j) parts.length
def spLead (C : Addr) : Sp := fun vs H Q _ => ∃ (I : Hp) (a : V) (parts : List Rows) (s : Nat), vs = [a, .int s] ∧ Same I H ∧ iT (iT (iT (iR C))) I a parts ∧ Fits (lead parts s) ∧ (lead parts s).length ≤ 100000 ∧ (∀ rows ∈ parts, s < rows.length) ∧
  ∀ I' H', Gr [] I H I' H' → Q (.bl (lots (lead parts s))) H'
theorem sc_leads_on : FnScope ["parts", "state", "rows", "weight"] ["parts", "state"] (defScope s__leads_on) := ⟨rfl, rfl, rfl, by decide +kernel, rfl, by decide +kernel, by decide +kernel⟩
theorem ok_lead (D : Dt K mg) : Has P w K mg base 6 (He.ga K "_leads_on") ["parts", "state"] [] (spLead (CR K)) := by
  obtain ⟨fd, F⟩ := fd__leads_on D
  have H_are_lots := ok_lots (P := P) (w := w) (base := base) D
  refine hasN F (F.bindsN fun _ _ _ _ _ _ us hl => match us, hl with | [_, _], _ => rfl) sc_leads_on (fun vs H Q E h => ?_) (fun cdv A outer s H vs Q E hr h => ?_)
  · obtain ⟨I, a, rows, n, rfl, _⟩ := h; rfl
  · obtain ⟨I, va, parts, st, rfl, s0, ra, ft, hz, hs, k⟩ := h
    obtain ⟨a, vs, rfl, ha, a2⟩ := id ra
    have hl := a2.len
    refine ⟨_, (pss_one (ps_ret (pe_callH H_are_lots (hr.mono (by decide)) rfl (glo_are_lots D) passL (pa_cons (pe_lc2 (own := [("rows", 2), ("weight", 3)]) (vs1 := [3]) (g := gName 2) (g1 := gName 3) rfl sc_leads_on.nd (pi_tupK K (pv 0)) (blkOk_by (own := [("rows", 2), ("weight", 3)]) (N := ["parts", "state", "rows", "weight"]) (by kernel_rfl)) (by decide) (fun _ _ _ _ _ => (pg_name (i := 2) sc_leads_on.nd rfl (Or.inl rfl))) (fun _ _ _ _ _ => pts_nil) (fun _ _ _ _ _ => (pi_tupK K (pe_ix (ix_tupK K) (pv 2) (pv 1) (fun _ _ => rfl)))) (fun _ _ _ _ _ => (pg_name (i := 3) sc_leads_on.nd rfl (Or.inl rfl))) (fun _ _ _ _ _ => pts_nil) (fun _ _ _ _ _ => (pv 3))) pa_nil)))), ?_⟩
    refine ⟨_, rfl, a, rfl, ⟨_, SqT.of (s0 _ _ ha)⟩, fun l hD => lc2_wk (n := vs.length) (xs := gv vs) (iR (CR K)) (fun a => (gl (gl parts a) st).length) (fun a j => gq (gl (gl parts a) st) j) (wk_tup ha) s0 hD (by rw [hl]; exact Nat.le_of_lt (lt_line hz)) (fun i I' H' Nx R2 hi s1 s2 kk => ?_) (fun I' H' ys g1 hD' b2 => ?_)⟩
    · have hp := gl_lt (l := parts) (i := i) (by omega)
      obtain ⟨b, ws, eb, hb, b2⟩ := up s1 (gv2 a2 hp)
      have hst := hs _ (List.mem_of_getElem? hp)
      obtain ⟨u, hu, c, xs, rfl, hc, c2⟩ := b2.get' (gl_lt hst)
      rw [eb]
      refine ⟨rfl, ?_⟩
      refine ⟨_, rfl, _, rfl, _, _, _, _, rfl, rfl, SqT.of (s2 _ _ hb), at_of rfl hu, c, rfl, ⟨_, SqT.of (s2 _ _ hc)⟩, ?_⟩
      have W1 := wk_tup (K := K) hc
      rw [c2.len] at W1
      refine kk _ _ (gv xs) W1 fun j I2 H2 Nx1 Qk hj s3 s4 ke => ?_
      refine ⟨rfl, ?_⟩
      exact ⟨_, rfl, ke _ _ _ (Gr.refl s4) (up s3 (gv2 c2 (gq_lt hj)))⟩
    · rw [hl] at b2
      refine ⟨I', _, lead parts st, rfl, g1.ih, iA.l ⟨l, ys, rfl, hD', b2⟩, ft, hz, fun I2 H2 g2 => k _ _ (g1.trans g2)⟩
end
end K

set_option Elab.async false
set_option linter.all false
set_option maxRecDepth 100000
set_option maxHeartbeats 4000000
set_option exponentiation.threshold 5000
namespace K
open PySem PySem.Spec PyProof.Rows L2 Tk Hd Mt
theorem mem_gl {α : Type} {l : List (List α)} {x : List α} (h : x ∈ l) : ∃ i, i < l.length ∧ x = gl l i := by
  obtain ⟨i, hi, e⟩ := List.getElem_of_mem h
  exact ⟨i, hi, by rw [gl_of (List.getElem?_eq_getElem hi), e]⟩
theorem mem_gq {l : List Rat} {x : Rat} (h : x ∈ l) : ∃ i, i < l.length ∧ x = gq l i := by
  obtain ⟨i, hi, e⟩ := List.getElem_of_mem h
  exact ⟨i, hi, by rw [gq_of (List.getElem?_eq_getElem hi), e]⟩
theorem flat_mem {β : Type} {ks : Nat → Nat} {f : Nat → Nat → β} {n : Nat} {x : β} (h : x ∈ flat ks f n) : ∃ i j, i < n ∧ j < ks i ∧ x = f i j := by
  unfold flat at h
  obtain ⟨i, hi, h⟩ := List.mem_flatMap.mp h
  obtain ⟨j, hj, e⟩ := List.mem_map.mp h
  exact ⟨i, j, List.mem_range.mp hi, List.mem_range.mp hj, e.symm⟩
theorem tot_range (n : Nat) (f : Nat → Rat) : tot ((List.range n).map f) = S n f := by
  unfold tot
  rw [List.length_map, List.length_range]
  refine S_congr fun i hi => gq_of ?_
  rw [List.getElem?_map, List.getElem?_range hi]; rfl
theorem tot_flat (ks : Nat → Nat) (f : Nat → Nat → Rat) : ∀ n, tot (flat ks f n) = S n (fun i => S (ks i) (f i))
  | 0 => by simp [flat, tot, S]
  | n + 1 => by rw [flat_succ, tot_app, tot_flat ks f n, tot_range]; rfl
theorem flat_len {β : Type} (ks : Nat → Nat) (f : Nat → Nat → β) (m : Nat) : ∀ n, (∀ i, i < n → ks i = m) → (flat ks f n).length = n * m
  | 0, _ => by simp [flat]
  | n + 1, h => by rw [flat_succ, List.length_append, flat_len ks f m n (fun i hi => h i (by omega)), List.length_map, List.length_range, h n (by omega), Nat.succ_mul]
section
variable {M : Ma} {n bs as : Nat}
theorem _root_.Mt.MOk.start_fits (ok : MOk M n bs as) : Fits M.1 := fits_gd (N := 2160) (B := 1) (by decide) (fun q hq => by
    obtain ⟨i, hi, rfl⟩ := mem_gq hq
    exact ok.g0 i (by rw [← ok.l0]; exact hi)) (by rw [ok.l0]; have := ok.n1; exact Nat.le_trans (by omega : n * 1 ≤ 12) (by decide)) (by decide)
theorem _root_.Mt.MOk.lots_start (ok : MOk M n bs as) : lots M.1 = true := by
  unfold lots
  rw [Bool.and_eq_true, decide_eq_true_iff, decide_eq_true_iff]
  exact ⟨fun q hq => by
    obtain ⟨i, hi, rfl⟩ := mem_gq hq
    exact (ok.g0 i (by rw [← ok.l0]; exact hi)).nonneg, ok.s0⟩
theorem _root_.Mt.MOk.lead_len (ok : MOk M n bs as) {b s : Nat} (hb : b < bs) (hs : s < n) : (lead (gl M.2 b) s).length = as * n := by
  unfold lead
  rw [ok.l2 b hb]
  exact flat_len _ _ n as fun a ha => ok.l4 b a s hb ha hs
theorem _root_.Mt.MOk.lead_gd (ok : MOk M n bs as) {b s : Nat} (hb : b < bs) (hs : s < n) {q : Rat} (h : q ∈ lead (gl M.2 b) s) : Gd 2160 1 q := by
  unfold lead at h
  obtain ⟨a, j, ha, hj, rfl⟩ := flat_mem h
  rw [ok.l2 b hb] at ha
  rw [ok.l4 b a s hb ha hs] at hj
  exact ok.g1 b a s j hb ha hs hj
theorem _root_.Mt.MOk.lead_fits (ok : MOk M n bs as) {b s : Nat} (hb : b < bs) (hs : s < n) : Fits (lead (gl M.2 b) s) := by
  refine fits_gd (N := 2160) (B := 1) (by decide) (fun q hq => ok.lead_gd hb hs hq) ?_ (by decide)
  rw [ok.lead_len hb hs]
  have := Nat.mul_le_mul ok.a1 ok.n1
  exact Nat.le_trans (by omega : as * n * 1 ≤ 48) (by decide)
theorem _root_.Mt.MOk.lots_lead (ok : MOk M n bs as) {b s : Nat} (hb : b < bs) (hs : s < n) : lots (lead (gl M.2 b) s) = true := by
  unfold lots
  rw [Bool.and_eq_true, decide_eq_true_iff, decide_eq_true_iff]
  refine ⟨fun q hq => (ok.lead_gd hb hs hq).nonneg, ?_⟩
  unfold lead
  rw [tot_flat, ok.l2 b hb]
  rw [← ok.s1 b s hb hs]
  exact S_congr fun a ha => by rw [ok.l4 b a s hb ha hs]; rfl
theorem _root_.Mt.MOk.square (ok : MOk M n bs as) {b a : Nat} (hb : b < bs) (ha : a < as) : square (gl (gl M.2 b) a) n = true := by
  unfold K.square
  rw [Bool.and_eq_true, decide_eq_true_iff, decide_eq_true_iff]
  refine ⟨ok.l3 b a hb ha, fun r hr => ?_⟩
  obtain ⟨s, hs, rfl⟩ := mem_gl hr
  exact ok.l4 b a s hb ha (by rw [← ok.l3 b a hb ha]; exact hs)
end
section
variable {P : Program} {w : World} {K : PySem.W.Frag} {mg : Str → Option Value} {base : Heap}
abbrev iMv (C : Addr) : Rp (List (List Rows)) := iT (iT (iT (iT (iR C))))
def spFault (C : Addr) : Sp := fun vs H Q _ => ∃ (I : Hp) (a b : V) (M : Ma) (n bs as : Nat), vs = [a, b] ∧ Same I H ∧ iT (iR C) I a M.1 ∧ iMv C I b M.2 ∧ MOk M n bs as ∧ ∀ I' H', Gr [] I H I' H' → Q .non H'
theorem sc_fault : FnScope ["start", "moves", "parts", "rows", "state"] ["start", "moves"] (defScope s__fault) := ⟨rfl, rfl, rfl, by decide +kernel, rfl, by decide +kernel, by decide +kernel⟩
theorem out_no {m n : Int} (h1 : 1 ≤ m) (h2 : m ≤ n) : (decide (m < 1) || decide (m > n)) = false := by
  rw [Bool.or_eq_false_iff, decide_eq_false_iff_not, decide_eq_false_iff_not]; omega
theorem ok_fault (D : Dt K mg) : Has P w K mg base 7 (He.ga K "_fault") ["start", "moves"] [] (spFault (CR K)) := by
  obtain ⟨fd, F⟩ := fd__fault D
  have H_are_lots := ok_lots (P := P) (w := w) (base := base) D
  have H__leads_on := ok_lead (P := P) (w := w) (base := base) D
  have H__is_square := ok_square (P := P) (w := w) (base := base) D
  have H__out_of := ok_out (P := P) (w := w) (base := base) D
  obtain ⟨t1, e1⟩ := int_MOST_STATES D
  obtain ⟨t2, e2⟩ := int_MOST_BUTTONS D
  obtain ⟨t3, e3⟩ := int_MOST_ANSWERS D
  refine hasN F (F.bindsN fun _ _ _ _ _ _ us hl => match us, hl with | [_, _], _ => rfl) sc_fault (fun vs H Q E h => ?_) (fun cdv A outer s H vs Q E hr h => ?_)
  · obtain ⟨I, a, b, M, n, bs, as, rfl, _⟩ := h; rfl
  · obtain ⟨I, va, vb, M, n, bs, as, rfl, s0, ra, rb, ok, k⟩ := h
    obtain ⟨a, vs, rfl, ha, a2⟩ := id ra
    obtain ⟨b, ws, rfl, hb, b2⟩ := id rb
    have hn := ok.l0
    have hbs := ok.l1
    have n0 := ok.n0
    have n1 := ok.n1
    have b0 := ok.b0
    have b1 := ok.b1
    have a0 := ok.a0
    have a1 := ok.a1
    refine ⟨_, (pss_cons (ps_if (pt_val (pe_callH H__out_of (hr.mono (by decide)) rfl (glo__out_of D) passL (pa_cons (pe_callB (call_lenK K) rfl (free_len D) PySem.boot_len (pa_cons (pv 0) pa_nil)) (pa_cons (pe_glob (v := .int 12) rfl e1 ⟨t1, rfl⟩) pa_nil))))
      (pss_one (ps_ret pe_str))
      pss_nil)
      (pss_cons (ps_if (pt_val (pe_callH H__out_of (hr.mono (by decide)) rfl (glo__out_of D) passL (pa_cons (pe_callB (call_lenK K) rfl (free_len D) PySem.boot_len (pa_cons (pv 1) pa_nil)) (pa_cons (pe_glob (v := .int 4) rfl e2 ⟨t2, rfl⟩) pa_nil))))
      (pss_one (ps_ret pe_str))
      pss_nil)
      (pss_cons (ps_if (PW.pt (pw_or (pt_val (pe_callH H__out_of (hr.mono (by decide)) rfl (glo__out_of D) passL (pa_cons (pe_callB (call_lenK K) rfl (free_len D) PySem.boot_len (pa_cons (pe_ix (ix_tupK K) (pv 1) pe_int (fun _ _ => rfl)) pa_nil)) (pa_cons (pe_glob (v := .int 4) rfl e3 ⟨t3, rfl⟩) pa_nil)))) (pw_or1 (pt_val (pe_callB (cr_anyK K rfl) rfl (free_any D) (by decide +kernel) (pa_cons (pe_lc (own := [("parts", 2)]) (g := gName 2) rfl sc_fault.nd (pi_tupK K (pv 1)) (blkOk_by (own := [("parts", 2)]) (N := ["start", "moves", "parts", "rows", "state"]) (by kernel_rfl)) (fun _ _ _ _ _ => (pg_name (i := 2) sc_fault.nd rfl (Or.inl rfl))) (fun _ _ _ _ _ => pts_nil) (fun _ _ _ _ _ => (pe_cmpR op_ne (pe_callB (call_lenK K) rfl (free_len D) PySem.boot_len (pa_cons (pv 2) pa_nil)) (pe_callB (call_lenK K) rfl (free_len D) PySem.boot_len (pa_cons (pe_ix (ix_tupK K) (pv 1) pe_int (fun _ _ => rfl)) pa_nil)) (nomark _)))) pa_nil))))))
      (pss_one (ps_ret pe_str))
      pss_nil)
      (pss_cons (ps_if (pt_not (pt_val (pe_callB (cr_allK K rfl) rfl (free_all D) (by decide +kernel) (pa_cons (pe_lc2 (own := [("parts", 2), ("rows", 3)]) (vs1 := [3]) (g := gName 2) (g1 := gName 3) rfl sc_fault.nd (pi_tupK K (pv 1)) (blkOk_by (own := [("parts", 2), ("rows", 3)]) (N := ["start", "moves", "parts", "rows", "state"]) (by kernel_rfl)) (by decide) (fun _ _ _ _ _ => (pg_name (i := 2) sc_fault.nd rfl (Or.inl rfl))) (fun _ _ _ _ _ => pts_nil) (fun _ _ _ _ _ => (pi_tupK K (pv 2))) (fun _ _ _ _ _ => (pg_name (i := 3) sc_fault.nd rfl (Or.inl rfl))) (fun _ _ _ _ _ => pts_nil) (fun _ _ _ _ _ => (pe_callH H__is_square (hr.mono (by decide)) rfl (glo__is_square D) passL (pa_cons (pv 3) (pa_cons (pe_callB (call_lenK K) rfl (free_len D) PySem.boot_len (pa_cons (pv 0) pa_nil)) pa_nil))))) pa_nil))))
      (pss_one (ps_ret pe_str))
      pss_nil)
      (pss_cons (ps_if (pt_not (pt_val (pe_callH H_are_lots (hr.mono (by decide)) rfl (glo_are_lots D) passL (pa_cons (pv 0) pa_nil))))
      (pss_one (ps_ret pe_str))
      pss_nil)
      (pss_cons (ps_if (pt_not (pt_val (pe_callB (cr_allK K rfl) rfl (free_all D) (by decide +kernel) (pa_cons (pe_lc2 (own := [("parts", 2), ("state", 4)]) (vs1 := [4]) (g := gName 2) (g1 := gName 4) rfl sc_fault.nd (pi_tupK K (pv 1)) (blkOk_by (own := [("parts", 2), ("state", 4)]) (N := ["start", "moves", "parts", "rows", "state"]) (by kernel_rfl)) (by decide) (fun _ _ _ _ _ => (pg_name (i := 2) sc_fault.nd rfl (Or.inl rfl))) (fun _ _ _ _ _ => pts_nil) (fun _ _ _ _ _ => (pi_range1 rfl (free_range D) (pa_cons (pe_callB (call_lenK K) rfl (free_len D) PySem.boot_len (pa_cons (pv 0) pa_nil)) pa_nil))) (fun _ _ _ _ _ => (pg_name (i := 4) sc_fault.nd rfl (Or.inl rfl))) (fun _ _ _ _ _ => pts_nil) (fun _ _ _ _ _ => (pe_callH H__leads_on (hr.mono (by decide)) rfl (glo__leads_on D) passL (pa_cons (pv 2) (pa_cons (pv 4) pa_nil))))) pa_nil))))
      (pss_one (ps_ret pe_str))
      pss_nil)
      (pss_one (ps_ret pe_non)))))))), ?_⟩
    refine ⟨_, rfl, _, M.1.length, rfl, len_of (iA.t ra) s0, _, _, rfl, _, rfl, ifF (out_no (by omega) (by omega)) ?_⟩
    refine ⟨_, rfl, _, M.2.length, rfl, len_of (iA.t rb) s0, _, _, rfl, _, rfl, ifF (out_no (by omega) (by omega)) ?_⟩
    obtain ⟨u, hu, c, xs, rfl, hc, c2⟩ := id (b2.get' (gl_lt (l := M.2) (i := 0) (by omega)))
    have hc' := s0 _ _ hc
    have hb' := s0 _ _ hb
    have l0 := ok.l2 0 b0
    refine ⟨_, rfl, _, _, _, _, rfl, rfl, SqT.of hb', at_of (j := 0) rfl hu, _, (gl M.2 0).length, rfl, len_of (R := iT (iT (iR (CR K)))) (iA.t ⟨c, xs, rfl, hc, c2⟩) s0, _, _, rfl, _, rfl, ifF (out_no (by omega) (by omega)) ?_⟩
    refine ⟨_, rfl, b, rfl, ⟨_, SqT.of hb'⟩, fun l hD => lc_bool (K := K) (R := iT (iT (iT (iR (CR K))))) (p := fun parts : List Rows => parts.length ≠ (gl M.2 0).length) (wk_tup hb) b2 s0 hD (lt_line (by omega)) (fun i x I' H' Nx Qk hx rx s1 sx kk => ?_) (fun I1 H1 bls g1 hl1 _ any1 => ?_)⟩
    · refine ⟨rfl, _, rfl, _, x.length, rfl, len_of (iA.t rx) sx, _, rfl, _, _, _, _, rfl, rfl, SqT.of (sx _ _ (s1 _ _ hb)), at_of (j := 0) rfl hu, _, (gl M.2 0).length, rfl, len_of (R := iT (iT (iR (CR K)))) (iA.t ⟨c, xs, rfl, s1 _ _ hc, c2.up s1⟩) sx, ?_⟩
      have z := kk _ _ (Gr.refl sx)
      refine ⟨rfl, ?_⟩
      rw [dec_vi]
      rw [show decide (x.length ≠ (gl M.2 0).length) = !decide (x.length = (gl M.2 0).length) from by simp] at z
      exact z
    refine ⟨_, bls, rfl, hl1, _, rfl, ifF ?_ ?_⟩
    · rw [any1, decide_eq_false_iff_not]
      rintro ⟨x, hx, hne⟩
      obtain ⟨i, hi, rfl⟩ := mem_gl hx
      exact hne (by rw [ok.l2 i (by omega), l0])
    replace s0 := g1.ih
    replace ra := up g1.ii ra
    replace rb := up g1.ii rb
    replace hb := g1.ii _ _ hb
    replace b2 := b2.up g1.ii
    have hlb := b2.len
    refine ⟨_, rfl, b, rfl, ⟨_, SqT.of (s0 _ _ hb)⟩, fun l hD => lc2_wk iB (fun i => (gl M.2 i).length) (fun i j => square (gl (gl M.2 i) j) n) (wk_tup hb) s0 hD ?_ (fun i I' H' Nx R2 hi s1 s2 kk => ?_) (fun I2 H2 ys g2 hD' d2 => ?_)⟩
    · rw [flat_len _ _ as _ fun i hi => ok.l2 i (by omega), hlb, hbs]
      have := Nat.mul_le_mul b1 a1
      exact Nat.le_of_lt (lt_line (by omega))
    · have hp := gl_lt (l := M.2) (i := i) (by omega)
      obtain ⟨c, zs, ec, hc, c2⟩ := up s1 (gv2 b2 hp)
      rw [ec]
      refine ⟨rfl, ?_⟩
      refine ⟨_, rfl, c, rfl, ⟨_, SqT.of (s2 _ _ hc)⟩, ?_⟩
      have W1 := wk_tup (K := K) hc
      rw [c2.len] at W1
      refine kk _ _ (gv zs) W1 fun j I3 H3 Nx1 Qk hj s3 s4 ke => ?_
      have hq := gl_lt (l := gl M.2 i) hj
      refine ⟨rfl, _, rfl, _, rfl, _, M.1.length, rfl, len_of (iA.t (up ((s1.trans s3)) ra)) s4, I3, _, gl (gl M.2 i) j, n, by rw [hn]; rfl, s4, up s3 (gv2 c2 hq), ?_, fun I4 H4 g4 => ke _ _ _ g4 rfl⟩
      rw [ok.l3 i j (by omega) (by rw [← ok.l2 i (by omega)]; exact hj)]; omega
    have sq : (flat (fun i => (gl M.2 i).length) (fun i j => square (gl (gl M.2 i) j) n) ws.length).all id = true := by
      rw [List.all_eq_true]
      intro x hx
      obtain ⟨i, j, hi, hj, rfl⟩ := flat_mem hx
      exact ok.square (by omega) (by rw [← ok.l2 i (by omega)]; exact hj)
    refine ⟨_, _, rfl, SqL.of (g2.ih _ _ (by rw [← bls_of d2]; exact hD')), _, rfl, ?_⟩
    rw [sq]
    refine ifF rfl ?_
    clear sq d2 hD'
    replace s0 := g2.ih
    replace ra := up g2.ii ra
    replace rb := up g2.ii rb
    replace hb := g2.ii _ _ hb
    replace b2 := b2.up g2.ii
    refine ⟨_, rfl, I2, _, M.1, rfl, s0, iA.t ra, ok.start_fits, by omega, fun I3 H3 g3 => ?_⟩
    refine ⟨_, rfl, ?_⟩
    rw [ok.lots_start]
    refine ifF rfl ?_
    replace s0 := g3.ih
    replace ra := up g3.ii ra
    replace rb := up g3.ii rb
    replace hb := g3.ii _ _ hb
    replace b2 := b2.up g3.ii
    refine ⟨_, rfl, b, rfl, ⟨_, SqT.of (s0 _ _ hb)⟩, fun l hD => lc2_wk iB (fun i => n) (fun i j => lots (lead (gl M.2 i) j)) (wk_tup hb) s0 hD ?_ (fun i I' H' Nx R2 hi s1 s2 kk => ?_) (fun I4 H4 ys g4 hD' d2 => ?_)⟩
    · rw [flat_len _ _ n _ fun i hi => rfl, hlb, hbs]
      have := Nat.mul_le_mul b1 n1
      exact Nat.le_of_lt (lt_line (by omega))
    · have hp := gl_lt (l := M.2) (i := i) (by omega)
      have hi' : i < bs := by omega
      refine ⟨rfl, ?_⟩
      refine ⟨_, rfl, _, M.1.length, rfl, len_of (iA.t (up s1 ra)) s2, _, rfl, by omega, by omega, ?_⟩
      have W1 : Wk (Itr 0 ((M.1.length : Int)).toNat) n (fun i => .int (0 + (i : Int))) I' := by
        have e : ((M.1.length : Int)).toNat = n := by omega
        rw [e]; exact wk_range
      refine kk _ _ _ W1 fun j I3 H3 Nx1 Qk hj s3 s4 ke => ?_
      refine ⟨rfl, _, rfl, _, rfl, I3, _, gl M.2 i, j, by rw [Int.zero_add]; rfl, s4, up s3 (up s1 (gv2 b2 hp)), ok.lead_fits hi' hj, ?_, fun rows hr => ?_, fun I4 H4 g4 => ke _ _ _ g4 rfl⟩
      · rw [ok.lead_len hi' hj]
        have := Nat.mul_le_mul a1 n1
        omega
      · obtain ⟨a, ha, rfl⟩ := mem_gl hr
        rw [ok.l3 i a hi' (by rw [← ok.l2 i hi']; exact ha)]; exact hj
    have sq : (flat (fun i => n) (fun i j => lots (lead (gl M.2 i) j)) ws.length).all id = true := by
      rw [List.all_eq_true]
      intro x hx
      obtain ⟨i, j, hi, hj, rfl⟩ := flat_mem hx
      exact ok.lots_lead (by omega) hj
    refine ⟨_, _, rfl, SqL.of (g4.ih _ _ (by rw [← bls_of d2]; exact hD')), _, rfl, ?_⟩
    rw [sq]
    refine ifF rfl ?_
    exact k _ _ (((g1.trans g2).trans g3).trans g4)
end
end K

set_option Elab.async false
set_option linter.all false
set_option maxRecDepth 100000
set_option maxHeartbeats 4000000
set_option exponentiation.threshold 5000
namespace K
open PySem PySem.Spec PyProof.Rows L2 Tk Hd Mt
abbrev CM (K : PySem.W.Frag) : Addr := He.ga K "Machine"
theorem ms_ : ¬ (("start" : Str) = "moves") := by decide +kernel
def mf (va vb : V) : List (Str × V) := putF "moves" vb (putF "start" va [])
theorem mf_start (va vb : V) : (mf va vb).lookup ("start" : Str) = some va := by
  unfold mf; rw [lookup_putF, if_neg ms_, lookup_putF, if_pos rfl]
theorem mf_moves (va vb : V) : (mf va vb).lookup ("moves" : Str) = some vb := by
  unfold mf; rw [lookup_putF, if_pos rfl]
/-- a machine as it stands -/
def iM (C C2 : Addr) : Rp Ma := fun H v M => ∃ a dx va vb, v = .ref a ∧ H a = some (.ins C2 dx (mf va vb)) ∧ iT (iR C) H va M.1 ∧ iMv C H vb M.2
instance {C C2 : Addr} : Mono (iM C C2) := ⟨fun s ⟨a, dx, va, vb, e, h, r1, r2⟩ => ⟨a, dx, va, vb, e, s _ _ h, up s r1, up s r2⟩⟩
section
variable {P : Program} {w : World} {K : PySem.W.Frag} {mg : Str → Option Value} {base : Heap}
def spMInit (C C2 : Addr) : Sp := fun vs H Q _ => ∃ (I : Hp) (x dx : Addr) (a b : V) (M : Ma) (n bs as : Nat), vs = [.ref x, a, b] ∧ Same I H ∧ I x = none ∧ H x = some (.ins C2 dx []) ∧ iA (iR C) I a M.1 ∧ iA (iA (iA (iA (iR C)))) I b M.2 ∧ MOk M n bs as ∧
  ∀ I' H' va vb, Gr [x] I H I' H' → H' x = some (.ins C2 dx (mf va vb)) → iT (iR C) I' va M.1 → iMv C I' vb M.2 → Q .non H'
theorem sc_minit : FnScope ["self", "start", "moves", "rows", "parts", "why"] ["self", "start", "moves"] (defScope s_Machine_init) := ⟨rfl, rfl, rfl, by decide +kernel, rfl, by decide +kernel, by decide +kernel⟩
theorem ok_minit (D : Dt K mg) : Has P w K mg base 8 (He.ma K (CM K) "__init__") ["self", "start", "moves"] [] (spMInit (CR K) (CM K)) := by
  obtain ⟨fd, F⟩ := fd_Machine_init D
  have H__table := ok_table (P := P) (w := w) (base := base) D
  have H__fault := ok_fault (P := P) (w := w) (base := base) D
  refine hasN F (F.bindsN fun _ _ _ _ _ _ us hl => match us, hl with | [_, _, _], _ => rfl) sc_minit (fun vs H Q E h => ?_) (fun cdv A outer s H vs Q E hr h => ?_)
  · obtain ⟨I, x, dx, a, b, M, n, bs, as, rfl, _⟩ := h; rfl
  · obtain ⟨I, x, dx, va, vb, M, n, bs, as, rfl, s0, hI, hx, ra, rb, ok, k⟩ := h
    obtain ⟨b, ws, rfl, hb, b2⟩ := id rb
    have hlb := b2.len
    have hbs := ok.l1
    have b1 := ok.b1
    have a1 := ok.a1
    have n1 := ok.n1
    refine ⟨_, (pss_cons (ps_fld (pv 0) (pe_callTy (call_tuple_ofK K) rfl (free_tuple D) (by decide +kernel) (pa_cons (pv 1) pa_nil)) rfl)
      (pss_cons (ps_fld (pv 0) (pe_callTy (call_tuple_ofK K) rfl (free_tuple D) (by decide +kernel) (pa_cons (pe_lc (own := [("parts", 4)]) (g := gName 4) rfl sc_minit.nd (pi_ltK K (pv 2)) (blkOk_by (own := [("parts", 4)]) (N := ["self", "start", "moves", "rows", "parts", "why"]) (by kernel_rfl)) (fun _ _ _ _ _ => (pg_name (i := 4) sc_minit.nd rfl (Or.inl rfl))) (fun _ _ _ _ _ => pts_nil) (fun _ _ _ _ _ => (pe_callTy (call_tuple_ofK K) rfl (free_tuple D) (by decide +kernel) (pa_cons (pe_lc (own := [("rows", 3)]) (g := gName 3) rfl sc_minit.nd (pi_ltK K (pv 4)) (blkOk_by (own := [("rows", 3)]) (N := ["self", "start", "moves", "rows", "parts", "why"]) (by kernel_rfl)) (fun _ _ _ _ _ => (pg_name (i := 3) sc_minit.nd rfl (Or.inl rfl))) (fun _ _ _ _ _ => pts_nil) (fun _ _ _ _ _ => (pe_callH H__table (hr.mono (by decide)) rfl (glo__table D) passL (pa_cons (pv 3) pa_nil)))) pa_nil)))) pa_nil)) rfl)
      (pss_cons (ps_set (i := 5) sc_minit.nd rfl (Or.inl rfl) (pe_callH H__fault (hr.mono (by decide)) rfl (glo__fault D) passL (pa_cons (pe_fldK K (pv 0) rfl) (pa_cons (pe_fldK K (pv 0) rfl) pa_nil))))
      (pss_one (ps_if (pt_cmpR op_notN (pv 5) pe_non (nomark _))
      pss_never
      pss_nil))))), ?_⟩
    (try dsimp only)
    refine seq_cut (fun σ' H1 => ∃ (I1 : Hp) (v1 : V), σ' = [some (.ref x), some va, some (.ref b), none, none, none] ∧ Gr [x] I H I1 H1 ∧ H1 x = some (.ins (CM K) dx (putF "start" v1 [])) ∧ iT (iR (CR K)) I1 v1 M.1) (fun nx q => ?_) ?_
    · refine ⟨_, rfl, tup_of ra s0 fun I1 H1 v1 g1 r1 => ?_⟩
      have h1 := g1.at hx (by simp)
      refine ⟨_, rfl, x, _, dx, _, rfl, h1, cls_Machine D, na_Machine_start D, (by show 0 < 1000; decide), ?_⟩
      exact q _ _ ⟨I1, v1, rfl, (g1.mono (ns := [x]) fun _ z => nomatch z).trans (Gr.mut g1.ih (g1.out hI hx) List.mem_cons_self), upd_same, r1⟩
    rintro σ' H1 ⟨I1, v1, rfl, g1, h1, r1⟩
    (try dsimp only)
    refine seq_cut (fun σ' H1 => ∃ (I1 : Hp) (v1 v2 : V), σ' = [some (.ref x), some va, some (.ref b), none, none, none] ∧ Gr [x] I H I1 H1 ∧ H1 x = some (.ins (CM K) dx (mf v1 v2)) ∧ iT (iR (CR K)) I1 v1 M.1 ∧ iMv (CR K) I1 v2 M.2) (fun nx q => ?_) ?_
    · have b2' := b2.up g1.ii
      refine ⟨_, rfl, lt_of (hb.imp (g1.ii _ _) (g1.ii _ _)) g1.ih fun J W l hD => lc_id (R := iA (iA (iA (iR (CR K))))) (Sy := iT (iT (iT (iR (CR K))))) W b2' g1.ih hD (lt_line (by omega)) (fun i y I' H' Nx Qk hy ry sx kk => ?_) (fun I2 H2 g2 r2 => ?_)⟩
      · obtain ⟨c, xs, ec, hc, c2⟩ := id ry
        obtain ⟨i', hi', rfl⟩ := mem_gl (List.mem_of_getElem? hy)
        have ly := ok.l2 i' (by omega)
        rw [ec]
        refine ⟨rfl, _, rfl, lt_of hc sx fun J W l hD => lc_id (R := iA (iA (iR (CR K)))) (Sy := iT (iT (iR (CR K)))) W c2 sx hD (lt_line (by omega)) (fun j z I3 H3 Nx3 Qk3 hz rz sz ke => ?_) (fun I3 H3 g3 r3 => ?_)⟩
        · obtain ⟨j', hj', rfl⟩ := mem_gl (List.mem_of_getElem? hz)
          refine ⟨rfl, _, rfl, I3, _, _, rfl, sz, rz, ?_, ke⟩
          rw [ok.l3 i' j' (by omega) (by omega)]; omega
        · exact tup_of (iA.l r3) g3.ih fun I4 H4 v4 g4 r4 => kk _ _ _ (g3.trans g4) r4
      · refine tup_of (iA.l r2) g2.ih fun I3 H3 v3 g3 r3 => ?_
        have g4 := g2.trans g3
        have hI1 := g1.out hI hx
        have h3 := g4.at h1 (by simp)
        refine ⟨_, rfl, x, _, dx, _, rfl, h3, cls_Machine D, na_Machine_moves D, (by show 1 < 1000; decide), ?_⟩
        exact q _ _ ⟨I3, v1, v3, rfl, (g1.trans (g4.mono (ns := [x]) fun _ z => nomatch z)).trans (Gr.mut g4.ih (g4.out hI1 h1) List.mem_cons_self), upd_same, up g4.ii r1, r3⟩
    clear g1 h1 r1
    rintro σ' H1 ⟨I1, v1, v2, rfl, g1, h1, r1, r2⟩
    (try dsimp only)
    refine ⟨_, rfl, _, _, _, _, _, rfl, h1, cls_Machine D, na_Machine_start D, mf_start v1 v2, _, rfl, _, _, _, _, _, rfl, h1, cls_Machine D, na_Machine_moves D, mf_moves v1 v2, I1, _, _, M, n, bs, as, rfl, g1.ih, r1, r2, ok, fun I2 H2 g2 => ?_⟩
    refine ⟨_, rfl, rfl, _, rfl, ifF rfl ?_⟩
    exact k I2 H2 v1 v2 (g1.trans (g2.mono fun _ z => nomatch z)) (g2.at h1 (by simp)) (up g2.ii r1) (up g2.ii r2)
/-- a machine made anew -/
theorem mach_new {I H I' H' : Hp} {x dx C C2 : Addr} {M : Ma} {va vb : V} (s : Same I H) (nx : H x = none) (nd : H dx = none) (ne : dx ≠ x)
    (g : Gr [x] (upd I dx (.own x)) (upd (upd H dx (.own x)) x (.ins C2 dx [])) I' H') (h : H' x = some (.ins C2 dx (mf va vb))) (r1 : iT (iR C) I' va M.1) (r2 : iMv C I' vb M.2) :
    Gr [] I H (upd I' x (.ins C2 dx (mf va vb))) H' ∧ iM C C2 (upd I' x (.ins C2 dx (mf va vb))) (.ref x) M := by
  have g0 : Gr [] I H (upd I dx (.own x)) (upd H dx (.own x)) := Gr.new s nd
  have hx0 : upd H dx (.own x) x = none := by rw [upd_ne (Ne.symm ne)]; exact nx
  have g1 : Gr [] (upd I dx (.own x)) (upd H dx (.own x)) (upd I dx (.own x)) (upd (upd H dx (.own x)) x (.ins C2 dx [])) := Gr.tmp g0.ih hx0
  have g2 := (g1.mono (ns := [x]) fun _ z => nomatch z).trans g
  have hI' : I' x = none := g.out (g0.ih.free hx0) upd_same
  refine ⟨g0.trans (g2.frz g0.ih hx0 h), x, dx, va, vb, rfl, upd_same, up (sNew hI') r1, up (sNew hI') r2⟩
end
end K

set_option Elab.async false
set_option linter.all false
set_option maxRecDepth 100000
set_option maxHeartbeats 4000000
set_option exponentiation.threshold 5000
namespace K
open PySem PySem.Spec PyProof.Rows L2 Tk Hd Mt
abbrev vn (ws : List Nat) : List V := ws.map fun n : Nat => V.int n
theorem rep_zero (c : Nat) : (List.replicate c [V.int 0]).flatten = vn (List.replicate c 0) := by
  induction c with
  | zero => rfl
  | succ c ih => rw [List.replicate_succ, List.flatten_cons, ih]; rfl
theorem isum (ws : List Nat) : (ws.map fun n : Nat => (n : Int)).sum = (ws.sum : Nat) := by
  induction ws with
  | nil => rfl
  | cons a r ih => rw [List.map_cons, List.sum_cons, ih, List.sum_cons]; omega
theorem all2_vn {H : Hp} : ∀ ws : List Nat, All2 (iN H) (vn ws) ws
  | [] => .nil
  | a :: r => .cons rfl (all2_vn r)
section
variable {P : Program} {w : World} {K : PySem.W.Frag} {mg : Str → Option Value} {base : Heap}
def spCells : Sp := fun vs H Q _ => ∃ (I : Hp) (p : Addr) (c f : Nat), vs = [.ref p, .int c, .int f] ∧ Same I H ∧ PoolOk I H p ∧ 0 < c ∧ c ≤ 100 ∧ 0 < f ∧ f ≤ 3 ∧
  ∀ I' H' v qs, Gr [p] I H I' H' → PoolOk I' H' p → iL iQ I' v qs → Cells c qs → Q v H'
theorem sc_cells : FnScope ["pool", "count", "few", "weights", "k", "place", "weight"] ["pool", "count", "few"] (defScope s__law_cells) := ⟨rfl, rfl, rfl, by decide +kernel, rfl, by decide +kernel, by decide +kernel⟩
theorem PoolOk.mutO {I H : Hp} {p d : Addr} {o : HO} (h : PoolOk I H p) (n : p ≠ d) (hI : I d = none) : PoolOk I (upd H d o) p := by
  obtain ⟨i, c, cells, pos, b, s, l, u, h1, h2, h3, h4⟩ := h
  exact ⟨i, c, cells, pos, b, s, l, u, h1, h2, h3, by rw [upd_ne n]; exact h4⟩
theorem PoolOk.frzO {I H : Hp} {p d : Addr} {o : HO} (h : PoolOk I H p) (n : p ≠ d) (hI : I d = none) : PoolOk (upd I d o) H p := by
  obtain ⟨i, c, cells, pos, b, s, l, u, h1, h2, h3, h4⟩ := h
  exact ⟨by rw [upd_ne n]; exact i, c, cells, pos, b, s, l, u, by rw [upd_ne (ne_of_none h1 hI)]; exact h1, h2, h3, h4⟩
theorem PoolOk.ne {I H : Hp} {p d : Addr} (h : PoolOk I H p) (n : H d = none) : p ≠ d := by
  obtain ⟨i, c, cells, pos, b, s, l, u, h1, h2, h3, h4⟩ := h
  exact ne_of_none h4 n
theorem ok_cells (D : Dt K mg) : Has P w K mg base 2 (He.ga K "_law_cells") ["pool", "count", "few"] [] spCells := by
  obtain ⟨fd, F⟩ := fd__law_cells D
  have H__law_draw := ok_draw (P := P) (w := w) (base := base) D
  have H__law_less := ok_ls (P := P) (w := w) (base := base) D
  refine hasN F (F.bindsN fun _ _ _ _ _ _ us hl => match us, hl with | [_, _, _], _ => rfl) sc_cells (fun vs H Q E h => ?_) (fun cdv A outer s H vs Q E hr h => ?_)
  · obtain ⟨I, p, c, f, rfl, _⟩ := h; rfl
  · obtain ⟨I, p, c, f, rfl, s0, po, c0, c1, f0, f1, k⟩ := h
    refine ⟨_, (pss_cons (ps_set (i := 3) sc_cells.nd rfl (Or.inr rfl) (pe_op op_rep (pe_lst (pa_cons pe_int pa_nil)) (pv 1)))
      (pss_cons (ps_for PassesOwn.never rfl (pi_range1 rfl (free_range D) (pa_cons (pe_op op_add pe_int (pe_callH H__law_draw (hr.mono (by decide)) rfl (glo__law_draw D) passL (pa_cons (pv 0) (pa_cons (pv 2) pa_nil)))) pa_nil)) (pg_name (i := 4) sc_cells.nd rfl (Or.inl rfl))
      (pss_cons (ps_set (i := 5) sc_cells.nd rfl (Or.inl rfl) (pe_callH H__law_draw (hr.mono (by decide)) rfl (glo__law_draw D) passL (pa_cons (pv 0) (pa_cons (pv 1) pa_nil))))
      (pss_one (ps_asg (pe_op op_add (pe_op op_add (pe_ix (ix_listK K) (pv 3) (pv 5) (fun _ _ => rfl)) pe_int) (pe_callH H__law_draw (hr.mono (by decide)) rfl (glo__law_draw D) passL (pa_cons (pv 0) (pa_cons pe_int pa_nil)))) (pg_sub (pv 3) (pv 5) set_list)))))
      (pss_one (ps_ret (pe_lc (own := [("weight", 6)]) (g := gName 6) rfl sc_cells.nd (pi_listK K (pv 3)) (blkOk_by (own := [("weight", 6)]) (N := ["pool", "count", "few", "weights", "k", "place", "weight"]) (by kernel_rfl)) (fun _ _ _ _ _ => (pg_name (i := 6) sc_cells.nd rfl (Or.inl rfl))) (fun _ _ _ _ _ => pts_nil) (fun _ _ _ _ _ => (pe_callH H__law_less (hr.mono (by decide)) rfl (glo__law_less D) passL (pa_cons (pv 6) (pa_cons (pe_callB (cr_sumK K rfl) rfl (free_sum D) (by decide +kernel) (pa_cons (pv 3) pa_nil)) pa_nil))))))))), ?_⟩
    (try dsimp only)
    refine seq_cut (fun σ' H1 => ∃ d, σ' = [some (.ref p), some (.int c), some (.int f), some (.ref d), none, none, none] ∧ Gr [] I H I H1 ∧ H d = none ∧ H1 d = some (.lst (vn (List.replicate c 0)))) (fun nx q => ?_) ?_
    · refine ⟨(by show 1 ≤ sizeLine; decide), fun l hl => ⟨_, rfl, l, c, _, rfl, rfl, upd_same, by omega, by omega, ?_, fun d hd => ?_⟩⟩
      · rw [Int.toNat_natCast]; exact Nat.le_of_lt (lt_line (by simp; omega))
      · rw [Int.toNat_natCast, rep_zero]
        have nld : d ≠ l := fun e => by rw [e, upd_same] at hd; cases hd
        exact q _ _ ⟨d, rfl, (Gr.tmp s0 hl).trans (Gr.tmp (sUnder s0 (s0.free hl)) hd), by rw [upd_ne nld] at hd; exact hd, upd_same⟩
    rintro σ' H1 ⟨d, rfl, g1, hd, h1⟩
    (try dsimp only)
    have npd := po.ne hd
    have hId := s0.free hd
    have po1 : PoolOk I H1 p := po.up g1 (by simp)
    refine ⟨_, rfl, _, rfl, I, p, f, rfl, g1.ih, po1, by omega, by omega, fun v H2 hv0 hv1 g2 po2 => ⟨_, _, rfl, rfl, 1 + v, rfl, by omega, by omega, ?_⟩⟩
    have h2 : H2 d = some (.lst (vn (List.replicate c 0))) := g2.at h1 (by simpa using npd.symm)
    obtain ⟨t, ht⟩ : ∃ t : Nat, t = (1 + v).toNat := ⟨_, rfl⟩
    rw [← ht]
    have t1 : 1 ≤ t ∧ t ≤ 3 := by omega
    refine for_wk (wk_range (I := I))
      (fun σ' H' => ∃ (v4 v5 : Option V) (ws : List Nat), σ' = [some (.ref p), some (.int c), some (.int f), some (.ref d), v4, v5, none] ∧ Gr [p] I H I H' ∧ PoolOk I H' p ∧ H' d = some (.lst (vn ws)) ∧ ws.length = c ∧ 1 ≤ ws.sum ∧ ws.sum ≤ 6 ∧ ws.countP (fun w => decide (w ≠ 0)) ≤ 3)
      (fun i σ' H' => ∃ (v4 v5 : Option V) (ws : List Nat), σ' = [some (.ref p), some (.int c), some (.int f), some (.ref d), v4, v5, none] ∧ Gr [p] I H I H' ∧ PoolOk I H' p ∧ H' d = some (.lst (vn ws)) ∧ ws.length = c ∧ i ≤ ws.sum ∧ ws.sum ≤ 2 * i ∧ ws.countP (fun w => decide (w ≠ 0)) ≤ i)
      (fun i σ' H' h => by obtain ⟨v4, v5, ws, _, gr, _⟩ := h; exact gr.ih)
      ⟨none, none, List.replicate c 0, rfl, (g1.mono fun _ z => nomatch z).trans g2, po2, h2, by simp, by simp, by simp, by simp⟩ (fun nx q i σ' H' hi h => ?_) (fun σ' H' h => ?_) ?_
    · obtain ⟨v4, v5, ws, rfl, gr, po3, h3, hl, w0, w1, wz⟩ := h
      refine ⟨_, rfl, _, rfl, I, p, c, rfl, gr.ih, po3, by omega, by omega, fun u H3 hu0 hu1 g3 po4 => ?_⟩
      obtain ⟨j, rfl⟩ := Int.eq_ofNat_of_zero_le hu0
      have hj : j < ws.length := by omega
      have h4 : H3 d = some (.lst (vn ws)) := g3.at h3 (by simpa using npd.symm)
      have hw : (vn ws)[j]? = some (.int (ws[j] : Nat)) := by rw [List.getElem?_map, List.getElem?_eq_getElem hj]; rfl
      refine ⟨_, rfl, _, rfl, _, _, _, _, rfl, rfl, SqL.of h4, at_of (j := j) rfl hw, _, _, rfl, rfl, _, rfl, I, p, 2, rfl, g3.ih, po4, by omega, by omega, fun u2 H4 hv0 hv1 g4 po5 => ⟨_, _, rfl, rfl, ?_⟩⟩
      obtain ⟨x, rfl⟩ := Int.eq_ofNat_of_zero_le hv0
      have h5 : H4 d = some (.lst (vn ws)) := g4.at h4 (by simpa using npd.symm)
      refine ⟨_, rfl, _, rfl, _, _, _, _, rfl, rfl, h5, (show ixN (vn ws).length (j : Int) = some j from ?_), ?_⟩
      · unfold ixN
        rw [if_pos (by omega), if_pos (by rw [List.length_map]; omega)]; rfl
      · have e : (vn ws).set j (.int (((ws[j] : Nat) : Int) + 1 + (x : Int))) = vn (ws.set j (ws[j] + 1 + x)) := by
          rw [vn, vn, List.map_set]; rfl
        have ss := sum_set (v := ws[j] + 1 + x) hj
        have zz := nz_set (v := ws[j] + 1 + x) hj
        have gg := (gr.trans g3).trans g4
        refine ⟨_, _, ws.set j (ws[j] + 1 + x), rfl, ((gg.mono (ns := [d, p]) fun _ z => List.mem_cons_of_mem _ z).trans (Gr.mut gg.ih hId List.mem_cons_self)).drop hd, po5.mutO npd hId, by rw [upd_same, ← e], by rw [List.length_set]; exact hl, by omega, by omega, by omega⟩
    · obtain ⟨v4, v5, ws, rfl, gr, po3, h3, hl, w0, w1, wz⟩ := h
      exact ⟨v4, v5, ws, rfl, gr, po3, h3, hl, by omega, by omega, by omega⟩
    · rintro σ' H' ⟨v4, v5, ws, rfl, gr, po3, h3, hl, w0, w1, wz⟩
      have g5 : Gr [p] I H (upd I d (.lst (vn ws))) H' := (gr.mono (ns := [d, p]) fun _ z => List.mem_cons_of_mem _ z).frz s0 hd h3
      have po6 : PoolOk (upd I d (.lst (vn ws))) H' p := po3.frzO npd hId
      have hW : (W : Nat) → True := fun _ => trivial
      refine ⟨_, rfl, d, rfl, ⟨_, SqL.of h3⟩, fun l hD => lc_wk (n := (vn ws).length) (xs := gv (vn ws)) [] iQ (fun i z => ∃ x, ws[i]? = some x ∧ z = rt (x : Nat) (ws.sum : Nat)) (fun _ _ => True) (wk_list (I := upd I d (.lst (vn ws))) upd_same) g5.ih hD (by simp) (lt_line (by simp; omega)) stb_true trivial (fun i I' H4 Nx Qk hi s1 s2 _ kk => ?_) (fun I' H4 ys zs g6 hD' b2 hz rl _ => ?_)⟩
      · have hi' : i < ws.length := by simpa using hi
        have hx : ws[i]? = some ws[i] := List.getElem?_eq_getElem hi'
        have ev : gv (vn ws) i = .int (ws[i] : Nat) := gv_of (by rw [List.getElem?_map, hx]; rfl)
        have hd4 : H4 d = some (.lst (vn ws)) := s2 _ _ (s1 _ _ upd_same)
        rw [ev]
        refine ⟨rfl, _, rfl, _, rfl, d, ws.map (fun n : Nat => (n : Int)), rfl, SqL.of (by rw [hd4, List.map_map]; rfl), ?_⟩
        rw [isum]
        exact ⟨I', _, _, rfl, s2, by omega, by have : (6 : Int) < 2 ^ 1999 := by decide
                                               omega, fun I5 H5 v5 g7 r7 => kk _ _ _ _ g7 trivial r7 ⟨_, hx, rfl⟩⟩
      · have e : zs = ws.map fun x : Nat => rt x (ws.sum : Nat) := map_of (by rw [hz]; simp) rl
        subst e
        exact k _ _ _ _ (g5.trans (g6.mono fun _ z => nomatch z)) (po6.up g6 (by simp)) ⟨l, ys, rfl, hD', b2⟩ (cells_of hl w0 w1 wz (by decide))
end
end K

set_option Elab.async false
set_option linter.all false
set_option maxRecDepth 100000
set_option maxHeartbeats 4000000
namespace Tk
open PySem PySem.Spec PyProof.Rows L2
section
variable {α β : Type} {K : PySem.W.Frag}
/-- a new list of what is made of each -/
theorem lc_map {J : It} {R : Rp α} {Sy : Rp β} [Mono R] [Mono Sy] (f : α → β) {vs : List V} {xs : List α} {I H1 : Hp} {g : TG} {tt : TT} {te : TE} {vz : List Nat} {σ : L2.St} {D : Addr} {Qd : Hp → Prop}
    (W : Wk J vs.length (gv vs) I) (a2 : All2 (R I) vs xs) (s0 : Same I H1) (hD : H1 D = none) (hn : xs.length < sizeLine)
    (step : ∀ (i : Nat) (x : α) (I' H' : Hp) (Nx : Hp → Prop) (Qk : VK), xs[i]? = some x → R I' (gv vs i) x → Same I I' → Same I' H' → (∀ I'' H'' y, Gr [] I' H' I'' H'' → Sy I'' y (f x) → Qk y H'') →
      g (gv vs i) (wipe σ vz) H' fun σ2 H2 => wipe σ2 vz = wipe σ vz ∧ tt σ2 H2 fun b H3 => if b = true then te σ2 H3 Qk else Nx H3)
    (hd : ∀ I' H', Gr [] I H1 I' H' → iL Sy I' (.ref D) (xs.map f) → Qd H') : LcR J g tt te vz σ H1 D Qd := by
  have hl := a2.len
  refine lc_wk [] Sy (fun i z => ∃ x, xs[i]? = some x ∧ z = f x) (fun _ _ => True) W s0 hD (by simp) (by rw [hl]; exact hn) stb_true trivial (fun i I' H' Nx Qk hi s1 s2 _ kk => ?_) (fun I' H' ys zs g1 hD' b2 hz rl _ => ?_)
  · obtain ⟨x, hx⟩ : ∃ x, xs[i]? = some x := ⟨xs[i]'(by omega), List.getElem?_eq_getElem (by omega)⟩
    exact step i x I' H' Nx Qk hx (up s1 (gv2 a2 hx)) s1 s2 fun I'' H'' y g2 sy => kk _ _ _ _ g2 trivial sy ⟨x, hx, rfl⟩
  · have e : zs = xs.map f := map_of (by rw [hz, hl]) rl
    subst e
    exact hd I' H' g1 ⟨D, ys, rfl, hD', b2⟩
theorem All2.cut {R : V → α → Prop} : ∀ {vs : List V} {xs : List α} (a n : Nat), All2 R vs xs → All2 R ((vs.drop a).take n) ((xs.drop a).take n)
  | _, _, a, n, .nil => by simp; exact .nil
  | v :: vs, x :: xs, 0, 0, .cons h t => by simp; exact .nil
  | v :: vs, x :: xs, 0, n + 1, .cons h t => by
    have := All2.cut 0 n t
    simp only [List.drop_zero] at this ⊢
    exact .cons h this
  | v :: vs, x :: xs, a + 1, n, .cons h t => by
    have := All2.cut a n t
    simpa using this
theorem cutV_nat {xs : List V} {a n : Nat} (h : a + n ≤ xs.length) : cutV xs (some (a : Int)) (some ((a : Int) + n)) = (xs.drop a).take n := by
  unfold cutV
  rw [show ((a : Int) + n) = ((a + n : Nat) : Int) from by omega, HT.sIx_nat, HT.sIx_nat]
  congr 1
  · omega
  · congr 1; omega
theorem slice_of {R : Rp α} [Mono R] {I H : Hp} {v : V} {xs : List α} {a n : Nat} {Q : VK} (h : iL R I v xs) (s : Same I H) (hn : a + n ≤ xs.length) (k : ∀ I' H' v', Gr [] I H I' H' → iL R I' v' ((xs.drop a).take n) → Q v' H') :
    rSlL K v (some (a : Int)) (some ((a : Int) + n)) H Q := by
  obtain ⟨p, vs, rfl, hp, a2⟩ := h
  refine ⟨p, vs, rfl, SqL.of (s _ _ hp), fun l hl => ?_⟩
  rw [cutV_nat (by rw [a2.len]; exact hn)]
  have g := Gr.new (ms := []) (o := .lst ((vs.drop a).take n)) s hl
  exact k _ _ _ g ⟨l, _, rfl, upd_same, (a2.cut a n).up g.ii⟩
end
end Tk
namespace Tk
open PySem PySem.Spec PyProof.Rows L2
theorem Gr.none {ms : List Addr} {I H I' H' : Hp} {a : Addr} (g : Gr ms I H I' H') (h : H' a = Option.none) : H a = Option.none := by
  cases e : H a with
  | none => rfl
  | some o => obtain ⟨o', e'⟩ := g.th a o e; rw [h] at e'; cases e'
end Tk
namespace Tk
open PySem PySem.Spec PyProof.Rows L2
section
variable {α β : Type} {K : PySem.W.Frag}
/-- over numbers, with tests; the list stays open -/
theorem lc_flt {lo : Int} {n : Nat} {I H1 : Hp} {g : TG} {tt : TT} {te : TE} {vz : List Nat} {σ : L2.St} {D : Addr} {Qd : Hp → Prop} (Sy : Rp β) [Mono Sy] (p : Nat → Bool) (f : Nat → β) (s0 : Same I H1) (hD : H1 D = none) (hn : n < sizeLine)
    (step : ∀ (i : Nat) (I' H' : Hp) (Nx : Hp → Prop) (Qk : VK), i < n → Same I I' → Same I' H' → (p i = true → ∀ I'' H'' y, Gr [] I' H' I'' H'' → Sy I'' y (f i) → Qk y H'') → (p i = false → Nx H') →
      g (.int (lo + i)) (wipe σ vz) H' fun σ2 H2 => wipe σ2 vz = wipe σ vz ∧ tt σ2 H2 fun b H3 => if b = true then te σ2 H3 Qk else Nx H3)
    (hd : ∀ I' H' ys, Gr [] I H1 I' H' → I' D = none → H' D = some (.lst ys) → All2 (Sy I') ys (((List.range n).filter p).map f) → Qd H') : LcR (Itr lo n) g tt te vz σ H1 D Qd := by
  let Mid : Nat → Hp → Prop := fun i H => ∃ I' ys, Gr [] I H1 I' H ∧ I' D = none ∧ H D = some (.lst ys) ∧ All2 (Sy I') ys (((List.range i).filter p).map f)
  refine ⟨fun i m H => m = n - i ∧ i ≤ n ∧ Mid i H, ⟨n, rfl, Nat.zero_le _, I, [], (Gr.tmp s0 hD), s0.free hD, upd_same, .nil⟩, ?_⟩
  rintro i m H ⟨rfl, hi, I', ys, gr, hI, hH, a2⟩
  by_cases hlt : i < n
  · refine .inr ⟨hlt, fun H' => i + 1 ≤ n ∧ Mid (i + 1) H', fun H' z => ⟨n - (i + 1), by omega, rfl, z.1, z.2⟩, fun x H' y => ?_⟩
    obtain ⟨rfl, rfl⟩ := y
    refine step i I' _ _ _ hlt gr.ii gr.ih (fun hp I'' H'' y g2 sy => ?_) (fun hp => ⟨hlt, I', ys, gr, hI, hH, ?_⟩)
    · have hD2 := g2.at hH (by simp)
      have hI2 := g2.out hI hH
      have ll : ys.length ≤ i := by
        rw [a2.len, List.length_map]
        exact Nat.le_trans (List.length_filter_le _ _) (by simp)
      refine ⟨ys, hD2, by omega, hlt, I'', ys ++ [y], ?_, hI2, upd_same, ?_⟩
      · have g3 := gr.trans g2
        exact ((g3.mono (ns := [D]) fun _ z => nomatch z).trans (Gr.mut g3.ih hI2 List.mem_cons_self)).drop hD
      · rw [List.range_succ, List.filter_append, List.filter_cons_of_pos hp, List.filter_nil, List.map_append]
        exact (a2.up g2.ii).snoc sy
    · rw [List.range_succ, List.filter_append, List.filter_cons_of_neg (by rw [hp]; exact Bool.false_ne_true), List.filter_nil, List.append_nil]
      exact a2
  · have e : i = n := by omega
    subst e
    exact .inl ⟨Nat.le_refl _, hd I' H ys gr hI hH a2⟩
theorem All2.unsnoc {R : V → α → Prop} : ∀ {xs : List α} {vs : List V} {x : α}, All2 R vs (xs ++ [x]) → ∃ us u, vs = us ++ [u] ∧ All2 R us xs ∧ R u x
  | [], _, x, .cons h .nil => ⟨[], _, rfl, .nil, h⟩
  | y :: r, _, x, .cons h t => by
    obtain ⟨us, u, rfl, t2, hu⟩ := All2.unsnoc t
    exact ⟨_ :: us, u, rfl, .cons h t2, hu⟩
end
end Tk
namespace Tk
open PySem PySem.Spec PyProof.Rows L2
theorem op_catAK {X : Cx} (K : PySem.W.Frag) (hK : X.K = K := by rfl) : OpR X (binaryOp .Add) (rCatA K) := hK ▸ op_catA
end Tk

set_option linter.all false
namespace Mt
structure BOk (n as : Nat) (p : List Rows) : Prop where
  l2 : p.length = as
  l3 : ∀ a, a < as → (gl p a).length = n
  l4 : ∀ a s, a < as → s < n → (gl (gl p a) s).length = n
  g1 : ∀ a s k, a < as → s < n → k < n → Gd 60 1 (gq (gl (gl p a) s) k)
  z : ∀ a s, a < as → s < n → nzl (gl (gl p a) s) ≤ 3
  s1 : ∀ s, s < n → S as (fun a => S n (gq (gl (gl p a) s))) = 1
theorem gl_range {α : Type} {n k : Nat} {f : Nat → List α} (h : k < n) : gl ((List.range n).map f) k = f k := gl_of (by rw [List.getElem?_map, List.getElem?_range h]; rfl)
theorem gl_map {α β : Type} {l : List (List α)} {k : Nat} {f : List α → List β} (h : k < l.length) : gl (l.map f) k = f (gl l k) := gl_of (by rw [List.getElem?_map, gl_lt h]; rfl)
def cuts (n as : Nat) (rows : Rows) : List Rows := (List.range as).map fun a => rows.map fun r => (r.drop (a * n)).take n
theorem blk_le {a as n : Nat} (h : a < as) : a * n + n ≤ as * n := by
  have := Nat.mul_le_mul_right n (show a + 1 ≤ as from h)
  rw [Nat.succ_mul] at this; exact this
theorem cuts_ok {n as : Nat} {rows : Rows} (hl : rows.length = n) (hc : ∀ r ∈ rows, Cells (as * n) r) : BOk n as (cuts n as rows) := by
  have row : ∀ s, s < n → Cells (as * n) (gl rows s) := fun s hs => hc _ (List.mem_of_getElem? (gl_lt (by omega)))
  have e1 : ∀ a, a < as → gl (cuts n as rows) a = rows.map fun r => (r.drop (a * n)).take n := fun a ha => gl_range ha
  have e2 : ∀ a s, a < as → s < n → gl (gl (cuts n as rows) a) s = ((gl rows s).drop (a * n)).take n := fun a s ha hs => by rw [e1 a ha, gl_map (by omega)]
  refine ⟨by unfold cuts; simp, fun a ha => by rw [e1 a ha, List.length_map, hl], fun a s ha hs => ?_, fun a s k ha hs hk => ?_, fun a s ha hs => ?_, fun s hs => ?_⟩
  · rw [e2 a s ha hs, List.length_take, List.length_drop, (row s hs).len]
    have := blk_le (n := n) ha
    omega
  · rw [e2 a s ha hs, cut_gq hk]
    refine (row s hs).gd _ (List.mem_of_getElem? (gq_lt ?_))
    rw [(row s hs).len]
    have := blk_le (n := n) ha
    omega
  · rw [e2 a s ha hs]
    exact Nat.le_trans (cut_nz _ _ _) (row s hs).nz
  · rw [← (row s hs).tot, ← cut_sum (row s hs).len]
    exact S_congr fun a ha => by rw [e2 a s ha hs]
theorem mpk_of {n bs as : Nat} {st : List Rat} {ms : List (List Rows)} (n0 : 0 < n) (n1 : n ≤ 12) (b0 : 0 < bs) (b1 : bs ≤ 4) (a0 : 0 < as) (a1 : as ≤ 4) (hs : Cells n st) (hl : ms.length = bs) (hb : ∀ b, b < bs → BOk n as (gl ms b)) : MPk 0 (st, ms) n bs as :=
  ⟨n0, n1, b0, b1, a0, a1, hs.len, hl, fun b h => (hb b h).l2, fun b a h h2 => (hb b h).l3 a h2, fun b a s h h2 h3 => (hb b h).l4 a s h2 h3, fun s h => hs.gd _ (List.mem_of_getElem? (gq_lt (by rw [hs.len]; exact h))),
    fun b a s k h h2 h3 h4 => (hb b h).g1 a s k h2 h3 h4, hs.tot, fun b s h h2 => (hb b h).s1 s h2⟩
theorem MPk.n1' {k : Nat} {M : Ma} {n bs as : Nat} (h : MPk k M n bs as) : n ≤ 12 := h.n1
theorem MPk.up {k : Nat} {M : Ma} {n bs as : Nat} (h : MPk k M n bs as) {j : Nat} (l : k ≤ j) : MPk j M n bs as := by
  obtain ⟨d, rfl⟩ := Nat.exists_eq_add_of_le l
  have s : ∀ {q : Rat}, Gd (60 * 6 ^ k) 1 q → Gd (60 * 6 ^ (k + d)) 1 q := fun {q} g => by
    have := g.scale (M := 6 ^ d) (Nat.pow_pos (by decide))
    rw [Nat.mul_assoc, ← Nat.pow_add] at this
    exact this
  exact { h with g0 := fun x hx => s (h.g0 x hx), g1 := fun b a x y h1 h2 h3 h4 => s (h.g1 b a x y h1 h2 h3 h4) }
theorem MPk.ok {k : Nat} {M : Ma} {n bs as : Nat} (h : MPk k M n bs as) (l : k ≤ 2) : MOk M n bs as := by
  have h2 := h.up l
  have s : ∀ {q : Rat}, Gd (60 * 6 ^ 2) 1 q → Gd 2160 1 q := fun {q} g => g
  exact { h2 with g0 := fun x hx => s (h2.g0 x hx), g1 := fun b a x y h1 h2' h3 h4 => s (h2.g1 b a x y h1 h2' h3 h4) }
theorem gl_snoc_lt {α : Type} {l : List (List α)} {x : List α} {i : Nat} (h : i < l.length) : gl (l ++ [x]) i = gl l i := gl_of (by rw [List.getElem?_append_left h]; exact gl_lt h)
theorem gl_snoc {α : Type} {l : List (List α)} {x : List α} : gl (l ++ [x]) l.length = x := gl_of (by simp)
end Mt

set_option Elab.async false
set_option linter.all false
set_option maxRecDepth 100000
set_option maxHeartbeats 4000000
set_option exponentiation.threshold 5000
namespace K
open PySem PySem.Spec PyProof.Rows L2 Tk Hd Mt
section
variable {P : Program} {w : World} {K : PySem.W.Frag} {mg : Str → Option Value} {base : Heap}
/-- the law's own machines -/
def iLM : Rp Ma := fun H v M => ∃ a x y, v = .ref a ∧ H a = some (.tup [x, y]) ∧ iL iQ H x M.1 ∧ iL (iL (iL (iL iQ))) H y M.2
instance : Mono iLM := ⟨fun s ⟨a, x, y, e, h, p, q⟩ => ⟨a, x, y, e, s _ _ h, up s p, up s q⟩⟩
def spLM : Sp := fun vs H Q _ => ∃ (I : Hp) (p : Addr) (n bs as : Nat), vs = [.ref p, .int n, .int bs, .int as] ∧ Same I H ∧ PoolOk I H p ∧ (0 < n ∧ n ≤ 12) ∧ (0 < bs ∧ bs ≤ 4) ∧ (0 < as ∧ as ≤ 4) ∧
  ∀ I' H' v M, Gr [p] I H I' H' → PoolOk I' H' p → iLM I' v M → MPk 0 M n bs as → Q v H'
theorem sc_lmach : FnScope ["pool", "states", "buttons", "answers", "start", "moves", "button", "rows", "state", "row", "answer"] ["pool", "states", "buttons", "answers"] (defScope s__law_machine) := ⟨rfl, rfl, rfl, by decide +kernel, rfl, by decide +kernel, by decide +kernel⟩
theorem stb_pool {p l : Addr} (n : p ≠ l) : Stb (fun I H => PoolOk I H p) l := ⟨fun hI h => h.mutO n hI, fun hI h => h.frzO n hI⟩
theorem ok_lmach (D : Dt K mg) : Has P w K mg base 3 (He.ga K "_law_machine") ["pool", "states", "buttons", "answers"] [] spLM := by
  obtain ⟨fd, F⟩ := fd__law_machine D
  have H__law_cells := ok_cells (P := P) (w := w) (base := base) D
  refine hasN F (F.bindsN fun _ _ _ _ _ _ us hl => match us, hl with | [_, _, _, _], _ => rfl) sc_lmach (fun vs H Q E h => ?_) (fun cdv A outer s H vs Q E hr h => ?_)
  · obtain ⟨I, p, n, bs, as, rfl, _⟩ := h; rfl
  · obtain ⟨I, p, n, bs, as, rfl, s0, po, ⟨n0, n1⟩, ⟨b0, b1⟩, ⟨a0, a1⟩, k⟩ := h
    refine ⟨_, (pss_cons (ps_set (i := 4) sc_lmach.nd rfl (Or.inl rfl) (pe_callH H__law_cells (hr.mono (by decide)) rfl (glo__law_cells D) passL (pa_cons (pv 0) (pa_cons (pv 1) (pa_cons pe_int pa_nil)))))
      (pss_cons (ps_set (i := 5) sc_lmach.nd rfl (Or.inl rfl) (pe_lst pa_nil))
      (pss_cons (ps_for PassesOwn.never rfl (pi_range1 rfl (free_range D) (pa_cons (pv 2) pa_nil)) (pg_name (i := 6) sc_lmach.nd rfl (Or.inl rfl))
      (pss_cons (ps_set (i := 7) sc_lmach.nd rfl (Or.inr rfl) (pe_lc (own := [("state", 8)]) (g := gName 8) rfl sc_lmach.nd (pi_range1 rfl (free_range D) (pa_cons (pv 1) pa_nil)) (blkOk_by (own := [("state", 8)]) (N := ["pool", "states", "buttons", "answers", "start", "moves", "button", "rows", "state", "row", "answer"]) (by kernel_rfl)) (fun _ _ _ _ _ => (pg_name (i := 8) sc_lmach.nd rfl (Or.inl rfl))) (fun _ _ _ _ _ => pts_nil) (fun _ _ _ _ _ => (pe_callH H__law_cells (hr.mono (by decide)) rfl (glo__law_cells D) passL (pa_cons (pv 0) (pa_cons (pe_op op_mul (pv 3) (pv 1)) (pa_cons pe_int pa_nil)))))))
      (pss_one (ps_expr (pe_bm PySem.F.plainAttrs_list PySem.F.slot_list_append PySem.F.type_list_append mt_append (pv 5) (pa_cons (pe_lc (own := [("answer", 10)]) (g := gName 10) rfl sc_lmach.nd (pi_range1 rfl (free_range D) (pa_cons (pv 3) pa_nil)) (blkOk_by (own := [("answer", 10)]) (N := ["pool", "states", "buttons", "answers", "start", "moves", "button", "rows", "state", "row", "answer"]) (by kernel_rfl)) (fun _ _ _ _ _ => (pg_name (i := 10) sc_lmach.nd rfl (Or.inr rfl))) (fun _ _ _ _ _ => pts_nil) (fun _ _ _ _ _ => (pe_lc (own := [("row", 9)]) (g := gName 9) rfl sc_lmach.nd (pi_listK K (pv 7)) (blkOk_by (own := [("row", 9)]) (N := ["pool", "states", "buttons", "answers", "start", "moves", "button", "rows", "state", "row", "answer"]) (by kernel_rfl)) (fun _ _ _ _ _ => (pg_name (i := 9) sc_lmach.nd rfl (Or.inl rfl))) (fun _ _ _ _ _ => pts_nil) (fun _ _ _ _ _ => (pe_slice (sl_listK K) (pv 9) (po_some (pe_op op_mul (pv 10) (pv 1))) (po_some (pe_op op_add (pe_op op_mul (pv 10) (pv 1)) (pv 1)))))))) pa_nil))))))
      (pss_one (ps_ret (pe_tup (pa_cons (pv 4) (pa_cons (pv 5) pa_nil)))))))), ?_⟩
    have an : as * n ≤ 4 * 12 := Nat.mul_le_mul a1 n1
    have an0 : 0 < as * n := Nat.mul_pos a0 n0
    (try dsimp only)
    refine seq_cut (fun σ' H1 => ∃ (I1 : Hp) (sv : V) (st : List Rat), σ' = [some (.ref p), some (.int n), some (.int bs), some (.int as), some sv, none, none, none, none, none, none] ∧ Gr [p] I H I1 H1 ∧ PoolOk I1 H1 p ∧ iL iQ I1 sv st ∧ Cells n st) (fun nx q => ?_) ?_
    · refine ⟨_, rfl, _, rfl, I, p, n, 2, rfl, s0, po, n0, by omega, by decide, by decide, fun I1 H1 v qs g1 po1 r1 c1 => ?_⟩
      exact q _ _ ⟨I1, v, qs, rfl, g1, po1, r1, c1⟩
    rintro σ' H1 ⟨I1, sv, st, rfl, g1, po1, r1, cst⟩
    (try dsimp only)
    refine seq_cut (fun σ' H2 => ∃ L, σ' = [some (.ref p), some (.int n), some (.int bs), some (.int as), some sv, some (.ref L), none, none, none, none, none] ∧ H1 L = none ∧ H2 = upd H1 L (.lst [])) (fun nx q => ?_) ?_
    · exact ⟨(by show 0 ≤ sizeLine; decide), fun L hL => q _ _ ⟨L, rfl, hL, rfl⟩⟩
    rintro σ' H2 ⟨L, rfl, hL, rfl⟩
    (try dsimp only)
    have npL := po1.ne hL
    have hL0 := g1.none hL
    have hI1L := g1.ih.free hL
    have gL : Gr [p] I H I1 (upd H1 L (.lst [])) := g1.trans (Gr.tmp g1.ih hL)
    refine ⟨_, rfl, bs, rfl, by omega, by omega, ?_⟩
    rw [Int.toNat_natCast]
    refine for_wk (wk_range (I := I1))
      (fun σ' H' => ∃ (I' : Hp) (v6 v7 : Option V) (ys : List V) (ms : List (List Rows)), σ' = [some (.ref p), some (.int n), some (.int bs), some (.int as), some sv, some (.ref L), v6, v7, none, none, none] ∧ Gr [p] I H I' H' ∧ Same I1 I' ∧ PoolOk I' H' p ∧ I' L = none ∧ H' L = some (.lst ys) ∧ All2 (iL (iL (iL iQ)) I') ys ms ∧ ms.length = bs ∧ ∀ b, b < bs → BOk n as (gl ms b))
      (fun i σ' H' => ∃ (I' : Hp) (v6 v7 : Option V) (ys : List V) (ms : List (List Rows)), σ' = [some (.ref p), some (.int n), some (.int bs), some (.int as), some sv, some (.ref L), v6, v7, none, none, none] ∧ Gr [p] I H I' H' ∧ Same I1 I' ∧ PoolOk I' H' p ∧ I' L = none ∧ H' L = some (.lst ys) ∧ All2 (iL (iL (iL iQ)) I') ys ms ∧ ms.length = i ∧ ∀ b, b < i → BOk n as (gl ms b))
      (fun i σ' H' h => by obtain ⟨I', v6, v7, ys, ms, _, gr, s, _⟩ := h; exact s.trans gr.ih)
      ⟨I1, none, none, [], [], rfl, gL, Same.refl _, po1.mutO npL hI1L, hI1L, upd_same, .nil, rfl, fun b hb => absurd hb (by omega)⟩ (fun nx q i σ' H' hi h => ?_) (fun σ' H' h => h) ?_
    · obtain ⟨I', v6, v7, ys, ms, rfl, gr, s1, po2, hLI, hLH, a2, hl, ok⟩ := h
      (try dsimp only)
      refine seq_cut (fun σ' H2 => ∃ (I2 : Hp) (v6 : Option V) (lr : Addr) (rows : Rows), σ' = [some (.ref p), some (.int n), some (.int bs), some (.int as), some sv, some (.ref L), v6, some (.ref lr), none, none, none] ∧ Gr [p] I' H' I2 H2 ∧ PoolOk I2 H2 p ∧ iL (iL iQ) I2 (.ref lr) rows ∧ rows.length = n ∧ ∀ r ∈ rows, Cells (as * n) r) (fun nx q => ?_) ?_
      · refine ⟨_, rfl, n, rfl, by omega, by omega, fun l hD => ?_⟩
        rw [Int.toNat_natCast]
        have npl := po2.ne hD
        refine lc_wk [p] (iL iQ) (fun i z => Cells (as * n) z) (fun I H => PoolOk I H p) (wk_range (I := I')) gr.ih hD (by simpa using npl.symm) (lt_line (by omega)) (stb_pool npl) po2 (fun j I3 H3 Nx Qk hj s2 s3 pj kk => ?_) (fun I3 H3 ys zs g3 hD' b2 hz rl pj => ?_)
        · refine ⟨rfl, _, rfl, _, rfl, _, rfl, _, _, rfl, rfl, mulc (by omega) (by omega), I3, p, as * n, 3, by rw [Int.natCast_mul]; rfl, s3, pj, an0, by omega, by decide, by decide, fun I4 H4 v qs g4 po4 r4 c4 => kk _ _ _ _ g4 po4 r4 c4⟩
        · exact q _ _ ⟨I3, _, l, zs, rfl, g3, pj, ⟨l, ys, rfl, hD', b2⟩, hz, fun r hr => by
            obtain ⟨j, hj, e⟩ := List.getElem_of_mem hr
            rw [← e]; exact rl j _ (List.getElem?_eq_getElem hj)⟩
      rintro σ' H2 ⟨I2, v6, lr, rows, rfl, g2, po3, rr, hrl, hrc⟩
      (try dsimp only)
      have hLH2 : H2 L = some (.lst ys) := g2.at hLH (by simpa using npL.symm)
      have hLI2 := g2.out hLI hLH
      refine ⟨_, rfl, .inl ⟨rfl, _, SqL.of hLH2⟩, _, rfl, as, rfl, by omega, by omega, fun l hD => ?_⟩
      rw [Int.toNat_natCast]
      have nLl : L ≠ l := ne_of_none hLH2 hD
      refine lc_range1 (iL (iL iQ)) (fun a => rows.map fun r => (r.drop (a * n)).take n) g2.ih hD (lt_line (by omega)) (fun a I3 H3 Nx Qk ha s2 s3 kk => ?_) (fun I3 H3 g3 r3 => ?_)
      · obtain ⟨_, vs, er, hr, b2⟩ := up s2 rr
        cases er
        refine ⟨rfl, _, rfl, lr, rfl, ⟨_, SqL.of (s3 _ _ hr)⟩, fun l2 hD2 => lc_map (R := iL iQ) (Sy := iL iQ) (fun r => (r.drop (a * n)).take n) (wk_list hr) b2 s3 hD2 (lt_line (by omega)) (fun j r I4 H4 Nx4 Qk4 hj rj s4 s5 ke => ?_) (fun I4 H4 g4 r4 => kk _ _ _ g4 r4)⟩
        have e : (0 + (a : Int)) * (n : Int) = ((a * n : Nat) : Int) := by rw [Int.zero_add, Int.natCast_mul]
        have hlr := (hrc r (List.mem_of_getElem? hj)).len
        refine ⟨rfl, _, rfl, _, rfl, _, rfl, _, _, rfl, rfl, mulc (by omega) (by omega), _, rfl, _, rfl, _, rfl, _, _, rfl, rfl, mulc (by omega) (by omega), _, rfl, _, _, rfl, rfl, _, rfl, ?_⟩
        rw [e]
        exact slice_of rj s5 (by rw [hlr]; exact blk_le ha) ke
      · have hLH3 : H3 L = some (.lst ys) := g3.at hLH2 (by simp)
        have hLI3 := g3.out hLI2 hLH2
        refine ⟨L, ys, _, rfl, rfl, hLH3, lt_line (by rw [a2.len]; omega), ?_⟩
        have gg := (gr.trans g2).trans (g3.mono (ns := [p]) fun _ z => nomatch z)
        have po5 := po3.up g3 (by simp)
        refine ⟨I3, _, _, ys ++ [.ref l], ms ++ [cuts n as rows], rfl, ((gg.mono (ns := [L, p]) fun _ z => List.mem_cons_of_mem _ z).trans (Gr.mut gg.ih hLI3 List.mem_cons_self)).drop hL0, (s1.trans g2.ii).trans g3.ii, po5.mutO npL hLI3, hLI3, upd_same, ((a2.up g2.ii).up g3.ii).snoc r3, by rw [List.length_append, hl]; rfl, fun b hb => ?_⟩
        by_cases h : b < i
        · rw [gl_snoc_lt (by omega)]; exact ok b h
        · have e : b = ms.length := by omega
          rw [e, gl_snoc]
          exact cuts_ok hrl hrc
    · rintro σ' H' ⟨I', v6, v7, ys, ms, rfl, gr, s1, po2, hLI, hLH, a2, hl, ok⟩
      have g5 : Gr [p] I H (upd I' L (.lst ys)) H' := (gr.mono (ns := [L, p]) fun _ z => List.mem_cons_of_mem _ z).frz s0 hL0 hLH
      refine ⟨_, rfl, _, rfl, (by show 2 ≤ sizeLine; decide), fun t ht => ?_⟩
      have g6 := Gr.new (ms := []) (o := .tup [sv, .ref L]) g5.ih ht
      have po6 := (po2.frzO (o := .lst ys) npL hLI).up g6 (by simp)
      refine k _ _ _ (st, ms) (g5.trans (g6.mono fun _ z => nomatch z)) po6 ⟨t, _, _, rfl, upd_same, up ((s1.trans (sNew hLI)).trans g6.ii) r1, L, ys, rfl, g6.ii _ _ upd_same, ?_⟩ (mpk_of n0 n1 b0 b1 a0 a1 cst hl ok)
      exact (a2.up (sNew hLI)).up g6.ii
end
end K

set_option Elab.async false
set_option linter.all false
set_option maxRecDepth 100000
set_option maxHeartbeats 4000000
set_option exponentiation.threshold 5000
namespace K
open PySem PySem.Spec PyProof.Rows L2 Tk Hd Mt
section
variable {P : Program} {w : World} {K : PySem.W.Frag} {mg : Str → Option Value} {base : Heap}
def spMade (C C2 : Addr) : Sp := fun vs H Q _ => ∃ (I : Hp) (v : V) (M : Ma) (n bs as : Nat), vs = [v] ∧ Same I H ∧ iLM I v M ∧ MOk M n bs as ∧ Ret [] I H (iM C C2) M Q
theorem sc_lmade : FnScope ["machine", "start", "moves", "made", "num", "den", "line", "rows", "answers"] ["machine"] (defScope s__law_made) := ⟨rfl, rfl, rfl, by decide +kernel, rfl, by decide +kernel, by decide +kernel⟩
theorem sm_den {q : Rat} (h : Gd 2160 1 q) : Sm (q.den : Int) := by
  have := h.size.2
  exact sm_of (by omega) (by have : (2160 : Int) < 2 ^ 1999 := by decide
                             omega)
theorem iA_of {α : Type} {R S : Rp α} {H : Hp} (h : ∀ v x, R H v x → S H v x) {v : V} {xs : List α} : iL R H v xs → iA S H v xs := by
  rintro ⟨a, vs, e, ha, a2⟩
  exact ⟨a, vs, e, .inl ha, a2.imp h⟩
theorem ok_lmade (D : Dt K mg) : Has P w K mg base 10 (He.ga K "_law_made") ["machine"] [] (spMade (CR K) (CM K)) := by
  obtain ⟨fd, F⟩ := fd__law_made D
  have H_Ratio_init := has_init (P := P) (w := w) (base := base) D
  have H_Machine_init := ok_minit (P := P) (w := w) (base := base) D
  refine hasN F (F.bindsN fun _ _ _ _ _ _ us hl => match us, hl with | [_], _ => rfl) sc_lmade (fun vs H Q E h => ?_) (fun cdv A outer s H vs Q E hr h => ?_)
  · obtain ⟨I, v, M, n, bs, as, rfl, _⟩ := h; rfl
  · obtain ⟨I, vm, M, n, bs, as, rfl, s0, ⟨a, x, y, rfl, ha, rx, ry⟩, ok, k⟩ := h
    obtain ⟨ax, xs, rfl, hx, x2⟩ := id rx
    obtain ⟨ay, ys, rfl, hy, y2⟩ := id ry
    have b1 := ok.b1
    have a1 := ok.a1
    have n1 := ok.n1
    have l0 := ok.l0
    have l1 := ok.l1
    refine ⟨_, (pss_cons (ps_asg (pv 0) (pg_tupK K rfl (pgs_cons (pg_name (i := 1) sc_lmade.nd rfl (Or.inl rfl)) (pgs_cons (pg_name (i := 2) sc_lmade.nd rfl (Or.inl rfl)) pgs_nil))))
      (pss_cons (ps_setLc (own := [("answers", 8)]) (g := gName 8) (i := 3) rfl sc_lmade.nd rfl rfl (sw_true rfl rfl rfl (by decide +kernel)) (pi_listK K (pv 2)) (blkOk_by (own := [("answers", 8)]) (N := ["machine", "start", "moves", "made", "num", "den", "line", "rows", "answers"]) (by kernel_rfl)) (fun _ _ _ _ _ => (pg_name (i := 8) sc_lmade.nd rfl (Or.inl rfl))) (fun _ _ _ _ _ => pts_nil) (fun _ _ _ _ _ => (pe_lc (own := [("rows", 7)]) (g := gName 7) rfl sc_lmade.nd (pi_listK K (pv 8)) (blkOk_by (own := [("rows", 7)]) (N := ["machine", "start", "moves", "made", "num", "den", "line", "rows", "answers"]) (by kernel_rfl)) (fun _ _ _ _ _ => (pg_name (i := 7) sc_lmade.nd rfl (Or.inl rfl))) (fun _ _ _ _ _ => pts_nil) (fun _ _ _ _ _ => (pe_lc (own := [("line", 6)]) (g := gName 6) rfl sc_lmade.nd (pi_listK K (pv 7)) (blkOk_by (own := [("line", 6)]) (N := ["machine", "start", "moves", "made", "num", "den", "line", "rows", "answers"]) (by kernel_rfl)) (fun _ _ _ _ _ => (pg_name (i := 6) sc_lmade.nd rfl (Or.inl rfl))) (fun _ _ _ _ _ => pts_nil) (fun _ _ _ _ _ => (pe_lc (own := [("num", 4), ("den", 5)]) (g := gTup K 2 (gCons (gName 4) (gCons (gName 5) gNil))) rfl sc_lmade.nd (pi_listK K (pv 6)) (blkOk_by (own := [("num", 4), ("den", 5)]) (N := ["machine", "start", "moves", "made", "num", "den", "line", "rows", "answers"]) (by kernel_rfl)) (fun _ _ _ _ _ => (pg_tupK K rfl (pgs_cons (pg_name (i := 4) sc_lmade.nd rfl (Or.inl rfl)) (pgs_cons (pg_name (i := 5) sc_lmade.nd rfl (Or.inl rfl)) pgs_nil)))) (fun _ _ _ _ _ => pts_nil) (fun _ _ _ _ _ => (pe_makeH (mkr_Ratio (K := K) D) H_Ratio_init (hr.mono (by decide)) rfl (glo_Ratio D) passL (pa_cons (pv 4) (pa_cons (pv 5) pa_nil)))))))))))
      (pss_one (ps_ret (pe_makeH (mkr_Machine (K := K) D) H_Machine_init (hr.mono (by decide)) rfl (glo_Machine D) passL (pa_cons (pe_lc (own := [("num", 4), ("den", 5)]) (g := gTup K 2 (gCons (gName 4) (gCons (gName 5) gNil))) rfl sc_lmade.nd (pi_listK K (pv 1)) (blkOk_by (own := [("num", 4), ("den", 5)]) (N := ["machine", "start", "moves", "made", "num", "den", "line", "rows", "answers"]) (by kernel_rfl)) (fun _ _ _ _ _ => (pg_tupK K rfl (pgs_cons (pg_name (i := 4) sc_lmade.nd rfl (Or.inl rfl)) (pgs_cons (pg_name (i := 5) sc_lmade.nd rfl (Or.inl rfl)) pgs_nil)))) (fun _ _ _ _ _ => pts_nil) (fun _ _ _ _ _ => (pe_makeH (mkr_Ratio (K := K) D) H_Ratio_init (hr.mono (by decide)) rfl (glo_Ratio D) passL (pa_cons (pv 4) (pa_cons (pv 5) pa_nil))))) (pa_cons (pv 3) pa_nil))))))), ?_⟩
    refine ⟨_, rfl, a, _, rfl, SqT.of (s0 _ _ ha), rfl, _, _, rfl, _, _, rfl, rfl, ?_⟩
    (try dsimp only)
    refine seq_cut (fun σ' H1 => ∃ (I1 : Hp) (mv : V), σ' = [some (.ref a), some (.ref ax), some (.ref ay), some mv, none, none, none, none, none] ∧ Gr [] I H I1 H1 ∧ iL (iL (iL (iL (iR (CR K))))) I1 mv M.2) (fun nx q => ?_) ?_
    · refine ⟨_, rfl, ay, rfl, ⟨_, SqL.of (s0 _ _ hy)⟩, fun l hD => lc_id (R := iL (iL (iL iQ))) (Sy := iL (iL (iL (iR (CR K))))) (wk_list hy) y2 s0 hD (lt_line (by omega)) (fun i p I1 H1 Nx1 Qk1 hi rp s1 k1 => ?_) (fun I1 H1 g1 r1 => q _ _ ⟨I1, _, rfl, g1, r1⟩)⟩
      obtain ⟨b, hb, rfl⟩ := mem_gl (List.mem_of_getElem? hi)
      obtain ⟨c, zs, ec, hc, c2⟩ := id rp
      have l2 := ok.l2 b (by omega)
      rw [ec]
      refine ⟨rfl, _, rfl, c, rfl, ⟨_, SqL.of (s1 _ _ hc)⟩, fun l hD => lc_id (R := iL (iL iQ)) (Sy := iL (iL (iR (CR K)))) (wk_list hc) c2 s1 hD (lt_line (by omega)) (fun j p I2 H2 Nx2 Qk2 hj rp s2 k2 => ?_) (fun I2 H2 g2 r2 => k1 _ _ _ g2 r2)⟩
      obtain ⟨e, he, rfl⟩ := mem_gl (List.mem_of_getElem? hj)
      obtain ⟨d, ws, ed, hd, d2⟩ := id rp
      have l3 := ok.l3 b e (by omega) (by omega)
      rw [ed]
      refine ⟨rfl, _, rfl, d, rfl, ⟨_, SqL.of (s2 _ _ hd)⟩, fun l hD => lc_id (R := iL iQ) (Sy := iL (iR (CR K))) (wk_list hd) d2 s2 hD (lt_line (by omega)) (fun u p I3 H3 Nx3 Qk3 hu rp s3 k3 => ?_) (fun I3 H3 g3 r3 => k2 _ _ _ g3 r3)⟩
      obtain ⟨f, hf, rfl⟩ := mem_gl (List.mem_of_getElem? hu)
      obtain ⟨t, vs, et, ht, t2⟩ := id rp
      have l4 := ok.l4 b e f (by omega) (by omega) (by omega)
      rw [et]
      refine ⟨rfl, _, rfl, t, rfl, ⟨_, SqL.of (s3 _ _ ht)⟩, fun l hD => lc_id (R := iQ) (Sy := iR (CR K)) (wk_list ht) t2 s3 hD (lt_line (by omega)) (fun m q I4 H4 Nx4 Qk4 hm rq s4 k4 => ?_) (fun I4 H4 g4 r4 => k3 _ _ _ g4 r4)⟩
      obtain ⟨m', hm', rfl⟩ := mem_gq (List.mem_of_getElem? hm)
      obtain ⟨o, eo, ho⟩ := rq
      have gd : Gd 2160 1 (gq (gl (gl (gl M.2 b) e) f) m') := ok.g1 b e f m' (by omega) (by omega) (by omega) (by omega)
      generalize gq (gl (gl (gl M.2 b) e) f) m' = q at gd k4 ho hm
      rw [eo]
      refine ⟨o, _, rfl, SqT.of (s4 _ _ ho), rfl, _, _, rfl, _, _, rfl, rfl, rfl, _, rfl, _, rfl, fun x dx nx nd ne => ⟨x, dx, _, _, rfl, upd_same, sm_den gd, fun _ => ⟨rfl, ?_⟩, fun h => absurd h (Int.not_le.mpr (den_pos _))⟩⟩
      obtain ⟨gn, rn⟩ := rat_new (ms := []) (C := CR K) (q := rt q.num q.den) s4 nx nd ne
      rw [rt_self] at gn rn
      have z := k4 _ _ _ gn rn
      rw [rt_self]
      exact z
    rintro σ' H1 ⟨I1, mv, rfl, g1, r1⟩
    have hx1 := g1.ii _ _ hx
    refine ⟨_, rfl, ax, rfl, ⟨_, SqL.of (g1.ih _ _ hx1)⟩, fun l hD => lc_id (R := iQ) (Sy := iR (CR K)) (wk_list hx1) (x2.up g1.ii) g1.ih hD (lt_line (by omega)) (fun m q I4 H4 Nx4 Qk4 hm rq s4 k4 => ?_) (fun I4 H4 g4 r4 => ?_)⟩
    · obtain ⟨m', hm', rfl⟩ := mem_gq (List.mem_of_getElem? hm)
      obtain ⟨o, eo, ho⟩ := rq
      have gd := ok.g0 m' (by omega)
      rw [eo]
      refine ⟨o, _, rfl, SqT.of (s4 _ _ ho), rfl, _, _, rfl, _, _, rfl, rfl, rfl, _, rfl, _, rfl, fun x dx nx nd ne => ⟨x, dx, _, _, rfl, upd_same, sm_den gd, fun _ => ⟨rfl, ?_⟩, fun h => absurd h (Int.not_le.mpr (den_pos _))⟩⟩
      obtain ⟨gn, rn⟩ := rat_new (ms := []) (C := CR K) (q := rt (gq M.1 m').num (gq M.1 m').den) s4 nx nd ne
      rw [rt_self] at gn rn
      have z := k4 _ _ _ gn rn
      rw [rt_self]
      exact z
    · refine ⟨_, rfl, fun x dx nx nd ne => ?_⟩
      have h1 : upd H4 dx (.own x) x = none := by rw [upd_ne (Ne.symm ne)]; exact nx
      have gd := Gr.new (ms := []) (o := .own x) g4.ih nd
      refine ⟨upd I4 dx (.own x), x, dx, _, _, M, n, bs, as, rfl, sUnder gd.ih (gd.ih.free h1), gd.ih.free h1, upd_same, iA.l (up gd.ii r4), iA_of (fun _ _ => iA_of fun _ _ => iA_of fun _ _ => iA.l) (up gd.ii (up g4.ii r1)), ok, fun I5 H5 va vb g5 h5 p1 p2 => ⟨rfl, ?_⟩⟩
      · obtain ⟨g6, r6⟩ := mach_new g4.ih nx nd ne g5 h5 p1 p2
        exact k _ _ _ ((g1.trans g4).trans g6) r6
end
end K

set_option Elab.async false
set_option linter.all false
set_option maxRecDepth 100000
set_option maxHeartbeats 4000000
namespace Tk
open PySem PySem.Spec PyProof.Rows L2
section
variable {α : Type} {K : PySem.W.Frag}
/-- those of a list that a test keeps -/
theorem lc_keep {J : It} {R Sy : Rp α} [Mono R] [Mono Sy] (p : α → Bool) {vs : List V} {xs : List α} {I H1 : Hp} {g : TG} {tt : TT} {te : TE} {vz : List Nat} {σ : L2.St} {D : Addr} {Qd : Hp → Prop}
    (W : Wk J vs.length (gv vs) I) (a2 : All2 (R I) vs xs) (s0 : Same I H1) (hD : H1 D = none) (hn : xs.length < sizeLine)
    (step : ∀ (i : Nat) (x : α) (I' H' : Hp) (Nx : Hp → Prop) (Qk : VK), xs[i]? = some x → R I' (gv vs i) x → Same I I' → Same I' H' → (p x = true → ∀ I'' H'' y, Gr [] I' H' I'' H'' → Sy I'' y x → Qk y H'') → (p x = false → Nx H') →
      g (gv vs i) (wipe σ vz) H' fun σ2 H2 => wipe σ2 vz = wipe σ vz ∧ tt σ2 H2 fun b H3 => if b = true then te σ2 H3 Qk else Nx H3)
    (hd : ∀ I' H' ys, Gr [] I H1 I' H' → H' D = some (.lst ys) → All2 (Sy I') ys (xs.filter p) → Qd H') : LcR J g tt te vz σ H1 D Qd := by
  have hl := a2.len
  let Mid : Nat → Hp → Prop := fun i H => ∃ I' ys, Gr [] I H1 I' H ∧ I' D = none ∧ H D = some (.lst ys) ∧ All2 (Sy I') ys ((xs.take i).filter p)
  refine ⟨fun i m H => m = vs.length - i ∧ i ≤ vs.length ∧ Mid i H, ⟨vs.length, rfl, Nat.zero_le _, I, [], (Gr.tmp s0 hD), s0.free hD, upd_same, .nil⟩, ?_⟩
  rintro i m H ⟨rfl, hi, I', ys, gr, hI, hH, b2⟩
  have s : Same I H := gr.ii.trans gr.ih
  by_cases hlt : i < vs.length
  · have hx : xs[i]? = some (xs[i]'(by omega)) := List.getElem?_eq_getElem (by omega)
    generalize xs[i]'(by omega) = x at hx
    have et : xs.take (i + 1) = xs.take i ++ [x] := by rw [List.take_succ, hx]; rfl
    refine .inr ⟨W.go i H s hlt, fun H' => i + 1 ≤ vs.length ∧ Mid (i + 1) H', fun H' z => ⟨vs.length - (i + 1), by omega, rfl, z.1, z.2⟩, fun y H' hy => ?_⟩
    obtain ⟨rfl, rfl⟩ := W.yld i H y H' s hlt hy
    refine step i x I' _ _ _ hx (up gr.ii (gv2 a2 hx)) gr.ii gr.ih (fun hp I'' H'' y g2 sy => ?_) (fun hp => ⟨hlt, I', ys, gr, hI, hH, ?_⟩)
    · have hD2 := g2.at hH (by simp)
      have hI2 := g2.out hI hH
      have ll : ys.length ≤ i := by
        rw [b2.len]
        refine Nat.le_trans (List.length_filter_le _ _) ?_
        rw [List.length_take]; omega
      refine ⟨ys, hD2, by omega, hlt, I'', ys ++ [y], ?_, hI2, upd_same, ?_⟩
      · have g3 := gr.trans g2
        exact ((g3.mono (ns := [D]) fun _ z => nomatch z).trans (Gr.mut g3.ih hI2 List.mem_cons_self)).drop hD
      · rw [et, List.filter_append, List.filter_cons_of_pos hp, List.filter_nil]
        exact (b2.up g2.ii).snoc sy
    · rw [et, List.filter_append, List.filter_cons_of_neg (by rw [hp]; exact Bool.false_ne_true), List.filter_nil, List.append_nil]
      exact b2
  · have e : i = vs.length := by omega
    subst e
    refine .inl ⟨W.stop H s, hd I' H ys gr hH ?_⟩
    rw [List.take_of_length_le (by omega)] at b2
    exact b2
end
end Tk

set_option Elab.async false
set_option linter.all false
set_option maxRecDepth 100000
set_option maxHeartbeats 4000000
/-! Lists of lists made anew, whose every list is known by its address: they may be changed later. -/
namespace Tk
open PySem PySem.Spec PyProof.Rows L2
abbrev Oo (α : Type) := Hp → Hp → V → α × List Addr → Prop
class Ow {α : Type} (O : Oo α) : Prop where
  fr : ∀ {I I' H H' : Hp} {v : V} {p : α × List Addr}, Same I I' → (∀ a ∈ p.2, H' a = H a) → O I H v p → O I' H' v p
  so : ∀ {I H : Hp} {v : V} {p : α × List Addr}, O I H v p → ∀ a ∈ p.2, ∃ vs, H a = some (.lst vs)
section
variable {α β : Type}
def o0 (R : Rp α) : Oo α := fun I H v p => R I v p.1 ∧ p.2 = []
def oL (O : Oo α) : Oo (List α) := fun I H v p => ∃ a vs zs, v = .ref a ∧ H a = some (.lst vs) ∧ All2 (O I H) vs zs ∧ p.1 = zs.map Prod.fst ∧ p.2 = a :: (zs.map Prod.snd).flatten
instance {R : Rp α} [m : Mono R] : Ow (o0 R) := ⟨fun s _ ⟨h, e⟩ => ⟨m.up s h, e⟩, fun ⟨_, e⟩ a h => by rw [e] at h; cases h⟩
theorem All2.memL {R : V → α → Prop} : ∀ {vs : List V} {xs : List α} {x : α}, All2 R vs xs → x ∈ xs → ∃ v ∈ vs, R v x
  | _, _, _, .nil, h => by cases h
  | _, _, x, .cons a t, h => by
    rcases List.mem_cons.mp h with rfl | h
    · exact ⟨_, List.mem_cons_self, a⟩
    · obtain ⟨v, hv, r⟩ := t.memL h
      exact ⟨v, List.mem_cons_of_mem _ hv, r⟩
theorem All2.impM {R S : V → α → Prop} : ∀ {vs : List V} {xs : List α}, (∀ v x, x ∈ xs → R v x → S v x) → All2 R vs xs → All2 S vs xs
  | _, _, _, .nil => .nil
  | _, _, h, .cons a t => .cons (h _ _ List.mem_cons_self a) (t.impM fun v x hx => h v x (List.mem_cons_of_mem _ hx))
theorem mem_fl {zs : List (α × List Addr)} {z : α × List Addr} {a : Addr} (h : z ∈ zs) (k : a ∈ z.2) : a ∈ (zs.map Prod.snd).flatten :=
  List.mem_flatten.mpr ⟨z.2, List.mem_map.mpr ⟨z, h, rfl⟩, k⟩
theorem fl_mem {zs : List (α × List Addr)} {a : Addr} (h : a ∈ (zs.map Prod.snd).flatten) : ∃ z ∈ zs, a ∈ z.2 := by
  obtain ⟨l, hl, h⟩ := List.mem_flatten.mp h
  obtain ⟨z, hz, rfl⟩ := List.mem_map.mp hl
  exact ⟨z, hz, h⟩
instance {O : Oo α} [w : Ow O] : Ow (oL O) := ⟨fun {I I' H H' v p} s h ⟨a, vs, zs, e, ha, a2, e1, e2⟩ => by
    have ha' : a ∈ p.2 := by rw [e2]; exact List.mem_cons_self
    exact ⟨a, vs, zs, e, by rw [h a ha']; exact ha, a2.impM fun v z hz r => w.fr s (fun b hb => h b (by rw [e2]; exact List.mem_cons_of_mem _ (mem_fl hz hb))) r, e1, e2⟩,
  fun {I H v p} ⟨a, vs, zs, e, ha, a2, e1, e2⟩ b hb => by
    rw [e2] at hb
    rcases List.mem_cons.mp hb with rfl | hb
    · exact ⟨_, ha⟩
    · obtain ⟨z, hz, hbz⟩ := fl_mem hb
      obtain ⟨v, _, r⟩ := a2.memL hz
      exact w.so r b hbz⟩
theorem Ow.up {O : Oo α} [w : Ow O] {I I' : Hp} {v : V} {p : α × List Addr} (s : Same I I') (h : O I I v p) : O I' I' v p :=
  w.fr s (fun a ha => by obtain ⟨o, e⟩ := w.so h a ha; rw [e, s _ _ e]) h
noncomputable def strip (S : Addr → Prop) (I : Hp) : Hp := by classical exact fun a => if S a then none else I a
theorem strip_in {S : Addr → Prop} {I : Hp} {a : Addr} (h : S a) : strip S I a = none := by unfold strip; rw [if_pos h]
theorem strip_out {S : Addr → Prop} {I : Hp} {a : Addr} (h : ¬ S a) : strip S I a = I a := by unfold strip; rw [if_neg h]
theorem strip_sub {S : Addr → Prop} {I : Hp} : Same (strip S I) I := fun a o e => by
  by_cases h : S a
  · rw [strip_in h] at e; cases e
  · rw [strip_out h] at e; exact e
/-- one of the parts changed, within what it owns and what is new -/
theorem all2_set {O : Oo α} [w : Ow O] {I H H' : Hp} : ∀ {vs : List V} {zs : List (α × List Addr)} {i : Nat} {u : V} {z z' : α × List Addr}, All2 (O I H) vs zs → (zs.map Prod.snd).flatten.Nodup → vs[i]? = some u → zs[i]? = some z → O I H' u z' → (∀ a o, a ∉ z.2 → H a = some o → H' a = H a) → All2 (O I H') vs (zs.set i z')
  | _, _, i, _, _, _, .nil, _, h, _, _, _ => by simp at h
  | v :: vs, y :: zs, 0, u, z, z', .cons r t, nd, h1, h2, ro, fr => by
    simp at h1 h2
    subst h1 h2
    rw [List.map_cons, List.flatten_cons, List.nodup_append] at nd
    refine .cons ro (t.impM fun v x hx r => w.fr (Same.refl I) (fun a ha => ?_) r)
    obtain ⟨ws, e⟩ := w.so r a ha
    exact fr a _ (fun hz => nd.2.2 a hz a (mem_fl hx ha) rfl) e
  | v :: vs, y :: zs, i + 1, u, z, z', .cons r t, nd, h1, h2, ro, fr => by
    simp at h1 h2
    rw [List.map_cons, List.flatten_cons, List.nodup_append] at nd
    refine .cons (w.fr (Same.refl I) (fun a ha => ?_) r) (all2_set t nd.2.1 h1 h2 ro fr)
    obtain ⟨ws, e⟩ := w.so r a ha
    exact fr a _ (fun hz => nd.2.2 a ha a (mem_fl (List.mem_of_getElem? h2) hz) rfl) e
/-- its addresses then -/
structure New (H : Hp) (S S' : List Addr) : Prop where
  nd : S'.Nodup
  so : ∀ a ∈ S', a ∈ S ∨ H a = none
theorem new_set {H : Hp} : ∀ {zs : List (α × List Addr)} {i : Nat} {z z' : α × List Addr}, (zs.map Prod.snd).flatten.Nodup → (∀ a ∈ (zs.map Prod.snd).flatten, ∃ o, H a = some o) → zs[i]? = some z → New H z.2 z'.2 → New H (zs.map Prod.snd).flatten ((zs.set i z').map Prod.snd).flatten
  | [], i, z, z', _, _, h, _ => by simp at h
  | y :: zs, 0, z, z', nd, so, h, n => by
    simp at h
    subst h
    rw [List.map_cons, List.flatten_cons, List.nodup_append] at nd
    rw [List.set_cons_zero, List.map_cons, List.flatten_cons, List.map_cons, List.flatten_cons]
    have so2 : ∀ a ∈ (zs.map Prod.snd).flatten, ∃ o, H a = some o := fun a ha => so a (by rw [List.map_cons, List.flatten_cons]; exact List.mem_append_right _ ha)
    refine ⟨List.nodup_append.mpr ⟨n.nd, nd.2.1, fun a ha b hb e => ?_⟩, fun a ha => ?_⟩
    · subst e
      rcases n.so a ha with h | h
      · exact nd.2.2 a h a hb rfl
      · obtain ⟨o, e⟩ := so2 a hb
        rw [h] at e; cases e
    · rcases List.mem_append.mp ha with h | h
      · exact (n.so a h).imp (List.mem_append_left _) id
      · exact .inl (List.mem_append_right _ h)
  | y :: zs, i + 1, z, z', nd, so, h, n => by
    rw [List.map_cons, List.flatten_cons, List.nodup_append] at nd
    rw [List.set_cons_succ, List.map_cons, List.flatten_cons, List.map_cons, List.flatten_cons]
    have so2 : ∀ a ∈ (zs.map Prod.snd).flatten, ∃ o, H a = some o := fun a ha => so a (by rw [List.map_cons, List.flatten_cons]; exact List.mem_append_right _ ha)
    have so1 : ∀ a ∈ y.2, ∃ o, H a = some o := fun a ha => so a (by rw [List.map_cons, List.flatten_cons]; exact List.mem_append_left _ ha)
    have r := new_set nd.2.1 so2 (i := i) (z := z) (by simpa using h) n
    refine ⟨List.nodup_append.mpr ⟨nd.1, r.nd, fun a ha b hb e => ?_⟩, fun a ha => ?_⟩
    · subst e
      rcases r.so a hb with h | h
      · exact nd.2.2 a ha a h rfl
      · obtain ⟨o, e⟩ := so1 a ha
        rw [h] at e; cases e
    · rcases List.mem_append.mp ha with h | h
      · exact .inl (List.mem_append_left _ h)
      · exact (r.so a h).imp (List.mem_append_right _) id
theorem new_cons {H : Hp} {a : Addr} {S S' : List Addr} (nd : (a :: S).Nodup) {o : HO} (ha : H a = some o) (n : New H S S') : New H (a :: S) (a :: S') := by
  have nd := List.nodup_cons.mp nd
  refine ⟨List.nodup_cons.mpr ⟨fun h => ?_, n.nd⟩, fun b hb => ?_⟩
  · rcases n.so a h with h | h
    · exact nd.1 h
    · rw [h] at ha; cases ha
  · rcases List.mem_cons.mp hb with rfl | hb
    · exact .inl List.mem_cons_self
    · exact (n.so b hb).imp (List.mem_cons_of_mem _) id
theorem map_set' {γ : Type} {g : α → γ} : ∀ {l : List α} {i : Nat} {x : α}, (l.set i x).map g = (l.map g).set i (g x)
  | [], _, _ => rfl
  | a :: r, 0, x => rfl
  | a :: r, i + 1, x => by rw [List.set_cons_succ, List.map_cons, List.map_cons, List.set_cons_succ, map_set']
/-- a part changed -/
theorem oL_set {O : Oo α} [w : Ow O] {I H H' : Hp} {a : Addr} {vs : List V} {zs : List (α × List Addr)} {i : Nat} {u : V} {z z' : α × List Addr} (ha : H a = some (.lst vs)) (a2 : All2 (O I H) vs zs) (nd : (a :: (zs.map Prod.snd).flatten).Nodup)
    (h1 : vs[i]? = some u) (h2 : zs[i]? = some z) (ro : O I H' u z') (n : New H z.2 z'.2) (fr : ∀ a o, a ∉ z.2 → H a = some o → H' a = H a) :
    oL O I H' (.ref a) ((zs.map Prod.fst).set i z'.1, a :: ((zs.set i z').map Prod.snd).flatten) ∧ New H (a :: (zs.map Prod.snd).flatten) (a :: ((zs.set i z').map Prod.snd).flatten) := by
  have nd' := List.nodup_cons.mp nd
  have na : a ∉ z.2 := fun h => nd'.1 (mem_fl (List.mem_of_getElem? h2) h)
  refine ⟨⟨a, vs, zs.set i z', rfl, by rw [fr a _ na ha]; exact ha, all2_set a2 nd'.2 h1 h2 ro fr, map_set'.symm, rfl⟩, new_cons nd ha (new_set nd'.2 (fun b hb => ?_) h2 n)⟩
  obtain ⟨z, hz, hb⟩ := fl_mem hb
  obtain ⟨v, _, r⟩ := a2.memL hz
  obtain ⟨ws, e⟩ := w.so r b hb
  exact ⟨_, e⟩
/-- an element put in its place: u', a list of its own -/
theorem oL_put {O : Oo α} [w : Ow O] {I H H' : Hp} {a : Addr} {vs : List V} {zs : List (α × List Addr)} {i : Nat} {u' : V} {z z' : α × List Addr} (ha : H a = some (.lst vs)) (a2 : All2 (O I H) vs zs) (nd : (a :: (zs.map Prod.snd).flatten).Nodup)
    (h2 : zs[i]? = some z) (ha' : H' a = some (.lst (vs.set i u'))) (ro : O I H' u' z') (n : New H z.2 z'.2) (fr : ∀ b o, b ≠ a → H b = some o → H' b = H b) :
    oL O I H' (.ref a) ((zs.map Prod.fst).set i z'.1, a :: ((zs.set i z').map Prod.snd).flatten) ∧ New H (a :: (zs.map Prod.snd).flatten) (a :: ((zs.set i z').map Prod.snd).flatten) := by
  have nd' := List.nodup_cons.mp nd
  refine ⟨⟨a, _, zs.set i z', rfl, ha', (a2.impM fun v x hx r => w.fr (Same.refl I) (fun b hb => ?_) r).set i ro, map_set'.symm, rfl⟩, new_cons nd ha (new_set nd'.2 (fun b hb => ?_) h2 n)⟩
  · obtain ⟨ws, e⟩ := w.so r b hb
    exact fr b _ (fun q => nd'.1 (q ▸ mem_fl hx hb)) e
  · obtain ⟨z, hz, hb⟩ := fl_mem hb
    obtain ⟨v, _, r⟩ := a2.memL hz
    obtain ⟨ws, e⟩ := w.so r b hb
    exact ⟨_, e⟩
theorem oL_leaf {R : Rp α} {I H : Hp} {a : Addr} {vs : List V} {xs : List α} (ha : H a = some (.lst vs)) (a2 : All2 (R I) vs xs) : oL (o0 R) I H (.ref a) (xs, [a]) := by
  have e : ∀ l : List α, (l.map fun x => (x, ([] : List Addr))).map Prod.snd = l.map fun _ => [] := fun l => by rw [List.map_map]; rfl
  have e2 : ∀ l : List α, (l.map fun _ => ([] : List Addr)).flatten = [] := fun l => by induction l with
    | nil => rfl
    | cons a r ih => rw [List.map_cons, List.flatten_cons, ih]; rfl
  refine ⟨a, vs, xs.map fun x => (x, []), rfl, ha, ?_, by rw [List.map_map]; exact (List.map_id xs).symm, by rw [e, e2]⟩
  clear ha
  induction a2 with
  | nil => exact .nil
  | cons h t ih => exact .cons ⟨h, rfl⟩ ih
/-- kinds in which no list stands -/
class NoL (R : Rp α) : Prop where
  up : ∀ {I I' : Hp} {v : V} {x : α}, (∀ a o, I a = some o → (∀ vs, o ≠ .lst vs) → I' a = some o) → R I v x → R I' v x
instance {R : Rp α} [m : NoL R] : NoL (iT R) := ⟨fun s ⟨a, vs, e, h, t⟩ => ⟨a, vs, e, s _ _ h (fun _ z => nomatch z), t.mono fun _ _ => m.up s⟩⟩
class OwN (O : Oo α) : Prop where
  up : ∀ {I I' H : Hp} {v : V} {p : α × List Addr}, (∀ a o, I a = some o → (∀ vs, o ≠ .lst vs) → I' a = some o) → O I H v p → O I' H v p
instance {R : Rp α} [m : NoL R] : OwN (o0 R) := ⟨fun s ⟨h, e⟩ => ⟨m.up s h, e⟩⟩
instance {O : Oo α} [m : OwN O] : OwN (oL O) := ⟨fun s ⟨a, vs, zs, e, ha, a2, e1, e2⟩ => ⟨a, vs, zs, e, ha, a2.mono fun _ _ => m.up s, e1, e2⟩⟩
/-- owned lists that stay: plain ones -/
class Fz' (O : Oo α) (R : Rp α) : Prop where
  to : ∀ {I : Hp} {v : V} {p : α × List Addr}, O I I v p → R I v p.1
instance {R : Rp α} : Fz' (o0 R) R := ⟨fun h => h.1⟩
theorem All2.fst {R : V → α → Prop} {T : V → α × List Addr → Prop} (h : ∀ v p, T v p → R v p.1) : ∀ {vs : List V} {zs : List (α × List Addr)}, All2 T vs zs → All2 R vs (zs.map Prod.fst)
  | _, _, .nil => .nil
  | _, _, .cons a t => .cons (h _ _ a) (t.fst h)
instance {O : Oo α} {R : Rp α} [m : Fz' O R] : Fz' (oL O) (iL R) := ⟨fun {I v p} ⟨a, vs, zs, e, ha, a2, e1, e2⟩ => ⟨a, vs, e, ha, by rw [e1]; exact a2.fst fun _ _ h => m.to h⟩⟩
/-- without its lists -/
theorem strip_nol {S : Addr → Prop} {I : Hp} (h : ∀ a, S a → ∃ vs, I a = some (.lst vs)) : ∀ a o, I a = some o → (∀ vs, o ≠ .lst vs) → strip S I a = some o := fun a o e n => by
  have : ¬ S a := fun s => by obtain ⟨vs, z⟩ := h a s; rw [z] at e; exact n vs (Option.some.inj e).symm
  rw [strip_out this]; exact e
/-- what was made and is known by its addresses is taken out of the part that stays, or put in -/
theorem gr_strip {ms : List Addr} {I H I' H' : Hp} (g : Gr ms I H I' H') (S : Addr → Prop) (f : ∀ a, S a → H a = none) (s : Same I H) : Gr ms I H (strip S I') H' :=
  ⟨fun a o e => by
    have : ¬ S a := fun h => by have := s a o e; rw [f a h] at this; cases this
    rw [strip_out this]; exact g.ii a o e, strip_sub.trans g.ih, g.hh, g.th, fun a o e1 e2 => by
    have : ¬ S a := fun h => by rw [f a h] at e2; cases e2
    rw [strip_out this]; exact g.nw a o e1 e2⟩
def put (S : List Addr) (I H : Hp) : Hp := fun a => if a ∈ S then H a else I a
theorem put_in {S : List Addr} {I H : Hp} {a : Addr} (h : a ∈ S) : put S I H a = H a := by unfold put; rw [if_pos h]
theorem put_out {S : List Addr} {I H : Hp} {a : Addr} (h : a ∉ S) : put S I H a = I a := by unfold put; rw [if_neg h]
theorem gr_put {ms S : List Addr} {I H I' H' : Hp} (g : Gr (S ++ ms) I H I' H') (s : Same I H) (f : ∀ a ∈ S, H a = none) : Gr ms I H (put S I' H') H' := by
  have n : ∀ a o, H a = some o → a ∉ S := fun a o e h => by rw [f a h] at e; cases e
  exact ⟨fun a o e => by rw [put_out (n a o (s a o e))]; exact g.ii a o e, fun a o e => by
      by_cases h : a ∈ S
      · rw [put_in h] at e; exact e
      · rw [put_out h] at e; exact g.ih a o e,
    fun a o h e => g.hh a o (fun z => (List.mem_append.mp z).elim (n a o e) h) e, g.th, fun a o e1 e2 => by rw [put_out (n a o e2)]; exact g.nw a o e1 e2⟩
theorem put_ii {S : List Addr} {I H : Hp} (s : Same I H) : Same I (put S I H) := fun a o e => by
  by_cases h : a ∈ S
  · rw [put_in h]; exact s a o e
  · rw [put_out h]; exact e
theorem lc_own {J : It} {R : Rp α} {O : Oo β} [Mono R] [w : Ow O] (f : α → β) {vs : List V} {xs : List α} {I H1 : Hp} {g : TG} {tt : TT} {te : TE} {vz : List Nat} {σ : L2.St} {D : Addr} {Qd : Hp → Prop}
    (W : Wk J vs.length (gv vs) I) (a2 : All2 (R I) vs xs) (s0 : Same I H1) (hD : H1 D = none) (hn : xs.length < sizeLine)
    (step : ∀ (i : Nat) (x : α) (I' H' : Hp) (Nx : Hp → Prop) (Qk : VK), xs[i]? = some x → R I' (gv vs i) x → Same I I' → Same I' H' → (∀ I'' H'' y S, Gr [] I' H' I'' H'' → O I'' I'' y (f x, S) → S.Nodup → (∀ a ∈ S, H' a = none) → Qk y H'') →
      g (gv vs i) (wipe σ vz) H' fun σ2 H2 => wipe σ2 vz = wipe σ vz ∧ tt σ2 H2 fun b H3 => if b = true then te σ2 H3 Qk else Nx H3)
    (hd : ∀ I' H' S, Gr [] I H1 I' H' → oL O I' I' (.ref D) (xs.map f, S) → S.Nodup → (∀ a ∈ S, H1 a = none) → Qd H') : LcR J g tt te vz σ H1 D Qd := by
  have hl := a2.len
  let Mid : Nat → Hp → Prop := fun i H => ∃ I' ys zs, Gr [] I H1 I' H ∧ I' D = none ∧ H D = some (.lst ys) ∧ All2 (O I' I') ys zs ∧ zs.map Prod.fst = (xs.take i).map f ∧ (zs.map Prod.snd).flatten.Nodup ∧ ∀ a ∈ (zs.map Prod.snd).flatten, H1 a = none ∧ a ≠ D
  refine ⟨fun i m H => m = vs.length - i ∧ i ≤ vs.length ∧ Mid i H, ⟨vs.length, rfl, Nat.zero_le _, I, [], [], Gr.tmp s0 hD, s0.free hD, upd_same, .nil, rfl, by simp, fun a h => by simp at h⟩, ?_⟩
  rintro i m H ⟨rfl, hi, I', ys, zs, gr, hI, hH, b2, e1, nd, fr⟩
  have s : Same I H := gr.ii.trans gr.ih
  by_cases hlt : i < vs.length
  · have hx : xs[i]? = some (xs[i]'(by omega)) := List.getElem?_eq_getElem (by omega)
    generalize xs[i]'(by omega) = x at hx
    have et : xs.take (i + 1) = xs.take i ++ [x] := by rw [List.take_succ, hx]; rfl
    refine .inr ⟨W.go i H s hlt, fun H' => i + 1 ≤ vs.length ∧ Mid (i + 1) H', fun H' z => ⟨vs.length - (i + 1), by omega, rfl, z.1, z.2⟩, fun y H' hy => ?_⟩
    obtain ⟨rfl, rfl⟩ := W.yld i H y H' s hlt hy
    refine step i x I' _ _ _ hx (up gr.ii (gv2 a2 hx)) gr.ii gr.ih (fun I'' H'' y S g2 sy ndS frS => ?_)
    have hD2 := g2.at hH (by simp)
    have hI2 := g2.out hI hH
    have lz : zs.length = i := by
      have := congrArg List.length e1
      rw [List.length_map, List.length_map, List.length_take] at this
      omega
    refine ⟨ys, hD2, by rw [b2.len]; omega, hlt, I'', ys ++ [y], zs ++ [(f x, S)], ?_, hI2, upd_same, (b2.mono fun _ _ => Ow.up g2.ii).snoc sy, ?_, ?_, ?_⟩
    · have g3 := gr.trans g2
      exact ((g3.mono (ns := [D]) fun _ z => nomatch z).trans (Gr.mut g3.ih hI2 List.mem_cons_self)).drop hD
    · rw [List.map_append, e1, et, List.map_append]; rfl
    · rw [List.map_append, List.flatten_append, List.nodup_append]
      refine ⟨nd, by simpa using ndS, fun a ha b hb => ?_⟩
      have hb : b ∈ S := by simpa using hb
      obtain ⟨z, hz, haz⟩ := fl_mem ha
      obtain ⟨v, _, r⟩ := b2.memL hz
      obtain ⟨o, eo⟩ := w.so r a haz
      have h1 := gr.ih _ _ eo
      have h2 := frS b hb
      exact fun e => by rw [e, h2] at h1; cases h1
    · intro a ha
      rw [List.map_append, List.flatten_append] at ha
      rcases List.mem_append.mp ha with ha | ha
      · exact fr a ha
      · have ha : a ∈ S := by simpa using ha
        have h2 := frS a ha
        exact ⟨gr.none h2, fun e => by rw [e, hH] at h2; cases h2⟩
  · have e : i = vs.length := by omega
    subst e
    refine .inl ⟨W.stop H s, ?_⟩
    have gz := (gr.mono (ns := [D]) (fun _ z => nomatch z)).frz s0 hD hH
    refine hd _ H (D :: (zs.map Prod.snd).flatten) gz ⟨D, ys, zs, rfl, upd_same, b2.mono fun _ _ => Ow.up (sNew hI), ?_, rfl⟩ (List.nodup_cons.mpr ⟨fun h => (fr D h).2 rfl, nd⟩) (fun a ha => ?_)
    · rw [e1, List.take_of_length_le (by omega)]
    · rcases List.mem_cons.mp ha with rfl | ha
      · exact hD
      · exact (fr a ha).1
end
end Tk

set_option Elab.async false
set_option linter.all false
set_option maxRecDepth 100000
set_option maxHeartbeats 4000000
/-! Machines by their lists: renamed, split, changed. -/
namespace Mt
open K
structure BL (N n as : Nat) (p : List Rows) : Prop where
  l2 : p.length = as
  l3 : ∀ r ∈ p, r.length = n
  l4 : ∀ r ∈ p, ∀ x ∈ r, x.length = n
  g : ∀ r ∈ p, ∀ x ∈ r, ∀ q ∈ x, Gd N 1 q
  s : ∀ s, s < n → S as (fun a => tot (gl (gl p a) s)) = 1
structure ML (N : Nat) (M : Ma) (n bs as : Nat) : Prop where
  n0 : 0 < n
  n1 : n ≤ 12
  b0 : 0 < bs
  b1 : bs ≤ 4
  a0 : 0 < as
  a1 : as ≤ 4
  l0 : M.1.length = n
  l1 : M.2.length = bs
  g0 : ∀ q ∈ M.1, Gd N 1 q
  s0 : tot M.1 = 1
  b : ∀ p ∈ M.2, BL N n as p
theorem gl_mem {α : Type} {l : List (List α)} {i : Nat} (h : i < l.length) : gl l i ∈ l := List.mem_of_getElem? (gl_lt h)
theorem gq_mem {l : List Rat} {i : Nat} (h : i < l.length) : gq l i ∈ l := List.mem_of_getElem? (gq_lt h)
theorem tot_self {x : List Rat} {n : Nat} (h : x.length = n) : tot x = S n (gq x) := by unfold tot; rw [h]
theorem MPk.ml {M : Ma} {n bs as : Nat} (h : MPk 0 M n bs as) : ML 60 M n bs as := by
  refine ⟨h.n0, h.n1, h.b0, h.b1, h.a0, h.a1, h.l0, h.l1, fun q hq => ?_, h.s0, fun p hp => ?_⟩
  · obtain ⟨i, hi, rfl⟩ := mem_gq hq
    exact h.g0 i (by rw [← h.l0]; exact hi)
  · obtain ⟨b, hb, rfl⟩ := mem_gl hp
    rw [h.l1] at hb
    refine ⟨h.l2 b hb, fun r hr => ?_, fun r hr x hx => ?_, fun r hr x hx q hq => ?_, fun s hs => ?_⟩
    · obtain ⟨a, ha, rfl⟩ := mem_gl hr
      rw [h.l2 b hb] at ha
      exact h.l3 b a hb ha
    · obtain ⟨a, ha, rfl⟩ := mem_gl hr
      rw [h.l2 b hb] at ha
      obtain ⟨s, hs, rfl⟩ := mem_gl hx
      rw [h.l3 b a hb ha] at hs
      exact h.l4 b a s hb ha hs
    · obtain ⟨a, ha, rfl⟩ := mem_gl hr
      rw [h.l2 b hb] at ha
      obtain ⟨s, hs, rfl⟩ := mem_gl hx
      rw [h.l3 b a hb ha] at hs
      obtain ⟨k, hk, rfl⟩ := mem_gq hq
      rw [h.l4 b a s hb ha hs] at hk
      exact h.g1 b a s k hb ha hs hk
    · rw [← h.s1 b s hb hs]
      exact S_congr fun a ha => tot_self (h.l4 b a s hb ha hs)
theorem ML.ok {M : Ma} {n bs as : Nat} (h : ML 2160 M n bs as) : MOk M n bs as := by
  have hb : ∀ b, b < bs → BL 2160 n as (gl M.2 b) := fun b hb => h.b _ (gl_mem (by rw [h.l1]; exact hb))
  have ha : ∀ b a, b < bs → a < as → gl (gl M.2 b) a ∈ gl M.2 b := fun b a h1 h2 => gl_mem (by rw [(hb b h1).l2]; exact h2)
  have hs : ∀ b a s, b < bs → a < as → s < n → gl (gl (gl M.2 b) a) s ∈ gl (gl M.2 b) a := fun b a s h1 h2 h3 => gl_mem (by rw [(hb b h1).l3 _ (ha b a h1 h2)]; exact h3)
  refine ⟨h.n0, h.n1, h.b0, h.b1, h.a0, h.a1, h.l0, h.l1, fun b h1 => (hb b h1).l2, fun b a h1 h2 => (hb b h1).l3 _ (ha b a h1 h2), fun b a s h1 h2 h3 => (hb b h1).l4 _ (ha b a h1 h2) _ (hs b a s h1 h2 h3),
    fun s h1 => h.g0 _ (gq_mem (by rw [h.l0]; exact h1)), fun b a s k h1 h2 h3 h4 => (hb b h1).g _ (ha b a h1 h2) _ (hs b a s h1 h2 h3) _ (gq_mem (by rw [(hb b h1).l4 _ (ha b a h1 h2) _ (hs b a s h1 h2 h3)]; exact h4)), h.s0, fun b s h1 h2 => ?_⟩
  rw [← (hb b h1).s s h2]
  exact S_congr fun a h3 => (tot_self ((hb b h1).l4 _ (ha b a h1 h3) _ (hs b a s h1 h3 h2))).symm
theorem BL.up {N n as m : Nat} {p : List Rows} (h : BL N n as p) (hm : 0 < m) : BL (N * m) n as p := { h with g := fun r hr x hx q hq => (h.g r hr x hx q hq).scale hm }
theorem ML.up {N n bs as m : Nat} {M : Ma} (h : ML N M n bs as) (hm : 0 < m) : ML (N * m) M n bs as := { h with g0 := fun q hq => (h.g0 q hq).scale hm, b := fun p hp => (h.b p hp).up hm }
theorem tot_perm {a b : List Rat} (h : a.Perm b) : tot a = tot b := by
  induction h with
  | nil => rfl
  | cons x _ ih => rw [tot_cons, tot_cons, ih]
  | swap x y l => rw [tot_cons, tot_cons, tot_cons, tot_cons]; grind
  | trans _ _ i1 i2 => rw [i1, i2]
theorem tot_order {n : Nat} {o : List Nat} (h : o.Perm (List.range n)) (f : Nat → Rat) : tot (o.map f) = S n f := by rw [tot_perm (h.map f), tot_range]
/-! ### renamed -/
def renR (o : List Nat) (x : List Rat) : List Rat := o.map (gq x)
def renB (o : List Nat) (p : List Rows) : List Rows := p.map fun rows => o.map fun s => renR o (gl rows s)
theorem ord_lt {n : Nat} {o : List Nat} (h : o.Perm (List.range n)) {s : Nat} (hs : s ∈ o) : s < n := List.mem_range.mp (h.mem_iff.mp hs)
theorem BL.ren {N n as : Nat} {p : List Rows} {o : List Nat} (h : BL N n as p) (ho : o.Perm (List.range n)) : BL N n as (renB o p) := by
  have lo : o.length = n := by rw [ho.length_eq, List.length_range]
  unfold renB
  refine ⟨by rw [List.length_map]; exact h.l2, fun r hr => ?_, fun r hr x hx => ?_, fun r hr x hx q hq => ?_, fun s hs => ?_⟩
  · obtain ⟨rows, _, rfl⟩ := List.mem_map.mp hr
    rw [List.length_map]; exact lo
  · obtain ⟨rows, _, rfl⟩ := List.mem_map.mp hr
    obtain ⟨s, _, rfl⟩ := List.mem_map.mp hx
    unfold renR; rw [List.length_map]; exact lo
  · obtain ⟨rows, hr', rfl⟩ := List.mem_map.mp hr
    obtain ⟨s, hs, rfl⟩ := List.mem_map.mp hx
    obtain ⟨k, hk, rfl⟩ := List.mem_map.mp hq
    have hx : gl rows s ∈ rows := gl_mem (by rw [h.l3 _ hr']; exact ord_lt ho hs)
    exact h.g _ hr' _ hx _ (gq_mem (by rw [h.l4 _ hr' _ hx]; exact ord_lt ho hk))
  · have hs' : s < o.length := by rw [lo]; exact hs
    rw [← h.s o[s] (ord_lt ho (List.getElem_mem hs'))]
    refine S_congr fun a ha => ?_
    have hm : gl p a ∈ p := gl_mem (by rw [h.l2]; exact ha)
    rw [gl_map (by rw [h.l2]; exact ha), gl_of (l := o.map _) (q := renR o (gl (gl p a) o[s])) (by rw [List.getElem?_map, List.getElem?_eq_getElem hs']; rfl)]
    unfold renR
    rw [tot_order ho, tot_self (h.l4 _ hm _ (gl_mem (by rw [h.l3 _ hm]; exact ord_lt ho (List.getElem_mem hs'))))]
theorem ML.ren {N n bs as : Nat} {M : Ma} {o : List Nat} (h : ML N M n bs as) (ho : o.Perm (List.range n)) : ML N (renR o M.1, M.2.map (renB o)) n bs as := by
  have lo : o.length = n := by rw [ho.length_eq, List.length_range]
  refine ⟨h.n0, h.n1, h.b0, h.b1, h.a0, h.a1, by show (o.map _).length = n; rw [List.length_map]; exact lo, by rw [List.length_map]; exact h.l1, fun q hq => ?_, ?_, fun p hp => ?_⟩
  · obtain ⟨k, hk, rfl⟩ := List.mem_map.mp hq
    exact h.g0 _ (gq_mem (by rw [h.l0]; exact ord_lt ho hk))
  · show tot (o.map _) = 1
    rw [tot_order ho, ← tot_self h.l0]; exact h.s0
  · obtain ⟨p', hp', rfl⟩ := List.mem_map.mp hp
    exact (h.b p' hp').ren ho
/-! ### split -/
def SplR (s0 : Nat) (x y : List Rat) : Prop := ∃ c : Rat, Gd 6 1 c ∧ Gd 6 1 (1 - c) ∧ y = x.take s0 ++ [gq x s0 * c] ++ x.drop (s0 + 1) ++ [gq x s0 * (1 - c)]
theorem cut3 {x : List Rat} {s0 : Nat} (h : s0 < x.length) : x = x.take s0 ++ ([gq x s0] ++ x.drop (s0 + 1)) := by
  have e := List.take_append_drop s0 x
  rw [List.drop_eq_getElem_cons h] at e
  have : gq x s0 = x[s0] := gq_of (List.getElem?_eq_getElem h)
  rw [this]; exact e.symm
theorem SplR.len {s0 : Nat} {x y : List Rat} (h : SplR s0 x y) (hl : s0 < x.length) : y.length = x.length + 1 := by
  obtain ⟨c, _, _, rfl⟩ := h
  simp; omega
theorem SplR.tot {s0 : Nat} {x y : List Rat} (h : SplR s0 x y) (hl : s0 < x.length) : tot y = tot x := by
  obtain ⟨c, _, _, rfl⟩ := h
  have e := congrArg Mt.tot (cut3 hl)
  rw [tot_app, tot_app, tot_one] at e
  rw [tot_app, tot_app, tot_app, tot_one, tot_one, e]
  grind
theorem SplR.gd {s0 N : Nat} {x y : List Rat} (h : SplR s0 x y) (hl : s0 < x.length) (g : ∀ q ∈ x, Gd N 1 q) : ∀ q ∈ y, Gd (N * 6) 1 q := by
  obtain ⟨c, g1, g2, rfl⟩ := h
  intro q hq
  have gx := g _ (gq_mem hl)
  rcases List.mem_append.mp hq with hq | hq
  · rcases List.mem_append.mp hq with hq | hq
    · rcases List.mem_append.mp hq with hq | hq
      · exact (g q (List.mem_of_mem_take hq)).scale (by decide)
      · rw [List.mem_singleton.mp hq]; exact gx.mul g1
    · exact (g q (List.mem_of_mem_drop hq)).scale (by decide)
  · rw [List.mem_singleton.mp hq]; exact gx.mul g2
structure SplRows (s0 : Nat) (rows out : Rows) : Prop where
  len : out.length = rows.length + 1
  row : ∀ s, s < rows.length + 1 → SplR s0 (gl (rows ++ [gl rows s0]) s) (gl out s)
structure SplB (s0 : Nat) (p p' : List Rows) : Prop where
  len : p'.length = p.length
  row : ∀ a, a < p.length → SplRows s0 (gl p a) (gl p' a)
theorem BL.spl {N n as s0 : Nat} {p p' : List Rows} (h : BL N n as p) (hs : s0 < n) (r : SplB s0 p p') : BL (N * 6) (n + 1) as p' := by
  have lp : p.length = as := h.l2
  have lp' : p'.length = as := by rw [r.len]; exact lp
  have rm : ∀ a, a < as → gl p a ∈ p := fun a ha => gl_mem (by rw [lp]; exact ha)
  have l3 : ∀ a, a < as → (gl p a).length = n := fun a ha => h.l3 _ (rm a ha)
  have ro : ∀ a s, a < as → s < n + 1 → SplR s0 (gl (gl p a ++ [gl (gl p a) s0]) s) (gl (gl p' a) s) := fun a s ha h2 => (r.row a (by rw [lp]; exact ha)).row s (by rw [l3 a ha]; exact h2)
  have l3' : ∀ a, a < as → (gl p' a).length = n + 1 := fun a ha => by rw [(r.row a (by rw [lp]; exact ha)).len, l3 a ha]
  have sm : ∀ a s, a < as → s < n + 1 → gl (gl p a ++ [gl (gl p a) s0]) s ∈ gl p a := fun a s ha h2 => by
    by_cases e : s < n
    · rw [gl_snoc_lt (by rw [l3 a ha]; exact e)]; exact gl_mem (by rw [l3 a ha]; exact e)
    · have : s = (gl p a).length := by rw [l3 a ha]; omega
      rw [this, gl_snoc]; exact gl_mem (by rw [l3 a ha]; exact hs)
  have l4 : ∀ a s, a < as → s < n + 1 → (gl (gl p a ++ [gl (gl p a) s0]) s).length = n := fun a s ha h2 => h.l4 _ (rm a ha) _ (sm a s ha h2)
  refine ⟨lp', fun x hx => ?_, fun x hx y hy => ?_, fun x hx y hy q hq => ?_, fun s h2 => ?_⟩
  · obtain ⟨a, ha, rfl⟩ := mem_gl hx
    exact l3' a (by rw [← lp']; exact ha)
  · obtain ⟨a, ha, rfl⟩ := mem_gl hx
    rw [lp'] at ha
    obtain ⟨s, hs', rfl⟩ := mem_gl hy
    rw [l3' a ha] at hs'
    rw [(ro a s ha hs').len (by rw [l4 a s ha hs']; exact hs), l4 a s ha hs']
  · obtain ⟨a, ha, rfl⟩ := mem_gl hx
    rw [lp'] at ha
    obtain ⟨s, hs', rfl⟩ := mem_gl hy
    rw [l3' a ha] at hs'
    exact (ro a s ha hs').gd (by rw [l4 a s ha hs']; exact hs) (h.g _ (rm a ha) _ (sm a s ha hs')) q hq
  · have e : ∀ a, a < as → tot (gl (gl p' a) s) = tot (gl (gl p a ++ [gl (gl p a) s0]) s) := fun a ha => (ro a s ha h2).tot (by rw [l4 a s ha h2]; exact hs)
    rw [S_congr e]
    by_cases c : s < n
    · rw [← h.s s c]
      exact S_congr fun a ha => by rw [gl_snoc_lt (by rw [l3 a ha]; exact c)]
    · rw [← h.s s0 hs]
      exact S_congr fun a ha => by
        have : s = (gl p a).length := by rw [l3 a ha]; omega
        rw [this, gl_snoc]
structure SplM (s0 : Nat) (mv mv' : List (List Rows)) : Prop where
  len : mv'.length = mv.length
  row : ∀ b, b < mv.length → SplB s0 (gl mv b) (gl mv' b)
theorem ML.spl {N n bs as s0 : Nat} {M : Ma} {st' : List Rat} {mv' : List (List Rows)} (h : ML N M n bs as) (n1 : n + 1 ≤ 12) (hs : s0 < n) (r0 : SplR s0 M.1 st') (r : SplM s0 M.2 mv') : ML (N * 6) (st', mv') (n + 1) bs as := by
  have hs' : s0 < M.1.length := by rw [h.l0]; exact hs
  refine ⟨by omega, n1, h.b0, h.b1, h.a0, h.a1, by rw [r0.len hs', h.l0], by rw [r.len]; exact h.l1, r0.gd hs' h.g0, by rw [r0.tot hs']; exact h.s0, fun p hp => ?_⟩
  obtain ⟨b, hb, rfl⟩ := mem_gl hp
  rw [r.len] at hb
  exact (h.b _ (gl_mem hb)).spl hs (r.row b hb)
end Mt

set_option Elab.async false
set_option linter.all false
set_option maxRecDepth 100000
set_option maxHeartbeats 4000000
set_option exponentiation.threshold 5000
namespace K
open PySem PySem.Spec PyProof.Rows L2 Tk Hd Mt
section
variable {P : Program} {w : World} {K : PySem.W.Frag} {mg : Str → Option Value} {base : Heap}
theorem sc_dig : FnScope ["number", "rest", "text", "part"] ["number"] (defScope s__digits) := ⟨rfl, rfl, rfl, by decide +kernel, rfl, by decide +kernel, by decide +kernel⟩
theorem ok_dig0 (D : Dt K mg) : Has P w K mg base 1 (He.ga K "_digits") ["number"] [] (fun vs H Q _ => ∃ n : Int, vs = [.int n] ∧ 0 ≤ n ∧ Few n ∧ Q (.str (PySem.Str.ofString (toString n))) H) := by
  obtain ⟨fd, F⟩ := fd__digits D
  refine hasN F (F.bindsN fun _ _ _ _ _ _ us hl => match us, hl with | [_], _ => rfl) sc_dig (fun vs H Q E h => ?_) (fun cdv A outer s H vs Q E hr h => ?_)
  · obtain ⟨n, rfl, _⟩ := h; rfl
  · obtain ⟨n, rfl, h0, hf, k⟩ := h
    obtain ⟨t, e⟩ := int_PART_END D
    refine ⟨_, pss_cons (ps_if (pt_cmpR op_lt (pv 0) pe_int (nomark _)) pss_never pss_nil)
      (pss_cons (ps_set (i := 1) sc_dig.nd rfl (Or.inl rfl) (pv 0))
      (pss_cons (ps_set (i := 2) sc_dig.nd rfl (Or.inl rfl) pe_str)
      (pss_cons (ps_while PassesOwn.never (pt_cmpR op_ge (pv 1) (pe_glob (v := .int 10000000000000000000000000000000000000000000000000000000000000000) rfl e ⟨t, rfl⟩) (nomark _)) pss_never)
      (pss_one (ps_ret (pe_joined (PJ.cons (pe_fmt (pv 1)) (PJ.cons (pe_fmt (pv 2)) PJ.nil)))))))), ?_⟩
    refine ⟨_, rfl, _, _, rfl, rfl, _, rfl, ifD (fun h1 => absurd h1 (by omega)) (fun _ => ?_)⟩
    refine ⟨_, rfl, fun m σ' H' => σ' = [some (.int n), some (.int n), some (.str ""), none] ∧ H' = H, ⟨0, rfl, rfl⟩, ?_⟩
    rintro m σ' H' ⟨rfl, rfl⟩
    refine ⟨_, rfl, _, _, rfl, rfl, _, rfl, ifD (fun h1 => ?_) (fun _ => ?_)⟩
    · exfalso
      have : n.natAbs < 10 ^ 64 := hf
      omega
    · refine ⟨_, rfl, .inr ⟨n, rfl, hf.log, _, rfl, ?_, _, rfl, .inl ⟨_, rfl, by decide, _, rfl, ?_, ?_⟩⟩⟩
      · rw [empty_app]; exact line_of (Nat.le_trans (txt_len hf) (by decide))
      · rw [empty_app, app_len]; exact line_of (Nat.le_trans (Nat.add_le_add (txt_len hf) (Nat.le_refl _)) (by decide))
      · have e2 : Str.empty ++ PySem.Str.ofString (toString n) ++ ("" : Str) = PySem.Str.ofString (toString n) := by
          rw [empty_app]
          show PySem.Str.append _ _ = _
          simp [PySem.Str.append, show ("" : Str) = (⟨#[]⟩ : Str) from rfl]
        rw [← e2] at k
        exact k
theorem ok_dig (D : Dt K mg) : Has P w K mg base 2 (He.ga K "_digits") ["number"] [] spDig := by
  obtain ⟨fd, F⟩ := fd__digits D
  have H__digits := ok_dig0 (P := P) (w := w) (base := base) D
  refine hasN F (F.bindsN fun _ _ _ _ _ _ us hl => match us, hl with | [_], _ => rfl) sc_dig (fun vs H Q E h => ?_) (fun cdv A outer s H vs Q E hr h => ?_)
  · obtain ⟨n, rfl, _⟩ := h; rfl
  · obtain ⟨n, rfl, hf, k⟩ := h
    by_cases hn : n < 0
    · refine ⟨_, pss_cons (ps_if (pt_cmpR op_lt (pv 0) pe_int (nomark _)) (pss_one (ps_ret (pe_joined (PJ.cons pe_str (PJ.cons (pe_fmt (pe_callH H__digits (hr.mono (by decide)) rfl (glo__digits D) passL (pa_cons (pe_un un_neg (pv 0)) pa_nil))) PJ.nil))))) pss_nil) pss_never, ?_⟩
      refine ⟨_, rfl, _, _, rfl, rfl, _, rfl, ifD (fun _ => ?_) (fun h => absurd hn h)⟩
      have hf' : Few (-n) := by have : n.natAbs < 10 ^ 64 := hf; show (-n).natAbs < 10 ^ 64; omega
      refine ⟨_, rfl, by decide, _, rfl, _, rfl, _, rfl, by omega, hf', .inl ⟨_, rfl, line_of (Nat.le_trans (txt_len hf') (by decide)), _, rfl, ?_, ?_⟩⟩
      · rw [empty_app, app_len]; exact line_of (Nat.le_trans (Nat.add_le_add (by decide : _ ≤ 1) (txt_len hf')) (by decide))
      · rw [neg_text hn]; exact k
    · obtain ⟨t, e⟩ := int_PART_END D
      refine ⟨_, pss_cons (ps_if (pt_cmpR op_lt (pv 0) pe_int (nomark _)) pss_never pss_nil)
        (pss_cons (ps_set (i := 1) sc_dig.nd rfl (Or.inl rfl) (pv 0))
        (pss_cons (ps_set (i := 2) sc_dig.nd rfl (Or.inl rfl) pe_str)
        (pss_cons (ps_while PassesOwn.never (pt_cmpR op_ge (pv 1) (pe_glob (v := .int 10000000000000000000000000000000000000000000000000000000000000000) rfl e ⟨t, rfl⟩) (nomark _)) pss_never)
        (pss_one (ps_ret (pe_joined (PJ.cons (pe_fmt (pv 1)) (PJ.cons (pe_fmt (pv 2)) PJ.nil)))))))), ?_⟩
      refine ⟨_, rfl, _, _, rfl, rfl, _, rfl, ifD (fun h1 => absurd h1 (by omega)) (fun _ => ?_)⟩
      refine ⟨_, rfl, fun m σ' H' => σ' = [some (.int n), some (.int n), some (.str ""), none] ∧ H' = H, ⟨0, rfl, rfl⟩, ?_⟩
      rintro m σ' H' ⟨rfl, rfl⟩
      refine ⟨_, rfl, _, _, rfl, rfl, _, rfl, ifD (fun h1 => ?_) (fun _ => ?_)⟩
      · exfalso
        have : n.natAbs < 10 ^ 64 := hf
        omega
      · refine ⟨_, rfl, .inr ⟨n, rfl, hf.log, _, rfl, ?_, _, rfl, .inl ⟨_, rfl, by decide, _, rfl, ?_, ?_⟩⟩⟩
        · rw [empty_app]; exact line_of (Nat.le_trans (txt_len hf) (by decide))
        · rw [empty_app, app_len]; exact line_of (Nat.le_trans (Nat.add_le_add (txt_len hf) (Nat.le_refl _)) (by decide))
        · have e2 : Str.empty ++ PySem.Str.ofString (toString n) ++ ("" : Str) = PySem.Str.ofString (toString n) := by
            rw [empty_app]
            show PySem.Str.append _ _ = _
            simp [PySem.Str.append, show ("" : Str) = (⟨#[]⟩ : Str) from rfl]
          rw [← e2] at k
          exact k
theorem sc_str : FnScope ["self"] ["self"] (defScope s_Ratio_str) := ⟨rfl, rfl, rfl, by decide +kernel, rfl, by decide +kernel, by decide +kernel⟩
theorem ok_str (D : Dt K mg) : Has P w K mg base 3 (He.ma K (CR K) "__str__") ["self"] [] (spStr (CR K)) := by
  obtain ⟨fd, F⟩ := fd_Ratio_str D
  have H__digits := ok_dig (P := P) (w := w) (base := base) D
  refine hasN F (F.bindsN fun _ _ _ _ _ _ us hl => match us, hl with | [_], _ => rfl) sc_str (fun vs H Q E h => ?_) (fun cdv A outer s H vs Q E hr h => ?_)
  · obtain ⟨I, a, p, rfl, _⟩ := h; rfl
  · obtain ⟨I, va, p, rfl, s0, ⟨a, dx, rfl, ha⟩, f1, f2, k⟩ := h
    have ha' := s0 _ _ ha
    refine ⟨_, (pss_cons (ps_if (pt_cmpR op_eq (pe_fld (pv 0) rfl) pe_int (nomark _))
      (pss_one (ps_ret (pe_joined1 (pe_fmt (pe_callH H__digits (hr.mono (by decide)) rfl (glo__digits D) passL (pa_cons (pe_fld (pv 0) rfl) pa_nil))))))
      pss_nil)
      (pss_one (ps_ret (pe_joined (PJ.cons (pe_fmt (pe_callH H__digits (hr.mono (by decide)) rfl (glo__digits D) passL (pa_cons (pe_fld (pv 0) rfl) pa_nil))) (PJ.cons pe_str (PJ.cons (pe_fmt (pe_callH H__digits (hr.mono (by decide)) rfl (glo__digits D) passL (pa_cons (pe_fld (pv 0) rfl) pa_nil))) PJ.nil))))))), ?_⟩
    have l1 := txt_len f1
    have l2 := txt_len f2
    have dp := den_pos p
    refine ⟨_, rfl, _, _, _, _, _, rfl, ha', cls_Ratio D, na_Ratio_den D, rf_den p, rfl, _, rfl, ifD (fun h1 => ?_) (fun h1 => ?_)⟩
    · have e : (p.den : Int) = 1 := by simpa using h1
      refine ⟨_, rfl, _, _, _, _, _, rfl, ha', cls_Ratio D, na_Ratio_num D, rf_num p, _, rfl, f1, .inl ⟨_, rfl, line_of (by omega), ?_⟩⟩
      unfold rtext at k
      rw [if_neg (by omega)] at k
      exact k
    · have e : ¬ (p.den : Int) = 1 := by simpa using h1
      refine ⟨_, rfl, _, _, _, _, _, rfl, ha', cls_Ratio D, na_Ratio_num D, rf_num p, _, rfl, f1, .inl ⟨_, rfl, line_of (by omega), _, rfl, ?_, _, rfl, ?_, _, rfl, _, _, _, _, _, rfl, ha', cls_Ratio D, na_Ratio_den D, rf_den p, _, rfl, f2, .inl ⟨_, rfl, line_of (by omega), _, rfl, ?_, ?_⟩⟩⟩
      · rw [empty_app]; exact line_of (by omega)
      · rw [empty_app, app_len]
        have : ("/" : Str).length ≤ 1 := by decide
        exact line_of (by omega)
      · rw [empty_app, app_len, app_len]
        have : ("/" : Str).length ≤ 1 := by decide
        exact line_of (by omega)
      · unfold rtext at k
        rw [if_pos (by omega)] at k
        rw [empty_app]
        exact k
end
end K

set_option Elab.async false
set_option linter.all false
set_option maxRecDepth 100000
set_option maxHeartbeats 4000000
/-! == of tuples of own objects, both answers. -/
namespace Tk
open PySem PySem.SeqAt PySem.Spec PyProof.Rows L2 GQ
open AutoSeq1 (wpAny_loadPart')
open MeetsSeq MeetsSeq2 MeetsSeq3 SeqRoads2
/-- the answer of a comparison item by item -/
def cmpB (bs : Nat → Bool) (m n : Nat) : Bool := (List.range (min m n)).all bs && (m == n)
theorem cmpB_false {bs : Nat → Bool} {m n i : Nat} (h1 : i < m) (h2 : i < n) (h : bs i = false) : cmpB bs m n = false := by
  unfold cmpB
  have : (List.range (min m n)).all bs = false := by
    rw [List.all_eq_false]
    exact ⟨i, List.mem_range.mpr (by omega), by rw [h]; exact Bool.false_ne_true⟩
  rw [this]; rfl
theorem cmpB_all {bs : Nat → Bool} {m n : Nat} (h : ∀ j, j < min m n → bs j = true) : cmpB bs m n = (m == n) := by
  unfold cmpB
  have : (List.range (min m n)).all bs = true := List.all_eq_true.mpr fun j hj => h j (List.mem_range.mp hj)
  rw [this]; rfl
section
variable {prog : Program} {w : World} {A : Around} {R : Result → Shared → Prop}
theorem tup_eqB (l b : Addr) (xs ys : Array Value) (n n2 : Nat) (dd dd2 : Option Addr) (sl sl2 : Array (Option Value)) (bs : Nat → Bool) (J : Nat → Shared → Prop)
    (turn : ∀ i (h1 : i < xs.size) (h2 : i < ys.size) s, J i s → wpAny (model prog w) A.in1 (eqBool xs[i] ys[i]) (fun r s' => r = bs i ∧ J (i + 1) s') (fun e s' => R (.error e) s') s)
    (fin : ∀ i s, J i s → R (.ok (.ret (.bool (cmpB bs xs.size ys.size)))) s) {s : Shared} (o1 : s.heap.get? l = some { cls := .type "tuple", dict := dd, data := .seq xs n, slots := sl }) (o2 : s.heap.get? b = some { cls := .type "tuple", dict := dd2, data := .seq ys n2, slots := sl2 }) (h : J 0 s) :
    wpAny (model prog w) A.in1 (Builtin.«tuple.__eq__» ⟨[.ref l, .ref b], []⟩) (FinOf prog w A R) (fun e s' => R (.error e) s') s := by
  have f2 := AutoSeq1.sub_tuple_tuple
  have hZ : (xs.toList.zip ys.toList).length = min xs.size ys.size := by simp
  have h0 := h
  obtain ⟨hp, g, d, tk, os⟩ := s
  wp_walk using wpAny_loadPart' o1, wpAny_loadPart' o2, wpAny_forIn_list _ (fun rest b s' => b.1 = none ∧ ∃ i, rest = (xs.toList.zip ys.toList).drop i ∧ i ≤ min xs.size ys.size ∧ (∀ j, j < i → bs j = true) ∧ J i s') _
  case turn =>
    rintro ⟨y, x⟩ rest b s' ⟨hb', i, hz, hi, hj, hJ⟩
    have hlt : i < (xs.toList.zip ys.toList).length := by
      refine Classical.byContradiction fun q => ?_
      rw [List.drop_of_length_le (by omega)] at hz
      cases hz
    have h1 : i < xs.size := by omega
    have h2 : i < ys.size := by omega
    rw [List.drop_eq_getElem_cons hlt] at hz
    obtain ⟨hyx, hrest⟩ := List.cons.inj hz
    have hy : y = xs[i] := by simpa using congrArg Prod.fst hyx
    have hx : x = ys[i] := by simpa using congrArg Prod.snd hyx
    subst hy hx
    refine wpAny_bind (wpAny_mono (turn i h1 h2 s' hJ) (fun r s2 q2 => ?_) fun _ _ x => x)
    obtain ⟨hr, q2⟩ := q2
    cases e : bs i with
    | true =>
      rw [e] at hr
      subst hr
      wp_walk
      refine ⟨rfl, i + 1, hrest, by omega, fun j hj' => ?_, q2⟩
      by_cases hji : j = i
      · rw [hji]; exact e
      · exact hj j (by omega)
    | false =>
      rw [e] at hr
      subst hr
      have hR := fin _ s2 q2
      rw [cmpB_false h1 h2 e] at hR
      wp_walk
      exact hR
  case fin =>
    rintro ⟨b1, b2⟩ s' ⟨hb', i, hz, hi, hj, hJ⟩
    simp only at hb'
    subst hb'
    have hge : min xs.size ys.size ≤ i := by
      refine Classical.byContradiction fun q => ?_
      rw [List.drop_eq_getElem_cons (by omega)] at hz
      cases hz
    have hR := fin _ s' hJ
    rw [cmpB_all fun j hj' => hj j (by omega)] at hR
    wp_walk
    simpa [Builtin.Tuple.tupleCompareSizes] using hR
  case h =>
    exact ⟨rfl, 0, rfl, Nat.zero_le _, fun j hj => absurd hj (by omega), h0⟩
end
section
variable {prog : Program} {w : World} {A : Around} {E : Value → Shared → Prop} {s : Shared}
theorem rc_tupB {l b : Addr} {xs ys : Array Value} {Q : Value → Shared → Prop} (bs : Nat → Bool) (hu : A.units < cLine) (J : Nat → Shared → Prop)
    (hl : s.heap.IsTuple l xs) (hb : s.heap.IsTuple b ys)
    (turn : ∀ i (h1 : i < xs.size) (h2 : i < ys.size) s, J i s → wpAny (model prog w) A.in1 (eqBool xs[i] ys[i]) (fun r s' => r = bs i ∧ J (i + 1) s') E s)
    (fin : ∀ i s, J i s → Q (.bool (cmpB bs xs.size ys.size)) s) (h : J 0 s) : wpAny (model prog w) A (richCompare .Eq (.ref l) (.ref b)) Q E s := by
  obtain ⟨⟨c1, d1, a1, s1⟩, o1, e1, n1, f1⟩ := id hl
  obtain ⟨⟨c2, d2, a2, s2⟩, o2, e2, n2, f2⟩ := id hb
  simp only at e1 f1 e2 f2
  subst e1 f1 e2 f2
  refine wpAny_richCompare_same_room (op := .Eq) ⟨_, o1, rfl⟩ ⟨_, o2, rfl⟩ F.slot_tuple_eq (call_here F.slot_tuple_eq ⟨_, o1, rfl⟩ F.entry_tuple_eq (F.args_tuple_eq_2 _ _) ?_) hu
  exact tup_eqB (R := wants (fun v s' => v ≠ .notImplemented ∧ Q v s') E) l b xs ys n1 n2 d1 d2 s1 s2 bs J turn (fun i s' q => ⟨(fun x => nomatch x), fin i s' q⟩) o1 o2 h
end
/-- == gives the answer that D tells, and only makes objects -/
abbrev Eqb := V → V → Bool → Hp → Prop
def MonB (D : Eqb) : Prop := ∀ x y b H H', Ext H H' → D x y b H → D x y b H'
def EqB (X : Cx) (n : Nat) (D : Eqb) : Prop :=
  ∀ (A : Around) (pins : List (Addr × Obj)) (s : Shared) (σ : L2.St) (H : Hp) (x y : V) (b : Bool) (u v : Value), Sub X n A → Inv X pins σ H s → RelV x u → RelV y v → D x y b H →
    wpAny (model X.prog X.w) A (eqBool u v) (fun r s' => r = b ∧ ∃ H', Inv X pins σ H' s' ∧ Ext H H') X.xe s
def RcB (X : Cx) (n : Nat) (D : Eqb) : Prop :=
  ∀ (A : Around) (pins : List (Addr × Obj)) (s : Shared) (σ : L2.St) (H : Hp) (x y : V) (b : Bool) (u v : Value), Sub X n A → Inv X pins σ H s → RelV x u → RelV y v → D x y b H →
    wpAny (model X.prog X.w) A (richCompare .Eq u v) (fun r s' => r = .bool b ∧ ∃ H', Inv X pins σ H' s' ∧ Ext H H') X.xe s
def DTupB (D : Eqb) : Eqb := fun x y r H => ∃ (a b : Addr) (xs ys : List V) (bs : Nat → Bool), x = .ref a ∧ y = .ref b ∧ H a = some (.tup xs) ∧ H b = some (.tup ys) ∧ (∀ (i : Nat) x y, xs[i]? = some x → ys[i]? = some y → D x y (bs i) H) ∧ r = cmpB bs xs.length ys.length
section
variable {X : Cx} {n : Nat} {D : Eqb}
theorem monB_tup (hD : MonB D) : MonB (DTupB D) := fun x y r H H' e d => by
  obtain ⟨a, b, xs, ys, bs, hx, hy, h1, h2, p, hr⟩ := d
  exact ⟨a, b, xs, ys, bs, hx, hy, e _ _ h1, e _ _ h2, fun i x y q1 q2 => hD _ _ _ _ _ e (p i x y q1 q2), hr⟩
theorem rcB_tup (hD : MonB D) (h : EqB X n D) : RcB X (n + 1) (DTupB D) := by
  intro A pins s σ H x y r u v sb I rx ry d
  obtain ⟨a, b, xs, ys, bs, rfl, rfl, ha, hb, p, rfl⟩ := d
  cases rx
  cases ry
  obtain ⟨its, r1, e1, z1⟩ := I.tuple (SqT.of ha)
  obtain ⟨jts, r2, e2, z2⟩ := I.tuple (SqT.of hb)
  have l1 := r1.length
  have l2 := r2.length
  refine rc_tupB bs sb.room.units0 (fun _ s' => ∃ H', Inv X pins σ H' s' ∧ Ext H H') e1 e2 (fun i h1 h2 s' q => ?_) (fun i s' q => ⟨?_, q⟩) ⟨H, I, Ext.rfl'⟩
  · obtain ⟨H1, I1, x1⟩ := q
    have k1 : i < xs.length := by rw [l1]; simpa using h1
    have k2 : i < ys.length := by rw [l2]; simpa using h2
    obtain ⟨u, hu, ru⟩ := r1.get (List.getElem?_eq_getElem k1)
    obtain ⟨v, hv, rv⟩ := r2.get (List.getElem?_eq_getElem k2)
    have eu : its.toArray[i] = u := by
      have h1' : i < its.length := by simpa using h1
      rw [List.getElem?_eq_getElem h1'] at hu
      simpa using hu
    have ev : jts.toArray[i] = v := by
      have h2' : i < jts.length := by simpa using h2
      rw [List.getElem?_eq_getElem h2'] at hv
      simpa using hv
    rw [eu, ev]
    refine wpAny_mono (h A.in1 pins s' σ H1 _ _ (bs i) u v sb.in1 I1 ru rv (hD _ _ _ _ _ x1 (p i _ _ (List.getElem?_eq_getElem k1) (List.getElem?_eq_getElem k2)))) (fun r s2 q => ?_) fun _ _ x => x
    obtain ⟨hr, H2, I2, x2⟩ := q
    exact ⟨hr, H2, I2, x1.trans x2⟩
  · rw [List.size_toArray, List.size_toArray, ← l1, ← l2]
/-- of the same thing it tells True -/
def RflB (D : Eqb) : Prop := ∀ x b H, D x x b H → b = true
theorem rflB_tup (hR : RflB D) : RflB (DTupB D) := fun x r H d => by
  obtain ⟨a, b, xs, ys, bs, e1, e2, h1, h2, p, rfl⟩ := d
  rw [e1] at e2
  cases e2
  rw [h1] at h2
  cases h2
  rw [cmpB_all fun j hj => hR _ _ _ (p j _ _ (List.getElem?_eq_getElem (by omega)) (List.getElem?_eq_getElem (by omega)))]
  simp
theorem RcB.eqB (h : RcB X n D) (hR : RflB D) (hr : ∀ x y b H, D x y b H → ∃ a c, x = .ref a ∧ y = .ref c) : EqB X n D := by
  intro A pins s σ H x y b u v sb I rx ry d
  obtain ⟨a, c, rfl, rfl⟩ := hr _ _ _ _ d
  have hs : a = c → b = true := fun e => by subst e; exact hR _ _ _ d
  cases rx
  cases ry
  by_cases hac : a = c
  · subst hac
    rw [hs rfl]
    unfold eqBool
    refine wpAny_holding ?_
    rw [if_pos (by simp)]
    refine wpAny_bind (wpAny_rule (wpAny_pure ?_))
    exact ⟨rfl, H, I, Ext.rfl'⟩
  · refine eqBool_refG hac (wpAny_mono (h A pins s σ H (.ref a) (.ref c) b _ _ sb I rfl rfl d) (fun r s' q => ?_) fun _ _ x => x)
    obtain ⟨e, q⟩ := q
    exact ⟨b, e, rfl, q⟩
def rEqB (D : Eqb) : R2 := fun x y H Q => ∃ b, D x y b H ∧ ∀ H', Ext H H' → Q (.bl b) H'
theorem op_eqB (h : RcB X n D) (hr : Room n X.A) : OpR X (compareOp .Eq) (rEqB D) := by
  intro pins s σ H x y v u Q I rx ry hq
  obtain ⟨b, d, q⟩ := hq
  show wpAny (model X.prog X.w) X.A (richCompare .Eq v u) (EP X pins σ Q) X.xe s
  refine wpAny_mono (h X.A pins s σ H x y b v u ⟨hr, rfl⟩ I rx ry d) (fun r s' z => ?_) fun _ _ x => x
  obtain ⟨rfl, H', I', e⟩ := z
  exact ⟨.bl b, H', I', rfl, q H' e⟩
end
end Tk

set_option Elab.async false
set_option linter.all false
set_option maxRecDepth 100000
set_option maxHeartbeats 4000000
namespace Tk
open PySem PySem.Spec PyProof.Rows L2
section
variable {X : Cx} {CXx : CXT} {C f : Addr} {k : Nat} {fd : FuncData} {ps : List Str} {sp : Sp} {E : XK} {D : Eqb}
/-- == of two instances by their class's own __eq__, at any depth -/
theorem rcB_own (F : FnOk X.prog X.w X.K X.mg X.base CXx k f fd ps sp) (hb : Binds X.K fd ps []) (hx : Passes CXx X E)
    (hs : PySem.W.findIn X.K (.ref C) "__eq__" = some (some (.ref f))) (hf : PySem.W.isFn X.K (.ref f) = true)
    (hD : ∀ x y r H, D x y r H → ∃ a b dx dy fs gs, x = .ref a ∧ y = .ref b ∧ H a = some (.ins C dx fs) ∧ H b = some (.ins C dy gs) ∧ sp [.ref a, .ref b] H (fun v H' => v = .bl r ∧ Ext H H') E) : RcB X k D := by
  intro A pins s σ H x y r u v sb I rx ry d
  obtain ⟨a, b, dx, dy, fs, gs, rfl, rfl, ea, eb, h⟩ := hD _ _ _ _ d
  cases rx
  cases ry
  obtain ⟨od, J⟩ := inst_of I ea
  obtain ⟨od', J'⟩ := inst_of I eb
  have e0 : Env0 X.prog X.w X.K X.mg X.base A X.stack s H := by
    have e := I.env0
    exact ⟨by rw [sb.fr]; exact e.frames, e.mod, e.bs, e.bsz, e.funs, e.frf, e.hok, e.bare⟩
  have one : wpAny (model X.prog X.w) A (tryCompare (.ref a) "__eq__" (.ref b)) (fun z s' => ∃ v, z = some v ∧ v = .bool r ∧ ∃ H', Inv X pins σ H' s' ∧ Ext H H') X.xe s := by
    unfold tryCompare
    refine wpAny_bind (PySem.W.ifBound_K I.kIn J hs hf (wpAny_mono (runAt (vs := [.ref a, .ref b]) (dvs := []) F sb.room e0 hb .nil hx I (.cons rfl (.cons rfl .nil)) h) (fun z s' hv => ?_) fun _ _ e => e))
    obtain ⟨v', H', I', rv, rfl, q⟩ := hv
    cases rv
    exact wpAny_pure ⟨_, rfl, rfl, H', I', q⟩
  unfold richCompare
  simp only [oneThing_ref]
  refine wpAny_holding (wpAny_bind (wpAny_cRoomFor sb.room.units0 ?_))
  refine wpAny_bind (J.type.here (wpAny_bind (J'.type.here ?_)))
  split
  · rename_i q
    exact absurd q (by simp)
  · refine wpAny_bind (wpAny_pure ?_)
    simp only [Bool.false_eq_true, if_false]
    refine wpAny_bind (wpAny_mono one (fun z s' hz => ?_) fun _ _ e => e)
    obtain ⟨v, rfl, hq⟩ := hz
    exact wpAny_pure hq
end
end Tk

set_option Elab.async false
set_option linter.all false
set_option maxRecDepth 100000
set_option maxHeartbeats 4000000
/-! None in a list of own objects with an own ==; a local name that holds a def. -/
namespace Tk
open PySem PySem.SeqAt PySem.Spec PyProof.Rows L2 GQ
open AutoSeq1 (wpAny_loadPart')
open MeetsSeq MeetsSeq2 MeetsSeq3 SeqRoads2
section
variable {prog : Program} {w : World} {A : Around} {R : Result → Shared → Prop}
theorem contains_loopB (l : Addr) (N : Nat) (x : Value) (bs : Nat → Bool) (J : Shared → Prop)
    (hJ : ∀ s, J s → ∃ items, s.heap.IsList l items ∧ items.size = N)
    (turn : ∀ i items s, J s → s.heap.IsList l items → (h : i < items.size) → wpAny (model prog w) A.in1 (eqBool items[i] x) (fun r s' => r = bs i ∧ J s') (fun e s' => R (.error e) s') s)
    (fin : ∀ s, J s → R (.ok (.ret (.bool ((List.range N).any bs)))) s) (k : Nat) :
    ∀ i : Nat, N - i = k → (∀ j, j < i → bs j = false) → ∀ s, J s → wpAny (model prog w) A.in1 (Builtin.«list.__contains__.loop» ⟨[.ref l, x, rawInt i], []⟩) (FinOf prog w A R) (fun e s' => R (.error e) s') s := by
  induction k with
  | zero =>
    intro i hk hb s h
    obtain ⟨items, hl, hn⟩ := hJ s h
    obtain ⟨⟨cls, dd, data, sl⟩, ho, hc, n, hd⟩ := id hl
    simp only at hc hd
    subst hc hd
    have hR := fin s h
    obtain ⟨hp, g, d, tk, os⟩ := s
    wp_walk using wpAny_loadPart' ho
    have hi : items[((i : Nat) : Int).toNat]? = none := by simp; omega
    have hd : (List.range N).any bs = false := by
      rw [List.any_eq_false]
      intro j hj
      have := List.mem_range.mp hj
      rw [hb j (by omega)]; exact Bool.false_ne_true
    rw [hd] at hR
    rw [hi]
    wp_walk
    exact hR
  | succ k ih =>
    intro i hk hb s h
    obtain ⟨items, hl, hn⟩ := hJ s h
    obtain ⟨⟨cls, dd, data, sl⟩, ho, hc, n, hd⟩ := id hl
    simp only at hc hd
    subst hc hd
    have h0 := h
    obtain ⟨hp, g, d, tk, os⟩ := s
    wp_walk using wpAny_loadPart' ho
    have hlt : i < items.size := by omega
    have hi : items[((i : Nat) : Int).toNat]? = some items[i] := by simp [hlt]
    rw [hi]
    refine wpAny_bind (wpAny_mono (turn i items _ h0 hl hlt) (fun r s2 q2 => ?_) fun _ _ x => x)
    obtain ⟨hr, q2⟩ := q2
    cases e : bs i with
    | true =>
      rw [e] at hr
      subst hr
      have hR := fin s2 q2
      have hd : (List.range N).any bs = true := List.any_eq_true.mpr ⟨i, List.mem_range.mpr (by omega), e⟩
      rw [hd] at hR
      wp_walk
      exact hR
    | false =>
      rw [e] at hr
      subst hr
      have hc : ((i : Int) + 1) = ((i + 1 : Nat) : Int) := by push_cast; rfl
      wp_walk
      rw [hc]
      exact ⟨plainId_quiet plain_contains_loop _, codeAny_builtin entry_contains_loop (by
        rw [Around.under_plainId plain_contains_loop _]
        exact ih (i + 1) (by omega) (fun j hj => by
          by_cases q : j = i
          · rw [q]; exact e
          · exact hb j (by omega)) _ q2)⟩
theorem list_containsB (l : Addr) (N : Nat) (x : Value) (bs : Nat → Bool) (J : Shared → Prop)
    (hJ : ∀ s, J s → ∃ items, s.heap.IsList l items ∧ items.size = N)
    (turn : ∀ i items s, J s → s.heap.IsList l items → (h : i < items.size) → wpAny (model prog w) A.in1 (eqBool items[i] x) (fun r s' => r = bs i ∧ J s') (fun e s' => R (.error e) s') s)
    (fin : ∀ s, J s → R (.ok (.ret (.bool ((List.range N).any bs)))) s) {s : Shared} (h : J s) :
    wpAny (model prog w) A.in1 (Builtin.«list.__contains__» ⟨[.ref l, x], []⟩) (FinOf prog w A R) (fun e s' => R (.error e) s') s := by
  obtain ⟨items, hl, hn⟩ := hJ s h
  obtain ⟨⟨cls, dd, data, sl⟩, ho, hc, n, hd⟩ := id hl
  simp only at hc hd
  subst hc hd
  have h0 := h
  obtain ⟨hp, g, d, tk, os⟩ := s
  wp_walk using wpAny_loadPart' ho
  exact ⟨plainId_quiet plain_contains_loop _, codeAny_builtin entry_contains_loop (by
    rw [Around.under_plainId plain_contains_loop _]
    exact contains_loopB l N x bs J hJ turn fin _ 0 rfl (fun j hj => absurd hj (Nat.not_lt_zero j)) _ h0)⟩
end
section
variable {prog : Program} {w : World} {A : Around} {E : Value → Shared → Prop} {s : Shared}
theorem contains_listB {l : Addr} {N : Nat} {x : Value} {Q : Bool → Shared → Prop} (bs : Nat → Bool) (J : Shared → Prop)
    (hJ : ∀ s, J s → ∃ items, s.heap.IsList l items ∧ items.size = N)
    (turn : ∀ i items s, J s → s.heap.IsList l items → (h : i < items.size) → wpAny (model prog w) A.in1 (eqBool items[i] x) (fun r s' => r = bs i ∧ J s') E s)
    (fin : ∀ s, J s → Q ((List.range N).any bs) s) (h : J s) : wpAny (model prog w) A (contains (.ref l) x) Q E s := by
  obtain ⟨items, hl, hn⟩ := hJ s h
  obtain ⟨⟨cls, dd, data, sl⟩, ho, hc, n, hd⟩ := id hl
  simp only at hc hd
  subst hc hd
  refine wpAny_contains_slot (⟨_, ho, rfl⟩ : s.TypeIs (.ref l) "list") F.slot_list_contains (wpAny_mono (call_here F.slot_list_contains ⟨_, ho, rfl⟩ F.entry_list_contains (F.args_list_contains_2 _ _) (list_containsB (R := wants (fun v s' => ∃ b, v = .bool b ∧ Q b s') E) l N x bs J hJ turn (fun s' q => ⟨_, rfl, fin s' q⟩) h)) (fun v s' hv => ?_) fun _ _ e => e)
  obtain ⟨b, rfl, hq⟩ := hv
  exact wpAny_truthy_bool hq
end
/-- x in a list, item == x told by D; D only makes objects -/
def rInB (K : PySem.W.Frag) (D : Eqb) (neg : Bool) : R2 := fun x y H Q => ∃ p xs, ∃ bs : Nat → Bool, y = .ref p ∧ H p = some (.lst xs) ∧ (∀ i z, xs[i]? = some z → D z x (bs i) H) ∧ ∀ H', Ext H H' → Q (.bl (if neg then !(List.range xs.length).any bs else (List.range xs.length).any bs)) H'
section
variable {X : Cx} {n : Nat} {D : Eqb}
theorem in_eqB (hD : MonB D) (h : EqB X n D) (hr : Room (n + 1) X.A) {pins : List (Addr × Obj)} {σ : L2.St} {H : Hp} {s : Shared} {p : Addr} {xs : List V} {x : V} {v : Value} {bs : Nat → Bool} (I : Inv X pins σ H s) (rx : RelV x v) (hp : H p = some (.lst xs))
    (hb : ∀ i z, xs[i]? = some z → D z x (bs i) H) (stay : ∀ s', (∃ H', Inv X pins σ H' s' ∧ Ext H H') → RelV x v) : wpAny (model X.prog X.w) X.A (contains (.ref p) v) (fun r s' => r = (List.range xs.length).any bs ∧ ∃ H', Inv X pins σ H' s' ∧ Ext H H') X.xe s := by
  refine contains_listB bs (fun s' => ∃ H', Inv X pins σ H' s' ∧ Ext H H') (fun s' q => ?_) (fun i items s' q hl hi => ?_) (fun s' q => ⟨rfl, q⟩) ⟨H, I, Ext.rfl'⟩
  · obtain ⟨H1, I1, x1⟩ := q
    obtain ⟨its, r1, e1, z1⟩ := I1.list (SqL.of (x1 _ _ hp))
    exact ⟨its.toArray, e1.isList, by rw [List.size_toArray]; exact r1.length.symm⟩
  · obtain ⟨H1, I1, x1⟩ := q
    obtain ⟨its, r1, e1, z1⟩ := I1.list (SqL.of (x1 _ _ hp))
    have ei : items = its.toArray := by
      obtain ⟨o1, ho1, _, n1, d1⟩ := hl
      obtain ⟨o2, ho2, _, n2, d2⟩ := e1.isList
      rw [ho1] at ho2
      cases ho2
      rw [d1] at d2
      injection d2
    subst ei
    have k1 : i < xs.length := by rw [r1.length]; simpa using hi
    obtain ⟨u, hu, ru⟩ := r1.get (List.getElem?_eq_getElem k1)
    have eu : its.toArray[i] = u := by
      have h1' : i < its.length := by simpa using hi
      rw [List.getElem?_eq_getElem h1'] at hu
      simpa using hu
    rw [eu]
    refine wpAny_mono (h X.A.in1 pins s' σ H1 _ _ (bs i) u v ⟨hr.in1, rfl⟩ I1 ru rx (hD _ _ _ _ _ x1 (hb i _ (List.getElem?_eq_getElem k1)))) (fun r s2 q => ?_) fun _ _ x => x
    obtain ⟨hr, H2, I2, x2⟩ := q
    exact ⟨hr, H2, I2, x1.trans x2⟩
theorem op_inB (hD : MonB D) (h : EqB X n D) (hr : Room (n + 1) X.A) : OpR X (compareOp .In) (rInB X.K D false) := by
  intro pins s σ H x y v u Q I rx ry hq
  obtain ⟨p, xs, bs, rfl, hp, hb, q⟩ := hq
  cases ry
  show wpAny (model X.prog X.w) X.A (do return .bool (← contains (.ref p) v)) (EP X pins σ Q) X.xe s
  refine wpAny_bind (wpAny_mono (in_eqB hD h hr I rx hp hb fun _ _ => rx) (fun r s' z => ?_) fun _ _ x => x)
  obtain ⟨rfl, H', I', e⟩ := z
  exact wpAny_pure ⟨.bl _, H', I', rfl, q H' e⟩
theorem op_notInB (hD : MonB D) (h : EqB X n D) (hr : Room (n + 1) X.A) : OpR X (compareOp .NotIn) (rInB X.K D true) := by
  intro pins s σ H x y v u Q I rx ry hq
  obtain ⟨p, xs, bs, rfl, hp, hb, q⟩ := hq
  cases ry
  show wpAny (model X.prog X.w) X.A (do return .bool (!(← contains (.ref p) v))) (EP X pins σ Q) X.xe s
  refine wpAny_bind (wpAny_mono (in_eqB hD h hr I rx hp hb fun _ _ => rx) (fun r s' z => ?_) fun _ _ x => x)
  obtain ⟨rfl, H', I', e⟩ := z
  exact wpAny_pure ⟨.bl _, H', I', rfl, q H' e⟩
end
/-! ### a local name that holds a def -/
section
variable {X : Cx} {k i : Nat} {f : Addr} {ps : List Str} {sp : Sp} {dvs : List V} {E : XK} {x : Str} {p pos : Pos} {e : Expr} {es : List Expr} {t : TA}
theorem pe_callVH (h : HasX X k f ps dvs sp) (hr : Room k X.A) (hx : Passes (L2.CX X.prog X.w) X E) (hN : X.N[i]? = some x) (hv : Vis X.env.scope x) (ha : PA X (e :: es) t)
    (hd : (x == ("__debug__" : Str)) = false := by decide) (hcd : (x == ("__classdict__" : Str)) = false := by decide)
    (he : starEach (e :: es) X.env = (false, eval e X.env) :: starEach es X.env := by rfl) (hpl : (backTo pos (starEach es X.env)).any (·.1) = false := by rfl) : PE X (.Call (.Name x p) (e :: es) [] pos) (ItX.tCallV i f (fun vs H Q E => sp (vs ++ dvs) H Q E) E t) := by
  obtain ⟨hk, fd, ds, hds, hb, F⟩ := h
  exact ItX.pe_callV (FnOk.raw F hb hds) hr hk hx hN hv ha hd hcd he hpl
end
end Tk

set_option Elab.async false
set_option linter.all false
set_option maxRecDepth 100000
set_option maxHeartbeats 4000000
/-! Errors with an own __init__ whose context is None; C(..) in a try that lets them out; own defs called in the suite. -/
namespace Tk
open PySem PySem.Spec PyProof.Rows L2
section
variable {X : Cx} {CXx : CXT} {k : Nat} {f C : Addr} {fd : FuncData} {fld : Str} {ps : List Str} {sp : Sp} {dvs : List V} {E : L2.St → XK} {x : Str} {p pos : Pos} {e : Expr} {es : List Expr} {ta : TA}
theorem pmk_oexN (T : OexF X.K C f fld) (h : HasX X k f ps dvs sp) (hr : Room (k + 1) X.A) (hg : Gl X x) (hm : X.mg x = some (.ref C)) (ha : PA X (e :: es) ta)
    (hdb : (x == ("__debug__" : Str)) = false := by decide) (he : starEach (e :: es) X.env = (false, eval e X.env) :: starEach es X.env := by rfl) (hpl : (backTo pos (starEach es X.env)).any (·.1) = false := by rfl) :
    L2N.PMk X (.Call (.Name x p) (e :: es) [] pos) (tMkO C sp dvs ta) := by
  obtain ⟨_, gd, ds, hd, hb, G⟩ := h
  obtain ⟨c1, c2, c3, c4, c5, c6, c7, c8, c9, c10, m0, m1, m2, m3, m5, hC, hve⟩ := T.T.cls
  intro pins s0 σ H Q I0 wish
  refine wpAny_Call_Name_kw (ld_glob I0 hg hm (PySem.W.callWith_K (h₀ := X.base) I0.ok.mod.kin T.T.kC (thn (ha.run pos pins s0 σ H _ I0 wish) ?_) he hpl) hdb)
  rintro us ⟨h0, gn, dw, tt, oo⟩ ⟨ws, Ha, J0, rws, hsize, q0⟩
  refine ⟨J0.kIn, ?_⟩
  let a := h0.objs.size + 1
  have le : h0.objs.size ≤ a := Nat.le_succ _
  have fresh : Ha a = none := J0.hok.fresh le
  have q1 := q0 a fresh
  let h1 := (h0.push (PySem.W.kdv_tup us)).push (PySem.HandSPX.excO C h0.objs.size)
  have stays : ∀ b o, h0.get? b = some o → h1.get? b = some o := fun b o z => Heap.get?_push_of_some _ (Heap.get?_push_of_some _ z)
  have at_a : h1.get? a = some (PySem.HandSPX.excO C h0.objs.size) := by
    show ((h0.push (PySem.W.kdv_tup us)).push (PySem.HandSPX.excO C h0.objs.size)).get? (h0.objs.size + 1) = _
    heap_get
  have J1 : Inv X pins σ (upd Ha a (exo a C none)) ⟨h1, gn, dw, tt, oo⟩ := J0.laid (t' := tt) (a := a) (o := exo a C none) (h' := h1) stays le (exo_ok at_a)
  have rr : Vals (V.ref a :: (ws ++ dvs)) (Value.ref a :: (us ++ ds)) := .cons rfl (rws.append hd)
  have ll : (Value.ref a :: us ++ ds).length = ps.length := (show (Value.ref a :: (us ++ ds)).length = _ from (G.len _ _ _ _ q1 ▸ rr.length.symm : _))
  have small : us.length ≤ sizeLine := by
    have z := Paired.length rws
    rw [sizeLine_eq] at *
    omega
  have body := G.run _ X.stack _ _ ⟨Value.ref a :: us, []⟩ (Value.ref a :: (us ++ ds)) _ _ (fun _ _ _ => False) (hr.make C us []) (J1.env0.make C us []) (hb _ (Value.ref a :: us) J1.kIn ll) rr q1
  refine wpAny_call (PySem.HandSPX.call_own F.excBase_ValueError (fun Y => PySem.HandSPX.refsVE_contains Y c5 hve) (J0.kIn _ _ hC) (PySem.W.looks_findIn J0.kIn T.iC) (fun self => PySem.W.bind_fn J0.kIn self T.tI) small (codeAny_mono body ?_))
  intro res s2 got
  cases res with
  | error er => exact (cx_none got).elim
  | ok fl =>
    cases fl with
    | ret u =>
      obtain ⟨h2, g2, d2, t2, o2⟩ := s2
      obtain ⟨v, Hb, eo, bare, un, ok2, rv, ev, d, fs, e1, e2, e3, q2⟩ := got
      subst ev
      obtain ⟨t0, hI, J2, kI, nI, there, nHa⟩ := mk_end0 (d2 := d2) (t2 := t2) J0 le stays un ok2 eo bare e1 e2 e3
      exact ⟨rv, a, _, _, ⟨hI, g2, d2, t2, o2⟩, _, .ref C, some d, rfl, J2, kI, nI, there, ⟨rfl, rfl, fun vs z => by cases z; rfl⟩, rfl, rfl, nHa, rfl, bare, raises_own T.T.exC T.T.tyC, q2⟩
    | next => exact got.elim
    | brk => exact got.elim
    | cont => exact got.elim
/-- C(e, ..) in a try, whatever errors' kind -/
theorem pe_makeSN {ds : List Value} (M : Mk X.K C f) (G : FnOk X.prog X.w X.K X.mg X.base CXx k f fd ps sp) (hb : Binds X.K fd ps ds) (hd : Vals dvs ds) (hr : Room (k + 1) X.A) (hg : Gl X x) (hm : X.mg x = some (.ref C)) (hx : ∀ σ, PassesAt CXx X σ (E σ)) (ha : PA X (e :: es) ta)
    (hdb : (x == ("__debug__" : Str)) = false := by decide) (he : starEach (e :: es) X.env = (false, eval e X.env) :: starEach es X.env := by rfl) (hpl : (backTo pos (starEach es X.env)).any (·.1) = false := by rfl) :
    PE X (.Call (.Name x p) (e :: es) [] pos) (tMakeS C sp dvs E ta) := by
  constructor
  intro pins s σ H Q I hq0
  refine wpAny_Call_Name_kw (ld_glob I hg hm (PySem.W.callWith_K (h₀ := X.base) I.ok.mod.kin M.kp (thn (ha.run pos pins s σ H _ I hq0) ?_) he hpl) hdb)
  rintro us s1 ⟨vs, H1, I1, r, q⟩
  refine ⟨I1.kIn, ?_⟩
  have q' := q (s1.heap.objs.size + 1) s1.heap.objs.size (I1.hok.fresh (Nat.le_succ _)) (I1.hok.fresh (Nat.le_refl _)) (Nat.ne_of_lt (Nat.lt_succ_self _))
  have I2 := Inv.made (C := C) I1
  have rr : Vals (V.ref (s1.heap.objs.size + 1) :: (vs ++ dvs)) (Value.ref (s1.heap.objs.size + 1) :: us ++ ds) := .cons rfl (r.append hd)
  have hl := rr.length.symm.trans (G.len _ _ _ _ q')
  have go := G.run _ X.stack _ _ ⟨Value.ref (s1.heap.objs.size + 1) :: us, []⟩ _ _ _ _ (hr.make C us []) (I2.env0.make C us []) (hb _ _ I2.kIn hl) rr q'
  refine wpAny_call (make_map (f := f) I1.kIn M.makes M.init (beq_iff_eq.mp M.fn) (codeAny_mono go ?_))
  intro res s' z
  cases res with
  | error err => exact hx σ pins _ _ err s' I2 z
  | ok fl => cases fl with
    | ret u =>
      obtain ⟨v, H', I3, rv, ev, q3⟩ := I2.after z
      subst ev
      exact ⟨rv, V.ref (s1.heap.objs.size + 1), H', I3, rfl, q3⟩
    | _ => exact False.elim z
theorem hot_suite {a : Addr} {oe : Obj} {cls : Value} {d : Option Addr} {pn : List (Addr × Obj)} (hz : L2N.Zn cls d oe) (hf : ∃ vs, oe.data = .fields vs) : L2H.HotC (X.suite a ((a, oe) :: pn)) := by
  obtain ⟨vs, h⟩ := hf
  exact ⟨(a, oe), ⟨rfl, vs, h, hz.2.2 vs h⟩, List.mem_cons_self⟩
end
section
variable {P : Program} {w : World} {K : PySem.W.Frag} {mg : Str → Option Value} {base : Heap} {x qual : Str} {st : Stmt} {f : Addr} {fd : FuncData} {N ps : List Str} {k : Nat} {sp : Sp}
/-- such a def, as it is called within an except suite -/
theorem fnHot (F : FnQ K x qual st [] f fd) (S : FnScope N ps (defScope st)) (len : ∀ vs H Q E, sp vs H Q E → vs.length = ps.length)
    (hbody : ∀ (cdv : Value) (A : Around) (outer : List Env) (s : Shared) (H : Hp) (vs : List V) (Q : VK) (E : XK) (p : Addr × Obj), L2H.RoomH k (A.deeper (envOfC qual (defScope st) s.heap.objs.size f cdv)) → sp vs H Q E →
      ∃ t, PSs (L2H.cxH (L2.CX P w) P w K mg base N qual (defScope st) f cdv A outer s H E p) (defBody st) t ∧ t { nx := fun _ H' => Q .non H', rt := Q } (start N vs) H) :
    L2H.FnH P w K mg base (L2.CX P w) (k + 1) f fd ps sp := by
  obtain ⟨oc, od, dV, kV, doc, pm, an, cdv, ct, osl, rfl, lk, hcd, _, _⟩ := F.ex
  exact L2H.fn_ofH lk hcd S len fun A outer s H vs Q E p _ hr hsp => hbody cdv A outer s H vs Q E p hr hsp
end
end Tk

set_option Elab.async false
set_option linter.all false
set_option maxRecDepth 100000
set_option maxHeartbeats 4000000
/-! More rules that name K; membership; two rules for one thing. -/
namespace Tk
open PySem PySem.Spec PyProof.Rows L2
section
variable {X : Cx} (K : PySem.W.Frag) {e : Expr} {es : List Expr} {te : TE} {t : TA} {p : Pos}
theorem call_isiTK (hK : X.K = K := by rfl) : CallR X (.builtin "isinstance") (rIsiT K) := hK ▸ call_isiT
theorem op_in_seqK (hK : X.K = K := by rfl) : OpR X (compareOp .In) (rIn K false) := hK ▸ op_in_seq
theorem op_notIn_seqK (hK : X.K = K := by rfl) : OpR X (compareOp .NotIn) (rIn K true) := hK ▸ op_notIn_seq
theorem pa_starK (he : PE X e te) (hr : PA X es t) (hK : X.K = K := by rfl) (hs : starEach (.Starred e p :: es) X.env = (true, eval e X.env) :: starEach es X.env := by rfl) : PA X (.Starred e p :: es) (StX.tStar K te t) := hK ▸ StX.pa_star he hr hs
end
theorem call_or {X : Cx} {f : Value} {r1 r2 : List V → Hp → VK → Prop} (h1 : CallR X f r1) (h2 : CallR X f r2) : CallR X f (fun xs H Q => r1 xs H Q ∨ r2 xs H Q) := by
  intro pins s σ H xs us Q I r h
  rcases h with h | h
  · exact h1 pins s σ H xs us Q I r h
  · exact h2 pins s σ H xs us Q I r h
theorem call_strAny {X : Cx} : CallR X (.type "str") (fun xs H Q => (∃ i, xs = [.int i] ∧ i.natAbs.log2 < 1920 ∧ Q (.str (toString i)) H) ∨ ∃ a, xs = [.str a] ∧ Q (.str a) H) := call_or call_str_int SkE.call_str_str
theorem pe_or {X : Cx} {e : Expr} {t1 t2 : TE} (h1 : PE X e t1) (h2 : PE X e t2) : PE X e (fun σ H Q => t1 σ H Q ∨ t2 σ H Q) :=
  ⟨fun pins s σ H Q I h => h.elim (h1.run pins s σ H Q I) (h2.run pins s σ H Q I)⟩
/-- in a list of texts -/
theorem inV_strs (x : Str) : ∀ l : List Str, inV (.str x) (l.map V.str) = decide (x ∈ l)
  | [] => rfl
  | y :: r => by
    have ih := inV_strs x r
    unfold inV at ih ⊢
    rw [List.map_cons, List.any_cons, ih]
    by_cases h : x = y
    · subst h
      rw [show eqV (V.str x) (V.str x) = true from by simp [eqV]]
      simp
    · have e : eqV (V.str y) (V.str x) = false := by
        have : ¬ (y = x) := fun z => h z.symm
        simp [eqV, this]
      rw [e, Bool.false_or]
      simp [h]
theorem flat_strs (l : List Str) : (l.map V.str).all flatV = true := by
  rw [List.all_map, List.all_eq_true]; intro x _; rfl
end Tk

set_option Elab.async false
set_option linter.all false
set_option maxRecDepth 100000
set_option maxHeartbeats 4000000
namespace Tk
open PySem PySem.Spec PyProof.Rows L2
theorem pmk_oexH {X : Cx} {k : Nat} {f C : Addr} {fld : Str} {ps : List Str} {sp : Sp} {dvs : List V} {x : Str} {e : Expr} {es : List Expr} {ta : TA} {p pos : Pos} (T : OexF X.K C f fld) (h : HasX X k f ps dvs sp) (hr : Room (k + 1) X.A) (hg : Gl X x) (hm : X.mg x = some (.ref C)) (ha : PA X (e :: es) ta)
    (hdb : (x == ("__debug__" : Str)) = false := by decide) (he : starEach (e :: es) X.env = (false, eval e X.env) :: starEach es X.env := by rfl) (hpl : (backTo pos (starEach es X.env)).any (·.1) = false := by rfl) :
    PMk X (.Call (.Name x p) (e :: es) [] pos) (tMkO C sp dvs ta) := by
  obtain ⟨_, fd, ds, hd, hb, F⟩ := h
  exact pmk_oex T.T T.iC T.tI F hr hb hd passL hg hm ha hdb he hpl
theorem pe_methH0 {X : Cx} {k : Nat} {f C : Addr} {ps : List Str} {sp : Sp} {dvs : List V} {E : XK} {m : Str} {pos apos : Pos} {o : Expr} {ta : TE} {pl : Sem Bool} (he : PE X o ta) (c : Cls X.K C) (hm : Meth X.K C m f) (h : HasX X k f ps dvs sp) (hr : Room k X.A) (hx : Passes (L2.CX X.prog X.w) X E)
    (ht : eval (.Call (.Attribute o m apos) [] [] pos) X.env = (do
      let ov ← eval o X.env
      standAt apos.atName
      let (f, first) ← holding [ov] (getMethod ov m pl)
      callWith pos f first (backTo pos (starEach [] X.env)) (backToKw pos (keywordEach [] X.env))) := by rfl) :
    PE X (.Call (.Attribute o m apos) [] [] pos) (tMeth C m sp dvs E ta tNil) := by
  obtain ⟨_, fd, ds, hd, hb, F⟩ := h
  exact pe_meth0 (pl := pl) he c hm F hr hb hd hx ht

theorem pe_callSH {X : Cx} {k : Nat} {f : Addr} {ps : List Str} {sp : Sp} {E : L2.St → XK} {x : Str} {p pos : Pos} {e : Expr} {es : List Expr} {t : TA} (h : HasX X k f ps [] sp) (hr : Room k X.A) (hg : Gl X x) (hm : X.mg x = some (.ref f)) (hx : ∀ σ, PassesAt (L2.CX X.prog X.w) X σ (E σ)) (ha : PA X (e :: es) t)
    (hdb : (x == ("__debug__" : Str)) = false := by decide) (he : starEach (e :: es) X.env = (false, eval e X.env) :: starEach es X.env := by rfl) (hpl : (backTo pos (starEach es X.env)).any (·.1) = false := by rfl) :
    PE X (.Call (.Name x p) (e :: es) [] pos) (tCallS sp E t) := by
  obtain ⟨hk, fd, ds, hd, hb, F⟩ := h
  cases hd
  exact pe_callS F hr hg hm hk hb hx ha hdb he hpl
/-- the part that stays may be seen smaller -/
theorem Gr.low {ms : List Addr} {I I2 H I' H' : Hp} (g : Gr ms I2 H I' H') (s : Same I I2) : Gr ms I H I H' :=
  ⟨Same.refl _, s.trans (g.ii.trans g.ih), g.hh, g.th, fun a o e _ => e⟩
theorem All2.strs {H : Hp} : ∀ {vs : List V} {xs : List Str}, All2 (iS H) vs xs → vs = xs.map V.str
  | _, _, .nil => rfl
  | _, _, .cons a t => by rw [a, t.strs]; rfl
theorem All2.ofStrs {H : Hp} : ∀ (xs : List Str), All2 (iS H) (xs.map V.str) xs
  | [] => .nil
  | x :: r => .cons rfl (All2.ofStrs r)
/-- a list that may change, seen as it stands now -/
theorem same_now {I H : Hp} {a : Addr} {o : HO} (s : Same I H) (h : H a = some o) : Same (upd I a o) H := fun b u e => by
  by_cases q : b = a
  · subst q; rw [upd_same] at e; rw [h]; exact e
  · rw [upd_ne q] at e; exact s b u e
theorem same_to {I : Hp} {a : Addr} {o : HO} (hi : I a = none) : Same I (upd I a o) := sNew hi
end Tk

set_option Elab.async false
set_option linter.all false
set_option maxRecDepth 100000
set_option maxHeartbeats 4000000
/-! Defs that let errors out whose context is None (L2N). -/
namespace Tk
open PySem PySem.Spec PyProof.Rows L2
def HasN (P : Program) (w : World) (K : PySem.W.Frag) (mg : Str → Option Value) (base : Heap) (k : Nat) (f : Addr) (ps : List Str) (dvs : List V) (sp : Sp) : Prop :=
  PySem.W.keepIn K (.ref f) = true ∧ ∃ (fd : FuncData) (ds : List Value), Vals dvs ds ∧ Binds K fd ps ds ∧ FnOk P w K mg base (L2N.CX P w) k f fd ps sp
theorem HasN.mono {P : Program} {w : World} {K : PySem.W.Frag} {mg : Str → Option Value} {base : Heap} {j k : Nat} {f : Addr} {ps : List Str} {dvs : List V} {sp : Sp} (h : HasN P w K mg base j f ps dvs sp) (l : j ≤ k) : HasN P w K mg base k f ps dvs sp := by
  obtain ⟨a, fd, ds, b, c, F⟩ := h
  exact ⟨a, fd, ds, b, c, F.mono l⟩
section
variable {X : Cx} {k : Nat} {f C : Addr} {ps : List Str} {sp : Sp} {dvs : List V} {E : XK} {x m : Str} {p pos apos : Pos} {e o : Expr} {es : List Expr} {ta : TE} {t : TA}
abbrev HasNX (X : Cx) := HasN X.prog X.w X.K X.mg X.base
theorem passLN : Passes (L2N.CX X.prog X.w) X E0 := fun _ _ _ _ _ _ _ h => by
  obtain ⟨_, _, _, _, _, _, _, _, _, _, _, _, z⟩ := h
  exact z.elim
theorem pe_callHN (h : HasNX X k f ps dvs sp) (hr : Room k X.A) (hg : Gl X x) (hm : X.mg x = some (.ref f)) (hx : Passes (L2N.CX X.prog X.w) X E) (ha : PA X (e :: es) t)
    (hdb : (x == ("__debug__" : Str)) = false := by decide) (he : starEach (e :: es) X.env = (false, eval e X.env) :: starEach es X.env := by rfl) (hpl : (backTo pos (starEach es X.env)).any (·.1) = false := by rfl) :
    PE X (.Call (.Name x p) (e :: es) [] pos) (tCall sp dvs E t) := by
  obtain ⟨hk, fd, ds, hd, hb, F⟩ := h
  exact pe_call F hr hg hm hk hb hd hx ha hdb he hpl
theorem pe_methHN {pl : Sem Bool} (he : PE X o ta) (c : Cls X.K C) (hm : Meth X.K C m f) (h : HasNX X k f ps dvs sp) (hr : Room k X.A) (hx : Passes (L2N.CX X.prog X.w) X E) (ha : PA X (e :: es) t)
    (hst : starEach (e :: es) X.env = (false, eval e X.env) :: starEach es X.env := by rfl) (hpl : (backTo pos (starEach es X.env)).any (·.1) = false := by rfl)
    (ht : eval (.Call (.Attribute o m apos) (e :: es) [] pos) X.env = (do
      let ov ← eval o X.env
      standAt apos.atName
      let (f, first) ← holding [ov] (getMethod ov m pl)
      callWith pos f first (backTo pos (starEach (e :: es) X.env)) (backToKw pos (keywordEach [] X.env))) := by rfl) :
    PE X (.Call (.Attribute o m apos) (e :: es) [] pos) (tMeth C m sp dvs E ta t) := by
  obtain ⟨hk, fd, ds, hd, hb, F⟩ := h
  exact pe_meth (pl := pl) he c hm F hr hb hd hx ha hst hpl ht
theorem pe_methH0N {pl : Sem Bool} (he : PE X o ta) (c : Cls X.K C) (hm : Meth X.K C m f) (h : HasNX X k f ps dvs sp) (hr : Room k X.A) (hx : Passes (L2N.CX X.prog X.w) X E)
    (ht : eval (.Call (.Attribute o m apos) [] [] pos) X.env = (do
      let ov ← eval o X.env
      standAt apos.atName
      let (f, first) ← holding [ov] (getMethod ov m pl)
      callWith pos f first (backTo pos (starEach [] X.env)) (backToKw pos (keywordEach [] X.env))) := by rfl) :
    PE X (.Call (.Attribute o m apos) [] [] pos) (tMeth C m sp dvs E ta tNil) := by
  obtain ⟨_, fd, ds, hd, hb, F⟩ := h
  exact pe_meth0 (pl := pl) he c hm F hr hb hd hx ht
theorem pe_callSHN {E : L2.St → XK} (h : HasNX X k f ps [] sp) (hr : Room k X.A) (hg : Gl X x) (hm : X.mg x = some (.ref f)) (hx : ∀ σ, PassesAt (L2N.CX X.prog X.w) X σ (E σ)) (ha : PA X (e :: es) t)
    (hdb : (x == ("__debug__" : Str)) = false := by decide) (he : starEach (e :: es) X.env = (false, eval e X.env) :: starEach es X.env := by rfl) (hpl : (backTo pos (starEach es X.env)).any (·.1) = false := by rfl) :
    PE X (.Call (.Name x p) (e :: es) [] pos) (tCallS sp E t) := by
  obtain ⟨hk, fd, ds, hd, hb, F⟩ := h
  cases hd
  exact pe_callS F hr hg hm hk hb hx ha hdb he hpl
end
section
variable {P : Program} {w : World} {K : PySem.W.Frag} {mg : Str → Option Value} {base : Heap} {x qual : Str} {st : Stmt} {f : Addr} {fd : FuncData} {N ps : List Str} {k : Nat} {sp : Sp}
theorem hasXN (F : FnQ K x qual st [] f fd) (b : Binds K fd ps []) (S : FnScope N ps (defScope st)) (len : ∀ vs H Q E, sp vs H Q E → vs.length = ps.length)
    (hbody : ∀ (cdv : Value) (A : Around) (outer : List Env) (s : Shared) (H : Hp) (vs : List V) (Q : VK) (E : XK), Room k (A.deeper (envOfC qual (defScope st) s.heap.objs.size f cdv)) → sp vs H Q E →
      ∃ t, PSs (cxOf (L2N.CX P w) P w K mg base N qual (defScope st) f cdv A outer s H E) (defBody st) t ∧ t { nx := fun _ H' => Q .non H', rt := Q } (start N vs) H) :
    HasN P w K mg base (k + 1) f ps [] sp :=
  ⟨F.kp, fd, [], .nil, b, F.ok S len hbody⟩
end
end Tk

set_option Elab.async false
set_option linter.all false
set_option maxRecDepth 100000
set_option maxHeartbeats 4000000
/-! Deep equality of data, by the interpreter's own ==. -/
namespace Tk
open PySem PySem.Spec PyProof.Rows L2
mutual
def toP : Da → PyData
  | .non => .none
  | .bl b => .bool b
  | .int i => .int i
  | .str s => .str s
  | .lst l => .list (toPs l)
  | .tup l => .tuple (toPs l)
def toPs : List Da → List PyData
  | [] => []
  | a :: r => toP a :: toPs r
end
mutual
/-- no bools; texts of signs that there are -/
def plain : Da → Bool
  | .bl _ => false
  | .str s => PyData.strOk s
  | .lst l => plains l
  | .tup l => plains l
  | _ => true
def plains : List Da → Bool
  | [] => true
  | a :: r => plain a && plains r
end
section
variable {K : PySem.W.Frag} {H : Hp}
mutual
theorem dp_of : ∀ (d : Da) (v : V), dR H v d → Dp K H v (toP d)
  | .non, v, h => by simp only [dR] at h; subst h; exact .non
  | .bl b, v, h => by simp only [dR] at h; subst h; exact .bl b
  | .int i, v, h => by simp only [dR] at h; subst h; exact .int i
  | .str s, v, h => by simp only [dR] at h; subst h; exact .str s
  | .lst l, v, h => by
    simp only [dR] at h
    obtain ⟨a, vs, rfl, ha, r⟩ := h
    exact .lst (SqL.of ha) (dps_of l vs r)
  | .tup l, v, h => by
    simp only [dR] at h
    obtain ⟨a, vs, rfl, ha, r⟩ := h
    exact .tup (SqT.of ha) (dps_of l vs r)
theorem dps_of : ∀ (l : List Da) (vs : List V), dRs H vs l → DpAll K H vs (toPs l)
  | [], vs, h => by simp only [dRs] at h; subst h; exact .nil
  | d :: l, vs, h => by
    simp only [dRs] at h
    obtain ⟨v, r, rfl, h1, h2⟩ := h
    exact .cons (dp_of d v h1) (dps_of l r h2)
end
end
mutual
theorem toP_eq : ∀ (a b : Da), plain a = true → plain b = true → PyData.eqv (toP a) (toP b) = eqd a b
  | .non, b, _, h => by cases b <;> first | rfl | (simp [plain] at h)
  | .bl _, _, h, _ => by simp [plain] at h
  | .int i, b, _, h => by cases b <;> first | rfl | (simp [plain] at h; done) | (simp [toP, PyData.eqv, eqd, BEq.beq])
  | .str s, b, _, h => by cases b <;> first | rfl | (simp [plain] at h; done) | (simp [toP, PyData.eqv, eqd]; done)
  | .lst l, b, h1, h => by
    cases b with
    | lst m => simp only [plain] at h h1; simp only [toP, PyData.eqv, eqd]; exact toPs_eq l m h1 h
    | bl _ => simp [plain] at h
    | _ => rfl
  | .tup l, b, h1, h => by
    cases b with
    | tup m => simp only [plain] at h h1; simp only [toP, PyData.eqv, eqd]; exact toPs_eq l m h1 h
    | bl _ => simp [plain] at h
    | _ => rfl
theorem toPs_eq : ∀ (a b : List Da), plains a = true → plains b = true → PyData.eqvAll (toPs a) (toPs b) = eqds a b
  | [], b, _, _ => by cases b <;> simp [toPs, PyData.eqvAll, eqds]
  | x :: r, b, h1, h => by
    cases b with
    | nil => simp [toPs, PyData.eqvAll, eqds]
    | cons y s =>
      simp only [plains, Bool.and_eq_true] at h1 h
      simp only [toPs, PyData.eqvAll, eqds]
      rw [toP_eq x y h1.1 h.1, toPs_eq r s h1.2 h.2]
end
mutual
theorem toP_lay : ∀ (d : Da), plain d = true → (toP d).canLay0 = true
  | .non, _ => rfl
  | .bl _, h => by simp [plain] at h
  | .int _, _ => rfl
  | .str s, h => by simp only [plain] at h; simp only [toP, PyData.canLay0]; exact h
  | .lst l, h => by simp only [plain] at h; simp only [toP, PyData.canLay0]; exact toPs_lay l h
  | .tup l, h => by simp only [plain] at h; simp only [toP, PyData.canLay0]; exact toPs_lay l h
theorem toPs_lay : ∀ (l : List Da), plains l = true → PyData.canLayAll0 (toPs l) = true
  | [], _ => by simp [toPs, PyData.canLayAll0]
  | d :: r, h => by
    simp only [plains, Bool.and_eq_true] at h
    simp only [toPs, PyData.canLayAll0, toP_lay d h.1, toPs_lay r h.2, Bool.and_self]
end
mutual
theorem toP_dep : ∀ (d : Da), (toP d).depth = dep d
  | .non => rfl
  | .bl _ => rfl
  | .int _ => rfl
  | .str s => rfl
  | .lst l => by simp only [toP, PyData.depth, dep, toPs_dep l]
  | .tup l => by simp only [toP, PyData.depth, dep, toPs_dep l]
theorem toPs_dep : ∀ (l : List Da), PyData.depthAll (toPs l) = deps l
  | [] => by simp [toPs, PyData.depthAll, deps]
  | d :: r => by simp only [toPs, PyData.depthAll, deps, toP_dep d, toPs_dep r]
end
theorem toP_shaped {d : Da} (h : plain d = true) (l : dep d ≤ 64) : SeqAt.shaped (toP d) = true := by
  unfold SeqAt.shaped
  rw [Bool.and_eq_true, decide_eq_true_iff, toP_dep]
  exact ⟨toP_lay d h, l⟩
/-- == of data at the slots -/
theorem eqD_of {K : PySem.W.Frag} {H : Hp} {x y : V} {a b : Da} {Q : VK} (ha : dR H x a) (hb : dR H y b) (pa : plain a = true) (pb : plain b = true) (la : dep a ≤ 64) (lb : dep b ≤ 64) (k : Q (.bl (eqd a b)) H) : rEqD K x y H Q :=
  ⟨toP a, toP b, dp_of a x ha, dp_of b y hb, toP_shaped pa la, toP_shaped pb lb, by rw [toP_eq a b pa pb]; exact k⟩
theorem neD_of {K : PySem.W.Frag} {H : Hp} {x y : V} {a b : Da} {Q : VK} (ha : dR H x a) (hb : dR H y b) (pa : plain a = true) (pb : plain b = true) (la : dep a ≤ 64) (lb : dep b ≤ 64) (k : Q (.bl (!eqd a b)) H) : rNeD K x y H Q :=
  ⟨toP a, toP b, dp_of a x ha, dp_of b y hb, toP_shaped pa la, toP_shaped pb lb, by rw [toP_eq a b pa pb]; exact k⟩
end Tk

set_option Elab.async false
set_option linter.all false
set_option maxRecDepth 100000
set_option maxHeartbeats 4000000
/-! Words, numbers and names as they are read; the mathematics of decimal texts. -/
namespace Rd
open PySem PyProof.Rows TL
/-! decimal texts -/
def dec (n : Nat) : Str := Str.ofString (toString ((n : Nat) : Int))
theorem tl_dec (n : Nat) : tl (dec n) = numL n := tl_num n
theorem dec_inj {m n : Nat} (h : dec m = dec n) : m = n := numL_inj (by rw [← tl_dec, ← tl_dec, h])
theorem ext_dec {w : Str} {n : Nat} (h : tl w = numL n) : w = dec n := ext_tl (by rw [h, tl_dec])
theorem numL_len_step {n : Nat} (h : 10 ≤ n) : (numL n).length = (numL (n / 10)).length + 1 := by rw [numL_step h]; simp
theorem numL_mono : ∀ (n m : Nat), n ≤ m → (numL n).length ≤ (numL m).length := by
  intro n
  induction n using Nat.strongRecOn with
  | _ n ih =>
    intro m h
    by_cases hn : n < 10
    · rw [numL_lt hn]
      have := List.length_pos_iff.mpr (numL_ne m)
      show 1 ≤ _; omega
    · rw [numL_len_step (by omega), numL_len_step (n := m) (by omega)]
      have := ih (n / 10) (by omega) (m / 10) (by omega)
      omega
theorem numL_head : ∀ (n : Nat), 0 < n → ∀ c r, numL n = c :: r → c ≠ 48 := by
  intro n
  induction n using Nat.strongRecOn with
  | _ n ih =>
    intro h c r e
    by_cases hn : n < 10
    · rw [numL_lt hn] at e
      injection e with e1 e2
      omega
    · rw [numL_step (by omega)] at e
      cases q : numL (n / 10) with
      | nil => exact absurd q (numL_ne _)
      | cons d s =>
        rw [q] at e
        injection e with e1 e2
        exact e1 ▸ ih (n / 10) (by omega) (by omega) d s q
theorem numL_zero : numL 0 = [48] := numL_lt (by decide)
theorem snocInd {α : Type} {P : List α → Prop} (h0 : P []) (hs : ∀ l a, P l → P (l ++ [a])) (l : List α) : P l := by
  have : ∀ m : List α, P m.reverse := by
    intro m
    induction m with
    | nil => exact h0
    | cons a m ih => rw [List.reverse_cons]; exact hs _ _ ih
  have := this l.reverse
  rwa [List.reverse_reverse] at this
def dv (l : List Nat) : Nat := NumText.digitsVal l
theorem dv_snoc (l : List Nat) (c : Nat) : dv (l ++ [c]) = dv l * 10 + (c - 48) := by
  unfold dv NumText.digitsVal; rw [List.foldl_append]; rfl
theorem dv_pos : ∀ (l : List Nat) (c : Nat), NumText.AllDigits (c :: l) → c ≠ 48 → 0 < dv (c :: l) := by
  intro l
  induction l using snocInd with
  | h0 =>
    intro c h hc
    have := h.head
    show 0 < 0 * 10 + (c - 48)
    omega
  | hs l d ih =>
    intro c h hc
    rw [← List.cons_append, dv_snoc]
    have := ih c (fun x hx => h x (by rw [← List.cons_append]; exact List.mem_append_left _ hx)) hc
    omega
/-- digits without a leading zero are a number's -/
theorem numL_dv : ∀ (l : List Nat) (c : Nat), NumText.AllDigits (c :: l) → (c ≠ 48 ∨ l = []) → numL (dv (c :: l)) = c :: l := by
  intro l
  induction l using snocInd with
  | h0 =>
    intro c h _
    have := h.head
    have e : dv [c] = c - 48 := by show 0 * 10 + (c - 48) = _; omega
    rw [e, numL_lt (by omega)]
    have : 48 + (c - 48) = c := by omega
    rw [this]
  | hs l d ih =>
    intro c h hc
    have hc : c ≠ 48 := by
      rcases hc with h | h
      · exact h
      · simp at h
    have hd := h d (by simp)
    have h1 : NumText.AllDigits (c :: l) := fun x hx => h x (by rw [← List.cons_append]; exact List.mem_append_left _ hx)
    have hp := dv_pos l c h1 hc
    rw [← List.cons_append, dv_snoc, numL_step (by omega)]
    have e1 : (dv (c :: l) * 10 + (d - 48)) / 10 = dv (c :: l) := by omega
    have e2 : 48 + (dv (c :: l) * 10 + (d - 48)) % 10 = d := by omega
    rw [e1, e2, ih c h1 (.inl hc)]
/-! numbers that words write -/
def isDig (c : Nat) : Bool := decide (48 ≤ c) && decide (c ≤ 57)
theorem isDig_iff {c : Nat} : isDig c = true ↔ 48 ≤ c ∧ c ≤ 57 := by unfold isDig; simp
theorem all_dig {l : List Nat} : l.all isDig = true ↔ NumText.AllDigits l := by
  rw [List.all_eq_true]; exact ⟨fun h c hc => isDig_iff.mp (h c hc), fun h c hc => isDig_iff.mpr (h c hc)⟩
def numOf (w : Str) (most : Nat) : Option Nat := if tl w = numL (dv (tl w)) ∧ dv (tl w) ≤ most then some (dv (tl w)) else none
theorem numOf_some {w : Str} {most n : Nat} : numOf w most = some n ↔ w = dec n ∧ n ≤ most := by
  unfold numOf
  constructor
  · intro h
    split at h
    · rename_i c
      cases h
      exact ⟨ext_dec c.1, c.2⟩
    · cases h
  · rintro ⟨rfl, h⟩
    have e : dv (tl (dec n)) = n := by rw [tl_dec]; exact numL_val n
    rw [e, tl_dec, if_pos ⟨rfl, h⟩]
theorem numOf_dec {most n : Nat} (h : n ≤ most) : numOf (dec n) most = some n := numOf_some.mpr ⟨rfl, h⟩
theorem numOf_none {w : Str} {most : Nat} : numOf w most = none ↔ ∀ n, n ≤ most → w ≠ dec n := by
  constructor
  · intro h n hn e
    rw [e, numOf_dec hn] at h; cases h
  · intro h
    cases e : numOf w most with
    | none => rfl
    | some n => obtain ⟨e1, e2⟩ := numOf_some.mp e; exact absurd e1 (h n e2)
/-- as number_of asks -/
theorem numOf_long {w : Str} {most : Nat} (h : w.length > (dec most).length) : numOf w most = none :=
  numOf_none.mpr fun n hn e => by
    have := numL_mono n most hn
    rw [e, len_tl, len_tl, tl_dec, tl_dec] at h
    omega
theorem numOf_digs {w : Str} {most : Nat} (h : ¬ (tl w ≠ [] ∧ (tl w).all isDig = true)) : numOf w most = none :=
  numOf_none.mpr fun n hn e => h (by rw [e, tl_dec]; exact ⟨numL_ne n, all_dig.mpr (numL_digits n)⟩)
theorem numOf_lead {w : Str} {most : Nat} {r : List Nat} (h : tl w = 48 :: r) (hr : r ≠ []) : numOf w most = none :=
  numOf_none.mpr fun n hn e => by
    rw [e, tl_dec] at h
    by_cases h0 : n = 0
    · subst h0; rw [numL_zero] at h; injection h with _ h2; exact hr h2.symm
    · exact numL_head n (by omega) _ _ h rfl
theorem numOf_else {w : Str} {most c : Nat} {r : List Nat} (h : tl w = c :: r) (hd : (tl w).all isDig = true) (hc : c ≠ 48 ∨ r = []) : numOf w most = if dv (tl w) ≤ most then some (dv (tl w)) else none := by
  unfold numOf
  have e := numL_dv r c (by rw [← h]; exact all_dig.mp hd) hc
  rw [← h] at e
  by_cases k : dv (tl w) ≤ most
  · rw [if_pos ⟨e.symm, k⟩, if_pos k]
  · rw [if_neg (fun z => k z.2), if_neg k]
theorem numOf_empty {most : Nat} : numOf Str.empty most = none := numOf_digs (fun h => h.1 rfl)
/-! characters -/
theorem uni_digit : ∀ c, c < 128 → Unicode.isDigit c = isDig c := by decide +kernel
theorem uni_alpha : ∀ c, c < 128 → Unicode.isAlpha c = (decide (65 ≤ c) && decide (c ≤ 90) || decide (97 ≤ c) && decide (c ≤ 122)) := by decide +kernel
theorem uni_lower : ∀ c, c < 128 → Unicode.isLower c = (decide (97 ≤ c) && decide (c ≤ 122)) := by decide +kernel
theorem uni_upper : ∀ c, c < 128 → (Unicode.isUpper c || Unicode.isTitle c) = (decide (65 ≤ c) && decide (c ≤ 90)) := by decide +kernel
theorem ascii_digit (w : Str) : (Txt.isascii w && Txt.isdigit w) = (decide (tl w ≠ []) && (tl w).all isDig) := by
  unfold Txt.isascii Txt.isdigit
  rw [← Array.all_toList, ← Array.all_toList]
  rw [show w.length = (tl w).length from len_tl w]
  show ((tl w).all _ && (decide ((tl w).length > 0) && (tl w).all _)) = _
  rw [Bool.eq_iff_iff]
  simp only [Bool.and_eq_true, List.all_eq_true, decide_eq_true_eq, isDig_iff]
  constructor
  · rintro ⟨h1, h2, h3⟩
    refine ⟨List.length_pos_iff.mp h2, fun c hc => ?_⟩
    have := h3 c hc
    rw [uni_digit c (h1 c hc)] at this
    exact isDig_iff.mp this
  · rintro ⟨h1, h2⟩
    refine ⟨fun c hc => ?_, List.length_pos_iff.mpr h1, fun c hc => ?_⟩
    · have := h2 c hc; omega
    · have := h2 c hc
      rw [uni_digit c (by omega)]; exact isDig_iff.mpr this
def isLow (c : Nat) : Bool := decide (97 ≤ c) && decide (c ≤ 122)
theorem isLow_iff {c : Nat} : isLow c = true ↔ 97 ≤ c ∧ c ≤ 122 := by unfold isLow; simp
theorem ascii_lower (w : Str) : (Txt.isascii w && (Txt.isalpha w && Txt.islower w)) = (decide (tl w ≠ []) && (tl w).all isLow) := by
  unfold Txt.isascii Txt.isalpha Txt.islower
  rw [← Array.all_toList, ← Array.all_toList, ← Array.any_toList, ← Array.any_toList]
  rw [show w.length = (tl w).length from len_tl w]
  show ((tl w).all _ && ((decide ((tl w).length > 0) && (tl w).all _) && ((tl w).any _ && !(tl w).any _))) = _
  rw [Bool.eq_iff_iff]
  simp only [Bool.and_eq_true, List.all_eq_true, List.any_eq_true, decide_eq_true_eq, Bool.not_eq_true', isLow_iff]
  constructor
  · rintro ⟨h1, ⟨h2, h3⟩, h4, h5⟩
    refine ⟨List.length_pos_iff.mp h2, fun c hc => ?_⟩
    have a := h3 c hc
    rw [uni_alpha c (h1 c hc)] at a
    have b := List.any_eq_false.mp h5 c hc
    rw [uni_upper c (h1 c hc)] at b
    simp only [Bool.or_eq_true, Bool.and_eq_true, decide_eq_true_eq] at a b
    omega
  · rintro ⟨h1, h2⟩
    have h128 : ∀ c ∈ tl w, c < 128 := fun c hc => by have := h2 c hc; omega
    refine ⟨h128, ⟨List.length_pos_iff.mpr h1, fun c hc => ?_⟩, ?_, ?_⟩
    · have := h2 c hc
      rw [uni_alpha c (h128 c hc)]; simp; omega
    · cases e : tl w with
      | nil => exact absurd e h1
      | cons c r =>
        have hc : c ∈ tl w := by rw [e]; exact List.mem_cons_self
        refine ⟨c, List.mem_cons_self, ?_⟩
        rw [uni_lower c (h128 c hc)]; simpa using h2 c hc
    · refine List.any_eq_false.mpr fun c hc => ?_
      rw [uni_upper c (h128 c hc)]
      have := h2 c hc
      simp; omega
/-! a word that begins with a sign -/
theorem starts1 (w : Str) (y : Str) (c : Nat) (hy : tl y = [c]) : Txt.startswith w y = ((tl w).head? == some c) := by
  unfold Txt.startswith
  rw [PySem.StrLaws.subAt_eq]
  have hl : y.length = 1 := by rw [len_tl, hy]; rfl
  rw [hl, len_tl]
  show (decide (0 + 1 ≤ (tl w).length) && ((tl w).drop 0).take 1 == tl y) = _
  rw [hy, List.drop_zero]
  cases tl w with
  | nil => rfl
  | cons d r => simp
end Rd

set_option Elab.async false
set_option linter.all false
set_option maxRecDepth 100000
set_option maxHeartbeats 4000000
/-! Reading the words of a box, as a function. -/
namespace Rd
open PySem PyProof.Rows TL
inductive Ex where
  | num (n : Nat) | var (x : Str) | press | op (o : Str) (a b : Ex)
  deriving DecidableEq
inductive Stm where
  | set (x : Str) (e : Ex) | draw (x : Str) (n : Nat) | use (x : Str) (e : Ex) | say (e : Ex) | ite (e : Ex) (s t : List Stm)
structure Bx where
  buttons : Nat
  answers : Nat
  vars : List (Str × Nat)
  start : List Stm
  block : List Stm
def ops : List Str := ["+", "-", "*", "/", "mod", "<", "="]
def sts : List Str := ["set", "draw", "use", "say", "if"]
def resv : List Str := ["buttons", "answers", "var", "start", "press", "set", "draw", "use", "say", "if", "else", "end", "mod"]
def isName (w : Str) : Bool := decide (w.length ≤ 8) && decide (w ∉ resv) && (decide (tl w ≠ []) && (tl w).all isLow)
/-- where the reader is -/
structure RS where
  pos : Nat
  vars : List (Str × Nat)
  draws : Nat
  uses : Nat
  pressed : Bool
inductive Res (α : Type) where
  | ok (x : α) (r : RS)
  | bad (n : Nat)
def Res.bind {α β : Type} (x : Res α) (f : α → RS → Res β) : Res β := match x with
  | .ok a r => f a r
  | .bad n => .bad n
theorem bind_ok {α β : Type} {x : Res α} {f : α → RS → Res β} {y : β} {r : RS} (h : x.bind f = .ok y r) : ∃ a r1, x = .ok a r1 ∧ f a r1 = .ok y r := by
  cases x with
  | ok a r1 => exact ⟨a, r1, rfl, h⟩
  | bad n => cases h
section
variable (ws : List Str)
def here (r : RS) : Str := ws.getD r.pos Str.empty
def RS.go (r : RS) : RS := { r with pos := r.pos + 1 }
def hasV (r : RS) (w : Str) : Bool := decide (w ∈ r.vars.map (·.1))
def takeR (w : Str) (r : RS) : Res Unit := if here ws r = w then .ok () r.go else .bad r.pos
def numR (lo hi : Nat) (r : RS) : Res Nat := match numOf (here ws r) hi with
  | some n => if lo ≤ n then .ok n r.go else .bad r.pos
  | none => .bad r.pos
def newR (r : RS) : Res Str := if isName (here ws r) = true ∧ hasV r (here ws r) = false then .ok (here ws r) r.go else .bad r.pos
def varR (r : RS) : Res Str := if hasV r (here ws r) = true then .ok (here ws r) r.go else .bad r.pos
def leafOf (r : RS) (w : Str) : Option Ex := match numOf w 65535 with
  | some n => some (.num n)
  | none => if hasV r w = true then some (.var w) else if w = "press" ∧ r.pressed = true then some .press else none
def leafR (r : RS) : Res Ex := match leafOf r (here ws r) with
  | some e => .ok e r.go
  | none => .bad r.pos
def exR : Nat → RS → Res Ex
  | 0, r => leafR ws r
  | k + 1, r => if here ws r ∈ ops then (exR k r.go).bind fun a r1 => (exR k r1).bind fun b r2 => .ok (.op (here ws r) a b) r2 else leafR ws r
variable (ar : Bool)
def mayR (w : Str) (d : Nat) (r : RS) : Bool :=
  if w = "if" then decide (d < 4) else if w = "say" then r.pressed else if w = "draw" ∧ 3 ≤ r.draws then false else
  if w = "use" ∧ (ar = false ∨ 24 ≤ r.uses) then false else decide (w ∈ (["set", "draw", "use"] : List Str)) && decide (0 < r.vars.length)
def stmtR (ch : RS → Res Stm) (r : RS) : Res Stm :=
  if here ws r = "if" then ch r.go else if here ws r = "say" then (exR ws 4 r.go).bind fun e r1 => .ok (.say e) r1 else
  (varR ws r.go).bind fun x r1 =>
    if here ws r = "draw" then (numR ws 1 6 { r1 with draws := r1.draws + 1 }).bind fun n r2 => .ok (.draw x n) r2 else
    if here ws r = "use" then (exR ws 4 { r1 with uses := r1.uses + 1 }).bind fun e r2 => .ok (.use x e) r2 else
    (exR ws 4 r1).bind fun e r2 => .ok (.set x e) r2
def loopR (d : Nat) (ch : RS → Res Stm) : Nat → List Stm → RS → Res (List Stm)
  | 0, acc, r => .ok acc r
  | n + 1, acc, r => if mayR ar (here ws r) d r = true then (stmtR ws ch r).bind fun s r1 => loopR d ch n (acc ++ [s]) r1 else .ok acc r
def stmtsR (d : Nat) (ch : RS → Res Stm) (r : RS) : Res (List Stm) := loopR ws ar d ch (ws.length + 1) [] r
def choice1 (d : Nat) (ch : RS → Res Stm) (r : RS) : Res Stm :=
  (exR ws 4 r).bind fun e r1 => (stmtsR ws ar d ch r1).bind fun s r2 =>
    if here ws r2 = "else" ∧ sts.any (fun w => mayR ar w d r2) = true then
      (stmtsR ws ar d ch r2.go).bind fun t r3 => if t.length = 0 then .bad r3.pos else (takeR ws "end" r3).bind fun _ r4 => .ok (.ite e s t) r4
    else (takeR ws "end" r2).bind fun _ r4 => .ok (.ite e s []) r4
/-- choices of the depth 4 - k -/
def choiceR : Nat → RS → Res Stm
  | 0 => choice1 ws ar 4 (fun r => .bad r.pos)
  | k + 1 => choice1 ws ar (4 - (k + 1)) (choiceR k)
/-- the statements inside 4 - k ifs -/
def blockR : Nat → RS → Res (List Stm)
  | 0 => stmtsR ws ar 4 (fun r => .bad r.pos)
  | k + 1 => stmtsR ws ar (4 - (k + 1)) (choiceR ws ar k)
def varsR : Nat → RS → Res Unit
  | 0, r => .ok () r
  | n + 1, r => if here ws r = "var" then (newR ws r.go).bind fun x r1 => (numR ws 1 12 r1).bind fun m r2 => varsR n { r2 with vars := r2.vars ++ [(x, m)] } else .ok () r
def r0 : RS := ⟨0, [], 0, 0, false⟩
def readR : Res Bx :=
  (takeR ws "buttons" r0).bind fun _ r => (numR ws 1 4 r).bind fun b r => (takeR ws "answers" r).bind fun _ r => (numR ws 1 4 r).bind fun a r =>
  (varsR ws 4 r).bind fun _ r => (takeR ws "start" r).bind fun _ r => (blockR ws ar 4 r).bind fun s r => (takeR ws "press" r).bind fun _ r =>
  (blockR ws ar 4 { r with pressed := true }).bind fun t r => if r.pos < ws.length then .bad r.pos else .ok ⟨b, a, r.vars, s, t⟩ r
end
/-! the words of a box -/
def wd (s : String) : Str := s
def Ex.words : Ex → List Str
  | .num n => [dec n]
  | .var x => [x]
  | .press => [wd "press"]
  | .op o a b => o :: (a.words ++ b.words)
mutual
def Stm.words : Stm → List Str
  | .set x e => wd "set" :: x :: e.words
  | .draw x n => [wd "draw", x, dec n]
  | .use x e => wd "use" :: x :: e.words
  | .say e => wd "say" :: e.words
  | .ite e s t => wd "if" :: (e.words ++ (blockWords s ++ ((if t.isEmpty = true then [] else wd "else" :: blockWords t) ++ [wd "end"])))
def blockWords : List Stm → List Str
  | [] => []
  | s :: r => s.words ++ blockWords r
end
def varWords : List (Str × Nat) → List Str
  | [] => []
  | (x, n) :: r => wd "var" :: x :: dec n :: varWords r
def Bx.words (b : Bx) : List Str := wd "buttons" :: dec b.buttons :: wd "answers" :: dec b.answers :: (varWords b.vars ++ wd "start" :: (blockWords b.start ++ wd "press" :: blockWords b.block))
end Rd

set_option Elab.async false
set_option linter.all false
set_option maxRecDepth 100000
set_option maxHeartbeats 4000000
/-! The words of a box that is right are read as that box. -/
namespace Rd
open PySem PyProof.Rows TL
/-! lists -/
theorem drop_at {α : Type} {l m : List α} {i : Nat} {x : α} (h : l.drop i = x :: m) : l[i]? = some x ∧ l.drop (i + 1) = m ∧ i < l.length := by
  have hl : i < l.length := by
    by_cases q : i < l.length
    · exact q
    · rw [List.drop_eq_nil_of_le (by omega)] at h; cases h
  rw [List.drop_eq_getElem_cons hl] at h
  injection h with h1 h2
  exact ⟨by rw [List.getElem?_eq_getElem hl, h1], h2, hl⟩
theorem drop_app {α : Type} {l m n : List α} {i : Nat} (h : l.drop i = m ++ n) : l.drop (i + m.length) = n := by
  rw [← List.drop_drop, h, List.drop_left]
theorem drop_len {α : Type} {l m : List α} {i : Nat} (h : l.drop i = m) (hm : m ≠ []) : i + m.length = l.length := by
  have := congrArg List.length h
  rw [List.length_drop] at this
  have : 0 < m.length := List.length_pos_iff.mpr hm
  omega
section
variable {ws : List Str} {ar : Bool}
theorem here_of {r : RS} {x : Str} {m : List Str} (h : ws.drop r.pos = x :: m) : here ws r = x := by
  unfold here; rw [List.getD_eq_getElem?_getD, (drop_at h).1]; rfl
theorem here_end {r : RS} (h : ws.drop r.pos = []) : here ws r = Str.empty := by
  unfold here; rw [List.getD_eq_getElem?_getD, List.getElem?_eq_none (by simpa using h)]; rfl
theorem go_drop {r : RS} {x : Str} {m : List Str} (h : ws.drop r.pos = x :: m) : ws.drop r.go.pos = m := (drop_at h).2.1
end
theorem bind_mk {α β : Type} {a : α} {r : RS} {f : α → RS → Res β} : (Res.ok a r).bind f = f a r := rfl
/-! what is right -/
def NmOk (vs : List (Str × Nat)) : Prop := ∀ p ∈ vs, isName p.1 = true
def okEx (nm : List Str) (pr : Bool) : Nat → Ex → Prop
  | _, .num n => n ≤ 65535
  | _, .var x => x ∈ nm
  | _, .press => pr = true
  | 0, .op _ _ _ => False
  | k + 1, .op o a b => o ∈ ops ∧ okEx nm pr k a ∧ okEx nm pr k b
mutual
def okSt (nm : List Str) (pr ar : Bool) (k : Nat) : Stm → Prop
  | .set x e => x ∈ nm ∧ okEx nm pr 4 e
  | .draw x n => x ∈ nm ∧ 1 ≤ n ∧ n ≤ 6
  | .use x e => ar = true ∧ x ∈ nm ∧ okEx nm pr 4 e
  | .say e => pr = true ∧ okEx nm pr 4 e
  | .ite e s t => 0 < k ∧ okEx nm pr 4 e ∧ okBl nm pr ar (k - 1) s ∧ okBl nm pr ar (k - 1) t
def okBl (nm : List Str) (pr ar : Bool) (k : Nat) : List Stm → Prop
  | [] => True
  | s :: r => okSt nm pr ar k s ∧ okBl nm pr ar k r
end
mutual
def nd : Stm → Nat
  | .draw _ _ => 1
  | .ite _ s t => nds s + nds t
  | _ => 0
def nds : List Stm → Nat
  | [] => 0
  | s :: r => nd s + nds r
end
mutual
def nu : Stm → Nat
  | .use _ _ => 1
  | .ite _ s t => nus s + nus t
  | _ => 0
def nus : List Stm → Nat
  | [] => 0
  | s :: r => nu s + nus r
end
theorem name_facts {x : Str} (h : isName x = true) : x.length ≤ 8 ∧ x ∉ resv ∧ tl x ≠ [] ∧ (∀ c ∈ tl x, 97 ≤ c ∧ c ≤ 122) := by
  unfold isName at h
  simp only [Bool.and_eq_true, decide_eq_true_eq, List.all_eq_true, isLow_iff] at h
  exact ⟨h.1.1, h.1.2, h.2.1, h.2.2⟩
theorem name_num {x : Str} {m : Nat} (h : isName x = true) : numOf x m = none := by
  obtain ⟨_, _, h1, h2⟩ := name_facts h
  refine numOf_digs fun z => ?_
  cases e : tl x with
  | nil => exact h1 e
  | cons c r =>
    have a := h2 c (by rw [e]; exact List.mem_cons_self)
    have b := isDig_iff.mp (List.all_eq_true.mp z.2 c (by rw [e]; exact List.mem_cons_self))
    omega
theorem name_low {x y : Str} (h : isName x = true) {c : Nat} {r : List Nat} (e : tl y = c :: r) (hc : ¬ (97 ≤ c ∧ c ≤ 122)) : x ≠ y := fun z => by
  subst z
  exact hc ((name_facts h).2.2.2 c (by rw [e]; exact List.mem_cons_self))
theorem name_ops {x : Str} (h : isName x = true) : x ∉ ops := fun z => by
  have r := (name_facts h).2.1
  have e : ∀ y ∈ ops, y ∈ resv ∨ ∃ c q, tl y = c :: q ∧ ¬ (97 ≤ c ∧ c ≤ 122) := by
    intro y hy
    simp only [ops, List.mem_cons, List.not_mem_nil, or_false] at hy
    rcases hy with rfl | rfl | rfl | rfl | rfl | rfl | rfl
    · exact .inr ⟨43, [], by decide +kernel, by omega⟩
    · exact .inr ⟨45, [], by decide +kernel, by omega⟩
    · exact .inr ⟨42, [], by decide +kernel, by omega⟩
    · exact .inr ⟨47, [], by decide +kernel, by omega⟩
    · exact .inl (by decide +kernel)
    · exact .inr ⟨60, [], by decide +kernel, by omega⟩
    · exact .inr ⟨61, [], by decide +kernel, by omega⟩
  rcases e x z with q | ⟨c, q, e1, e2⟩
  · exact r q
  · exact name_low h e1 e2 rfl
theorem dec_ops (n : Nat) : dec n ∉ ops := fun z => by
  have hd := numL_digits n
  have hn := numL_ne n
  have e : ∀ y ∈ ops, ∃ c q, tl y = c :: q ∧ ¬ (48 ≤ c ∧ c ≤ 57) := by
    intro y hy
    simp only [ops, List.mem_cons, List.not_mem_nil, or_false] at hy
    rcases hy with rfl | rfl | rfl | rfl | rfl | rfl | rfl
    · exact ⟨43, [], by decide +kernel, by omega⟩
    · exact ⟨45, [], by decide +kernel, by omega⟩
    · exact ⟨42, [], by decide +kernel, by omega⟩
    · exact ⟨47, [], by decide +kernel, by omega⟩
    · exact ⟨109, [111, 100], by decide +kernel, by omega⟩
    · exact ⟨60, [], by decide +kernel, by omega⟩
    · exact ⟨61, [], by decide +kernel, by omega⟩
  obtain ⟨c, q, e1, e2⟩ := e _ z
  rw [tl_dec] at e1
  exact e2 (hd c (by rw [e1]; exact List.mem_cons_self))
theorem press_num {m : Nat} : numOf (wd "press") m = none := by
  refine numOf_digs fun z => ?_
  have : ¬ ((tl (wd "press")).all isDig = true) := by decide +kernel
  exact this z.2
theorem press_ops : wd "press" ∉ ops := by decide +kernel
theorem press_resv : wd "press" ∈ resv := by decide +kernel
/-! expressions -/
def advE (r : RS) (e : Ex) : RS := { r with pos := r.pos + e.words.length }
section
variable {ws : List Str} {ar : Bool}
theorem hasV_iff {r : RS} {x : Str} : hasV r x = true ↔ x ∈ r.vars.map (·.1) := by unfold hasV; simp
theorem not_var {r : RS} (hn : NmOk r.vars) {x : Str} (h : isName x = false) : hasV r x = false := by
  cases e : hasV r x with
  | false => rfl
  | true =>
    obtain ⟨p, hp, rfl⟩ := List.mem_map.mp (hasV_iff.mp e)
    rw [hn p hp] at h; cases h
theorem leaf_of {r : RS} (hn : NmOk r.vars) : ∀ {k : Nat} {e : Ex}, okEx (r.vars.map (·.1)) r.pressed k e → (∀ o a b, e ≠ .op o a b) → ∃ x, e.words = [x] ∧ x ∉ ops ∧ leafOf r x = some e := by
  intro k e h hne
  cases e with
  | num n =>
    have h : n ≤ 65535 := by cases k <;> exact h
    refine ⟨dec n, rfl, dec_ops n, ?_⟩
    unfold leafOf; rw [numOf_dec h]
  | var x =>
    have h : x ∈ r.vars.map (·.1) := by cases k <;> exact h
    obtain ⟨p, hp, rfl⟩ := List.mem_map.mp h
    refine ⟨p.1, rfl, name_ops (hn p hp), ?_⟩
    unfold leafOf; rw [name_num (hn p hp)]
    show (if hasV r p.1 = true then _ else _) = _
    rw [if_pos (hasV_iff.mpr h)]
  | press =>
    have h : r.pressed = true := by cases k <;> exact h
    refine ⟨wd "press", rfl, press_ops, ?_⟩
    unfold leafOf; rw [press_num]
    show (if hasV r (wd "press") = true then _ else _) = _
    rw [not_var hn (by decide +kernel), if_neg Bool.false_ne_true, if_pos ⟨rfl, h⟩]
  | op o a b => exact absurd rfl (hne o a b)
theorem exR_words : ∀ (k : Nat) (e : Ex) (r : RS) (rest : List Str), NmOk r.vars → okEx (r.vars.map (·.1)) r.pressed k e → ws.drop r.pos = e.words ++ rest → exR ws k r = .ok e (advE r e) := by
  have leaf : ∀ (e : Ex) (k : Nat) (r : RS) (rest : List Str), NmOk r.vars → okEx (r.vars.map (·.1)) r.pressed k e → (∀ o a b, e ≠ .op o a b) → ws.drop r.pos = e.words ++ rest → here ws r ∉ ops ∧ leafR ws r = .ok e (advE r e) := by
    intro e k r rest hn h hne hd
    obtain ⟨x, e1, e2, e3⟩ := leaf_of hn h hne
    rw [e1] at hd
    have hh := here_of (m := rest) hd
    refine ⟨by rw [hh]; exact e2, ?_⟩
    unfold leafR advE; rw [hh, e3, e1]; rfl
  intro k
  induction k with
  | zero =>
    intro e r rest hn h hd
    cases e with
    | op o a b => exact absurd h id
    | num n => exact (leaf _ 0 r rest hn h (by intros; intro z; cases z) hd).2
    | var n => exact (leaf _ 0 r rest hn h (by intros; intro z; cases z) hd).2
    | press => exact (leaf _ 0 r rest hn h (by intros; intro z; cases z) hd).2
  | succ k ih =>
    intro e r rest hn h hd
    have other : (∀ o a b, e ≠ .op o a b) → exR ws (k + 1) r = .ok e (advE r e) := fun hne => by
      obtain ⟨h1, h2⟩ := leaf e (k + 1) r rest hn h hne hd
      unfold exR; rw [if_neg h1]; exact h2
    cases e with
    | num n => exact other (by intros; intro z; cases z)
    | var n => exact other (by intros; intro z; cases z)
    | press => exact other (by intros; intro z; cases z)
    | op o a b =>
      obtain ⟨h1, h2, h3⟩ := h
      have hd' : ws.drop r.pos = o :: (a.words ++ (b.words ++ rest)) := by rw [hd]; simp [Ex.words]
      have hh := here_of hd'
      have d1 := go_drop hd'
      unfold exR
      rw [hh, if_pos h1, ih a r.go _ hn h2 d1]
      have d2 : ws.drop (advE r.go a).pos = b.words ++ rest := drop_app d1
      show ((exR ws k (advE r.go a)).bind _) = _
      rw [ih b (advE r.go a) _ hn h3 d2]
      show Res.ok _ _ = Res.ok _ _
      congr 1
      unfold advE RS.go
      rw [show (Ex.op o a b).words = o :: (a.words ++ b.words) from rfl]
      simp only [RS.mk.injEq, and_true, true_and, List.length_cons, List.length_append]
      omega
/-! statements -/
def advS (r : RS) (s : Stm) : RS := { r with pos := r.pos + s.words.length, draws := r.draws + nd s, uses := r.uses + nu s }
def advB (r : RS) (l : List Stm) : RS := { r with pos := r.pos + (blockWords l).length, draws := r.draws + nds l, uses := r.uses + nus l }
def chAt (ws : List Str) (ar : Bool) : Nat → RS → Res Stm
  | 0 => fun r => .bad r.pos
  | k + 1 => choiceR ws ar k
theorem choiceR_eq (k : Nat) : choiceR ws ar k = choice1 ws ar (4 - k) (chAt ws ar k) := by cases k <;> rfl
theorem blockR_eq (k : Nat) : blockR ws ar k = stmtsR ws ar (4 - k) (chAt ws ar k) := by cases k <;> rfl
def firstW : Stm → Str
  | .set _ _ => wd "set" | .draw _ _ => wd "draw" | .use _ _ => wd "use" | .say _ => wd "say" | .ite _ _ _ => wd "if"
theorem words_first (s : Stm) : ∃ m, s.words = firstW s :: m := by cases s <;> exact ⟨_, rfl⟩
theorem words_pos (s : Stm) : 0 < s.words.length := by obtain ⟨m, e⟩ := words_first s; rw [e]; simp
theorem len_le_words : ∀ l : List Stm, l.length ≤ (blockWords l).length
  | [] => Nat.le_refl _
  | s :: r => by
    have := words_pos s
    have := len_le_words r
    simp only [blockWords, List.length_cons, List.length_append]; omega
theorem may_set {r : RS} {d : Nat} : mayR ar (wd "set") d r = decide (0 < r.vars.length) := by
  unfold mayR
  rw [if_neg (by decide +kernel), if_neg (by decide +kernel), if_neg (by rintro ⟨a, _⟩; revert a; decide +kernel), if_neg (by rintro ⟨a, _⟩; revert a; decide +kernel),
    show decide (wd "set" ∈ (["set", "draw", "use"] : List Str)) = true by decide +kernel, Bool.true_and]
theorem may_draw {r : RS} {d : Nat} : mayR ar (wd "draw") d r = (decide (r.draws < 3) && decide (0 < r.vars.length)) := by
  unfold mayR
  rw [if_neg (by decide +kernel), if_neg (by decide +kernel)]
  by_cases h : 3 ≤ r.draws
  · rw [if_pos ⟨rfl, h⟩, decide_eq_false (by omega : ¬ r.draws < 3)]; rfl
  · rw [if_neg (fun z => h z.2), if_neg (by rintro ⟨a, _⟩; revert a; decide +kernel), decide_eq_true (by omega : r.draws < 3), show decide (wd "draw" ∈ (["set", "draw", "use"] : List Str)) = true by decide +kernel]
theorem may_use {r : RS} {d : Nat} : mayR ar (wd "use") d r = (ar && (decide (r.uses < 24) && decide (0 < r.vars.length))) := by
  unfold mayR
  rw [if_neg (by decide +kernel), if_neg (by decide +kernel), if_neg (by rintro ⟨a, _⟩; revert a; decide +kernel)]
  cases ar with
  | false => rw [if_pos ⟨rfl, .inl rfl⟩]; rfl
  | true =>
    by_cases h : 24 ≤ r.uses
    · rw [if_pos ⟨rfl, .inr h⟩, decide_eq_false (by omega : ¬ r.uses < 24)]; rfl
    · rw [if_neg (by rintro ⟨_, a | a⟩; · cases a
                     · exact h a), decide_eq_true (by omega : r.uses < 24), show decide (wd "use" ∈ (["set", "draw", "use"] : List Str)) = true by decide +kernel]; rfl
theorem may_say {r : RS} {d : Nat} : mayR ar (wd "say") d r = r.pressed := by
  unfold mayR
  rw [if_neg (by decide +kernel), if_pos (show wd "say" = Str.ofString "say" from rfl)]
theorem may_if {r : RS} {d : Nat} : mayR ar (wd "if") d r = decide (d < 4) := by
  unfold mayR
  rw [if_pos (show wd "if" = Str.ofString "if" from rfl)]
theorem may_not {r : RS} {d : Nat} {w : Str} (h : w ∉ sts) : mayR ar w d r = false := by
  have e : ∀ y : Str, y ∈ sts → w ≠ y := fun y hy z => h (z ▸ hy)
  unfold mayR
  rw [if_neg (e "if" (by decide +kernel)), if_neg (e "say" (by decide +kernel)), if_neg (fun z => e "draw" (by decide +kernel) z.1), if_neg (fun z => e "use" (by decide +kernel) z.1)]
  rw [decide_eq_false]; · rfl
  intro z
  simp only [List.mem_cons, List.not_mem_nil, or_false] at z
  rcases z with z | z | z
  · exact e "set" (by decide +kernel) z
  · exact e "draw" (by decide +kernel) z
  · exact e "use" (by decide +kernel) z
theorem vars_pos {r : RS} {x : Str} (h : x ∈ r.vars.map (·.1)) : 0 < r.vars.length := by
  have := List.length_pos_of_mem h
  simpa using this
theorem may_first {r : RS} {k : Nat} (hk : k ≤ 4) : ∀ {s : Stm}, okSt (r.vars.map (·.1)) r.pressed ar k s → r.draws + nd s ≤ 3 → r.uses + nu s ≤ 24 → mayR ar (firstW s) (4 - k) r = true
  | .set x e, h, _, _ => by rw [firstW, may_set]; simpa using vars_pos h.1
  | .draw x n, h, h1, _ => by
    rw [firstW, may_draw]
    have := vars_pos h.1
    simp [nd] at h1 ⊢; omega
  | .use x e, h, _, h2 => by
    rw [firstW, may_use]
    have := vars_pos h.2.1
    simp [nu] at h2 ⊢; exact ⟨h.1, by omega, by omega⟩
  | .say e, h, _, _ => by rw [firstW, may_say]; exact h.1
  | .ite e s t, h, _, _ => by
    rw [firstW, may_if]
    have := h.1
    simp; omega
theorem first_sts (s : Stm) : firstW s ∈ sts := by
  cases s
  · exact (by decide +kernel : wd "set" ∈ sts)
  · exact (by decide +kernel : wd "draw" ∈ sts)
  · exact (by decide +kernel : wd "use" ∈ sts)
  · exact (by decide +kernel : wd "say" ∈ sts)
  · exact (by decide +kernel : wd "if" ∈ sts)
theorem end_sts : wd "end" ∉ sts := by decide +kernel
theorem else_sts : wd "else" ∉ sts := by decide +kernel
theorem loop_stop {d n : Nat} {ch : RS → Res Stm} {acc : List Stm} {r : RS} (h : mayR ar (here ws r) d r = false) : loopR ws ar d ch n acc r = .ok acc r := by
  cases n with
  | zero => rfl
  | succ n => unfold loopR; rw [h, if_neg Bool.false_ne_true]
theorem hw {r : RS} {x : Str} {m : List Str} (h : ws.drop r.pos = x :: m) {y : Str} (e : x = y) : here ws r = y := (here_of h).trans e
theorem varR_words {r : RS} {x : Str} {m : List Str} (h : ws.drop r.pos = x :: m) (hx : x ∈ r.vars.map (·.1)) : varR ws r = .ok x r.go := by
  unfold varR; rw [here_of h, if_pos (hasV_iff.mpr hx)]
theorem numR_words {r : RS} {lo hi n : Nat} {m : List Str} (h : ws.drop r.pos = dec n :: m) (h1 : lo ≤ n) (h2 : n ≤ hi) : numR ws lo hi r = .ok n r.go := by
  unfold numR; rw [here_of h, numOf_dec h2]
  show (if lo ≤ n then _ else _ : Res Nat) = _
  rw [if_pos h1]
mutual
theorem stmt_words : ∀ (s : Stm) (k : Nat) (r : RS) (rest : List Str), k ≤ 4 → NmOk r.vars → okSt (r.vars.map (·.1)) r.pressed ar k s → r.draws + nd s ≤ 3 → r.uses + nu s ≤ 24 → ws.drop r.pos = s.words ++ rest → stmtR ws (chAt ws ar k) r = .ok s (advS r s)
  | .set x e, k, r, rest, hk, hn, h, h1, h2, hd => by
    have hd' : ws.drop r.pos = wd "set" :: x :: (e.words ++ rest) := by rw [hd]; simp [Stm.words]
    have hh := here_of hd'
    have d1 := go_drop hd'
    have d2 := go_drop d1
    unfold stmtR
    rw [hh, if_neg (by decide +kernel), if_neg (by decide +kernel)]
    rw [varR_words d1 h.1]
    rw [bind_mk]
    rw [if_neg (by decide +kernel), if_neg (by decide +kernel), exR_words 4 e r.go.go rest hn h.2 d2]
    show Res.ok _ _ = Res.ok _ _
    congr 1
    unfold advE advS RS.go Stm.words
    simp only [RS.mk.injEq, and_true, true_and, List.length_cons, nd, nu, Nat.add_zero]; omega
  | .draw x n, k, r, rest, hk, hn, h, h1, h2, hd => by
    have hd' : ws.drop r.pos = wd "draw" :: x :: dec n :: rest := by rw [hd]; simp [Stm.words]
    have hh := here_of hd'
    have d1 := go_drop hd'
    have d2 := go_drop d1
    unfold stmtR
    rw [hh, if_neg (by decide +kernel), if_neg (by decide +kernel)]
    rw [varR_words d1 h.1]
    rw [bind_mk]
    rw [if_pos (by decide +kernel)]
    rw [numR_words (r := { r.go.go with draws := r.go.go.draws + 1 }) d2 h.2.1 h.2.2]
    show Res.ok _ _ = Res.ok _ _
    congr 1
  | .use x e, k, r, rest, hk, hn, h, h1, h2, hd => by
    have hd' : ws.drop r.pos = wd "use" :: x :: (e.words ++ rest) := by rw [hd]; simp [Stm.words]
    have hh := here_of hd'
    have d1 := go_drop hd'
    have d2 := go_drop d1
    unfold stmtR
    rw [hh, if_neg (by decide +kernel), if_neg (by decide +kernel)]
    rw [varR_words d1 h.2.1]
    rw [bind_mk]
    rw [if_neg (by decide +kernel), if_pos (by decide +kernel), exR_words 4 e { r.go.go with uses := r.go.go.uses + 1 } rest hn h.2.2 d2]
    show Res.ok _ _ = Res.ok _ _
    congr 1
    unfold advE advS RS.go Stm.words
    simp only [RS.mk.injEq, and_true, true_and, List.length_cons, nd, nu, Nat.add_zero]; omega
  | .say e, k, r, rest, hk, hn, h, h1, h2, hd => by
    have hd' : ws.drop r.pos = wd "say" :: (e.words ++ rest) := by rw [hd]; simp [Stm.words]
    have hh := here_of hd'
    have d1 := go_drop hd'
    unfold stmtR
    rw [hh, if_neg (by decide +kernel), if_pos (by decide +kernel), exR_words 4 e r.go rest hn h.2 d1]
    show Res.ok _ _ = Res.ok _ _
    congr 1
    unfold advE advS RS.go Stm.words
    simp only [RS.mk.injEq, and_true, true_and, List.length_cons, nd, nu, Nat.add_zero]; omega
  | .ite e s t, 0, r, rest, hk, hn, h, h1, h2, hd => absurd h.1 (by omega)
  | .ite e s t, k + 1, r, rest, hk, hn, h, h1, h2, hd => by
    obtain ⟨_, he, hs, ht⟩ := h
    simp only [nd] at h1
    simp only [nu] at h2
    have hd' : ws.drop r.pos = wd "if" :: (e.words ++ (blockWords s ++ ((if t.isEmpty = true then [] else wd "else" :: blockWords t) ++ (wd "end" :: rest)))) := by rw [hd]; simp [Stm.words]
    have hh := here_of hd'
    have d1 := go_drop hd'
    unfold stmtR
    rw [hh, if_pos (by decide +kernel)]
    show choiceR ws ar k r.go = _
    rw [choiceR_eq]
    unfold choice1
    rw [exR_words 4 e r.go _ hn he d1]
    have d2 : ws.drop (advE r.go e).pos = _ := drop_app d1
    show ((stmtsR ws ar (4 - k) (chAt ws ar k) (advE r.go e)).bind _) = _
    unfold stmtsR
    have hsl : s.length ≤ ws.length := by
      have := len_le_words s
      have := congrArg List.length d2
      simp only [List.length_drop, List.length_append] at this
      omega
    rw [loop_words s k (ws.length + 1) [] (advE r.go e) _ (by omega) hn hs (by show r.draws + _ ≤ 3; omega) (by show r.uses + _ ≤ 24; omega) d2 (by omega)]
    have d3 : ws.drop (advB (advE r.go e) s).pos = _ := drop_app d2
    cases t with
    | nil =>
      simp only [List.isEmpty_nil, if_true, List.nil_append] at d3
      have h3 := here_of d3
      rw [loop_stop (by rw [h3]; exact may_not end_sts)]
      show (if here ws (advB (advE r.go e) s) = _ ∧ _ then _ else _) = _
      rw [h3, if_neg (by rintro ⟨a, _⟩; revert a; decide +kernel)]
      unfold takeR
      rw [h3, if_pos (by decide +kernel)]
      show Res.ok _ _ = Res.ok _ _
      congr 1
      unfold advE advS advB RS.go Stm.words
      simp only [RS.mk.injEq, and_true, true_and, List.length_cons, List.length_append, nd, nu, nds, nus, List.isEmpty_nil, if_true, List.length_nil]; omega
    | cons t0 tr =>
      simp only [List.isEmpty_cons, Bool.false_eq_true, if_false, List.cons_append] at d3
      have h3 := here_of d3
      have d4 := go_drop d3
      rw [loop_stop (by rw [h3]; exact may_not else_sts)]
      show (if here ws (advB (advE r.go e) s) = _ ∧ _ then _ else _) = _
      rw [h3]
      have hm : sts.any (fun w => mayR ar w (4 - k) (advB (advE r.go e) s)) = true := by
        refine List.any_eq_true.mpr ⟨firstW t0, first_sts t0, may_first (by omega) ht.1 ?_ ?_⟩
        · show r.draws + nds s + nd t0 ≤ 3
          simp only [nds] at h1; omega
        · show r.uses + nus s + nu t0 ≤ 24
          simp only [nus] at h2; omega
      rw [if_pos ⟨by decide +kernel, hm⟩]
      have htl : (t0 :: tr).length ≤ ws.length := by
        have := len_le_words (t0 :: tr)
        have := congrArg List.length d4
        simp only [List.length_drop, List.length_append] at this
        omega
      rw [loop_words (t0 :: tr) k (ws.length + 1) [] (advB (advE r.go e) s).go _ (by omega) hn ht (by show r.draws + nds s + _ ≤ 3; omega) (by show r.uses + nus s + _ ≤ 24; omega) d4 (by omega)]
      have d5 : ws.drop (advB (advB (advE r.go e) s).go (t0 :: tr)).pos = _ := drop_app d4
      have h5 := here_of d5
      rw [loop_stop (by rw [h5]; exact may_not end_sts)]
      rw [bind_mk, if_neg (by simp)]
      unfold takeR
      rw [h5, if_pos (by decide +kernel)]
      show Res.ok _ _ = Res.ok _ _
      congr 1
      unfold advE advS advB RS.go Stm.words
      simp only [RS.mk.injEq, and_true, true_and, List.length_cons, List.length_append, nd, nu, List.isEmpty_cons, Bool.false_eq_true, if_false, List.length_nil]
      omega
theorem loop_words : ∀ (l : List Stm) (k n : Nat) (acc : List Stm) (r : RS) (rest : List Str), k ≤ 4 → NmOk r.vars → okBl (r.vars.map (·.1)) r.pressed ar k l → r.draws + nds l ≤ 3 → r.uses + nus l ≤ 24 → ws.drop r.pos = blockWords l ++ rest → l.length ≤ n →
    loopR ws ar (4 - k) (chAt ws ar k) n acc r = loopR ws ar (4 - k) (chAt ws ar k) (n - l.length) (acc ++ l) (advB r l)
  | [], k, n, acc, r, rest, hk, hn, h, h1, h2, hd, hl => by rw [List.append_nil]; rfl
  | s :: l, k, 0, acc, r, rest, hk, hn, h, h1, h2, hd, hl => by simp at hl
  | s :: l, k, n + 1, acc, r, rest, hk, hn, h, h1, h2, hd, hl => by
    simp only [nds] at h1
    simp only [nus] at h2
    have hd1 : ws.drop r.pos = s.words ++ (blockWords l ++ rest) := by rw [hd]; simp [blockWords]
    obtain ⟨m, em⟩ := words_first s
    have hh : here ws r = firstW s := here_of (m := m ++ (blockWords l ++ rest)) (by rw [hd1, em]; rfl)
    rw [loopR, hh, may_first hk h.1 (by omega) (by omega), if_pos rfl, stmt_words s k r _ hk hn h.1 (by omega) (by omega) hd1]
    have d2 : ws.drop (advS r s).pos = blockWords l ++ rest := drop_app hd1
    show loopR ws ar (4 - k) (chAt ws ar k) n (acc ++ [s]) (advS r s) = _
    rw [loop_words l k n (acc ++ [s]) (advS r s) rest hk hn h.2 (by show r.draws + nd s + _ ≤ 3; omega) (by show r.uses + nu s + _ ≤ 24; omega) d2 (by simp at hl; omega)]
    have e1 : n + 1 - (s :: l).length = n - l.length := by simp
    have e2 : acc ++ [s] ++ l = acc ++ s :: l := by simp
    rw [e1, e2]
    congr 1
    unfold advS advB
    simp only [RS.mk.injEq, and_true, true_and, blockWords, List.length_append, nds, nus]
    omega
end
end
end Rd

set_option Elab.async false
set_option linter.all false
set_option maxRecDepth 100000
set_option maxHeartbeats 4000000
/-! A whole box that is right is read from its words. -/
namespace Rd
open PySem PyProof.Rows TL
section
variable {ws : List Str} {ar : Bool}
theorem takeR_words {r : RS} {x : Str} {m : List Str} (h : ws.drop r.pos = x :: m) : takeR ws x r = .ok () r.go := by
  unfold takeR; rw [here_of h, if_pos rfl]
theorem takeR_bad {r : RS} {x y : Str} (h : here ws r = y) (n : y ≠ x) : takeR ws x r = .bad r.pos := by
  unfold takeR; rw [h, if_neg n]
theorem newR_words {r : RS} {x : Str} {m : List Str} (h : ws.drop r.pos = x :: m) (hx : isName x = true) (hv : x ∉ r.vars.map (·.1)) : newR ws r = .ok x r.go := by
  unfold newR; rw [here_of h, if_pos ⟨hx, by unfold hasV; simpa using hv⟩]
def okVars : List Str → List (Str × Nat) → Prop
  | _, [] => True
  | nm, (x, n) :: r => isName x = true ∧ x ∉ nm ∧ 1 ≤ n ∧ n ≤ 12 ∧ okVars (nm ++ [x]) r
def advV (r : RS) (l : List (Str × Nat)) : RS := { r with pos := r.pos + (varWords l).length, vars := r.vars ++ l }
theorem varsR_words : ∀ (l : List (Str × Nat)) (n : Nat) (r : RS) (rest : List Str), okVars (r.vars.map (·.1)) l → l.length ≤ n → ws.drop r.pos = varWords l ++ rest → varsR ws n r = varsR ws (n - l.length) (advV r l)
  | [], n, r, rest, _, _, _ => by unfold advV; simp [varWords]
  | (x, m) :: l, 0, r, rest, _, h, _ => by simp at h
  | (x, m) :: l, n + 1, r, rest, ⟨h1, h2, h3, h4, h5⟩, hl, hd => by
    have hd' : ws.drop r.pos = wd "var" :: x :: dec m :: (varWords l ++ rest) := hd
    have d1 := go_drop hd'
    have d2 := go_drop d1
    have d3 := go_drop d2
    rw [varsR, here_of hd', if_pos (show wd "var" = Str.ofString "var" from rfl), newR_words d1 h1 h2, bind_mk, numR_words d2 h3 h4, bind_mk]
    rw [varsR_words l n { r.go.go.go with vars := r.go.go.go.vars ++ [(x, m)] } rest (by rw [List.map_append]; exact h5) (by simp at hl; omega) d3]
    have e1 : n + 1 - ((x, m) :: l).length = n - l.length := by simp
    rw [e1]
    congr 1
    unfold advV RS.go
    simp only [RS.mk.injEq, and_true, true_and, varWords, List.length_cons, List.append_assoc, List.cons_append, List.nil_append]
    omega
theorem varsR_stop {n : Nat} {r : RS} (h : here ws r ≠ wd "var") : varsR ws n r = .ok () r := by
  cases n with
  | zero => rfl
  | succ n => rw [varsR, if_neg (show ¬ here ws r = Str.ofString "var" from h)]
theorem nmOk_of : ∀ {l : List (Str × Nat)} {nm : List Str}, okVars nm l → NmOk l
  | [], _, _ => fun p hp => nomatch hp
  | (x, n) :: l, nm, h => fun p hp => by
    rcases List.mem_cons.mp hp with rfl | hp
    · exact h.1
    · exact nmOk_of h.2.2.2.2 p hp
structure okBx (ar : Bool) (b : Bx) : Prop where
  b1 : 1 ≤ b.buttons
  b2 : b.buttons ≤ 4
  a1 : 1 ≤ b.answers
  a2 : b.answers ≤ 4
  vl : b.vars.length ≤ 4
  vo : okVars [] b.vars
  so : okBl (b.vars.map (·.1)) false ar 4 b.start
  bo : okBl (b.vars.map (·.1)) true ar 4 b.block
  dl : nds b.start + nds b.block ≤ 3
  ul : nus b.start + nus b.block ≤ 24
theorem block_words {l : List Stm} {r : RS} {rest : List Str} (hn : NmOk r.vars) (h : okBl (r.vars.map (·.1)) r.pressed ar 4 l) (h1 : r.draws + nds l ≤ 3) (h2 : r.uses + nus l ≤ 24) (hd : ws.drop r.pos = blockWords l ++ rest)
    (hs : mayR ar (here ws (advB r l)) 0 (advB r l) = false) : blockR ws ar 4 r = .ok l (advB r l) := by
  rw [blockR_eq]
  unfold stmtsR
  have hl : l.length ≤ ws.length := by
    have := len_le_words l
    have := congrArg List.length hd
    simp only [List.length_drop, List.length_append] at this
    omega
  rw [loop_words l 4 (ws.length + 1) [] r rest (by omega) hn h h1 h2 hd (by omega), loop_stop hs]; rfl
/-- up to where the statements of the start are read -/
def rA (b : Bx) : RS := (advV r0.go.go.go.go b.vars).go
theorem readR_head {b : Bx} {rest : List Str} (b1 : 1 ≤ b.buttons) (b2 : b.buttons ≤ 4) (a1 : 1 ≤ b.answers) (a2 : b.answers ≤ 4) (vl : b.vars.length ≤ 4) (vo : okVars [] b.vars)
    (e : ws = wd "buttons" :: dec b.buttons :: wd "answers" :: dec b.answers :: (varWords b.vars ++ wd "start" :: rest)) :
    readR ws ar = (blockR ws ar 4 (rA b)).bind (fun s r => (takeR ws "press" r).bind fun _ r => (blockR ws ar 4 { r with pressed := true }).bind fun t r => if r.pos < ws.length then .bad r.pos else .ok ⟨b.buttons, b.answers, r.vars, s, t⟩ r) ∧ ws.drop (rA b).pos = rest := by
  have d0 : ws.drop r0.pos = wd "buttons" :: dec b.buttons :: wd "answers" :: dec b.answers :: (varWords b.vars ++ wd "start" :: rest) := by rw [← e]; rfl
  have d1 := go_drop d0
  have d2 := go_drop d1
  have d3 := go_drop d2
  have d4 := go_drop d3
  have d5 : ws.drop (advV r0.go.go.go.go b.vars).pos = wd "start" :: rest := drop_app d4
  have d6 := go_drop d5
  refine ⟨?_, d6⟩
  unfold readR
  rw [show takeR ws (Str.ofString "buttons") r0 = .ok () r0.go from takeR_words d0, bind_mk, numR_words d1 b1 b2, bind_mk]
  rw [show takeR ws (Str.ofString "answers") r0.go.go = .ok () r0.go.go.go from takeR_words d2, bind_mk, numR_words d3 a1 a2, bind_mk]
  rw [varsR_words b.vars 4 r0.go.go.go.go _ vo vl d4, varsR_stop (by rw [here_of d5]; decide +kernel), bind_mk]
  rw [show takeR ws (Str.ofString "start") (advV r0.go.go.go.go b.vars) = .ok () (rA b) from takeR_words d5, bind_mk]
theorem rA_vars (b : Bx) : (rA b).vars = b.vars ∧ (rA b).draws = 0 ∧ (rA b).uses = 0 ∧ (rA b).pressed = false := ⟨List.nil_append _, rfl, rfl, rfl⟩
theorem press_sts : wd "press" ∉ sts := by decide +kernel
theorem empty_sts : Str.empty ∉ sts := by decide +kernel
theorem readR_words {b : Bx} (h : okBx ar b) : ∃ r, readR b.words ar = .ok b r := by
  obtain ⟨b1, b2, a1, a2, vl, vo, so, bo, dl, ul⟩ := h
  obtain ⟨e1, d1⟩ := readR_head (ws := b.words) (ar := ar) b1 b2 a1 a2 vl vo rfl
  obtain ⟨v1, v2, v3, v4⟩ := rA_vars b
  have hn : NmOk (rA b).vars := by rw [v1]; exact nmOk_of vo
  have d2 : b.words.drop (advB (rA b) b.start).pos = wd "press" :: blockWords b.block := drop_app d1
  have d3 := go_drop d2
  rw [e1, block_words hn (by rw [v1, v4]; exact so) (by rw [v2]; omega) (by rw [v3]; omega) d1 (by rw [here_of d2]; exact may_not press_sts), bind_mk]
  rw [show takeR b.words (Str.ofString "press") (advB (rA b) b.start) = .ok () (advB (rA b) b.start).go from takeR_words d2, bind_mk]
  have d4 : b.words.drop (advB { (advB (rA b) b.start).go with pressed := true } b.block).pos = [] := drop_app (n := []) (by rw [List.append_nil]; exact d3)
  rw [block_words (r := { (advB (rA b) b.start).go with pressed := true }) (rest := []) hn (by show okBl ((rA b).vars.map _) true ar 4 _; rw [v1]; exact bo) (by show (rA b).draws + nds b.start + _ ≤ 3; rw [v2]; omega) (by show (rA b).uses + nus b.start + _ ≤ 24; rw [v3]; omega)
    (by rw [List.append_nil]; exact d3) (by rw [here_end d4]; exact may_not empty_sts), bind_mk]
  have hp := congrArg List.length d4
  rw [List.length_drop, List.length_nil] at hp
  rw [if_neg (fun z => by have z' := Nat.sub_pos_of_lt z; rw [hp] at z'; exact Nat.lt_irrefl 0 z')]
  refine ⟨_, congrArg (fun x => Res.ok x _) (?_ : Bx.mk b.buttons b.answers (rA b).vars b.start b.block = b)⟩
  rw [v1]
end
end Rd

set_option Elab.async false
set_option linter.all false
set_option maxRecDepth 100000
set_option maxHeartbeats 4000000
set_option exponentiation.threshold 5000
namespace K
open PySem PySem.Spec PyProof.Rows L2 Tk Hd Rd Mt
section
variable {P : Program} {w : World} {K : PySem.W.Frag} {mg : Str → Option Value} {base : Heap}
/-! ### errors that tell a place -/
abbrev CBP (K : PySem.W.Frag) : Addr := He.ga K "BadPaper"
def spBP (C : Addr) : Sp := fun vs H Q _ => ∃ (a : Addr) (v : V), vs = [.ref a, v] ∧ H a = some (exo a C none) ∧ ∀ dx, H dx = none → dx ≠ a → Q .non (upd (upd H dx (exd dx [("at", v)])) a (exo a C (some dx)))
theorem sc_bp : FnScope ["self", "at"] ["self", "at"] (defScope s_BadPaper_init) := ⟨rfl, rfl, rfl, by decide +kernel, rfl, by decide +kernel, by decide +kernel⟩
theorem ok_bp (D : Dt K mg) : Has P w K mg base 1 (He.ma K (CBP K) "__init__") ["self", "at"] [] (spBP (CBP K)) := by
  obtain ⟨fd, F⟩ := fd_BadPaper_init D
  refine hasN F (F.bindsN fun _ _ _ _ _ _ us hl => match us, hl with | [_, _], _ => rfl) sc_bp (fun vs H Q E h => ?_) (fun cdv A outer s H vs Q E hr h => ?_)
  · obtain ⟨a, v, rfl, _⟩ := h; rfl
  · obtain ⟨a, v, rfl, ha, k⟩ := h
    refine ⟨_, pss_one (ps_ost (pv 0) (pv 1)), ?_⟩
    exact ⟨_, rfl, _, rfl, a, CBP K, rfl, (oex_BadPaper D).T, (oex_BadPaper D).no, .inl ⟨ha, k⟩⟩
theorem xd_heap {H : Hp} {a d : Addr} {u v : HO} {fs : List (Str × V)} {o : HO} (ha : H a = none) (n : d ≠ a) : upd (del (upd (upd (upd H a o) d u) a v) a) d (.xd fs) = upd H d (.xd fs) := by
  funext b
  by_cases hb : b = d
  · subst hb; rw [upd_same, upd_same]
  · rw [upd_ne hb, upd_ne hb]
    by_cases hba : b = a
    · subst hba; rw [del_same, ha]
    · rw [del_ne hba, upd_ne hba, upd_ne hb, upd_ne hba]
/-- a place is told -/
def RaisedAt (ms : List Addr) (I H : Hp) (C : Addr) (n : Nat) (E : XK) : Prop := ∀ I' H' d, Gr ms I H I' H' → H' d = some (.xd [("at", .int (n : Int))]) → E (.ref C) (some d) H'
theorem raised_at {ms : List Addr} {I H I' H' : Hp} {C : Addr} {n : Nat} {E : XK} (g : Gr ms I H I' H') (h : RaisedAt ms I H C n E) : ∀ e, H' e = none → ∀ d, upd H' e (exo e C none) d = none → d ≠ e → E (.ref C) (some d) (upd (del (upd (upd (upd H' e (exo e C none)) d (exd d [("at", .int (n : Int))])) e (exo e C (some d))) e) d (.xd [("at", .int (n : Int))])) := fun e he d hd ne => by
  have hd2 : H' d = none := by rw [upd_ne ne] at hd; exact hd
  rw [xd_heap (H := H') (u := exd d [("at", .int (n : Int))]) (v := exo e C (some d)) (o := exo e C none) (fs := [("at", .int (n : Int))]) he ne]
  exact h I' _ d (g.trans (Gr.tmp g.ih hd2)) upd_same
/-! ### words and numbers -/
def iSs : Rp (List Str) := fun H v ws => ∃ a, v = .ref a ∧ H a = some (.lst (ws.map V.str))
instance : Mono iSs := ⟨fun s ⟨a, e, h⟩ => ⟨a, e, s _ _ h⟩⟩
def wordsOf (z : Str) : List Str := if z = ("" : Str) then [] else Txt.split z " "
def spWordsOf : Sp := fun vs H Q _ => ∃ (I : Hp) (z : Str), vs = [.str z] ∧ Same I H ∧ z.length + 2 ≤ sizeLine ∧ Ret [] I H iSs (wordsOf z) Q
theorem sc_words_of : FnScope ["text"] ["text"] (defScope s_words_of) := ⟨rfl, rfl, rfl, by decide +kernel, rfl, by decide +kernel, by decide +kernel⟩
theorem ok_words_of (D : Dt K mg) : Has P w K mg base 1 (He.ga K "words_of") ["text"] [] (spWordsOf) := by
  obtain ⟨fd, F⟩ := fd_words_of D
  refine hasN F (F.bindsN fun _ _ _ _ _ _ us hl => match us, hl with | [_], _ => rfl) sc_words_of (fun vs H Q E h => ?_) (fun cdv A outer s H vs Q E hr h => ?_)
  · obtain ⟨I, z, rfl, _⟩ := h; rfl
  · obtain ⟨I, z, rfl, s0, hz, k⟩ := h
    refine ⟨_, (pss_one (ps_ret (pe_ifExp (pt_cmpR op_ne (pv 0) pe_str (nomark _)) (pe_bm PySem.F.plainAttrs_str PySem.F.slot_str_split PySem.F.type_str_split mt_split (pv 0) (pa_cons pe_str pa_nil)) (pe_lst pa_nil)))), ?_⟩
    refine ⟨_, rfl, rfl, _, rfl, ?_⟩
    refine ifB (fun c => ?_) (fun c => ?_)
    · have c' : ¬ z = ("" : Str) := by simpa using c
      refine ⟨_, rfl, rfl, z, _, rfl, rfl, by decide +kernel, hz, fun p hp => ?_⟩
      have := k _ _ (.ref p) (Gr.new (o := .lst ((wordsOf z).map V.str)) s0 hp) ⟨p, rfl, upd_same⟩
      rw [wordsOf, if_neg c'] at this
      exact this
    · have c' : z = ("" : Str) := by simpa using c
      refine ⟨by show 0 ≤ sizeLine; decide, fun p hp => ?_⟩
      have := k _ _ (.ref p) (Gr.new (o := .lst ((wordsOf z).map V.str)) s0 hp) ⟨p, rfl, upd_same⟩
      rw [wordsOf, if_pos c'] at this
      exact this
def oInt : Option Nat → V
  | some n => .int (n : Int)
  | none => .non
def spNumberOf : Sp := fun vs H Q _ => ∃ (z : Str) (most : Nat), vs = [.str z, .int (most : Int)] ∧ z.length ≤ sizeLine ∧ most < 10 ^ 64 ∧ Q (oInt (numOf z most)) H
theorem dec_len {n : Nat} (h : n < 10 ^ 64) : (dec n).length ≤ 64 := by rw [TL.len_tl, tl_dec]; exact TL.numL_len (by decide) h
theorem sc_number_of : FnScope ["word", "most", "number"] ["word", "most"] (defScope s_number_of) := ⟨rfl, rfl, rfl, by decide +kernel, rfl, by decide +kernel, by decide +kernel⟩
theorem ok_number_of (D : Dt K mg) : Has P w K mg base 1 (He.ga K "number_of") ["word", "most"] [] (spNumberOf) := by
  obtain ⟨fd, F⟩ := fd_number_of D
  refine hasN F (F.bindsN fun _ _ _ _ _ _ us hl => match us, hl with | [_, _], _ => rfl) sc_number_of (fun vs H Q E h => ?_) (fun cdv A outer s H vs Q E hr h => ?_)
  · obtain ⟨z, most, rfl, _⟩ := h; rfl
  · obtain ⟨z, most, rfl, hz, hm, k⟩ := h
    refine ⟨_, (pss_cons (ps_if (PW.pt (pw_or (pt_cmpR op_gt (pe_callB (call_lenK K) rfl (free_len D) PySem.boot_len (pa_cons (pv 0) pa_nil)) (pe_callB (call_lenK K) rfl (free_len D) PySem.boot_len (pa_cons (pe_callTy call_str_int rfl (free_str D) (by decide +kernel) (pa_cons (pv 1) pa_nil)) pa_nil)) (nomark _)) (pw_or1 (pt_not (PW.pt (pw_and (pt_val (pe_bm0 PySem.F.plainAttrs_str PySem.F.slot_str_isascii PySem.F.type_str_isascii mt_isascii (pv 0))) (pw_and1 (pt_val (pe_bm0 PySem.F.plainAttrs_str PySem.F.slot_str_isdigit PySem.F.type_str_isdigit mt_isdigit (pv 0))))))))))
      (pss_one (ps_ret pe_non))
      pss_nil)
      (pss_cons (ps_if (PW.pt (pw_and (pt_val (pe_bm PySem.F.plainAttrs_str PySem.F.slot_str_startswith PySem.F.type_str_startswith mt_startswith (pv 0) (pa_cons pe_str pa_nil))) (pw_and1 (pt_cmpR op_ne (pv 0) pe_str (nomark _)))))
      (pss_one (ps_ret pe_non))
      pss_nil)
      (pss_cons (ps_set (i := 2) sc_number_of.nd rfl (Or.inl rfl) (pe_callTy call_int_str rfl (free_int D) (by decide +kernel) (pa_cons (pv 0) pa_nil)))
      (pss_one (ps_ret (pe_ifExp (pt_cmpR op_le (pv 2) (pv 1) (nomark _)) (pv 2) pe_non)))))), ?_⟩
    have hl := dec_len hm
    have hlog : ((most : Int)).natAbs.log2 < 1920 := by
      rw [Int.natAbs_natCast]
      by_cases h0 : most = 0
      · rw [h0]; decide
      · exact (Nat.log2_lt h0).mpr (Nat.lt_of_lt_of_le hm (by decide +kernel))
    refine ⟨_, rfl, _, _, rfl, ⟨hz, rfl⟩, _, rfl, _, rfl, hlog, _, _, rfl, ⟨Nat.le_trans hl (by decide), rfl⟩, _, _, rfl, rfl, _, rfl, ?_⟩
    refine ifD (fun c => ?_) (fun c => ?_)
    · rw [numOf_long (w := z) (most := most) (by show (dec most).length < z.length; exact Int.ofNat_lt.mp c)] at k
      exact k
    have c1 : z.length ≤ (dec most).length := by
      have : ¬ ((dec most).length : Int) < (z.length : Int) := c
      omega
    have hn : (Txt.isascii z && Txt.isdigit z) = false → Q (oInt (numOf z most)) H → Q .non H := fun c q => by
      rw [ascii_digit] at c
      rw [numOf_digs (fun y => by rw [decide_eq_true y.1, y.2] at c; cases c)] at q
      exact q
    refine ⟨_, rfl, rfl, z, rfl, rfl, trivial, _, rfl, ifB (fun ca => ?_) (fun ca => ?_)⟩
    rotate_left
    · exact hn (by rw [ca]; rfl) k
    refine ⟨_, rfl, rfl, z, rfl, rfl, trivial, _, rfl, ?_⟩
    dsimp only
    refine ifB (fun cd => ?_) (fun cd => ?_)
    · exact hn (by rw [ca, show Txt.isdigit z = false from by simpa using cd]; rfl) k
    have cd : Txt.isdigit z = true := by simpa using cd
    have both := ascii_digit z
    rw [ca, cd] at both
    obtain ⟨n1, n2⟩ := He.ba both.symm
    have n1 : TL.tl z ≠ [] := of_decide_eq_true n1
    obtain ⟨c0, r0, ez⟩ : ∃ c r, TL.tl z = c :: r := by
      cases q : TL.tl z with
      | nil => exact absurd q n1
      | cons c r => exact ⟨c, r, rfl⟩
    (try unfold tNext)
    (try dsimp only)
    refine ⟨_, rfl, rfl, z, _, rfl, rfl, _, rfl, ?_⟩
    rw [starts1 z "0" 48 (by decide +kernel), ez]
    have tail : (c0 ≠ 48 ∨ r0 = []) → tSeq (tAsg (tCB (fun xs H Q => ∃ a n, xs = [V.str a] ∧ intText? a = some n ∧ a.length ≤ 640 ∧ Q (V.int n) H) (tCons (tVar 0) tNil)) (gName 2))
        (tRet (tIf (tTest (tOp (rI0 fun i j => V.bl (decide (i ≤ j))) (tVar 2) (tVar 1))) (tVar 2) (tC V.non))) { nx := fun x H' => Q V.non H', rt := Q } (L2.start ["word", "most", "number"] [V.str z, V.int ↑most]) H := fun hc => by
      have lz : z.length ≤ 640 := Nat.le_trans c1 (Nat.le_trans hl (by decide))
      refine ⟨_, rfl, z, _, rfl, PySem.intText_digits (all_dig.mp n2) n1 (Nat.le_trans lz (by decide)), lz, _, rfl, _, rfl, _, _, rfl, rfl, _, rfl, ?_⟩
      rw [numOf_else ez n2 hc] at k
      refine ifD (fun q => ?_) (fun q => ?_)
      · have q : dv (TL.tl z) ≤ most := Int.ofNat_le.mp q
        rw [if_pos q] at k
        exact ⟨_, rfl, k⟩
      · have q : ¬ dv (TL.tl z) ≤ most := fun y => q (Int.ofNat_le.mpr y)
        rw [if_neg q] at k
        exact k
    refine ifB (fun c2 => ?_) (fun c2 => ?_)
    · have e48 : c0 = 48 := by simpa using c2
      subst e48
      refine ⟨_, rfl, rfl, _, rfl, ?_⟩
      refine ifB (fun c3 => ?_) (fun c3 => ?_)
      · rw [numOf_lead ez (fun q => by subst q; revert c3; rw [show z = ("0" : Str) from TL.ext_tl (by rw [ez]; decide +kernel)]; decide +kernel)] at k
        exact k
      · refine tail (.inr ?_)
        have : z = ("0" : Str) := by simpa using c3
        subst this
        have : TL.tl ("0" : Str) = [48] := by decide +kernel
        rw [this] at ez
        injection ez with _ h; exact h.symm
    · refine tail (.inl fun q => ?_)
      subst q; simp at c2
end
end K

set_option Elab.async false
set_option linter.all false
set_option maxRecDepth 100000
set_option maxHeartbeats 4000000
/-! Reading goes forward. -/
namespace Rd
open PySem PyProof.Rows TL
section
variable {ws : List Str} {ar : Bool}
theorem takeR_pos {x : Str} {r r1 : RS} {u : Unit} (h : takeR ws x r = .ok u r1) : r1 = r.go := by
  unfold takeR at h; split at h <;> cases h; rfl
theorem varR_pos {r r1 : RS} {x : Str} (h : varR ws r = .ok x r1) : r1 = r.go ∧ x = here ws r ∧ hasV r (here ws r) = true := by
  unfold varR at h; split at h
  · rename_i c; cases h; exact ⟨rfl, rfl, c⟩
  · cases h
theorem numR_pos {lo hi : Nat} {r r1 : RS} {n : Nat} (h : numR ws lo hi r = .ok n r1) : r1 = r.go ∧ numOf (here ws r) hi = some n ∧ lo ≤ n := by
  unfold numR at h; split at h
  · rename_i m e
    split at h
    · rename_i c; cases h; exact ⟨rfl, e, c⟩
    · cases h
  · cases h
theorem leafR_pos {r r1 : RS} {e : Ex} (h : leafR ws r = .ok e r1) : r1 = r.go ∧ leafOf r (here ws r) = some e := by
  unfold leafR at h; split at h
  · rename_i m e; cases h; exact ⟨rfl, e⟩
  · cases h
theorem exR_pos : ∀ {k : Nat} {r r1 : RS} {e : Ex}, exR ws k r = .ok e r1 → r.pos < r1.pos ∧ r1.vars = r.vars ∧ r1.draws = r.draws ∧ r1.uses = r.uses ∧ r1.pressed = r.pressed
  | 0, r, r1, e, h => by
    obtain ⟨rfl, _⟩ := leafR_pos h
    exact ⟨Nat.lt_succ_self _, rfl, rfl, rfl, rfl⟩
  | k + 1, r, r1, e, h => by
    rw [exR] at h
    split at h
    · obtain ⟨a, r2, h1, h⟩ := bind_ok h
      obtain ⟨b, r3, h2, h⟩ := bind_ok h
      cases h
      have p1 := exR_pos h1
      have p2 := exR_pos h2
      obtain ⟨a1, a2, a3, a4, a5⟩ := p1
      obtain ⟨b1, b2, b3, b4, b5⟩ := p2
      have : r.pos < r.go.pos := Nat.lt_succ_self _
      exact ⟨by omega, b2.trans a2, b3.trans a3, b4.trans a4, b5.trans a5⟩
    · obtain ⟨rfl, _⟩ := leafR_pos h
      exact ⟨Nat.lt_succ_self _, rfl, rfl, rfl, rfl⟩
/-- on, with the same variables -/
def Fwd (r r1 : RS) : Prop := r.pos ≤ r1.pos ∧ r1.vars = r.vars ∧ r1.pressed = r.pressed
theorem Fwd.refl (r : RS) : Fwd r r := ⟨Nat.le_refl _, rfl, rfl⟩
theorem Fwd.trans {a b c : RS} (h : Fwd a b) (k : Fwd b c) : Fwd a c := ⟨Nat.le_trans h.1 k.1, k.2.1.trans h.2.1, k.2.2.trans h.2.2⟩
theorem Fwd.go (r : RS) : Fwd r r.go := ⟨Nat.le_succ _, rfl, rfl⟩
theorem Fwd.ex {k : Nat} {r r1 : RS} {e : Ex} (h : exR ws k r = .ok e r1) : Fwd r r1 := by
  obtain ⟨a, b, _, _, c⟩ := exR_pos h
  exact ⟨Nat.le_of_lt a, b, c⟩
theorem stmtR_fwd {ch : RS → Res Stm} (hc : ∀ r s r1, ch r = .ok s r1 → Fwd r r1) {r r1 : RS} {s : Stm} (h : stmtR ws ch r = .ok s r1) : Fwd r.go r1 := by
  unfold stmtR at h
  split at h
  · exact hc _ _ _ h
  · split at h
    · obtain ⟨e, r2, h1, h⟩ := bind_ok h
      cases h
      exact Fwd.ex h1
    · obtain ⟨x, r2, h1, h⟩ := bind_ok h
      obtain ⟨rfl, _, _⟩ := varR_pos h1
      split at h
      · obtain ⟨n, r3, h2, h⟩ := bind_ok h
        cases h
        obtain ⟨rfl, _⟩ := numR_pos h2
        exact ⟨Nat.le_trans (Nat.le_succ _) (Nat.le_succ _), rfl, rfl⟩
      · split at h
        · obtain ⟨e, r3, h2, h⟩ := bind_ok h
          cases h
          have f : Fwd r.go { r.go.go with uses := r.go.go.uses + 1 } := ⟨Nat.le_succ _, rfl, rfl⟩
          exact f.trans (Fwd.ex h2)
        · obtain ⟨e, r3, h2, h⟩ := bind_ok h
          cases h
          exact (Fwd.go _).trans (Fwd.ex h2)
theorem loopR_fwd {d : Nat} {ch : RS → Res Stm} (hc : ∀ r s r1, ch r = .ok s r1 → Fwd r r1) : ∀ {n : Nat} {acc : List Stm} {r r1 : RS} {l : List Stm}, loopR ws ar d ch n acc r = .ok l r1 → Fwd r r1
  | 0, acc, r, r1, l, h => by
    have h : Res.ok acc r = Res.ok l r1 := h
    cases h; exact Fwd.refl _
  | n + 1, acc, r, r1, l, h => by
    rw [loopR] at h
    split at h
    · obtain ⟨s, r2, h1, h⟩ := bind_ok h
      exact ((Fwd.go r).trans (stmtR_fwd hc h1)).trans (loopR_fwd hc h)
    · cases h; exact Fwd.refl _
theorem choice1_fwd {d : Nat} {ch : RS → Res Stm} (hc : ∀ r s r1, ch r = .ok s r1 → Fwd r r1) {r r1 : RS} {s : Stm} (h : choice1 ws ar d ch r = .ok s r1) : Fwd r r1 := by
  unfold choice1 stmtsR at h
  obtain ⟨e, r2, h1, h⟩ := bind_ok h
  obtain ⟨l, r3, h2, h⟩ := bind_ok h
  have f := (Fwd.ex h1).trans (loopR_fwd hc h2)
  split at h
  · obtain ⟨t, r4, h3, h⟩ := bind_ok h
    split at h
    · cases h
    · obtain ⟨u, r5, h4, h⟩ := bind_ok h
      cases h
      rw [takeR_pos h4]
      exact ((f.trans (Fwd.go _)).trans (loopR_fwd hc h3)).trans (Fwd.go _)
  · obtain ⟨u, r5, h4, h⟩ := bind_ok h
    cases h
    rw [takeR_pos h4]
    exact f.trans (Fwd.go _)
theorem chAt_fwd : ∀ (k : Nat) (r : RS) (s : Stm) (r1 : RS), chAt ws ar k r = .ok s r1 → Fwd r r1
  | 0, r, s, r1, h => by cases (show Res.bad r.pos = Res.ok s r1 from h)
  | k + 1, r, s, r1, h => by
    have h : choiceR ws ar k r = .ok s r1 := h
    rw [choiceR_eq] at h
    exact choice1_fwd (chAt_fwd k) h
theorem may_sts {w : Str} {d : Nat} {r : RS} (h : mayR ar w d r = true) : w ∈ sts := by
  by_cases q : w ∈ sts
  · exact q
  · rw [may_not q] at h; cases h
end
end Rd

set_option Elab.async false
set_option linter.all false
set_option maxRecDepth 100000
set_option maxHeartbeats 4000000
/-! What is read is right, and its words are those that were read. -/
namespace Rd
open PySem PyProof.Rows TL
section
variable {ws : List Str} {ar : Bool}
theorem here_lt' {r : RS} (h : here ws r ≠ Str.empty) : r.pos < ws.length := by
  by_cases q : r.pos < ws.length
  · exact q
  · exact absurd (by unfold here; rw [List.getD_eq_getElem?_getD, List.getElem?_eq_none (by omega)]; rfl) h
theorem drop_here {r : RS} (h : here ws r ≠ Str.empty) : ws.drop r.pos = here ws r :: ws.drop r.go.pos := by
  have hl := here_lt' h
  rw [List.drop_eq_getElem_cons hl]
  congr 1
  unfold here; rw [List.getD_eq_getElem?_getD, List.getElem?_eq_getElem hl]; rfl
theorem dec_ne (n : Nat) : dec n ≠ Str.empty := fun z => by
  have := congrArg tl z
  rw [tl_dec] at this
  exact numL_ne n this
theorem name_ne {x : Str} (h : isName x = true) : x ≠ Str.empty := fun z => by subst z; exact (name_facts h).2.2.1 rfl
theorem hasV_name {r : RS} (hn : NmOk r.vars) {x : Str} (h : hasV r x = true) : isName x = true := by
  obtain ⟨p, hp, rfl⟩ := List.mem_map.mp (hasV_iff.mp h)
  exact hn p hp
theorem leaf_sound {r : RS} (hn : NmOk r.vars) {x : Str} {e : Ex} (h : leafOf r x = some e) (k : Nat) : okEx (r.vars.map (·.1)) r.pressed k e ∧ e.words = [x] ∧ x ≠ Str.empty := by
  unfold leafOf at h
  split at h
  · rename_i n q
    cases h
    obtain ⟨rfl, hm⟩ := numOf_some.mp q
    exact ⟨by cases k <;> exact hm, rfl, dec_ne n⟩
  · split at h
    · rename_i c
      cases h
      exact ⟨by cases k <;> exact hasV_iff.mp c, rfl, name_ne (hasV_name hn c)⟩
    · split at h
      · rename_i c
        cases h
        exact ⟨by cases k <;> exact c.2, by rw [c.1]; rfl, by rw [c.1]; decide +kernel⟩
      · cases h
/-- what was read of words -/
structure Rdn (ws : List Str) (r r1 : RS) (l : List Str) : Prop where
  pos : r1.pos = r.pos + l.length
  dr : ws.drop r.pos = l ++ ws.drop r1.pos
theorem Rdn.nil (r r1 : RS) (h : r1.pos = r.pos) : Rdn ws r r1 [] := ⟨by simpa using h, by rw [h]; rfl⟩
theorem Rdn.one {r r1 : RS} {x : Str} (h : here ws r = x) (hx : x ≠ Str.empty) (hp : r1.pos = r.pos + 1) : Rdn ws r r1 [x] :=
  ⟨hp, by rw [drop_here (by rw [h]; exact hx), h, hp]; rfl⟩
theorem Rdn.app {r r1 r2 : RS} {l m : List Str} (a : Rdn ws r r1 l) (b : Rdn ws r1 r2 m) : Rdn ws r r2 (l ++ m) :=
  ⟨by rw [b.pos, a.pos, List.length_append]; omega, by rw [a.dr, b.dr, List.append_assoc]⟩
theorem ops_ne {x : Str} (h : x ∈ ops) : x ≠ Str.empty := fun z => by subst z; revert h; decide +kernel
theorem ex_sound : ∀ {k : Nat} {r r1 : RS} {e : Ex}, NmOk r.vars → exR ws k r = .ok e r1 → okEx (r.vars.map (·.1)) r.pressed k e ∧ Rdn ws r r1 e.words := by
  have leaf : ∀ (k : Nat) {r r1 : RS} {e : Ex}, NmOk r.vars → leafR ws r = .ok e r1 → okEx (r.vars.map (·.1)) r.pressed k e ∧ Rdn ws r r1 e.words := fun k {r r1 e} hn h => by
    obtain ⟨rfl, h2⟩ := leafR_pos h
    obtain ⟨a, b, c⟩ := leaf_sound hn h2 k
    exact ⟨a, by rw [b]; exact Rdn.one rfl c rfl⟩
  intro k
  induction k with
  | zero => intro r r1 e hn h; exact leaf 0 hn h
  | succ k ih =>
    intro r r1 e hn h
    rw [exR] at h
    split at h
    · rename_i c
      obtain ⟨a, r2, h1, h⟩ := bind_ok h
      obtain ⟨b, r3, h2, h⟩ := bind_ok h
      cases h
      obtain ⟨a1, a2⟩ := ih (r := r.go) hn h1
      obtain ⟨_, v1, _, _, v2⟩ := exR_pos h1
      obtain ⟨b1, b2⟩ := ih (r := r2) (by rw [v1]; exact hn) h2
      rw [v1, v2] at b1
      refine ⟨⟨c, a1, b1⟩, ?_⟩
      have := ((Rdn.one (ws := ws) (r := r) (r1 := r.go) rfl (ops_ne c) rfl).app a2).app b2
      rw [show (Ex.op (here ws r) a b).words = [here ws r] ++ a.words ++ b.words from by simp [Ex.words]]
      exact this
    · exact leaf (k + 1) hn h
/-- statements that were read -/
structure StOk (ws : List Str) (ar : Bool) (k : Nat) (r r1 : RS) (s : Stm) : Prop where
  ok : okSt (r.vars.map (·.1)) r.pressed ar k s
  rd : Rdn ws r r1 s.words
  nd : r1.draws = r.draws + Rd.nd s
  nu : r1.uses = r.uses + Rd.nu s
  dl : r1.draws ≤ 3
  ul : r1.uses ≤ 24
  vs : r1.vars = r.vars
  pr : r1.pressed = r.pressed
structure BlOk (ws : List Str) (ar : Bool) (k : Nat) (r r1 : RS) (l : List Stm) : Prop where
  ok : okBl (r.vars.map (·.1)) r.pressed ar k l
  rd : Rdn ws r r1 (blockWords l)
  nd : r1.draws = r.draws + Rd.nds l
  nu : r1.uses = r.uses + Rd.nus l
  dl : r1.draws ≤ 3
  ul : r1.uses ≤ 24
  vs : r1.vars = r.vars
  pr : r1.pressed = r.pressed
theorem stmt_sound {k : Nat} (hk : k ≤ 4) (hc : ∀ (r : RS) (r1 : RS) (s : Stm), NmOk r.vars → r.draws ≤ 3 → r.uses ≤ 24 → chAt ws ar k r = .ok s r1 →
      ∃ e s1 s2, s = .ite e s1 s2 ∧ 0 < k ∧ okEx (r.vars.map (·.1)) r.pressed 4 e ∧ okBl (r.vars.map (·.1)) r.pressed ar (k - 1) s1 ∧ okBl (r.vars.map (·.1)) r.pressed ar (k - 1) s2 ∧
        Rdn ws r r1 (e.words ++ (blockWords s1 ++ ((if s2.isEmpty = true then [] else wd "else" :: blockWords s2) ++ [wd "end"]))) ∧ r1.draws = r.draws + (nds s1 + nds s2) ∧ r1.uses = r.uses + (nus s1 + nus s2) ∧ r1.draws ≤ 3 ∧ r1.uses ≤ 24 ∧ r1.vars = r.vars ∧ r1.pressed = r.pressed)
    {r r1 : RS} {s : Stm} (hn : NmOk r.vars) (h3 : r.draws ≤ 3) (h24 : r.uses ≤ 24) (hm : mayR ar (here ws r) (4 - k) r = true) (h : stmtR ws (chAt ws ar k) r = .ok s r1) : StOk ws ar k r r1 s := by
  have hs := may_sts hm
  have hne : here ws r ≠ Str.empty := fun z => by rw [z] at hs; exact empty_sts hs
  have w1 : Rdn ws r r.go [here ws r] := Rdn.one rfl hne rfl
  unfold stmtR at h
  split at h
  · rename_i q
    obtain ⟨e, s1, s2, rfl, hk0, a1, a2, a3, a4, a5, a6, a7, a8, a9, a10⟩ := hc r.go r1 s hn h3 h24 h
    have w := w1.app a4
    rw [q] at w
    exact ⟨⟨hk0, a1, a2, a3⟩, w, a5, a6, a7, a8, a9, a10⟩
  · split at h
    · rename_i q0 q
      obtain ⟨e, r2, h1, h⟩ := bind_ok h
      cases h
      obtain ⟨a1, a2⟩ := ex_sound (r := r.go) hn h1
      obtain ⟨_, v1, v2, v3, v4⟩ := exR_pos h1
      have w := w1.app a2
      rw [q] at w hm
      rw [show mayR ar (Str.ofString "say") (4 - k) r = r.pressed from may_say] at hm
      exact ⟨⟨hm, a1⟩, w, v2, v3, by rw [v2]; exact h3, by rw [v3]; exact h24, v1, v4⟩
    · rename_i q0 q1
      obtain ⟨x, r2, h1, h⟩ := bind_ok h
      obtain ⟨rfl, hx, hv⟩ := varR_pos h1
      have hxn : isName x = true := by rw [hx]; exact hasV_name (r := r.go) hn hv
      have hxv : x ∈ r.vars.map (·.1) := by rw [hx]; exact hasV_iff.mp hv
      have w2 : Rdn ws r.go r.go.go [x] := Rdn.one hx.symm (name_ne hxn) rfl
      split at h
      · rename_i q
        obtain ⟨n, r3, h2, h⟩ := bind_ok h
        cases h
        obtain ⟨rfl, hq, hlo⟩ := numR_pos h2
        obtain ⟨hd, hhi⟩ := numOf_some.mp hq
        have w3 : Rdn ws r.go.go ({ r.go.go with draws := r.go.go.draws + 1 } : RS).go [dec n] := Rdn.one hd (dec_ne n) rfl
        have w := (w1.app w2).app w3
        rw [q] at w hm
        rw [show mayR ar (Str.ofString "draw") (4 - k) r = _ from may_draw] at hm
        have hm1 := of_decide_eq_true (Bool.and_eq_true_iff.mp hm).1
        exact ⟨⟨hxv, hlo, hhi⟩, w, rfl, rfl, by show r.draws + 1 ≤ 3; omega, h24, rfl, rfl⟩
      · split at h
        · rename_i q2 q
          obtain ⟨e, r3, h2, h⟩ := bind_ok h
          cases h
          obtain ⟨a1, a2⟩ := ex_sound (r := { r.go.go with uses := r.go.go.uses + 1 }) hn h2
          obtain ⟨_, v1, v2, v3, v4⟩ := exR_pos h2
          have a2' : Rdn ws r.go.go r1 e.words := ⟨a2.pos, a2.dr⟩
          have w := (w1.app w2).app a2'
          rw [q] at w hm
          rw [show mayR ar (Str.ofString "use") (4 - k) r = _ from may_use] at hm
          obtain ⟨hm1, hm2⟩ := Bool.and_eq_true_iff.mp hm
          have hm3 := of_decide_eq_true (Bool.and_eq_true_iff.mp hm2).1
          exact ⟨⟨hm1, hxv, a1⟩, w, v2, v3, by rw [v2]; exact h3, by rw [v3]; show r.uses + 1 ≤ 24; omega, v1, v4⟩
        · rename_i q2 q3
          obtain ⟨e, r3, h2, h⟩ := bind_ok h
          cases h
          obtain ⟨a1, a2⟩ := ex_sound (r := r.go.go) hn h2
          obtain ⟨_, v1, v2, v3, v4⟩ := exR_pos h2
          have w := (w1.app w2).app a2
          have q : here ws r = wd "set" := by
            simp only [sts, List.mem_cons, List.not_mem_nil, or_false] at hs
            rcases hs with h | h | h | h | h
            · exact h
            · exact absurd h q2
            · exact absurd h q3
            · exact absurd h q1
            · exact absurd h q0
          rw [q] at w
          exact ⟨⟨hxv, a1⟩, w, v2, v3, by rw [v2]; exact h3, by rw [v3]; exact h24, v1, v4⟩
theorem loop_sound {k : Nat} (hs : ∀ (r r1 : RS) (s : Stm), NmOk r.vars → r.draws ≤ 3 → r.uses ≤ 24 → mayR ar (here ws r) (4 - k) r = true → stmtR ws (chAt ws ar k) r = .ok s r1 → StOk ws ar k r r1 s) :
    ∀ {n : Nat} {acc l : List Stm} {r r1 : RS}, NmOk r.vars → r.draws ≤ 3 → r.uses ≤ 24 → loopR ws ar (4 - k) (chAt ws ar k) n acc r = .ok l r1 → ∃ b, l = acc ++ b ∧ BlOk ws ar k r r1 b
  | 0, acc, l, r, r1, hn, h3, h24, h => by
    have h : Res.ok acc r = Res.ok l r1 := h
    cases h
    exact ⟨[], by simp, trivial, Rdn.nil _ _ rfl, rfl, rfl, h3, h24, rfl, rfl⟩
  | n + 1, acc, l, r, r1, hn, h3, h24, h => by
    rw [loopR] at h
    split at h
    · rename_i hm
      obtain ⟨s, r2, h1, h⟩ := bind_ok h
      have S := hs r r2 s hn h3 h24 hm h1
      obtain ⟨b, rfl, B⟩ := loop_sound hs (by rw [S.vs]; exact hn) S.dl S.ul h
      have ob := B.ok
      rw [S.vs, S.pr] at ob
      exact ⟨s :: b, by simp, ⟨S.ok, ob⟩, S.rd.app B.rd, by rw [B.nd, S.nd, Nat.add_assoc]; rfl, by rw [B.nu, S.nu, Nat.add_assoc]; rfl, B.dl, B.ul, B.vs.trans S.vs, B.pr.trans S.pr⟩
    · cases h
      exact ⟨[], by simp, trivial, Rdn.nil _ _ rfl, rfl, rfl, h3, h24, rfl, rfl⟩
theorem take_sound {r r1 : RS} {x : Str} {u : Unit} (hx : x ≠ Str.empty) (h : takeR ws x r = .ok u r1) : r1 = r.go ∧ Rdn ws r r1 [x] := by
  unfold takeR at h
  split at h
  · rename_i c; cases h; exact ⟨rfl, Rdn.one c hx rfl⟩
  · cases h
theorem ch_sound : ∀ (k : Nat), k ≤ 4 → ∀ (r r1 : RS) (s : Stm), NmOk r.vars → r.draws ≤ 3 → r.uses ≤ 24 → chAt ws ar k r = .ok s r1 →
      ∃ e s1 s2, s = .ite e s1 s2 ∧ 0 < k ∧ okEx (r.vars.map (·.1)) r.pressed 4 e ∧ okBl (r.vars.map (·.1)) r.pressed ar (k - 1) s1 ∧ okBl (r.vars.map (·.1)) r.pressed ar (k - 1) s2 ∧
        Rdn ws r r1 (e.words ++ (blockWords s1 ++ ((if s2.isEmpty = true then [] else wd "else" :: blockWords s2) ++ [wd "end"]))) ∧ r1.draws = r.draws + (nds s1 + nds s2) ∧ r1.uses = r.uses + (nus s1 + nus s2) ∧ r1.draws ≤ 3 ∧ r1.uses ≤ 24 ∧ r1.vars = r.vars ∧ r1.pressed = r.pressed
  | 0, _, r, r1, s, _, _, _, h => by cases (show Res.bad r.pos = Res.ok s r1 from h)
  | k + 1, hk, r, r1, s, hn, h3, h24, h => by
    have hst := fun (r r1 : RS) (s : Stm) (a : NmOk r.vars) (b : r.draws ≤ 3) (c : r.uses ≤ 24) (m : mayR ar (here ws r) (4 - k) r = true) (e : stmtR ws (chAt ws ar k) r = .ok s r1) => stmt_sound (ws := ws) (ar := ar) (k := k) (by omega) (ch_sound k (by omega)) a b c m e
    have h : choiceR ws ar k r = .ok s r1 := h
    rw [choiceR_eq] at h
    unfold choice1 stmtsR at h
    obtain ⟨e, r2, h1, h⟩ := bind_ok h
    obtain ⟨l, r3, h2, h⟩ := bind_ok h
    obtain ⟨a1, a2⟩ := ex_sound hn h1
    obtain ⟨_, v1, v2, v3, v4⟩ := exR_pos h1
    obtain ⟨s1, e1, B⟩ := loop_sound hst (r := r2) (by rw [v1]; exact hn) (by rw [v2]; exact h3) (by rw [v3]; exact h24) h2
    have e1 : l = s1 := by simpa using e1
    subst e1
    have ob := B.ok
    rw [v1, v4] at ob
    split at h
    · rename_i q
      obtain ⟨t, r4, h4, h⟩ := bind_ok h
      obtain ⟨s2, e2, B2⟩ := loop_sound hst (r := r3.go) (by show NmOk r3.vars; rw [B.vs, v1]; exact hn) B.dl B.ul h4
      have e2 : t = s2 := by simpa using e2
      subst e2
      split at h
      · cases h
      · rename_i ht
        obtain ⟨u, r5, h5, h⟩ := bind_ok h
        cases h
        obtain ⟨rfl, w5⟩ := take_sound (by decide +kernel) h5
        have we : Rdn ws r3 r3.go [wd "else"] := Rdn.one q.1 (by decide +kernel) rfl
        have ob2 := B2.ok
        rw [show r3.go.vars = r.vars from B.vs.trans v1, show r3.go.pressed = r.pressed from B.pr.trans v4] at ob2
        have w := a2.app (B.rd.app ((we.app B2.rd).app w5))
        have hte : t.isEmpty = false := by cases t with
          | nil => exact absurd rfl ht
          | cons a b => rfl
        refine ⟨e, l, t, rfl, Nat.succ_pos _, a1, ob, ob2, ?_, ?_, ?_, B2.dl, B2.ul, ?_, ?_⟩
        · rw [hte, if_neg Bool.false_ne_true]; exact w
        · show r4.draws = _; rw [B2.nd, show r3.go.draws = r3.draws from rfl, B.nd, v2]; omega
        · show r4.uses = _; rw [B2.nu, show r3.go.uses = r3.uses from rfl, B.nu, v3]; omega
        · exact B2.vs.trans (B.vs.trans v1)
        · exact B2.pr.trans (B.pr.trans v4)
    · obtain ⟨u, r5, h5, h⟩ := bind_ok h
      cases h
      obtain ⟨rfl, w5⟩ := take_sound (by decide +kernel) h5
      refine ⟨e, l, [], rfl, Nat.succ_pos _, a1, ob, trivial, a2.app (B.rd.app w5), ?_, ?_, B.dl, B.ul, B.vs.trans v1, B.pr.trans v4⟩
      · show r3.draws = _; rw [B.nd, v2]; rfl
      · show r3.uses = _; rw [B.nu, v3]; rfl
theorem block_sound {k : Nat} (hk : k ≤ 4) {r r1 : RS} {l : List Stm} (hn : NmOk r.vars) (h3 : r.draws ≤ 3) (h24 : r.uses ≤ 24) (h : blockR ws ar k r = .ok l r1) : BlOk ws ar k r r1 l := by
  rw [blockR_eq] at h
  obtain ⟨b, e, B⟩ := loop_sound (fun r r1 s a b c m e => stmt_sound hk (ch_sound k hk) a b c m e) hn h3 h24 h
  have e : l = b := by simpa using e
  subst e
  exact B
theorem newR_pos {r r1 : RS} {x : Str} (h : newR ws r = .ok x r1) : r1 = r.go ∧ x = here ws r ∧ isName x = true ∧ x ∉ r.vars.map (·.1) := by
  unfold newR at h; split at h
  · rename_i c; cases h
    refine ⟨rfl, rfl, c.1, fun z => ?_⟩
    have := hasV_iff.mpr z
    rw [c.2] at this; cases this
  · cases h
theorem vars_sound : ∀ {n : Nat} {r r1 : RS} {u : Unit}, varsR ws n r = .ok u r1 → ∃ l, r1 = { r with pos := r1.pos, vars := r.vars ++ l } ∧ okVars (r.vars.map (·.1)) l ∧ Rdn ws r r1 (varWords l) ∧ l.length ≤ n ∧ (here ws r1 ≠ "var" ∨ l.length = n)
  | 0, r, r1, u, h => by
    have h : Res.ok () r = Res.ok u r1 := h
    cases h; exact ⟨[], by simp, trivial, Rdn.nil _ _ rfl, Nat.le_refl _, .inr rfl⟩
  | n + 1, r, r1, u, h => by
    rw [varsR] at h
    split at h
    · rename_i q
      obtain ⟨x, r2, h1, h⟩ := bind_ok h
      obtain ⟨m, r3, h2, h⟩ := bind_ok h
      obtain ⟨rfl, hx, hxn, hxv⟩ := newR_pos h1
      obtain ⟨rfl, hq, hlo⟩ := numR_pos h2
      obtain ⟨hd, hhi⟩ := numOf_some.mp hq
      obtain ⟨l, e, ol, w, hl, hs⟩ := vars_sound h
      have w1 : Rdn ws r r.go [wd "var"] := Rdn.one q (by decide +kernel) rfl
      have w2 : Rdn ws r.go r.go.go [x] := Rdn.one hx.symm (name_ne hxn) rfl
      have w3 : Rdn ws r.go.go ({ r.go.go.go with vars := r.go.go.go.vars ++ [(x, m)] } : RS) [dec m] := Rdn.one hd (dec_ne m) rfl
      refine ⟨(x, m) :: l, ?_, ⟨hxn, hxv, hlo, hhi, ?_⟩, ((w1.app w2).app w3).app w, by simpa using hl, hs.imp id (by intro z; simp [z])⟩
      · rw [e]; simp [RS.go]
      · rw [show ({ r.go.go.go with vars := r.go.go.go.vars ++ [(x, m)] } : RS).vars = r.vars ++ [(x, m)] from rfl, List.map_append] at ol
        exact ol
    · rename_i q
      cases h; exact ⟨[], by simp, trivial, Rdn.nil _ _ rfl, Nat.zero_le _, .inl q⟩
/-- what is read is a box that is right, and its words are all words -/
theorem read_sound {b : Bx} {r : RS} (h : readR ws ar = .ok b r) : okBx ar b ∧ b.words = ws ∧ r.vars = b.vars := by
  unfold readR at h
  obtain ⟨_, r1, h1, h⟩ := bind_ok h
  obtain ⟨bn, r2, h2, h⟩ := bind_ok h
  obtain ⟨_, r3, h3, h⟩ := bind_ok h
  obtain ⟨an, r4, h4, h⟩ := bind_ok h
  obtain ⟨_, r5, h5, h⟩ := bind_ok h
  obtain ⟨_, r6, h6, h⟩ := bind_ok h
  obtain ⟨s, r7, h7, h⟩ := bind_ok h
  obtain ⟨_, r8, h8, h⟩ := bind_ok h
  obtain ⟨t, r9, h9, h⟩ := bind_ok h
  split at h
  · cases h
  rename_i hp
  cases h
  obtain ⟨rfl, w1⟩ := take_sound (by decide +kernel) h1
  obtain ⟨rfl, q2, lo2⟩ := numR_pos h2
  obtain ⟨d2, hi2⟩ := numOf_some.mp q2
  have w2 : Rdn ws r0.go r0.go.go [dec bn] := Rdn.one d2 (dec_ne _) rfl
  obtain ⟨rfl, w3⟩ := take_sound (by decide +kernel) h3
  obtain ⟨rfl, q4, lo4⟩ := numR_pos h4
  obtain ⟨d4, hi4⟩ := numOf_some.mp q4
  have w4 : Rdn ws r0.go.go.go r0.go.go.go.go [dec an] := Rdn.one d4 (dec_ne _) rfl
  obtain ⟨l, e5, ol, w5, hl, _⟩ := vars_sound h5
  obtain ⟨rfl, w6⟩ := take_sound (by decide +kernel) h6
  have v5 : r5.vars = l := by rw [e5]; exact List.nil_append l
  have p5 : r5.pressed = false ∧ r5.draws = 0 ∧ r5.uses = 0 := by rw [e5]; exact ⟨rfl, rfl, rfl⟩
  have hn : NmOk r5.vars := by rw [v5]; exact nmOk_of ol
  have B := block_sound (k := 4) (by omega) (r := r5.go) hn (by show r5.draws ≤ 3; omega) (by show r5.uses ≤ 24; omega) h7
  obtain ⟨rfl, w8⟩ := take_sound (by decide +kernel) h8
  have v7 : r7.vars = l := B.vs.trans v5
  have B2 := block_sound (k := 4) (by omega) (r := { r7.go with pressed := true }) (by show NmOk r7.vars; rw [v7, ← v5]; exact hn) B.dl B.ul h9
  have ob := B.ok
  have ob2 := B2.ok
  rw [show r5.go.vars = l from v5, show r5.go.pressed = false from p5.1] at ob
  rw [show ({ r7.go with pressed := true } : RS).vars = l from v7] at ob2
  have v9 : r.vars = l := B2.vs.trans v7
  have w8' : Rdn ws r7 { r7.go with pressed := true } [wd "press"] := ⟨w8.pos, w8.dr⟩
  have W := w1.app (w2.app (w3.app (w4.app (w5.app (w6.app (B.rd.app (w8'.app B2.rd)))))))
  have e9 : ws.drop r.pos = [] := List.drop_eq_nil_of_le (by omega)
  have We : ws = _ := W.dr
  rw [e9, List.append_nil] at We
  have n1 := B.nd
  have n2 := B2.nd
  have n3 := B.nu
  have n4 := B2.nu
  have n5 := B2.dl
  have n6 := B2.ul
  refine ⟨⟨lo2, hi2, lo4, hi4, by rw [v9]; exact hl, by rw [v9]; exact ol, by rw [v9]; exact ob, by rw [v9]; exact ob2, ?_, ?_⟩, ?_, rfl⟩
  · rw [show ({ r7.go with pressed := true } : RS).draws = r7.draws from rfl] at n2
    rw [show r5.go.draws = 0 from p5.2.1] at n1
    show nds s + nds t ≤ 3
    omega
  · rw [show ({ r7.go with pressed := true } : RS).uses = r7.uses from rfl] at n4
    rw [show r5.go.uses = 0 from p5.2.2] at n3
    show nus s + nus t ≤ 24
    omega
  · refine Eq.trans ?_ We.symm
    show Bx.words ⟨bn, an, r.vars, s, t⟩ = _
    rw [v9]; rfl
end
end Rd

set_option Elab.async false
set_option linter.all false
set_option maxRecDepth 100000
set_option maxHeartbeats 4000000
/-! Texts of words. -/
namespace Rd
open PySem PyProof.Rows TL
def jn (ws : List Str) : Str := Txt.join " " ws
def spc : Str := " "
theorem app_assoc (a b c : Str) : a ++ b ++ c = a ++ (b ++ c) := ext_tl (by simp only [tl_append, List.append_assoc])
theorem len_app (a b : Str) : (a ++ b).length = a.length + b.length := by rw [len_tl, len_tl, len_tl, tl_append, List.length_append]
theorem empty_app' (a : Str) : Str.empty ++ a = a := ext_tl (by rw [tl_append]; rfl)
theorem app_empty (a : Str) : a ++ Str.empty = a := ext_tl (by rw [tl_append]; exact List.append_nil _)
theorem jn_nil : jn [] = Str.empty := by unfold jn; rw [join_eq]; rfl
theorem jn_one (x : Str) : jn [x] = x := by unfold jn; rw [join_eq]; rfl
theorem jn_cons (x y : Str) (r : List Str) : jn (x :: y :: r) = x ++ (spc ++ jn (y :: r)) := by
  unfold jn; rw [join_eq, join_eq, ← app_assoc]; rfl
theorem jn_app : ∀ {xs ys : List Str}, xs ≠ [] → ys ≠ [] → jn (xs ++ ys) = jn xs ++ (spc ++ jn ys)
  | [], _, h, _ => absurd rfl h
  | [x], ys, _, h => by
    cases ys with
    | nil => exact absurd rfl h
    | cons y r => rw [List.singleton_append, jn_cons, jn_one]
  | x :: x2 :: xs, ys, _, h => by
    rw [List.cons_append, List.cons_append, jn_cons, ← List.cons_append, jn_app (by simp) h, jn_cons]
    simp only [app_assoc]
theorem jn_jn : ∀ {xss : List (List Str)}, (∀ x ∈ xss, x ≠ []) → jn (xss.map jn) = jn xss.flatten
  | [], _ => rfl
  | [x], _ => by rw [List.map_cons, List.map_nil, jn_one]; simp
  | x :: y :: r, h => by
    have ih := jn_jn (xss := y :: r) fun z hz => h z (List.mem_cons_of_mem _ hz)
    have hy := h y (List.mem_cons_of_mem _ List.mem_cons_self)
    have hne : (y :: r).flatten ≠ [] := fun z => by
      rw [List.flatten_cons] at z
      exact hy (List.append_eq_nil_iff.mp z).1
    rw [List.map_cons, List.map_cons, jn_cons, ← List.map_cons, ih, show (x :: y :: r).flatten = x ++ (y :: r).flatten from rfl, jn_app (h x List.mem_cons_self) hne]
theorem le_sum : ∀ {ws : List Str} {x : Str}, x ∈ ws → x.length ≤ (ws.map (·.length)).sum
  | y :: r, x, h => by
    rw [List.map_cons, List.sum_cons]
    rcases List.mem_cons.mp h with rfl | h
    · omega
    · have := le_sum h; omega
theorem jn_len : ∀ (ws : List Str), (jn ws).length + 1 = (ws.map (·.length)).sum + ws.length + (if ws = [] then 1 else 0)
  | [] => by rw [jn_nil]; rfl
  | [x] => by rw [jn_one]; simp
  | x :: y :: r => by
    have ih := jn_len (y :: r)
    rw [jn_cons, len_app, len_app, List.map_cons, List.sum_cons, List.length_cons]
    rw [if_neg (by simp)] at ih ⊢
    have : spc.length = 1 := by decide +kernel
    omega
theorem jn_le {ws : List Str} {x : Str} (h : x ∈ ws) : x.length ≤ (jn ws).length := by
  have h1 := jn_len ws
  have h2 : x.length ≤ (ws.map (·.length)).sum := le_sum h
  rw [if_neg (by rintro rfl; cases h)] at h1
  have : 0 < ws.length := List.length_pos_of_mem h
  omega
theorem jn_app_le {xs ys : List Str} : (jn xs).length ≤ (jn (xs ++ ys)).length ∧ (jn ys).length ≤ (jn (xs ++ ys)).length := by
  cases xs with
  | nil => rw [jn_nil]; exact ⟨Nat.zero_le _, Nat.le_refl _⟩
  | cons x r =>
    cases ys with
    | nil => rw [jn_nil, List.append_nil]; exact ⟨Nat.le_refl _, Nat.zero_le _⟩
    | cons y s =>
      rw [jn_app (by simp) (by simp), len_app, len_app]
      omega
theorem jn_cons_le {x : Str} {ys : List Str} : (jn ys).length ≤ (jn (x :: ys)).length := (jn_app_le (xs := [x]) (ys := ys)).2
theorem words_split {ws : List Str} (h1 : ws ≠ []) (h2 : ∀ p ∈ ws, 32 ∉ tl p) : Txt.split (jn ws) " " = ws :=
  split_join (y := " ") (s := 32) (S := []) (by decide +kernel) (by decide +kernel) h1 h2
theorem ex_words_ne (e : Ex) : e.words ≠ [] := by cases e <;> simp [Ex.words]
theorem st_words_ne (s : Stm) : s.words ≠ [] := by
  have := words_pos s
  intro z; rw [z] at this; simp at this
theorem block_flat : ∀ l : List Stm, blockWords l = (l.map Stm.words).flatten
  | [] => rfl
  | s :: r => by rw [blockWords, block_flat r]; rfl
end Rd

set_option Elab.async false
set_option linter.all false
set_option maxRecDepth 100000
set_option maxHeartbeats 4000000
set_option exponentiation.threshold 5000
/-! Texts of fractions: how they are read. -/
namespace Rd
open PySem PySem.Builtin.Str PyProof.Rows TL Mt
/-! ### splitting at one sign, and joining again -/
theorem pre1 {c d : Nat} {r : List Nat} : pre [c] (d :: r) = decide (d = c) := by
  unfold pre; simp [List.isPrefixOf]; first | rfl | exact eq_comm | grind
theorem spl_facts (c : Nat) : ∀ (l acc : List Nat), c ∉ acc → joinL [c] (spl [c] 0 acc l) = acc ++ l ∧ spl [c] 0 acc l ≠ [] ∧ ∀ p ∈ spl [c] 0 acc l, c ∉ p
  | [], acc, h => by
    rw [spl_nil]
    exact ⟨(List.append_nil acc).symm, by simp, fun p hp => by rw [List.mem_singleton.mp hp]; exact h⟩
  | d :: r, acc, h => by
    by_cases e : d = c
    · subst e
      rw [spl_hit (by rw [pre1]; simp)]
      obtain ⟨h1, h2, h3⟩ := spl_facts d r [] (by simp)
      refine ⟨?_, by simp, fun p hp => ?_⟩
      · show joinL [d] (acc :: spl [d] 0 [] r) = _
        cases q : spl [d] 0 [] r with
        | nil => exact absurd q h2
        | cons a b =>
          show acc ++ ([d] ++ joinL [d] (a :: b)) = _
          rw [← q, h1]; simp
      · rcases List.mem_cons.mp hp with rfl | hp
        · exact h
        · exact h3 p hp
    · rw [spl_miss (by rw [pre1]; simp [e])]
      obtain ⟨h1, h2, h3⟩ := spl_facts c r (acc ++ [d]) (by simp [h]; exact fun q => e q.symm)
      exact ⟨by rw [h1]; simp, h2, h3⟩
theorem split_facts {y : Str} {c : Nat} (ey : tl y = [c]) (hk : y.cps.all (· < 256) = true) (x : Str) :
    Txt.join y (Txt.split x y) = x ∧ Txt.split x y ≠ [] ∧ ∀ p ∈ Txt.split x y, c ∉ tl p := by
  have e := split_spl x y (by rw [ey]; simp) (kind_ok hk)
  rw [ey] at e
  obtain ⟨h1, h2, h3⟩ := spl_facts c (tl x) [] (by simp)
  refine ⟨ext_tl (by rw [join_eq, tl_join, ey, e, h1]; rfl), fun q => h2 (by rw [← e, q]; rfl), fun p hp => h3 _ (by rw [← e]; exact List.mem_map.mpr ⟨p, hp, rfl⟩)⟩
theorem split_sp (x : Str) : jn (Txt.split x " ") = x ∧ Txt.split x " " ≠ [] ∧ ∀ p ∈ Txt.split x " ", 32 ∉ tl p := split_facts (y := " ") (by decide +kernel) (by decide +kernel) x
/-! ### fractions as texts -/
def MP : Nat := 999999999999999999999999999999999999999999999999999999999999
/-- str of a fraction -/
def rtx (q : Rat) : Str := if (q.den : Int) > 1 then (Str.ofString (toString q.num)) ++ ("/" : Str) ++ (Str.ofString (toString (q.den : Int))) else Str.ofString (toString q.num)
theorem tl_int (i : Int) : tl (Str.ofString (toString i)) = (if i < 0 then [45] else []) ++ numL i.natAbs := by
  by_cases h : i < 0
  · rw [if_pos h, toString_neg h]
    have e : (0 : Int) - i = ((i.natAbs : Nat) : Int) := by omega
    rw [e]
    have e2 : tl (Str.ofString ("-" ++ toString ((i.natAbs : Nat) : Int))) = tl ("-" : Str) ++ tl (Str.ofString (toString ((i.natAbs : Nat) : Int))) := by
      rw [← tl_append]; congr 1
      rw [PySem.Str.ofString_eq_toList, String.toList_append, List.map_append]
      show _ = PySem.Str.append _ _
      simp [PySem.Str.append, PySem.Str.ofString_eq_toList]
    rw [e2, tl_num]
    congr 1
  · rw [if_neg h]
    obtain ⟨n, rfl⟩ := Int.eq_ofNat_of_zero_le (by omega : 0 ≤ i)
    exact tl_num n
theorem tl_rtx (q : Rat) : tl (rtx q) = (if q.num < 0 then [45] else []) ++ (numL q.num.natAbs ++ (if q.den = 1 then [] else 47 :: numL q.den)) := by
  have dp := q.den_nz
  unfold rtx
  by_cases h : q.den = 1
  · rw [if_pos h, if_neg (by omega), tl_int, List.append_nil]
  · rw [if_neg h, if_pos (by omega), tl_append, tl_append, tl_int, tl_num, List.append_assoc, List.append_assoc]
    congr 1
/-! ### what ratio_of tells -/
def bodyOf (w : Str) : Str := Txt.removeprefix w "-"
def negW (w : Str) : Bool := Txt.startswith w "-"
def denOf (w : Str) : Option Nat := if (Txt.partition (bodyOf w) "/").2.1 = ("/" : Str) then numOf (Txt.partition (bodyOf w) "/").2.2 MP else some 1
def ratioOf (w : Str) : Option Rat := match numOf (Txt.partition (bodyOf w) "/").1 MP, denOf w with
  | some n, some d => if d = 0 then none else if rtx (rt (if negW w = true then -(n : Int) else n) d) = w then some (rt (if negW w = true then -(n : Int) else n) d) else none
  | _, _ => none
theorem tl_body (w : Str) : tl (bodyOf w) = if negW w = true then (tl w).drop 1 else tl w := by
  unfold bodyOf negW Txt.removeprefix
  have e : Txt.startswith w "-" = ((tl w).head? == some 45) := starts1 w "-" 45 (by decide +kernel)
  have e1 : tl ("-" : Str) = [45] := by decide +kernel
  have hl : ("-" : Str).length = 1 := by rw [len_tl, e1]; rfl
  have e2 : Builtin.Str.subAt w "-" 0 = ((tl w).head? == some 45) := by
    rw [PySem.StrLaws.subAt_eq, hl]
    show (((tl w).drop 0).take 1 == tl ("-" : Str)) = _
    rw [e1, List.drop_zero]
    cases tl w with
    | nil => rfl
    | cons d r => simp
  rw [e, e2]
  cases q : ((tl w).head? == some 45) with
  | false => rfl
  | true =>
    rw [if_pos rfl, if_pos rfl, hl]
    unfold Txt.affix
    have hw : 0 < w.length := by
      rw [len_tl]
      cases r : tl w with
      | nil => rw [r] at q; cases q
      | cons a b => simp
    show tl (if (w.length - 1 == w.length) = true then w else strSub w 1 w.length) = _
    rw [if_neg (by simp; omega)]
    show (strSub w 1 w.length).cps.toList = _
    rw [PySem.StrLaws.strSub_toList, List.take_of_length_le (by simp [PySem.Str.length])]
theorem head_neg (w : Str) : negW w = ((tl w).head? == some 45) := starts1 w "-" 45 (by decide +kernel)
theorem numL_no {n c : Nat} (h : c ∈ numL n) : 48 ≤ c ∧ c ≤ 57 := numL_digits n c h
theorem MP_eq : MP + 1 = 10 ^ 60 := by decide +kernel
theorem numL_head_ne (n : Nat) : ((numL n).head? == some 45) = false := by
  cases q : numL n with
  | nil => exact absurd q (numL_ne n)
  | cons c r =>
    have := numL_no (n := n) (c := c) (by rw [q]; exact List.mem_cons_self)
    rw [List.head?_cons]
    simp
    omega
theorem neg_rtx (q : Rat) : negW (rtx q) = decide (q.num < 0) := by
  rw [head_neg, tl_rtx]
  by_cases h : q.num < 0
  · rw [if_pos h, decide_eq_true h]; rfl
  · rw [if_neg h, decide_eq_false h, List.nil_append]
    cases e : numL q.num.natAbs with
    | nil => exact absurd e (numL_ne _)
    | cons c r =>
      have := numL_head_ne q.num.natAbs
      rw [e] at this
      exact this
theorem body_rtx (q : Rat) : tl (bodyOf (rtx q)) = numL q.num.natAbs ++ (if q.den = 1 then [] else 47 :: numL q.den) := by
  rw [tl_body, neg_rtx, tl_rtx]
  by_cases h : q.num < 0
  · rw [if_pos h, if_pos (decide_eq_true h)]; rfl
  · rw [if_neg h, if_neg (by simp [h])]; rfl
theorem no47 (n : Nat) : 47 ∉ numL n := fun h => by have := numL_no h; omega
/-- a right text is read -/
theorem ratioOf_rtx {q : Rat} (h1 : q.num.natAbs ≤ MP) (h2 : q.den ≤ MP) : ratioOf (rtx q) = some q := by
  have fin : ∀ b : Bool, b = decide (q.num < 0) → rt (if b = true then -((q.num.natAbs : Nat) : Int) else ((q.num.natAbs : Nat) : Int)) (q.den : Nat) = q := by
    intro b hb
    have e : (if b = true then -((q.num.natAbs : Nat) : Int) else ((q.num.natAbs : Nat) : Int)) = q.num := by
      subst hb
      by_cases h : q.num < 0
      · rw [if_pos (decide_eq_true h)]; omega
      · rw [if_neg (by simp [h])]; omega
    rw [e]; exact rt_self q
  have z := fin _ (neg_rtx q)
  have nz := q.den_nz
  by_cases hd : q.den = 1
  · have eb : bodyOf (rtx q) = dec q.num.natAbs := ext_dec (by rw [body_rtx, if_pos hd, List.append_nil])
    have ep : Txt.partition (bodyOf (rtx q)) "/" = (dec q.num.natAbs, Str.empty, Str.empty) := by
      rw [eb]; exact partition_none (y := "/") (s := 47) (S := []) (by decide +kernel) (by rw [tl_dec]; exact no47 _)
    have e2 : denOf (rtx q) = some 1 := by
      unfold denOf; rw [ep]; exact if_neg (show ¬ Str.empty = ("/" : Str) from by decide +kernel)
    unfold ratioOf
    rw [ep, e2, numOf_dec h1]
    show (if (1 : Nat) = 0 then none else _) = _
    rw [hd] at z
    rw [if_neg (by decide), z, if_pos rfl]
  · have eb : bodyOf (rtx q) = dec q.num.natAbs ++ ("/" : Str) ++ dec q.den := ext_tl (by
      rw [body_rtx, if_neg hd, tl_append, tl_append, tl_dec, tl_dec, List.append_assoc]; rfl)
    have ep : Txt.partition (bodyOf (rtx q)) "/" = (dec q.num.natAbs, ("/" : Str), dec q.den) := by
      rw [eb]; exact partition_app (y := "/") (s := 47) (S := []) (by decide +kernel) (by rw [tl_dec]; exact no47 _)
    have e2 : denOf (rtx q) = some q.den := by
      unfold denOf; rw [ep, if_pos rfl, numOf_dec h2]
    unfold ratioOf
    rw [ep, e2, numOf_dec h1]
    show (if q.den = 0 then none else _) = _
    rw [if_neg nz, z, if_pos rfl]
theorem red_num (n : Int) {d : Nat} (h : 0 < d) : (rt n d).num.natAbs ≤ n.natAbs ∧ (rt n d).den ≤ d := by
  have h' : (0 : Int) < d := by omega
  have e1 := rt_num (n := n) h'
  have e2 := rt_den (n := n) h'
  have g0 := gz_pos (n := n) h'
  constructor
  · rw [e1]
    exact Int.natAbs_ediv_le_natAbs _ _
  · have : (d : Int) / gz n d ≤ d := Int.ediv_le_self _ (by omega)
    omega
/-- what is read is a right text -/
theorem ratioOf_some {w : Str} {q : Rat} (h : ratioOf w = some q) : w = rtx q ∧ q.num.natAbs ≤ MP ∧ q.den ≤ MP := by
  unfold ratioOf at h
  cases e1 : numOf (Txt.partition (bodyOf w) "/").1 MP with
  | none => rw [e1] at h; cases h
  | some n =>
    cases e2 : denOf w with
    | none => rw [e1, e2] at h; cases h
    | some d =>
      rw [e1, e2] at h
      have hn := (numOf_some.mp e1).2
      have hd : d ≤ MP := by
        unfold denOf at e2
        split at e2
        · exact (numOf_some.mp e2).2
        · injection e2 with e2; rw [← e2]; decide +kernel
      simp only at h
      by_cases d0 : d = 0
      · rw [if_pos d0] at h; cases h
      · rw [if_neg d0] at h
        by_cases hw : rtx (rt (if negW w = true then -(n : Int) else n) d) = w
        · rw [if_pos hw] at h
          injection h with h
          subst h
          have r := red_num (if negW w = true then -(n : Int) else n) (d := d) (by omega)
          refine ⟨hw.symm, Nat.le_trans r.1 (by split <;> omega), Nat.le_trans r.2 hd⟩
        · rw [if_neg hw] at h; cases h
end Rd

set_option Elab.async false
set_option linter.all false
set_option maxRecDepth 100000
set_option maxHeartbeats 4000000
set_option exponentiation.threshold 5000
/-! The law's own reading of a fraction. -/
namespace Rd
open PySem PySem.Builtin.Str PyProof.Rows TL Mt
def partsOf (w : Str) : List Str := Txt.split (bodyOf w) "/"
theorem tl_w (w : Str) : tl w = (if negW w = true then [45] else []) ++ tl (bodyOf w) := by
  rw [tl_body]
  by_cases h : negW w = true
  · rw [if_pos h, if_pos h]
    have := head_neg w
    rw [h] at this
    cases q : tl w with
    | nil => rw [q] at this; cases this
    | cons c r =>
      rw [q] at this
      have e : c = 45 := by simpa using this.symm
      subst e; rfl
  · rw [if_neg h, if_neg h]; rfl
theorem parts_rtx (q : Rat) : partsOf (rtx q) = if q.den = 1 then [dec q.num.natAbs] else [dec q.num.natAbs, dec q.den] := by
  unfold partsOf
  by_cases hd : q.den = 1
  · have eb : bodyOf (rtx q) = Txt.join "/" [dec q.num.natAbs] := ext_tl (by rw [body_rtx, if_pos hd, List.append_nil, join_eq, tl_join]; exact (tl_dec _).symm)
    rw [if_pos hd, eb]
    exact split_join (y := "/") (s := 47) (S := []) (by decide +kernel) (by decide +kernel) (by simp) fun p hp => by
      rw [List.mem_singleton.mp hp, tl_dec]; exact no47 _
  · have eb : bodyOf (rtx q) = Txt.join "/" [dec q.num.natAbs, dec q.den] := ext_tl (by
      rw [body_rtx, if_neg hd, join_eq, tl_join]
      show _ = tl (dec q.num.natAbs) ++ (tl ("/" : Str) ++ tl (dec q.den))
      rw [tl_dec, tl_dec]; rfl)
    rw [if_neg hd, eb]
    refine split_join (y := "/") (s := 47) (S := []) (by decide +kernel) (by decide +kernel) (by simp) fun p hp => ?_
    rcases List.mem_cons.mp hp with rfl | hp
    · rw [tl_dec]; exact no47 _
    · rw [List.mem_singleton.mp hp, tl_dec]; exact no47 _
theorem parts_join (w : Str) : tl (bodyOf w) = joinL [47] ((partsOf w).map tl) := by
  have h := (split_facts (y := "/") (c := 47) (by decide +kernel) (by decide +kernel) (bodyOf w)).1
  have e1 : tl ("/" : Str) = [47] := by decide +kernel
  have := congrArg tl h
  rw [join_eq, tl_join, e1] at this
  exact this.symm
theorem parts_ne (w : Str) : partsOf w ≠ [] := (split_facts (y := "/") (c := 47) (by decide +kernel) (by decide +kernel) (bodyOf w)).2.1
/-- a part that is no number: it isn't read -/
theorem bad_part {w : Str} {p : Str} (hp : p ∈ partsOf w) (h : numOf p MP = none) : ratioOf w = none := by
  cases e : ratioOf w with
  | none => rfl
  | some q =>
    obtain ⟨rfl, h1, h2⟩ := ratioOf_some e
    rw [parts_rtx] at hp
    split at hp
    · rw [List.mem_singleton.mp hp, numOf_dec h1] at h; cases h
    · rcases List.mem_cons.mp hp with rfl | hp
      · rw [numOf_dec h1] at h; cases h
      · rw [List.mem_singleton.mp hp, numOf_dec h2] at h; cases h
theorem bad_many {w : Str} (h : 2 < (partsOf w).length) : ratioOf w = none := by
  cases e : ratioOf w with
  | none => rfl
  | some q =>
    obtain ⟨rfl, h1, h2⟩ := ratioOf_some e
    rw [parts_rtx] at h
    split at h <;> simp at h
theorem dec_eq_of {p : Str} {n : Nat} (h : numOf p MP = some n) : p = dec n := (numOf_some.mp h).1
theorem bad_zero {w p : Str} {r : List Str} (hw : partsOf w = p :: r) (hp : numOf p MP = some 0) (hn : negW w = true) : ratioOf w = none := by
  cases e : ratioOf w with
  | none => rfl
  | some q =>
    obtain ⟨rfl, h1, h2⟩ := ratioOf_some e
    rw [neg_rtx] at hn
    have hn := of_decide_eq_true hn
    have e1 : p = dec q.num.natAbs := by
      rw [parts_rtx] at hw
      split at hw <;> injection hw with hw _ <;> exact hw.symm
    have := dec_inj (e1.symm.trans (dec_eq_of hp))
    omega
theorem read_of {w : Str} {q : Rat} {n d : Nat} (hq : q.num = (if negW w = true then -(n : Int) else n)) (hd : q.den = d) (hz : ¬ (negW w = true ∧ n = 0)) (hn : n ≤ MP) (hm : d ≤ MP)
    (hb : tl (bodyOf w) = numL n ++ (if d = 1 then [] else 47 :: numL d)) : ratioOf w = some q := by
  have ea : q.num.natAbs = n := by rw [hq]; split <;> omega
  have e : rtx q = w := ext_tl (by
    rw [tl_rtx, tl_w w, hb, ea, hd]
    congr 1
    by_cases hg : negW w = true
    · rw [if_pos hg] at hq
      rw [if_pos hg, if_pos (by have : n ≠ 0 := fun z => hz ⟨hg, z⟩
                                omega)]
    · rw [if_neg hg] at hq
      rw [if_neg hg, if_neg (by omega)])
  rw [← e]
  exact ratioOf_rtx (by omega) (by omega)
/-- one part -/
theorem read_one {w p : Str} {n : Nat} (hw : partsOf w = [p]) (hp : numOf p MP = some n) (hz : ¬ (negW w = true ∧ n = 0)) : ratioOf w = some (rt (if negW w = true then -(n : Int) else n) 1) := by
  have h1 : (0 : Int) < 1 := by decide
  have g1 : ∀ m : Int, gz m 1 = 1 := fun m => by
    have := gz_pos (n := m) h1
    have := gz_le (n := m) h1
    omega
  have b := parts_join w
  rw [hw, dec_eq_of hp] at b
  refine read_of (n := n) (d := 1) ?_ ?_ hz (numOf_some.mp hp).2 (by decide +kernel) ?_
  · rw [rt_num h1, g1]; simp
  · have := rt_den (n := (if negW w = true then -(n : Int) else n)) h1
    rw [g1] at this
    simp at this
    omega
  · rw [b, if_pos rfl, List.append_nil]
    exact tl_dec n
/-- two parts -/
theorem read_two {w p r : Str} {n d : Nat} (hw : partsOf w = [p, r]) (hp : numOf p MP = some n) (hr : numOf r MP = some d) (hz : ¬ (negW w = true ∧ n = 0)) :
    ratioOf w = if 2 ≤ d ∧ (rt n d).num = n ∧ ((rt n d).den : Int) = d then some (rt (if negW w = true then -(n : Int) else n) d) else none := by
  have b := parts_join w
  rw [hw, dec_eq_of hp, dec_eq_of hr] at b
  have b : tl (bodyOf w) = numL n ++ 47 :: numL d := by
    rw [b]
    show tl (dec n) ++ ([47] ++ tl (dec d)) = _
    rw [tl_dec, tl_dec]; rfl
  by_cases c : 2 ≤ d ∧ (rt n d).num = n ∧ ((rt n d).den : Int) = d
  · rw [if_pos c]
    obtain ⟨c1, c2, c3⟩ := c
    have en : rt (-(n : Int)) d = -(rt n d) := by unfold rt; rw [Rat.neg_divInt]
    refine read_of (n := n) (d := d) ?_ ?_ hz (numOf_some.mp hp).2 (numOf_some.mp hr).2 ?_
    · split
      · rw [en, Rat.neg_num, c2]
      · exact c2
    · split
      · rw [en, Rat.neg_den]; omega
      · omega
    · rw [b, if_neg (by omega)]
  · rw [if_neg c]
    cases e : ratioOf w with
    | none => rfl
    | some q =>
      exfalso
      refine c ?_
      obtain ⟨rfl, h1, h2⟩ := ratioOf_some e
      rw [parts_rtx] at hw
      split at hw
      · cases hw
      · rename_i hd
        injection hw with e1 e2
        injection e2 with e2 _
        have f1 : q.num.natAbs = n := dec_inj (e1.trans (dec_eq_of hp))
        have f2 : q.den = d := dec_inj (e2.trans (dec_eq_of hr))
        have nz := q.den_nz
        have hc := q.reduced
        rw [f1, f2] at hc
        have g : gz (n : Int) (d : Int) = 1 := by
          unfold gz
          rw [Int.natAbs_natCast, Int.natAbs_natCast]
          have : Nat.gcd n d = 1 := hc
          omega
        have hd0 : (0 : Int) < d := by omega
        refine ⟨by omega, ?_, ?_⟩
        · rw [rt_num hd0, g]; simp
        · rw [rt_den hd0, g]; simp
end Rd

set_option Elab.async false
set_option linter.all false
set_option maxRecDepth 100000
set_option maxHeartbeats 4000000
set_option exponentiation.threshold 5000
namespace K
open PySem PySem.Spec PyProof.Rows L2 Tk Hd Rd Mt
section
variable {P : Program} {w : World} {K : PySem.W.Frag} {mg : Str → Option Value} {base : Heap}
/-- None, or a fraction -/
def iRO (C : Addr) : Rp (Option Rat) := fun H v o => match o with
  | none => v = .non
  | some q => iR C H v q
instance {C : Addr} : Mono (iRO C) := ⟨fun {H H' v o} s h => by cases o with
  | none => exact h
  | some q => exact up (R := iR C) s h⟩
theorem rtext_eq (q : Rat) : rtext q = rtx q := rfl
def spRatioOf (C : Addr) : Sp := fun vs H Q _ => ∃ (I : Hp) (z : Str), vs = [.str z] ∧ Same I H ∧ z.length + 2 ≤ sizeLine ∧ Ret [] I H (iRO C) (ratioOf z) Q
theorem sc_ratio_of : FnScope ["word", "top", "bar", "bottom", "num", "den", "found"] ["word"] (defScope s_ratio_of) := ⟨rfl, rfl, rfl, by decide +kernel, rfl, by decide +kernel, by decide +kernel⟩
theorem ok_ratio_of (D : Dt K mg) : Has P w K mg base 6 (He.ga K "ratio_of") ["word"] [] (spRatioOf (CR K)) := by
  obtain ⟨fd, F⟩ := fd_ratio_of D
  have H_number_of := ok_number_of (P := P) (w := w) (base := base) D
  have H_Ratio_init := has_init (P := P) (w := w) (base := base) D
  have H_Ratio_str := ok_str (P := P) (w := w) (base := base) D
  refine hasN F (F.bindsN fun _ _ _ _ _ _ us hl => match us, hl with | [_], _ => rfl) sc_ratio_of (fun vs H Q E h => ?_) (fun cdv A outer s H vs Q E hr h => ?_)
  · obtain ⟨I, z, rfl, _⟩ := h; rfl
  · obtain ⟨I, z, rfl, s0, hz, k⟩ := h
    obtain ⟨t_MOST_PART, e_MOST_PART⟩ := int_MOST_PART D
    refine ⟨_, (pss_cons (ps_asg (pe_bm PySem.F.plainAttrs_str PySem.F.slot_str_partition PySem.F.type_str_partition mt_partition (pe_bm PySem.F.plainAttrs_str PySem.F.slot_str_removeprefix PySem.F.type_str_removeprefix mt_removeprefix (pv 0) (pa_cons pe_str pa_nil)) (pa_cons pe_str pa_nil)) (pg_tupK K rfl (pgs_cons (pg_name (i := 1) sc_ratio_of.nd rfl (Or.inl rfl)) (pgs_cons (pg_name (i := 2) sc_ratio_of.nd rfl (Or.inl rfl)) (pgs_cons (pg_name (i := 3) sc_ratio_of.nd rfl (Or.inl rfl)) pgs_nil)))))
      (pss_cons (ps_set (i := 4) sc_ratio_of.nd rfl (Or.inl rfl) (pe_callH H_number_of (hr.mono (by omega)) rfl (glo_number_of D) passL (pa_cons (pv 1) (pa_cons (pe_glob (v := .int 999999999999999999999999999999999999999999999999999999999999) rfl e_MOST_PART ⟨t_MOST_PART, rfl⟩) pa_nil))))
      (pss_cons (ps_set (i := 5) sc_ratio_of.nd rfl (Or.inl rfl) (pe_ifExp (pt_cmpR op_eq (pv 2) pe_str (nomark _)) (pe_callH H_number_of (hr.mono (by omega)) rfl (glo_number_of D) passL (pa_cons (pv 3) (pa_cons (pe_glob (v := .int 999999999999999999999999999999999999999999999999999999999999) rfl e_MOST_PART ⟨t_MOST_PART, rfl⟩) pa_nil))) pe_int))
      (pss_cons (ps_if (PW.pt (pw_or (pt_cmpR op_isN (pv 4) pe_non (nomark _)) (pw_or (pt_cmpR op_isN (pv 5) pe_non (nomark _)) (pw_or1 (pt_cmpR op_eq (pv 5) pe_int (nomark _))))))
      (pss_one (ps_ret pe_non))
      pss_nil)
      (pss_cons (ps_set (i := 6) sc_ratio_of.nd rfl (Or.inl rfl) (pe_makeH (mkr_Ratio (K := K) D) H_Ratio_init (hr.mono (by omega)) rfl (glo_Ratio D) passL (pa_cons (pe_ifExp (pt_val (pe_bm PySem.F.plainAttrs_str PySem.F.slot_str_startswith PySem.F.type_str_startswith mt_startswith (pv 0) (pa_cons pe_str pa_nil))) (pe_un un_neg (pv 4)) (pv 4)) (pa_cons (pv 5) pa_nil))))
      (pss_one (ps_ret (pe_ifExp (pt_cmpR op_eq (pe_callTy (call_strOwnH H_Ratio_str (hr.mono (by omega)) passL (me_Ratio_str (K := K) D)) rfl (free_str D) (by decide +kernel) (pa_cons (pv 6) pa_nil)) (pv 0) (nomark _)) (pv 6) pe_non)))))))), ?_⟩
    have h2 : (bodyOf z).length ≤ z.length := by
      have h1 := tl_body z
      rw [TL.len_tl, TL.len_tl, h1]
      split <;> simp
    have hb : (Txt.removeprefix z "-").length ≤ z.length := h2
    have hp := fact_partition (bodyOf z) "/"
    obtain ⟨t, b, u, hP⟩ : ∃ t b u, Txt.partition (bodyOf z) "/" = (t, b, u) := ⟨_, _, _, rfl⟩
    rw [hP] at hp
    dsimp only at hp
    refine ⟨_, rfl, rfl, z, _, rfl, rfl, by omega, rfl, _, _, rfl, rfl, by decide +kernel, Nat.le_trans hb (by omega), fun a ha => ?_⟩
    rw [show Txt.partition (Txt.removeprefix z "-") "/" = (t, b, u) from hP]
    have g1 := Gr.tmp (ms := []) (o := .tup [.str t, .str b, .str u]) s0 ha
    refine ⟨a, _, rfl, SqT.of upd_same, rfl, _, _, rfl, _, _, rfl, _, _, rfl, rfl, ?_⟩
    have hm : MP < 10 ^ 64 := by decide +kernel
    have ht : t.length ≤ sizeLine := by omega
    have hu : u.length ≤ sizeLine := by omega
    generalize hH : upd H a (.tup [.str t, .str b, .str u]) = H1 at g1
    clear ha
    (try dsimp only)
    refine ⟨_, rfl, t, MP, rfl, ht, hm, ?_⟩
    (try dsimp only)
    refine seq_cut (fun σ' H' => H' = H1 ∧ σ' = [some (.str z), some (.str t), some (.str b), some (.str u), some (oInt (numOf t MP)), some (oInt (denOf z)), none]) (fun nx q => ?_) ?_
    · refine ⟨_, rfl, rfl, _, rfl, ifD (fun c => ?_) (fun c => ?_)⟩
      · have c' : b = ("/" : Str) := by simpa using c
        have e : denOf z = numOf u MP := by unfold denOf; rw [hP, c']; exact if_pos rfl
        refine ⟨_, rfl, u, MP, rfl, hu, hm, ?_⟩
        exact q _ _ ⟨rfl, by rw [e]; rfl⟩
      · have c' : ¬ b = ("/" : Str) := fun y => c (by rw [y])
        have e : denOf z = some 1 := by unfold denOf; rw [hP]; exact if_neg c'
        exact q _ _ ⟨rfl, by rw [e]; rfl⟩
    rintro σ' H' ⟨rfl, rfl⟩
    have kN : ratioOf z = none → Q .non H' := fun e => by
      have := k _ _ .non g1 (show iRO (CR K) I .non (ratioOf z) by rw [e]; rfl)
      exact this
    have r1 : numOf t MP = none → ratioOf z = none := fun e => by unfold ratioOf; rw [hP]; simp only [e]
    have r2 : denOf z = none → ratioOf z = none := fun e => by unfold ratioOf; rw [hP]; cases numOf t MP <;> simp only [e]
    have r3 : ∀ n d, numOf t MP = some n → denOf z = some d → ratioOf z = if d = 0 then none else if rtx (rt (if negW z = true then -(n : Int) else n) d) = z then some (rt (if negW z = true then -(n : Int) else n) d) else none := fun n d e1 e2 => by unfold ratioOf; rw [hP]; simp only [e1, e2]
    cases e1 : numOf t MP with
    | none => exact ⟨_, rfl, rfl, _, rfl, iteT (kN (r1 e1))⟩
    | some n =>
      refine ⟨_, rfl, rfl, _, rfl, iteF ?_⟩
      cases e2 : denOf z with
      | none => exact ⟨_, rfl, rfl, _, rfl, iteT (kN (r2 e2))⟩
      | some d =>
        have r4 := r3 n d e1 e2
        have hn : n ≤ MP := (numOf_some.mp e1).2
        have hd : d ≤ MP := by
          unfold denOf at e2
          rw [hP] at e2
          split at e2
          · exact (numOf_some.mp e2).2
          · injection e2 with e2; rw [← e2]; decide +kernel
        refine ⟨_, rfl, rfl, _, rfl, iteF ?_⟩
        refine ⟨_, rfl, rfl, _, rfl, ifD (fun c => ?_) (fun c => ?_)⟩
        · have c' : d = 0 := by
            have : (d : Int) = 0 := by simpa [oInt] using c
            omega
          rw [if_pos c'] at r4
          exact kN r4
        have c' : d ≠ 0 := fun y => c (by rw [y]; rfl)
        rw [if_neg c'] at r4
        (try unfold tNext)
        (try dsimp only)
        generalize hq : rt (if negW z = true then -(n : Int) else n) d = q at r4
        have red := red_num (if negW z = true then -(n : Int) else n) (d := d) (by omega)
        rw [hq] at red
        have hd0 : (0 : Int) < d := by omega
        have hMP : MP < 10 ^ 60 := by decide +kernel
        refine seq_cut (fun σ' H2 => ∃ (I2 : Hp) (x : V), σ' = [some (.str z), some (.str t), some (.str b), some (.str u), some (.int n), some (.int d), some x] ∧ Gr [] I H I2 H2 ∧ iR (CR K) I2 x q) (fun nx qq => ?_) ?_
        · refine ⟨_, rfl, rfl, z, _, rfl, rfl, _, rfl, ?_⟩
          dsimp only
          refine ifB (fun cn => ?_) (fun cn => ?_)
          · have cn' : negW z = true := cn
            refine ⟨_, rfl, _, rfl, _, rfl, fun x dx nx nd ne => ⟨x, dx, _, _, rfl, upd_same, sm_of (by omega) (by omega), fun _ => ⟨rfl, ?_⟩, fun h => absurd h (by omega)⟩⟩
            obtain ⟨gn, rn⟩ := rat_new (ms := []) (C := CR K) (q := rt (-(n : Int)) d) g1.ih nx nd ne
            have e3 : rt (-(n : Int)) d = q := by rw [← hq, if_pos cn']
            rw [e3] at gn rn
            rw [e3]
            exact qq _ _ ⟨_, _, rfl, g1.trans gn, rn⟩
          · have cn' : ¬ negW z = true := fun y => by rw [show negW z = false from cn] at y; cases y
            refine ⟨_, rfl, _, rfl, fun x dx nx nd ne => ⟨x, dx, _, _, rfl, upd_same, sm_of (by omega) (by omega), fun _ => ⟨rfl, ?_⟩, fun h => absurd h (by omega)⟩⟩
            obtain ⟨gn, rn⟩ := rat_new (ms := []) (C := CR K) (q := rt ((n : Int)) d) g1.ih nx nd ne
            have e3 : rt ((n : Int)) d = q := by rw [← hq, if_neg cn']
            rw [e3] at gn rn
            rw [e3]
            exact qq _ _ ⟨_, _, rfl, g1.trans gn, rn⟩
        rintro σ' H2 ⟨I2, x, rfl, g2, r2'⟩
        have f1 : Few q.num := by show q.num.natAbs < 10 ^ 64; have : (10 : Nat) ^ 60 < 10 ^ 64 := by decide
                                  have := red.1
                                  split at this <;> omega
        have f2 : Few (q.den : Int) := by show ((q.den : Nat) : Int).natAbs < 10 ^ 64; have : (10 : Nat) ^ 60 < 10 ^ 64 := by decide
                                          have := red.2
                                          omega
        obtain ⟨ax, dx, rfl, hx⟩ := id r2'
        refine ⟨_, rfl, ax, dx, _, rfl, g2.ih _ _ hx, I2, _, q, rfl, g2.ih, r2', f1, f2, ⟨_, rfl⟩, ?_⟩
        refine ⟨_, rfl, rfl, _, rfl, ifD (fun c => ?_) (fun c => ?_)⟩
        · have c0 : rtext q = z := by simpa using c
          have c' : rtx q = z := c0
          rw [if_pos c'] at r4
          refine ⟨_, rfl, ?_⟩
          exact k _ _ _ g2 (show iRO (CR K) I2 (.ref ax) (ratioOf z) by rw [r4]; exact r2')
        · have c' : ¬ rtx q = z := fun y => c (by rw [← y]; rfl)
          rw [if_neg c'] at r4
          exact k _ _ _ g2 (show iRO (CR K) I2 .non (ratioOf z) by rw [r4]; rfl)
end
end K

set_option Elab.async false
set_option linter.all false
set_option maxRecDepth 100000
set_option maxHeartbeats 4000000
/-! an own object == None by its class's own __eq__. -/
namespace Tk
open PySem PySem.SeqAt PySem.Spec PyProof.Rows L2
section
variable {X : Cx} {CXx : CXT} {C f : Addr} {k : Nat} {fd : FuncData} {ps : List Str} {sp : Sp} {E : XK} {D : Eqb}
/-- None, or an own object that is told to be another thing than None -/
theorem eqB_non (F : FnOk X.prog X.w X.K X.mg X.base CXx k f fd ps sp) (hb : Binds X.K fd ps []) (hx : Passes CXx X E)
    (hs : PySem.W.findIn X.K (.ref C) "__eq__" = some (some (.ref f))) (hf : PySem.W.isFn X.K (.ref f) = true)
    (hD : ∀ x y r H, D x y r H → y = .non ∧ ((x = .non ∧ r = true) ∨ ∃ a dx fs, x = .ref a ∧ H a = some (.ins C dx fs) ∧ r = false ∧ sp [.ref a, .non] H (fun v H' => v = .bl false ∧ Ext H H') E)) : EqB X k D := by
  intro A pins s σ H x y r u v sb I rx ry d
  obtain ⟨rfl, h⟩ := hD _ _ _ _ d
  cases ry
  rcases h with ⟨rfl, rfl⟩ | ⟨a, dx, fs, rfl, ea, rfl, h⟩
  · cases rx
    unfold eqBool
    refine wpAny_holding ?_
    rw [if_pos (by simp)]
    exact wpAny_bind (wpAny_rule (wpAny_pure ⟨rfl, H, I, Ext.rfl'⟩))
  · cases rx
    obtain ⟨od, J⟩ := inst_of I ea
    have e0 : Env0 X.prog X.w X.K X.mg X.base A X.stack s H := by
      have e := I.env0
      exact ⟨by rw [sb.fr]; exact e.frames, e.mod, e.bs, e.bsz, e.funs, e.frf, e.hok, e.bare⟩
    have one : wpAny (model X.prog X.w) A (tryCompare (.ref a) "__eq__" .none) (fun z s' => ∃ v, z = some v ∧ v = .bool false ∧ ∃ H', Inv X pins σ H' s' ∧ Ext H H') X.xe s := by
      unfold tryCompare
      refine wpAny_bind (PySem.W.ifBound_K I.kIn J hs hf (wpAny_mono (runAt (vs := [.ref a, .non]) (dvs := []) F sb.room e0 hb .nil hx I (.cons rfl (.cons rfl .nil)) h) (fun z s' hv => ?_) fun _ _ e => e))
      obtain ⟨v', H', I', rv, rfl, q⟩ := hv
      cases rv
      exact wpAny_pure ⟨_, rfl, rfl, H', I', q⟩
    unfold eqBool
    refine wpAny_holding ?_
    refine wpAny_ite_split (fun hab => absurd (eq_of_beq hab) nofun) (fun _ => ?_)
    refine wpAny_bind (m := richCompare .Eq (.ref a) .none) ?_
    simp only [richCompare, cmpInfo_Eq, oneThing_ref]
    refine wpAny_holding (wpAny_bind (wpAny_cRoomFor sb.room.units0 ?_))
    refine wpAny_bind (J.type.here ?_)
    refine wpAny_bind (wpAny_typeOf (show s.TypeIs .none "NoneType" from rfl) ?_)
    split
    · refine wpAny_bind ((PySem.W.looks_subIn I.kIn HN.sub_none).here ?_)
      simp only [Bool.false_eq_true, if_false, Bool.not_false, if_true]
      refine wpAny_bind (m := tryCompare (.ref a) _ .none) (wpAny_mono one (fun z s1 hz => ?_) fun _ _ e => e)
      obtain ⟨v, rfl, rfl, H', I', q⟩ := hz
      exact wpAny_pure (wpAny_truthy_bool ⟨rfl, H', I', q⟩)
    · rename_i q
      exact absurd (by simp) q
end
end Tk

set_option Elab.async false
set_option linter.all false
set_option maxRecDepth 100000
set_option maxHeartbeats 4000000
set_option exponentiation.threshold 5000
namespace K
open PySem PySem.Spec PyProof.Rows L2 Tk Hd Rd Mt
section
variable {P : Program} {w : World} {K : PySem.W.Frag} {mg : Str → Option Value} {base : Heap}
/-! ### None in a list of fractions -/
theorem gr_ext {I H H' : Hp} (s : Same I H) (e : L2.Ext H H') : Gr [] I H I H' := ⟨Same.refl I, s.trans e, fun a o _ h => e a o h, fun a o h => ⟨o, e a o h⟩, fun a o h _ => h⟩
def spEqN (C : Addr) : Sp := fun vs H Q _ => ∃ (I : Hp) (a : V) (p : Rat), vs = [a, .non] ∧ Same I H ∧ iR C I a p ∧ Q (.bl false) H
theorem ok_eqN (D : Dt K mg) : Has P w K mg base 1 (He.ma K (CR K) "__eq__") ["self", "other"] [] (spEqN (CR K)) := by
  obtain ⟨fd, F⟩ := fd_Ratio_eq D
  refine hasN F (F.bindsN fun _ _ _ _ _ _ us hl => match us, hl with | [_, _], _ => rfl) sc_eq (fun vs H Q E h => ?_) (fun cdv A outer s H vs Q E hr h => ?_)
  · obtain ⟨I, a, p, rfl, _⟩ := h; rfl
  · obtain ⟨I, va, p, rfl, s0, ⟨a, dx, rfl, ha⟩, k⟩ := h
    have ha' := s0 _ _ ha
    refine ⟨_, (pss_one (ps_ret (pe_and (pe_callB call_isi rfl (free_isinstance D) (by decide +kernel) (pa_cons (pv 1) (pa_cons (pe_glob (v := .ref (He.ga K "Ratio")) rfl (glo_Ratio D) rfl) pa_nil))) (pe_and (pe_cmpR op_eq (pe_fld (pv 0) rfl) (pe_fld (pv 1) rfl) (nomark _)) (pe_one (pe_cmpR op_eq (pe_fld (pv 0) rfl) (pe_fld (pv 1) rfl) (nomark _))))))), ?_⟩
    exact ⟨_, rfl, _, _, _, _, false, rfl,   .own _, .base .non, kitN_Ratio D, _, rfl, iteF k⟩
def DNon (C : Addr) : Eqb := fun x y b H => y = .non ∧ ((x = .non ∧ b = true) ∨ ∃ a dx q, x = .ref a ∧ H a = some (.ins C dx (rf q)) ∧ b = false)
theorem dnon_mon {C : Addr} : MonB (DNon C) := fun x y b H H' e ⟨hy, h⟩ => ⟨hy, h.elim .inl fun ⟨a, dx, q, hx, h1, hb⟩ => .inr ⟨a, dx, q, hx, e _ _ h1, hb⟩⟩
theorem non_eqB {X : Cx} (hK : X.K = K) (D : Dt K mg) (h : Has X.prog X.w X.K X.mg X.base 1 (He.ma K (CR K) "__eq__") ["self", "other"] [] (spEqN (CR K))) : EqB X 1 (DNon (CR K)) := by
  subst hK
  obtain ⟨hk, fd, ds, hd, hb, F⟩ := h
  cases hd
  have hm := me_Ratio_eq (K := X.K) D
  refine eqB_non (C := CR X.K) F hb passL hm.at_ hm.fn fun x y r H d => ?_
  obtain ⟨hy, h | ⟨a, dx, q, hx, h1, hr⟩⟩ := d
  · exact ⟨hy, .inl h⟩
  · exact ⟨hy, .inr ⟨a, dx, _, hx, h1, hr, H, _, q, rfl, Same.refl H, ⟨a, dx, rfl, h1⟩, rfl, Ext.rfl'⟩⟩
/-! ### lists of fractions -/
def allR : List Str → Option (List Rat)
  | [] => some []
  | w :: r => match ratioOf w, allR r with
    | some q, some qs => some (q :: qs)
    | _, _ => none
theorem some_inj : ∀ {a b : List Rat}, a.map some = b.map some → a = b
  | [], [], _ => rfl
  | [], _ :: _, h => nomatch h
  | _ :: _, [], h => nomatch h
  | x :: a, y :: b, h => by
    rw [List.map_cons, List.map_cons] at h
    injection h with h1 h2
    injection h1 with h1
    rw [h1, some_inj h2]
theorem allR_some : ∀ {ws : List Str} {qs : List Rat}, allR ws = some qs ↔ ws.map ratioOf = qs.map some
  | [], qs => by
    cases qs <;> simp [allR]
  | w :: r, qs => by
    unfold allR
    cases e1 : ratioOf w with
    | none => cases qs <;> simp [e1]
    | some q =>
      cases e2 : allR r with
      | none =>
        simp only [reduceCtorEq, false_iff]
        intro h
        cases qs with
        | nil => cases h
        | cons a b =>
          rw [List.map_cons, List.map_cons] at h
          injection h with _ h
          rw [allR_some.mpr h] at e2; cases e2
      | some qs' =>
        have := allR_some.mp e2
        cases qs with
        | nil => simp
        | cons a b =>
          simp only [List.map_cons, e1, this, Option.some.injEq, List.cons.injEq]
          constructor
          · rintro ⟨rfl, rfl⟩; exact ⟨rfl, rfl⟩
          · rintro ⟨rfl, h⟩
            exact ⟨rfl, some_inj h⟩
theorem allR_none : ∀ {ws : List Str}, allR ws = none ↔ none ∈ ws.map ratioOf
  | [] => by simp [allR]
  | w :: r => by
    unfold allR
    rw [List.map_cons, List.mem_cons]
    cases e1 : ratioOf w with
    | none => simp
    | some q =>
      rw [← allR_none]
      cases e2 : allR r <;> simp
def ratiosOf (ws : List Str) (many : Nat) : Option (List Rat) := if ws.length = many then allR ws else none
theorem rtx_len {q : Rat} (h1 : q.num.natAbs ≤ MP) (h2 : q.den ≤ MP) : (rtx q).length ≤ 130 := by
  have hMP : MP < 10 ^ 60 := by decide +kernel
  have l1 : (TL.numL q.num.natAbs).length ≤ 60 := TL.numL_len (by decide) (by omega)
  have l2 : (TL.numL q.den).length ≤ 60 := TL.numL_len (by decide) (by omega)
  rw [TL.len_tl, tl_rtx, List.length_append, List.length_append]
  have : ((if q.num < 0 then [45] else []) : List Nat).length ≤ 1 := by split <;> simp
  have : ((if q.den = 1 then [] else 47 :: TL.numL q.den) : List Nat).length ≤ 61 := by split <;> simp <;> omega
  omega
def Wide (q : Rat) : Prop := q.num.natAbs ≤ MP ∧ q.den ≤ MP
theorem Wide.few {q : Rat} (h : Wide q) : Few q.num ∧ Few (q.den : Int) := by
  have hMP : MP < 10 ^ 64 := by decide +kernel
  obtain ⟨h1, h2⟩ := h
  constructor
  · show q.num.natAbs < 10 ^ 64; omega
  · show ((q.den : Nat) : Int).natAbs < 10 ^ 64; omega
def spRLine (C : Addr) : Sp := fun vs H Q _ => ∃ (I : Hp) (v : V) (qs : List Rat), vs = [v] ∧ Same I H ∧ iL (iR C) I v qs ∧ (∀ q ∈ qs, Wide q) ∧ qs.length ≤ 100 ∧ ∀ I' H', Gr [] I H I' H' → Q (.str (jn (qs.map rtx))) H'
theorem sc__ratios_line : FnScope ["ratios", "ratio"] ["ratios"] (defScope s__ratios_line) := ⟨rfl, rfl, rfl, by decide +kernel, rfl, by decide +kernel, by decide +kernel⟩
theorem ok_rline (D : Dt K mg) : Has P w K mg base 6 (He.ga K "_ratios_line") ["ratios"] [] (spRLine (CR K)) := by
  obtain ⟨fd, F⟩ := fd__ratios_line D
  have H_Ratio_str := ok_str (P := P) (w := w) (base := base) D
  refine hasN F (F.bindsN fun _ _ _ _ _ _ us hl => match us, hl with | [_], _ => rfl) sc__ratios_line (fun vs H Q E h => ?_) (fun cdv A outer s H vs Q E hr h => ?_)
  · obtain ⟨I, v, qs, rfl, _⟩ := h; rfl
  · obtain ⟨I, v, qs, rfl, s0, rv, hw, hn, k⟩ := h
    refine ⟨_, (pss_one (ps_ret (pe_bm PySem.F.plainAttrs_str PySem.F.slot_str_join PySem.F.type_str_join mt_join pe_str (pa_cons (pe_lc (own := [("ratio", 1)]) (g := gName 1) rfl sc__ratios_line.nd (pi_listK K (pv 0)) (blkOk_by (own := [("ratio", 1)]) (N := ["ratios", "ratio"]) (by kernel_rfl)) (fun _ _ _ _ _ => (pg_name (i := 1) sc__ratios_line.nd rfl (Or.inl rfl))) (fun _ _ _ _ _ => pts_nil) (fun _ _ _ _ _ => (pe_callTy (call_strOwnH H_Ratio_str (hr.mono (by omega)) passL (me_Ratio_str (K := K) D)) rfl (free_str D) (by decide +kernel) (pa_cons (pv 1) pa_nil)))) pa_nil)))), ?_⟩
    obtain ⟨a, vs, rfl, ha, a2⟩ := rv
    have hl := a2.len
    refine ⟨rfl, _, rfl, a, rfl, ⟨_, SqL.of (s0 _ _ ha)⟩, fun l hD => lc_map (R := iR (CR K)) (Sy := iS) rtx (wk_list ha) a2 s0 hD (lt_line (by omega)) (fun i q I1 H1 Nx Qk hi rq s1 s2 kk => ?_) (fun I1 H1 g1 r1 => ?_)⟩
    · have hw' := hw q (List.mem_of_getElem? hi)
      obtain ⟨f1, f2⟩ := hw'.few
      obtain ⟨x, dx, ex, hx⟩ := id rq
      rw [ex]
      refine ⟨rfl, _, rfl, x, dx, _, rfl, s2 _ _ hx, I1, _, q, rfl, s2, ⟨x, dx, rfl, hx⟩, f1, f2, ⟨_, rfl⟩, ?_⟩
      exact kk _ _ _ (Gr.refl s2) rfl
    · obtain ⟨b, ys, eb, hb, b2⟩ := r1
      cases eb
      rw [b2.strs] at hb
      refine ⟨" ", l, qs.map rtx, rfl, rfl, .inl (SqL.of (g1.ih _ _ hb)), ?_, k _ _ g1⟩
      have hh : ∀ l : List Rat, (∀ q ∈ l, Wide q) → ((l.map rtx).map (·.length)).sum ≤ l.length * 130 := by
        intro l
        induction l with
        | nil => intro _; simp
        | cons q r ih =>
          intro hq
          have h1 := hq q List.mem_cons_self
          have h2 := rtx_len h1.1 h1.2
          have h3 := ih fun x hx => hq x (List.mem_cons_of_mem _ hx)
          simp only [List.map_cons, List.sum_cons, List.length_cons]
          omega
      have h4 := hh qs hw
      have h5 : (" " : Str).length = 1 := by decide +kernel
      rw [h5, List.length_map]
      omega
/-- None, or a list of fractions -/
def iRs (C : Addr) : Rp (Option (List Rat)) := fun H v o => match o with
  | none => v = .non
  | some qs => iL (iR C) H v qs
instance {C : Addr} : Mono (iRs C) := ⟨fun {H H' v o} s h => by cases o with
  | none => exact h
  | some q => exact up (R := iL (iR C)) s h⟩
theorem all2_some {C : Addr} {H : Hp} : ∀ {ys : List V} {qs : List Rat}, All2 (iRO C H) ys (qs.map some) → All2 (iR C H) ys qs
  | [], [], _ => .nil
  | y :: ys, q :: qs, .cons h t => .cons h (all2_some t)
def spRatios (C : Addr) : Sp := fun vs H Q _ => ∃ (I : Hp) (v : V) (ws : List Str) (many : Nat), vs = [v, .int (many : Int)] ∧ Same I H ∧ iL iS I v ws ∧ (∀ z ∈ ws, z.length + 2 ≤ sizeLine) ∧ ws.length ≤ 1000 ∧ Ret [] I H (iRs C) (ratiosOf ws many) Q
theorem sc__ratios : FnScope ["words", "many", "found", "word"] ["words", "many"] (defScope s__ratios) := ⟨rfl, rfl, rfl, by decide +kernel, rfl, by decide +kernel, by decide +kernel⟩
theorem ok_ratios (D : Dt K mg) : Has P w K mg base 7 (He.ga K "_ratios") ["words", "many"] [] (spRatios (CR K)) := by
  obtain ⟨fd, F⟩ := fd__ratios D
  have H_ratio_of := ok_ratio_of (P := P) (w := w) (base := base) D
  refine hasN F (F.bindsN fun _ _ _ _ _ _ us hl => match us, hl with | [_, _], _ => rfl) sc__ratios (fun vs H Q E h => ?_) (fun cdv A outer s H vs Q E hr h => ?_)
  · obtain ⟨I, v, ws, many, rfl, _⟩ := h; rfl
  · obtain ⟨I, v, ws, many, rfl, s0, rv, hw, hn, k⟩ := h
    refine ⟨_, (pss_cons (ps_setLc (own := [("word", 3)]) (g := gName 3) (i := 2) rfl sc__ratios.nd rfl rfl (sw_true rfl rfl rfl (by decide +kernel)) (pi_listK K (pv 0)) (blkOk_by (own := [("word", 3)]) (N := ["words", "many", "found", "word"]) (by kernel_rfl)) (fun _ _ _ _ _ => (pg_name (i := 3) sc__ratios.nd rfl (Or.inl rfl))) (fun _ _ _ _ _ => pts_nil) (fun _ _ _ _ _ => (pe_callH H_ratio_of (hr.mono (by omega)) rfl (glo_ratio_of D) passL (pa_cons (pv 3) pa_nil))))
      (pss_one (ps_ret (pe_ifExp (PW.pt (pw_and (pt_cmpR op_eq (pe_callB (call_lenK K) rfl (free_len D) PySem.boot_len (pa_cons (pv 2) pa_nil)) (pv 1) (nomark _)) (pw_and1 (pt_cmpR (op_notInB dnon_mon (non_eqB (K := K) rfl D (ok_eqN D)) (hr.mono (by omega))) pe_non (pv 2) rfl)))) (pv 2) pe_non)))), ?_⟩
    obtain ⟨a, vs, rfl, ha, a2⟩ := rv
    have hl := a2.len
    (try dsimp only)
    refine seq_cut (fun σ' H1 => ∃ (I1 : Hp) (l : Addr) (ys : List V), σ' = [some (.ref a), some (.int many), some (.ref l), none] ∧ Gr [] I H I1 H1 ∧ I1 l = some (.lst ys) ∧ All2 (iRO (CR K) I1) ys (ws.map ratioOf)) (fun nx q => ?_) ?_
    · refine ⟨_, rfl, a, rfl, ⟨_, SqL.of (s0 _ _ ha)⟩, fun l hD => lc_map (R := iS) (Sy := iRO (CR K)) ratioOf (wk_list ha) a2 s0 hD (lt_line (by omega)) (fun i z I1 H1 Nx Qk hi rz s1 s2 kk => ?_) (fun I1 H1 g1 r1 => ?_)⟩
      · refine ⟨rfl, _, rfl, I1, z, ?_, s2, hw z (List.mem_of_getElem? hi), fun I2 H2 v2 g2 r2 => kk _ _ _ g2 r2⟩
        rw [show gv vs i = V.str z from rz]; rfl
      · obtain ⟨b, ys, eb, hb, b2⟩ := r1
        cases eb
        exact q _ _ ⟨I1, l, ys, rfl, g1, hb, b2⟩
    rintro σ' H1 ⟨I1, l, ys, rfl, g1, hb, b2⟩
    have hb' := g1.ih _ _ hb
    have lb := b2.len
    rw [List.length_map] at lb
    have kN : ratiosOf ws many = none → ∀ H2, Gr [] I1 H1 I1 H2 → Q .non H2 := fun e H2 g => k _ _ .non (g1.trans g) (show iRs (CR K) I1 .non (ratiosOf ws many) by rw [e]; rfl)
    refine ⟨_, rfl, _, ys.length, rfl, .inl ⟨_, SqL.of hb', rfl⟩, _, rfl, rfl, _, rfl, ifD (fun c => ?_) (fun c => ?_)⟩
    · have c' : ws.length = many := by
        have : (ys.length : Int) = many := by simpa using c
        omega
      have er : ratiosOf ws many = allR ws := by unfold ratiosOf; rw [if_pos c']
      refine ⟨_, rfl, l, ys, fun i => decide ((ws.map ratioOf)[i]? = some none), rfl, hb', fun i z hz => ?_, fun H2 e => ⟨_, rfl, ?_⟩⟩
      · obtain ⟨o, ho, ro⟩ := b2.get hz
        refine ⟨rfl, ?_⟩
        cases o with
        | none => exact .inl ⟨ro, by simp [ho]⟩
        | some q =>
          obtain ⟨x, dx, ex, hx⟩ := ro
          exact .inr ⟨x, dx, q, ex, g1.ih _ _ hx, by simp [ho]⟩
      have g2 := gr_ext g1.ih e
      have ea : (List.range ys.length).any (fun i => decide ((ws.map ratioOf)[i]? = some none)) = decide (none ∈ ws.map ratioOf) := by
        rw [Bool.eq_iff_iff, decide_eq_true_iff, List.any_eq_true]
        constructor
        · rintro ⟨i, hi, h⟩
          exact List.mem_of_getElem? (of_decide_eq_true h)
        · intro h
          obtain ⟨i, hi, h⟩ := List.getElem_of_mem h
          refine ⟨i, List.mem_range.mpr (by rw [List.length_map] at hi; omega), decide_eq_true ?_⟩
          rw [List.getElem?_eq_getElem hi, h]
      rw [if_pos rfl, ea]
      refine ifB (fun c2 => ?_) (fun c2 => ?_)
      · have c3 : none ∉ ws.map ratioOf := by simpa using c2
        cases e2 : allR ws with
        | none => exact absurd (allR_none.mp e2) c3
        | some qs =>
          have e3 := allR_some.mp e2
          rw [e3] at b2
          have ee : iRs (CR K) I1 (.ref l) (some qs) := ⟨l, ys, rfl, hb, all2_some b2⟩
          exact ⟨_, rfl, k _ _ _ (g1.trans g2) (by rw [er, e2]; exact ee)⟩
      · have c3 : none ∈ ws.map ratioOf := by simpa using c2
        exact kN (by rw [er]; exact allR_none.mpr c3) _ g2
    · have c' : ¬ ws.length = many := fun y => c (by rw [← y, lb])
      exact kN (by unfold ratiosOf; rw [if_neg c']) _ (Gr.refl g1.ih)
end
end K

set_option Elab.async false
set_option linter.all false
set_option maxRecDepth 100000
set_option maxHeartbeats 4000000
namespace Tk
open PySem PySem.Spec PyProof.Rows L2
theorem sl_tupAK {X : Cx} (K : PySem.W.Frag) (hK : X.K = K := by rfl) : SlR X (rSlA K) := hK ▸ sl_tupA
section
variable {K : PySem.W.Frag} {I H : Hp} {a b : Addr} {xs ys : List V} {Q : VK}
theorem catA_of (s : Same I H) (ha : I a = some (.tup xs)) (hb : I b = some (.tup ys)) (hl : xs.length + ys.length ≤ sizeLine) (k : ∀ I' H' c, Gr [] I H I' H' → I' c = some (.tup (xs ++ ys)) → Q (.ref c) H') : rCatA K (.ref a) (.ref b) H Q := by
  refine ⟨a, b, xs, ys, rfl, rfl, SqT.of (s _ _ ha), SqT.of (s _ _ hb), hl, fun e => ?_, fun _ e => ?_, fun _ _ p hp => ?_⟩
  · exact k I H b (Gr.refl s) (by rw [e]; exact hb)
  · exact k I H a (Gr.refl s) (by rw [e, List.append_nil]; exact ha)
  · exact k _ _ p (Gr.new s hp) upd_same
theorem slA_of {lo hi : Option Int} (s : Same I H) (ha : I a = some (.tup xs)) (k : ∀ I' H' c, Gr [] I H I' H' → I' c = some (.tup (cutV xs lo hi)) → Q (.ref c) H') : rSlA K (.ref a) lo hi H Q := by
  refine ⟨a, xs, rfl, SqT.of (s _ _ ha), fun e => ?_, fun _ p hp => ?_⟩
  · refine k I H a (Gr.refl s) ?_
    unfold cutV
    rw [e.1, e.2, List.drop_zero, Nat.sub_zero, List.take_length]
    exact ha
  · exact k _ _ p (Gr.new s hp) upd_same
theorem cut_lo {xs : List V} {n : Nat} (h : n ≤ xs.length) : cutV xs none (some (n : Int)) = xs.take n := by
  unfold cutV
  rw [HT.sIx_none, HT.sIx_nat, List.drop_zero, Nat.sub_zero, Nat.min_eq_left h]
theorem cut_hi {xs : List V} {n : Nat} (h : n ≤ xs.length) : cutV xs (some (n : Int)) none = xs.drop n := by
  unfold cutV
  rw [HT.sIx_none, HT.sIx_nat, Nat.min_eq_left h, List.take_of_length_le (by rw [List.length_drop]; omega)]
theorem cut_last {xs : List V} (h : xs ≠ []) : cutV xs none (some (-1)) = xs.dropLast := by
  have : 0 < xs.length := List.length_pos_iff.mpr h
  have e : HT.sIx xs.length xs.length (some (-1)) = xs.length - 1 := by
    show (if (-1 : Int) < 0 then ((-1 : Int) + (xs.length : Int)).toNat else min (-1 : Int).toNat xs.length) = _
    rw [if_pos (by decide)]; omega
  unfold cutV
  rw [e, HT.sIx_none, List.dropLast_eq_take, Nat.sub_zero]; rfl
theorem set_cut {α : Type} : ∀ {xs : List α} {n : Nat} {v : α}, n < xs.length → xs.take n ++ [v] ++ xs.drop (n + 1) = xs.set n v
  | [], _, _, h => by simp at h
  | x :: r, 0, v, _ => by simp
  | x :: r, n + 1, v, h => by
    have := set_cut (xs := r) (n := n) (v := v) (by simpa using h)
    simpa using this
theorem last_cut {α : Type} : ∀ {xs : List α} {v : α}, xs ≠ [] → xs.dropLast ++ [v] = xs.set (xs.length - 1) v
  | [], _, h => (h rfl).elim
  | [x], v, _ => rfl
  | x :: y :: r, v, _ => by
    have := last_cut (xs := y :: r) (v := v) (by simp)
    simpa using this
end
end Tk

namespace Tk
open PySem PySem.Spec PyProof.Rows L2
theorem op_leS {X : Cx} : OpR X (compareOp .LtE) (fun x y H Q => ∃ i j, x = .str i ∧ y = .str j ∧ Q (.bl (!decide (j.cps.toList < i.cps.toList))) H) := by
  intro pins s σ H x y v u Q I rx ry h
  obtain ⟨i, j, rfl, rfl, q⟩ := h
  obtain ⟨t, rfl⟩ := rx
  obtain ⟨t', rfl⟩ := ry
  exact P.le_str (fin_bl I q rfl)
theorem pt_din {X : Cx} {i o : Expr} {pos : Pos} {ty td : TE} (hu : X.A.units + 1 < cLine) (hi : PE X i ty) (ho : PE X o td) (h1 : behindInMarks CmpOp.In o = false := by rfl) : PT X (.Compare i [.In] [o] pos) (tB (tDIn ty td)) := pt_cmp (pc_din hu hi ho) h1
theorem wk_str {x : Str} {I : Hp} : Wk (Its x) x.cps.size (fun i => .str ⟨#[x.cps.getD i 0]⟩) I :=
  ⟨fun i H _ hi => hi, fun H _ => Nat.le_refl _, fun i H v H' _ hi y => by
    obtain ⟨e, c, hc, rfl⟩ := y
    refine ⟨?_, e⟩
    rw [Array.getD_eq_getD_getElem?, hc]; rfl⟩
end Tk

set_option Elab.async false
set_option linter.all false
set_option maxRecDepth 100000
set_option maxHeartbeats 4000000
set_option exponentiation.threshold 5000
namespace Rd
open PySem PyProof.Rows TL Tk L2
def cutW (ws : List Str) (lo hi : Option Int) : List Str := (ws.drop (HT.sIx ws.length 0 lo)).take (HT.sIx ws.length ws.length hi - HT.sIx ws.length 0 lo)
theorem cutW_map {ws : List Str} {lo hi : Option Int} : cutV (ws.map V.str) lo hi = (cutW ws lo hi).map V.str := by
  unfold cutV cutW
  rw [List.length_map, ← List.map_drop, ← List.map_take]
theorem cutW_le {ws : List Str} {lo hi : Option Int} : (cutW ws lo hi).length ≤ ws.length := by
  unfold cutW; rw [List.length_take, List.length_drop]; omega
theorem cutW_lo {ws : List Str} {a : Nat} {x : Int} (h : x = (a : Int)) : (cutW ws none (some x)).length ≤ a := by
  subst h; unfold cutW; rw [HT.sIx_none, HT.sIx_nat, List.length_take]; omega
theorem cutW_hi {ws : List Str} {a : Nat} {x : Int} (h : x = (a : Int)) : (cutW ws (some x) none).length = ws.length - a := by
  subst h; unfold cutW; rw [HT.sIx_none, HT.sIx_nat, List.length_take, List.length_drop]; omega
theorem cutW_mid {ws : List Str} {a b : Nat} {x y : Int} (hx : x = (a : Int)) (hy : y = (b : Int)) : (cutW ws (some x) (some y)).length ≤ b - a := by
  subst hx hy; unfold cutW; rw [HT.sIx_nat, HT.sIx_nat, List.length_take, List.length_drop]; omega
theorem cutW_take {ws : List Str} {a : Nat} : cutW ws none (some (a : Int)) = ws.take a := by
  unfold cutW; rw [HT.sIx_none, HT.sIx_nat, List.drop_zero, Nat.sub_zero]
  rcases Nat.le_total a ws.length with h | h
  · rw [Nat.min_eq_left h]
  · rw [Nat.min_eq_right h, List.take_length, List.take_of_length_le h]
theorem cutW_drop {ws : List Str} {a : Nat} : cutW ws (some (a : Int)) none = ws.drop a := by
  unfold cutW; rw [HT.sIx_none, HT.sIx_nat]
  rcases Nat.le_total a ws.length with h | h
  · rw [Nat.min_eq_left h, List.take_of_length_le (by rw [List.length_drop]; omega)]
  · rw [Nat.min_eq_right h, List.drop_eq_nil_of_le h]; simp
end Rd
namespace K
open PySem PySem.Spec PyProof.Rows L2 Tk Hd Rd Mt TL
section
variable {P : Program} {w : World} {K : PySem.W.Frag} {mg : Str → Option Value} {base : Heap}
/-! ### numbers or None -/
theorem inV_none' : ∀ os : List (Option Nat), inV .non (os.map oInt) = decide (none ∈ os) ∧ (os.map oInt).all flatV = true
  | [] => ⟨rfl, rfl⟩
  | o :: r => by
    obtain ⟨h1, h2⟩ := inV_none' r
    rw [List.map_cons, inV, List.any_cons, List.all_cons, h2, show ((r.map oInt).any fun y => eqV y .non) = inV .non (r.map oInt) from rfl, h1]
    cases o with
    | none => exact ⟨by simp [eqV, oInt], rfl⟩
    | some n => exact ⟨by simp [eqV, oInt], rfl⟩
theorem inV_int (i : Nat) : ∀ ks : List Nat, inV (.int (i : Int)) (ks.map fun k : Nat => V.int (k : Int)) = decide (i ∈ ks) ∧ (ks.map fun k : Nat => V.int (k : Int)).all flatV = true
  | [] => ⟨rfl, rfl⟩
  | o :: r => by
    obtain ⟨h1, h2⟩ := inV_int i r
    rw [List.map_cons, inV, List.any_cons, List.all_cons, h2, show ((r.map fun k : Nat => V.int (k : Int)).any fun y => eqV y (.int (i : Int))) = inV (.int (i : Int)) (r.map fun k : Nat => V.int (k : Int)) from rfl, h1]
    refine ⟨?_, rfl⟩
    by_cases h : i = o
    · subst h; simp [eqV]
    · have e : eqV (V.int (o : Int)) (V.int (i : Int)) = false := by
        have : ¬ (o = i) := fun z => h z.symm
        simp [eqV]; omega
      rw [e, Bool.false_or]
      simp [h]
def allN (m : Nat) : List Str → Option (List Nat)
  | [] => some []
  | w :: r => match numOf w m, allN m r with
    | some q, some qs => some (q :: qs)
    | _, _ => none
theorem allN_some {m : Nat} : ∀ {ws : List Str} {qs : List Nat}, allN m ws = some qs ↔ ws.map (numOf · m) = qs.map some
  | [], qs => by cases qs <;> simp [allN]
  | w :: r, qs => by
    unfold allN
    cases e1 : numOf w m with
    | none => cases qs <;> simp [e1]
    | some q =>
      cases e2 : allN m r with
      | none =>
        simp only [reduceCtorEq, false_iff]
        intro h
        cases qs with
        | nil => cases h
        | cons a b =>
          rw [List.map_cons, List.map_cons] at h
          injection h with _ h
          rw [allN_some.mpr h] at e2; cases e2
      | some qs' =>
        have := allN_some.mp e2
        cases qs with
        | nil => simp
        | cons a b =>
          simp only [List.map_cons, e1, this, Option.some.injEq, List.cons.injEq]
          constructor
          · rintro ⟨rfl, rfl⟩; exact ⟨rfl, rfl⟩
          · rintro ⟨rfl, h⟩
            refine ⟨rfl, ?_⟩
            have inj : ∀ {a b : List Nat}, a.map some = b.map some → a = b := by
              intro a
              induction a with
              | nil => intro b hb; cases b with
                | nil => rfl
                | cons _ _ => cases hb
              | cons x a ih => intro b hb; cases b with
                | nil => cases hb
                | cons y b =>
                  rw [List.map_cons, List.map_cons] at hb
                  injection hb with h1 h2
                  injection h1 with h1
                  rw [h1, ih h2]
            exact inj h
theorem allN_none {m : Nat} : ∀ {ws : List Str}, allN m ws = none ↔ none ∈ ws.map (numOf · m)
  | [] => by simp [allN]
  | w :: r => by
    unfold allN
    rw [List.map_cons, List.mem_cons]
    cases e1 : numOf w m with
    | none => simp
    | some q =>
      rw [← allN_none]
      cases e2 : allN m r <;> simp
def iO : Rp (Option Nat) := fun _ v o => v = oInt o
instance : Mono iO := ⟨fun _ h => h⟩
theorem all2_oInt {H : Hp} : ∀ {ys : List V} {os : List (Option Nat)}, All2 (iO H) ys os → ys = os.map oInt
  | [], [], _ => rfl
  | y :: ys, o :: os, .cons h t => by rw [List.map_cons, ← all2_oInt t, h]
theorem all2_iN {H : Hp} : ∀ {ys : List V} {ns : List Nat}, All2 (iN H) ys ns → ys = ns.map fun k : Nat => V.int (k : Int)
  | [], [], _ => rfl
  | y :: ys, o :: os, .cons h t => by rw [List.map_cons, ← all2_iN t, h]
theorem da_inj : ∀ {a b : List Nat}, a.map (fun k : Nat => Da.int (k : Int)) = b.map (fun k : Nat => Da.int (k : Int)) → a = b
  | [], [], _ => rfl
  | [], _ :: _, h => nomatch h
  | _ :: _, [], h => nomatch h
  | x :: a, y :: b, h => by
    rw [List.map_cons, List.map_cons] at h
    injection h with h1 h2
    injection h1 with h1
    rw [da_inj h2, show x = y from by omega]
section
variable {I H : Hp} {a b : Addr} {xs ys : List Str} {Q : VK}
theorem slL_of {lo hi : Option Int} (s : Same I H) (ha : I a = some (.lst (xs.map V.str))) (k : ∀ I' H' c, Gr [] I H I' H' → I' c = some (.lst ((cutW xs lo hi).map V.str)) → Q (.ref c) H') : rSlL K (.ref a) lo hi H Q :=
  ⟨a, _, rfl, SqL.of (s _ _ ha), fun p hp => k _ _ p (Gr.new s hp) (by rw [upd_same, cutW_map])⟩
theorem catL_of (s : Same I H) (ha : I a = some (.lst (xs.map V.str))) (hb : I b = some (.lst (ys.map V.str))) (hl : xs.length + ys.length ≤ 10000000) (k : ∀ I' H' c, Gr [] I H I' H' → I' c = some (.lst ((xs ++ ys).map V.str)) → Q (.ref c) H') : rCat (.ref a) (.ref b) H Q :=
  ⟨a, b, _, _, rfl, rfl, s _ _ ha, s _ _ hb, Nat.le_trans (by rw [List.length_map, List.length_map]; exact hl) (by decide), fun p hp => k _ _ p (Gr.new s hp) (by rw [upd_same, List.map_append])⟩
end
theorem iL_strs {I : Hp} {v : V} {ws : List Str} (h : iL iS I v ws) : ∃ a, v = .ref a ∧ I a = some (.lst (ws.map V.str)) := by
  obtain ⟨a, vs, rfl, ha, a2⟩ := h
  exact ⟨a, rfl, by rw [← a2.strs]; exact ha⟩
theorem strs_iL {I : Hp} {a : Addr} {ws : List Str} (h : I a = some (.lst (ws.map V.str))) : iL iS I (.ref a) ws := ⟨a, _, rfl, h, All2.ofStrs ws⟩
theorem dR_strs {H : Hp} {a : Addr} {ws : List Str} (h : H a = some (.lst (ws.map V.str))) (hw : ∀ z ∈ ws, PyData.strOk z = true) : dR H (.ref a) (.lst (ws.map Da.str)) ∧ Tk.plain (.lst (ws.map Da.str)) = true ∧ dep (.lst (ws.map Da.str)) ≤ 1 := by
  have h1 : ∀ ws : List Str, dRs H (ws.map V.str) (ws.map Da.str) := by
    intro ws
    induction ws with
    | nil => simp [dRs]
    | cons k r ih => simp only [List.map_cons, dRs]; exact ⟨_, _, rfl, by simp [dR], ih⟩
  have h3 : ∀ ws : List Str, deps (ws.map Da.str) = 0 := by
    intro ws
    induction ws with
    | nil => simp [deps]
    | cons k r ih => simp [deps, dep, ih]
  have h4 : ∀ ws : List Str, (∀ z ∈ ws, PyData.strOk z = true) → plains (ws.map Da.str) = true := by
    intro ws
    induction ws with
    | nil => intro _; simp [plains]
    | cons k r ih =>
      intro hw
      simp only [List.map_cons, plains, Tk.plain]
      rw [hw k List.mem_cons_self, ih fun z hz => hw z (List.mem_cons_of_mem _ hz)]; rfl
  refine ⟨?_, ?_, ?_⟩
  · simp only [dR]; exact ⟨a, _, rfl, h, h1 ws⟩
  · simp only [Tk.plain]; exact h4 ws hw
  · simp only [dep]; rw [h3]; decide
theorem da_strs : ∀ {a b : List Str}, a.map Da.str = b.map Da.str → a = b
  | [], [], _ => rfl
  | [], _ :: _, h => nomatch h
  | _ :: _, [], h => nomatch h
  | x :: a, y :: b, h => by
    rw [List.map_cons, List.map_cons] at h
    injection h with h1 h2
    injection h1 with h1
    rw [da_strs h2, h1]
theorem dec_ok (n : Nat) : PyData.strOk (dec n) = true := by
  unfold PyData.strOk
  rw [← Array.all_toList, List.all_eq_true]
  intro c hc
  have := numL_no (n := n) (c := c) (by rw [← tl_dec]; exact hc)
  simp; omega
theorem ratiosOf_len {ws : List Str} {m : Nat} {qs : List Rat} (h : ratiosOf ws m = some qs) : qs.length = ws.length := by
  unfold ratiosOf at h
  split at h
  · have := congrArg List.length (allR_some.mp h)
    rw [List.length_map, List.length_map] at this
    exact this.symm
  · cases h
theorem log100 {st : Nat} (hf : st ≤ 100) : ((st : Int)).natAbs.log2 < 1920 := by
  rw [Int.natAbs_natCast]
  by_cases h0 : st = 0
  · rw [h0]; decide
  · exact (Nat.log2_lt h0).mpr (Nat.lt_of_le_of_lt hf (by decide +kernel))
theorem dec100 {st : Nat} (hf : st ≤ 100) : (dec st).length ≤ 3 := by rw [TL.len_tl, tl_dec]; exact TL.numL_len (by decide) (by omega)
theorem sum_le {l : List Str} {b : Nat} (h : ∀ z ∈ l, z.length ≤ b) : (l.map (·.length)).sum ≤ l.length * b := by
  induction l with
  | nil => simp
  | cons q r ih =>
    have h1 := h q List.mem_cons_self
    have h3 := ih fun x hx => h x (List.mem_cons_of_mem _ hx)
    simp only [List.map_cons, List.sum_cons, List.length_cons, Nat.succ_mul]
    omega
theorem row_len {qs : List Rat} (hl : qs.length ≤ 100) (hw : ∀ q ∈ qs, Wide q) : (jn (qs.map rtx)).length ≤ 14000 := by
  have h := jn_len (qs.map rtx)
  have h2 := sum_le (l := qs.map rtx) (b := 130) fun z hz => by
    obtain ⟨q, hq, rfl⟩ := List.mem_map.mp hz
    exact rtx_len (hw q hq).1 (hw q hq).2
  rw [List.length_map] at h h2
  split at h <;> omega
def OutE {α : Type} (I H : Hp) (C : Addr) (R : Rp α) (x : Except Nat α) (Q : VK) (E : XK) : Prop := match x with
  | .ok y => Ret [] I H R y Q
  | .error n => RaisedAt [] I H C n E
end
end K

set_option Elab.async false
set_option linter.all false
set_option maxRecDepth 100000
set_option maxHeartbeats 4000000
set_option exponentiation.threshold 5000
namespace Rd
open PySem PyProof.Rows TL Tk
theorem chr_le {a c : Nat} : (!decide ((⟨#[c]⟩ : Str).cps.toList < (⟨#[a]⟩ : Str).cps.toList)) = decide (a ≤ c) := by
  show (!decide ([c] < [a])) = _
  by_cases h : a ≤ c
  · rw [decide_eq_true h, decide_eq_false]; rfl
    intro z
    cases z with
    | rel z => omega
    | cons z => cases z
  · rw [decide_eq_false h, decide_eq_true]; rfl
    exact .rel (by omega)
theorem str_a : ("a" : Str) = ⟨#[97]⟩ ∧ ("z" : Str) = ⟨#[122]⟩ ∧ ("0" : Str) = ⟨#[48]⟩ ∧ ("9" : Str) = ⟨#[57]⟩ := by decide +kernel
end Rd
namespace K
open PySem PySem.Spec PyProof.Rows L2 Tk Hd Rd Mt TL
section
variable {P : Program} {w : World} {K : PySem.W.Frag} {mg : Str → Option Value} {base : Heap}
theorem dv_lt (l : List Nat) : (∀ c ∈ l, 48 ≤ c ∧ c ≤ 57) → dv l < 10 ^ l.length := by
  refine Rd.snocInd (P := fun l => (∀ c ∈ l, 48 ≤ c ∧ c ≤ 57) → dv l < 10 ^ l.length) (fun _ => by decide) (fun l c ih h => ?_) l
  rw [dv_snoc, List.length_append, List.length_singleton, Nat.pow_succ]
  have := ih fun d hd => h d (List.mem_append_left _ hd)
  have := h c (by simp)
  omega
def spLDig : Sp := fun vs H Q _ => ∃ (z : Str) (most : Nat), vs = [.str z, .int (most : Int)] ∧ z.length ≤ sizeLine ∧ 0 < most ∧ most ≤ 60 ∧ Q (oInt (numOf z (10 ^ most - 1))) H
theorem sc__law_digits : FnScope ["word", "most", "char"] ["word", "most"] (defScope s__law_digits) := ⟨rfl, rfl, rfl, by decide +kernel, rfl, by decide +kernel, by decide +kernel⟩
theorem ok_ldig (D : Dt K mg) : Has P w K mg base 1 (He.ga K "_law_digits") ["word", "most"] [] (spLDig) := by
  obtain ⟨fd, F⟩ := fd__law_digits D
  refine hasN F (F.bindsN fun _ _ _ _ _ _ us hl => match us, hl with | [_, _], _ => rfl) sc__law_digits (fun vs H Q E h => ?_) (fun cdv A outer s H vs Q E hr h => ?_)
  · obtain ⟨z, most, rfl, _⟩ := h; rfl
  · obtain ⟨z, most, rfl, hz, hm0, hm, kk⟩ := h
    refine ⟨_, (pss_cons (ps_if (pt_not (pt_chain op_lt op_le pe_int (pe_callB (call_lenK K) rfl (free_len D) PySem.boot_len (pa_cons (pv 0) pa_nil)) (pv 1)))
      (pss_one (ps_ret pe_non))
      pss_nil)
      (pss_cons (ps_for PassesOwn.never rfl (pi_str (pv 0)) (pg_name (i := 2) sc__law_digits.nd rfl (Or.inl rfl))
      (pss_one (ps_if (pt_not (pt_chain op_leS op_leS pe_str (pv 2) pe_str))
      (pss_one (ps_ret pe_non))
      pss_nil)))
      (pss_cons (ps_if (PW.pt (pw_and (pt_cmpR op_eq (pe_ix ix_str (pv 0) pe_int (fun _ _ => rfl)) pe_str (nomark _)) (pw_and1 (pt_cmpR op_gt (pe_callB (call_lenK K) rfl (free_len D) PySem.boot_len (pa_cons (pv 0) pa_nil)) pe_int (nomark _)))))
      (pss_one (ps_ret pe_non))
      pss_nil)
      (pss_one (ps_ret (pe_callTy call_int_str rfl (free_int D) (by decide +kernel) (pa_cons (pv 0) pa_nil))))))), ?_⟩
    have hp : 0 < 10 ^ most := Nat.pow_pos (by decide)
    have hlen : ∀ n, n ≤ 10 ^ most - 1 → z = dec n → z.length ≤ most := fun n hn e => by
      rw [e, TL.len_tl, tl_dec]
      exact TL.numL_len hm0 (by omega)
    refine seq_cut (fun σ' H' => σ' = [some (.str z), some (.int (most : Int)), none] ∧ H' = H ∧ 0 < z.length ∧ z.length ≤ most) (fun nx q => ?_) ?_
    · have no1 : z.length = 0 → numOf z (10 ^ most - 1) = none := fun h => numOf_digs fun y => y.1 (List.eq_nil_of_length_eq_zero (by rw [← TL.len_tl]; exact h))
      have no2 : most < z.length → numOf z (10 ^ most - 1) = none := fun h => numOf_none.mpr fun n hn e => by have := hlen n hn e; omega
      refine ⟨_, rfl, _, z.length, rfl, ⟨hz, rfl⟩, _, _, rfl, rfl, _, rfl, ?_⟩
      refine ifD (fun c => ⟨_, rfl, _, _, rfl, rfl, _, rfl, ?_⟩) (fun c => ⟨_, rfl, ifT rfl ?_⟩)
      · refine ifB (fun c2 => ?_) (fun c2 => q _ _ ⟨rfl, rfl, by omega, by simp at c2; omega⟩)
        rw [no2 (by simp at c2; omega)] at kk
        exact kk
      · rw [no1 (by omega)] at kk
        exact kk
    rintro σ' _ ⟨rfl, rfl, h0, h6⟩
    (try dsimp only)
    refine seq_cut (fun σ' H' => (∃ x3, σ' = [some (.str z), some (.int (most : Int)), x3]) ∧ H' = H' ∧ (∀ c ∈ tl z, 48 ≤ c ∧ c ≤ 57) ∧ Q (oInt (numOf z (10 ^ most - 1))) H') (fun nx q => ?_) ?_
    · refine ⟨_, rfl, z, rfl, ?_⟩
      refine for_wk (wk_str (x := z) (I := fun _ => none)) (fun σ' H' => (∃ x3, σ' = [some (.str z), some (.int (most : Int)), x3]) ∧ H' = H' ∧ (∀ c ∈ tl z, 48 ≤ c ∧ c ≤ 57) ∧ Q (oInt (numOf z (10 ^ most - 1))) H')
        (fun i σ' H' => ∃ x2, σ' = [some (.str z), some (.int (most : Int)), x2] ∧ Q (oInt (numOf z (10 ^ most - 1))) H' ∧ ∀ j c, j < i → (tl z)[j]? = some c → 48 ≤ c ∧ c ≤ 57)
        (fun i σ' H' h => (fun _ _ h => nomatch h)) ⟨none, rfl, kk, fun j c h => absurd h (Nat.not_lt_zero j)⟩ (fun nx2 q2 i σ' H2 hi h => ?_) (fun σ' H2 h => ?_) q
      · obtain ⟨x2, rfl, k2, hj⟩ := h
        have hi' : i < (tl z).length := by show i < z.cps.toList.length; rw [Array.length_toList]; exact hi
        obtain ⟨c, hc⟩ : ∃ c, (tl z)[i]? = some c := ⟨(tl z)[i], List.getElem?_eq_getElem hi'⟩
        have ec : z.cps.getD i 0 = c := by
          have : z.cps[i]? = some c := by rw [← Array.getElem?_toList]; exact hc
          rw [Array.getD_eq_getD_getElem?, this]; rfl
        rw [ec]
        refine ⟨_, rfl, ("0" : Str), (⟨#[c]⟩ : Str), rfl, rfl, _, rfl, ?_⟩
        rw [str_a.2.2.1, chr_le]
        have bad : ¬ (48 ≤ c ∧ c ≤ 57) → numOf z (10 ^ most - 1) = none := fun n => numOf_none.mpr fun m _ a => by
          have hm := List.mem_of_getElem? hc
          rw [a, tl_dec] at hm
          exact n (TL.numL_digits m c hm)
        refine ifD (fun c1 => ⟨(⟨#[c]⟩ : Str), ("9" : Str), rfl, rfl, _, rfl, ?_⟩) (fun c1 => ⟨_, rfl, ifT rfl ?_⟩)
        · rw [str_a.2.2.2, chr_le]
          by_cases c2 : c ≤ 57
          · rw [decide_eq_true c2]
            refine ifF rfl ⟨_, rfl, k2, fun j c' h h' => ?_⟩
            by_cases e : j = i
            · subst e; rw [hc] at h'; cases h'; exact ⟨c1, c2⟩
            · exact hj j c' (by omega) h'
          · rw [decide_eq_false c2]
            refine ifT rfl ?_
            rw [bad (fun z => c2 z.2)] at k2; exact k2
        · rw [bad (fun z => c1 z.1)] at k2; exact k2
      · obtain ⟨x2, rfl, k2, hj⟩ := h
        refine ⟨⟨_, rfl⟩, rfl, fun c hc => ?_, k2⟩
        obtain ⟨j, hj1, hj2⟩ := List.getElem_of_mem hc
        exact hj j c (by show j < z.cps.size; rw [← Array.length_toList]; exact hj1) (by rw [List.getElem?_eq_getElem hj1, hj2])
    rintro σ' H2 ⟨⟨x3, rfl⟩, _, hd, k2⟩
    (try dsimp only)
    have hne : tl z ≠ [] := fun q => by have : z.length = (tl z).length := TL.len_tl z; rw [q] at this; simp at this; omega
    obtain ⟨c0, r0, ez⟩ : ∃ c r, tl z = c :: r := by
      cases q : tl z with
      | nil => exact absurd q hne
      | cons c r => exact ⟨c, r, rfl⟩
    have hint : intText? z = some ((dv (tl z) : Nat) : Int) := PySem.intText_digits (fun c hc => hd c hc) hne (Nat.le_trans (show z.length ≤ 60 by omega) (by decide))
    have hz6 : z.length ≤ 640 := by omega
    have hdv : dv (tl z) ≤ 10 ^ most - 1 := by
      have h1 := dv_lt _ hd
      have h2 : (tl z).length ≤ most := by have : z.length = (tl z).length := TL.len_tl z; omega
      have h3 := Nat.pow_le_pow_right (n := 10) (by decide) h2
      omega
    have hall : (tl z).all isDig = true := List.all_eq_true.mpr fun c hc => isDig_iff.mpr (hd c hc)
    have tail : (c0 ≠ 48 ∨ r0 = []) → Q (.int ((dv (tl z) : Nat) : Int)) H2 := fun hc => by
      rw [numOf_else ez hall hc, if_pos hdv] at k2; exact k2
    have c0' := hd c0 (by rw [ez]; exact List.mem_cons_self)
    have eat : z.cps[0]? = some c0 := by rw [← Array.getElem?_toList]; show (tl z)[0]? = _; rw [ez]; rfl
    have lz : z.length = r0.length + 1 := by rw [TL.len_tl, ez]; rfl
    refine ⟨_, rfl, z, 0, c0, rfl, rfl, hz, (by show atI (tl z) ((0 : Nat) : Int) = some c0; rw [ez]; first | exact atI_nat rfl | simp [atI, ixN]), rfl, _, rfl, ?_⟩
    have e48 : decide (V.str (⟨#[c0]⟩ : Str) = V.str "0") = decide (c0 = 48) := by
      rw [str_a.2.2.1]
      exact decide_eq_decide.mpr ⟨fun h => by injection h with h; injection h with h; simpa using h, fun h => by rw [h]⟩
    dsimp only
    rw [e48]
    refine ifD (fun c => ?_) (fun c => ?_)
    · refine ⟨_, rfl, _, z.length, rfl, ⟨hz, rfl⟩, _, _, rfl, rfl, _, rfl, ifD (fun c2 => ?_) (fun c2 => ?_)⟩
      · have hr : r0 ≠ [] := fun y => by rw [y] at lz; have : (1 : Int) < (z.length : Int) := c2; simp at lz; omega
        subst c
        rw [numOf_lead ez hr] at k2
        exact k2
      · have hr : r0 = [] := List.eq_nil_of_length_eq_zero (by have : ¬ (1 : Int) < (z.length : Int) := c2; omega)
        (try unfold tNext)
        (try dsimp only)
        exact ⟨_, rfl, z, _, rfl, hint, hz6, tail (.inr hr)⟩
    · (try unfold tNext)
      (try dsimp only)
      exact ⟨_, rfl, z, _, rfl, hint, hz6, tail (.inl c)⟩
/-! ### the law's reading of a fraction -/
def iOQ : Rp (Option Rat) := fun H v o => match o with
  | none => v = .non
  | some q => iQ H v q
instance : Mono iOQ := ⟨fun {H H' v o} s h => by cases o with
  | none => exact h
  | some q => exact up (R := iQ) s h⟩
theorem tl_cut_lo (z : Str) (a : Nat) : tl (cutS z none (some (a : Int))) = (tl z).take a := by
  show (((tl z).drop (HT.sIx z.length 0 none)).take (HT.sIx z.length z.length (some (a : Int)) - HT.sIx z.length 0 none)) = _
  rw [HT.sIx_none, HT.sIx_nat, List.drop_zero, Nat.sub_zero, TL.len_tl]
  rcases Nat.le_total a (tl z).length with h | h
  · rw [Nat.min_eq_left h]
  · rw [Nat.min_eq_right h, List.take_length, List.take_of_length_le h]
theorem tl_cut_hi (z : Str) (a : Nat) : tl (cutS z (some (a : Int)) none) = (tl z).drop a := by
  show (((tl z).drop (HT.sIx z.length 0 (some (a : Int)))).take (HT.sIx z.length z.length none - HT.sIx z.length 0 (some (a : Int)))) = _
  rw [HT.sIx_none, HT.sIx_nat, TL.len_tl]
  rcases Nat.le_total a (tl z).length with h | h
  · rw [Nat.min_eq_left h, List.take_of_length_le (by rw [List.length_drop]; omega)]
  · rw [Nat.min_eq_right h, List.drop_eq_nil_of_le h]; simp
theorem spl_le (c : Nat) : ∀ (l acc : List Nat), (∀ p ∈ spl [c] 0 acc l, p.length ≤ acc.length + l.length) ∧ (spl [c] 0 acc l).length ≤ l.length + 1
  | [], acc => by
    rw [spl_nil]
    exact ⟨fun p hp => by rw [List.mem_singleton.mp hp]; simp, by simp⟩
  | d :: r, acc => by
    by_cases e : d = c
    · subst e
      rw [spl_hit (by rw [pre1]; simp)]
      obtain ⟨h1, h2⟩ := spl_le d r []
      have h1' : ∀ p ∈ spl [d] ([d].length - 1) [] r, p.length ≤ 0 + r.length := h1
      have h2' : (spl [d] ([d].length - 1) [] r).length ≤ r.length + 1 := h2
      refine ⟨fun p hp => ?_, by show (spl [d] ([d].length - 1) [] r).length + 1 ≤ (r.length + 1) + 1; omega⟩
      rw [List.length_cons]
      rcases List.mem_cons.mp hp with rfl | hp
      · omega
      · have := h1' p hp; omega
    · rw [spl_miss (by rw [pre1]; simp [e])]
      obtain ⟨h1, h2⟩ := spl_le c r (acc ++ [d])
      refine ⟨fun p hp => ?_, by rw [List.length_cons]; omega⟩
      have := h1 p hp
      rw [List.length_append, List.length_singleton] at this
      rw [List.length_cons]; omega
theorem mem_split_le {y : Str} {c : Nat} (ey : tl y = [c]) (hk : y.cps.all (· < 256) = true) (x : Str) :
    (∀ p ∈ Txt.split x y, p.length ≤ x.length) ∧ (Txt.split x y).length ≤ x.length + 1 := by
  have e := split_spl x y (by rw [ey]; simp) (kind_ok hk)
  rw [ey] at e
  obtain ⟨h1, h2⟩ := spl_le c (tl x) []
  refine ⟨fun p hp => ?_, ?_⟩
  · have := h1 (tl p) (by rw [← e]; exact List.mem_map.mpr ⟨p, hp, rfl⟩)
    rw [TL.len_tl, TL.len_tl]; simp at this; exact this
  · rw [← e, List.length_map] at h2
    rw [TL.len_tl x]; exact h2
theorem rt_one (m : Int) : (rt m 1).num = m ∧ ((rt m 1).den : Int) = 1 := by
  have h1 : (0 : Int) < 1 := by decide
  have g1 : gz m 1 = 1 := by
    have := gz_pos (n := m) h1
    have := gz_le (n := m) h1
    omega
  refine ⟨?_, ?_⟩
  · rw [rt_num h1, g1]; simp
  · rw [rt_den h1, g1]; simp
theorem rt_sgn {n d : Nat} (h1 : (rt n d).num = n) (h2 : ((rt n d).den : Int) = d) (b : Bool) : (rt (if b = true then -(n : Int) else n) d).num = (if b = true then -(n : Int) else n) ∧ ((rt (if b = true then -(n : Int) else n) d).den : Int) = d := by
  cases b with
  | false => exact ⟨h1, h2⟩
  | true =>
    have en : rt (-(n : Int)) d = -(rt n d) := by unfold rt; rw [Rat.neg_divInt]
    show (rt (-(n : Int)) d).num = -(n : Int) ∧ _
    constructor
    · rw [en, Rat.neg_num, h1]
    · show ((rt (-(n : Int)) d).den : Int) = d
      rw [en, Rat.neg_den]; exact h2
def spLRead : Sp := fun vs H Q _ => ∃ (I : Hp) (z : Str), vs = [.str z] ∧ Same I H ∧ z.length + 2 ≤ sizeLine ∧ z.length ≤ 100000 ∧ Ret [] I H iOQ (ratioOf z) Q
theorem sc__law_read : FnScope ["word", "sign", "parts", "numbers", "part"] ["word"] (defScope s__law_read) := ⟨rfl, rfl, rfl, by decide +kernel, rfl, by decide +kernel, by decide +kernel⟩
theorem ok_lread (D : Dt K mg) : Has P w K mg base 3 (He.ga K "_law_read") ["word"] [] (spLRead) := by
  obtain ⟨fd, F⟩ := fd__law_read D
  have H__law_digits := ok_ldig (P := P) (w := w) (base := base) D
  have H__law_less := ok_ls (P := P) (w := w) (base := base) D
  refine hasN F (F.bindsN fun _ _ _ _ _ _ us hl => match us, hl with | [_], _ => rfl) sc__law_read (fun vs H Q E h => ?_) (fun cdv A outer s H vs Q E hr h => ?_)
  · obtain ⟨I, z, rfl, _⟩ := h; rfl
  · obtain ⟨I, z, rfl, s0, hz, hz2, k⟩ := h
    refine ⟨_, (pss_cons (ps_set (i := 1) sc__law_read.nd rfl (Or.inl rfl) pe_int)
      (pss_cons (ps_if (pt_cmpR op_eq (pe_slice sl_str (pv 0) po_none (po_some pe_int)) pe_str (nomark _))
      (pss_cons (ps_set (i := 1) sc__law_read.nd rfl (Or.inl rfl) (pe_un un_neg pe_int))
      (pss_one (ps_set (i := 0) sc__law_read.nd rfl (Or.inl rfl) (pe_slice sl_str (pv 0) (po_some pe_int) po_none))))
      pss_nil)
      (pss_cons (ps_set (i := 2) sc__law_read.nd rfl (Or.inl rfl) (pe_bm PySem.F.plainAttrs_str PySem.F.slot_str_split PySem.F.type_str_split mt_split (pv 0) (pa_cons pe_str pa_nil)))
      (pss_cons (ps_setLc (own := [("part", 4)]) (g := gName 4) (i := 3) rfl sc__law_read.nd rfl rfl (sw_true rfl rfl rfl (by decide +kernel)) (pi_listK K (pv 2)) (blkOk_by (own := [("part", 4)]) (N := ["word", "sign", "parts", "numbers", "part"]) (by kernel_rfl)) (fun _ _ _ _ _ => (pg_name (i := 4) sc__law_read.nd rfl (Or.inl rfl))) (fun _ _ _ _ _ => pts_nil) (fun _ _ _ _ _ => (pe_callH H__law_digits (hr.mono (by omega)) rfl (glo__law_digits D) passL (pa_cons (pv 4) (pa_cons pe_int pa_nil)))))
      (pss_cons (ps_if (PW.pt (pw_or (pt_cmpR (op_in_seqK K) pe_non (pv 3) rfl) (pw_or (pt_cmpR op_gt (pe_callB (call_lenK K) rfl (free_len D) PySem.boot_len (pa_cons (pv 2) pa_nil)) pe_int (nomark _)) (pw_or1 (PW.pt (pw_and (pt_cmpR op_lt (pv 1) pe_int (nomark _)) (pw_and1 (pt_cmpR op_eq (pe_ix (ix_listK K) (pv 3) pe_int (fun _ _ => rfl)) pe_int (nomark _)))))))))
      (pss_one (ps_ret pe_non))
      pss_nil)
      (pss_cons (ps_if (pt_cmpR op_eq (pe_callB (call_lenK K) rfl (free_len D) PySem.boot_len (pa_cons (pv 2) pa_nil)) pe_int (nomark _))
      (pss_one (ps_ret (pe_tup (pa_cons (pe_op op_mulW (pv 1) (pe_ix (ix_listK K) (pv 3) pe_int (fun _ _ => rfl))) (pa_cons pe_int pa_nil)))))
      pss_nil)
      (pss_cons (ps_if (PW.pt (pw_or (pt_cmpR op_lt (pe_ix (ix_listK K) (pv 3) pe_int (fun _ _ => rfl)) pe_int (nomark _)) (pw_or1 (pt_cmpR (op_neDK K hr.units) (pe_callH H__law_less (hr.mono (by omega)) rfl (glo__law_less D) passL (pa_cons (pe_ix (ix_listK K) (pv 3) pe_int (fun _ _ => rfl)) (pa_cons (pe_ix (ix_listK K) (pv 3) pe_int (fun _ _ => rfl)) pa_nil))) (pe_tup (pa_cons (pe_ix (ix_listK K) (pv 3) pe_int (fun _ _ => rfl)) (pa_cons (pe_ix (ix_listK K) (pv 3) pe_int (fun _ _ => rfl)) pa_nil))) (nomark _)))))
      (pss_one (ps_ret pe_non))
      pss_nil)
      (pss_one (ps_ret (pe_tup (pa_cons (pe_op op_mulW (pv 1) (pe_ix (ix_listK K) (pv 3) pe_int (fun _ _ => rfl))) (pa_cons (pe_ix (ix_listK K) (pv 3) pe_int (fun _ _ => rfl)) pa_nil)))))))))))), ?_⟩
    (try dsimp only)
    refine seq_cut (fun σ' H' => H' = H ∧ σ' = [some (.str z), some (.int 1), none, none, none]) (fun nx q => ?_) ?_
    · exact q _ _ ⟨rfl, rfl⟩
    rintro σ' H' ⟨rfl, rfl⟩
    (try dsimp only)
    refine seq_cut (fun σ' H2 => H2 = H' ∧ σ' = [some (.str (bodyOf z)), some (.int (if negW z = true then -1 else 1)), none, none, none]) (fun nx q => ?_) ?_
    · refine ⟨_, rfl, ?_⟩
      (try dsimp only [tNoPart])
      refine ⟨_, rfl, z, rfl, by omega, rfl, _, rfl, ?_⟩
      have eh : decide (V.str (cutS z none (some 1)) = V.str "-") = negW z := by
        rw [head_neg]
        have h1 : tl (cutS z none (some 1)) = (tl z).take 1 := tl_cut_lo z 1
        have h2 : tl ("-" : Str) = [45] := by decide +kernel
        rw [Bool.eq_iff_iff, decide_eq_true_iff]
        constructor
        · intro h
          injection h with h
          rw [h, h2] at h1
          cases q : tl z with
          | nil => rw [q] at h1; cases h1
          | cons c r => rw [q] at h1; simp at h1; simp [h1]
        · intro h
          have : tl (cutS z none (some 1)) = tl ("-" : Str) := by
            rw [h1, h2]
            cases q : tl z with
            | nil => rw [q] at h; cases h
            | cons c r => rw [q] at h; simp at h; simp [h]
          rw [TL.ext_tl this]
      (try dsimp only)
      rw [eh]
      refine ifB (fun c => ?_) (fun c => ?_)
      · refine ⟨_, rfl, _, rfl, ?_⟩
        (try dsimp only [tNoPart])
        refine ⟨_, rfl, z, rfl, by omega, ?_⟩
        have e : cutS z (some 1) none = bodyOf z := TL.ext_tl (by rw [tl_body, if_pos c]; exact tl_cut_hi z 1)
        rw [e]
        exact q _ _ ⟨rfl, by rw [if_pos c]; rfl⟩
      · have e : z = bodyOf z := TL.ext_tl (by rw [tl_body, if_neg (by rw [c]; exact Bool.false_ne_true)])
        refine q _ _ ⟨rfl, ?_⟩
        rw [if_neg (by rw [c]; exact Bool.false_ne_true), ← e]
    rintro σ' H2 ⟨rfl, rfl⟩
    have hbz : (bodyOf z).length ≤ z.length := by
      have h1 := tl_body z
      rw [TL.len_tl, TL.len_tl, h1]
      split <;> simp
    have hMP : 10 ^ 60 - 1 = MP := by decide +kernel
    obtain ⟨pj, pn, px⟩ := split_facts (y := "/") (c := 47) (by decide +kernel) (by decide +kernel) (bodyOf z)
    have hpl : ∀ p ∈ partsOf z, p.length ≤ z.length := fun p hp => by
      have := (mem_split_le (y := "/") (c := 47) (by decide +kernel) (by decide +kernel) (bodyOf z)).1 p hp
      omega
    have hpm : (partsOf z).length ≤ z.length + 1 := by
      have := (mem_split_le (y := "/") (c := 47) (by decide +kernel) (by decide +kernel) (bodyOf z)).2
      show (Txt.split (bodyOf z) "/").length ≤ _
      omega
    (try dsimp only)
    refine seq_cut (fun σ' H3 => ∃ (I3 : Hp) (p : Addr), σ' = [some (.str (bodyOf z)), some (.int (if negW z = true then -1 else 1)), some (.ref p), none, none] ∧ Gr [] I H2 I3 H3 ∧ I3 p = some (.lst ((partsOf z).map V.str))) (fun nx q => ?_) ?_
    · exact ⟨_, rfl, rfl, bodyOf z, _, rfl, rfl, by decide +kernel, by omega, fun p hp => q _ _ ⟨_, p, rfl, Gr.new (o := .lst ((partsOf z).map V.str)) s0 hp, upd_same⟩⟩
    rintro σ' H3 ⟨I3, p, rfl, g3, hp3⟩
    (try dsimp only)
    refine seq_cut (fun σ' H4 => ∃ (I4 : Hp) (n : Addr), σ' = [some (.str (bodyOf z)), some (.int (if negW z = true then -1 else 1)), some (.ref p), some (.ref n), none] ∧ Gr [] I3 H3 I4 H4 ∧ I4 n = some (.lst (((partsOf z).map (numOf · MP)).map oInt))) (fun nx q => ?_) ?_
    · refine ⟨_, rfl, p, rfl, ⟨_, SqL.of (g3.ih _ _ hp3)⟩, fun l hD => lc_map (R := iS) (Sy := iO) (numOf · MP) (wk_list hp3) (All2.ofStrs (partsOf z)) g3.ih hD (Nat.lt_of_le_of_lt (by omega : (partsOf z).length ≤ 100001) (by decide)) (fun i y I1 H1 Nx Qk hi ry s1 s2 kk => ?_) (fun I4 H4 g4 r4 => ?_)⟩
      · refine ⟨rfl, _, rfl, y, 60, ?_, by have := hpl y (List.mem_of_getElem? hi); omega, by decide, by decide, ?_⟩
        · rw [show gv ((partsOf z).map V.str) i = V.str y from ry]; rfl
        · rw [hMP]
          exact kk _ _ _ (Gr.refl s2) rfl
      · obtain ⟨b, ys, eb, hb, b2⟩ := r4
        cases eb
        rw [all2_oInt b2] at hb
        exact q _ _ ⟨I4, l, rfl, g4, hb⟩
    rintro σ' H4 ⟨I4, n, rfl, g4, hn4⟩
    have G := g3.trans g4
    have hp4 := G.ih _ _ (g4.ii _ _ hp3)
    have hn4' := G.ih _ _ hn4
    have kN : ratioOf z = none → ∀ {I5 H5}, Gr [] I4 H4 I5 H5 → Q .non H5 := fun e I5 H5 g => k _ _ .non (G.trans g) (show iOQ I5 .non (ratioOf z) by rw [e]; rfl)
    obtain ⟨i1, i2⟩ := inV_none' ((partsOf z).map (numOf · MP))
    have j3 : (if false = true then !inV V.non (((partsOf z).map (numOf · MP)).map oInt) else inV V.non (((partsOf z).map (numOf · MP)).map oInt)) = decide (none ∈ (partsOf z).map (numOf · MP)) := by
      rw [if_neg (show ¬ false = true by decide)]; exact i1
    obtain ⟨sg, hsg⟩ : ∃ sg : Int, sg = (if negW z = true then -1 else 1) := ⟨_, rfl⟩
    rw [← hsg]
    have sneg : sg < 0 ↔ negW z = true := by rw [hsg]; split <;> simp_all
    (try dsimp only)
    refine seq_cut (fun σ' H5 => σ' = [some (.str (bodyOf z)), some (.int sg), some (.ref p), some (.ref n), none] ∧ H5 = H4 ∧ ∃ p0 n0 t0, partsOf z = p0 :: t0 ∧ numOf p0 MP = some n0 ∧ ¬ (negW z = true ∧ n0 = 0) ∧ (t0 = [] ∨ ∃ r d, t0 = [r] ∧ numOf r MP = some d)) (fun nx q => ?_) ?_
    · refine ⟨_, rfl, n, _, rfl, .inl (SqL.of hn4'), rfl, i2, _, rfl, ?_⟩
      (try dsimp only)
      rw [j3]
      refine ifB (fun c2 => ?_) (fun c2 => ?_)
      · have c3 : none ∈ (partsOf z).map (numOf · MP) := by simpa using c2
        obtain ⟨y, hy, ey⟩ := List.mem_map.mp c3
        exact kN (bad_part hy ey) (Gr.refl G.ih)
      have c3 : none ∉ (partsOf z).map (numOf · MP) := by simpa using c2
      have all : ∀ y ∈ partsOf z, ∃ m, numOf y MP = some m := fun y hy => by
        cases e : numOf y MP with
        | none => exact absurd (List.mem_map.mpr ⟨y, hy, e⟩) c3
        | some m => exact ⟨m, rfl⟩
      refine ⟨_, rfl, _, _, rfl, .inl ⟨_, SqL.of hp4, rfl⟩, _, _, rfl, rfl, _, rfl, ifD (fun c4 => ?_) (fun c4 => ?_)⟩
      · rw [List.length_map] at c4
        exact kN (bad_many (by have : (2 : Int) < ((partsOf z).length : Int) := c4; omega)) (Gr.refl G.ih)
      rw [List.length_map] at c4
      have c5 : (partsOf z).length ≤ 2 := by have : ¬ (2 : Int) < ((partsOf z).length : Int) := c4; omega
      obtain ⟨p0, t0, hps⟩ : ∃ p0 t0, partsOf z = p0 :: t0 := by
        cases e : partsOf z with
        | nil => exact absurd e (parts_ne z)
        | cons a b => exact ⟨a, b, rfl⟩
      obtain ⟨n0, e0⟩ := all p0 (by rw [hps]; exact List.mem_cons_self)
      have ht : t0 = [] ∨ ∃ r d, t0 = [r] ∧ numOf r MP = some d := by
        rw [hps] at c5 all
        match t0, c5, all with
        | [], _, _ => exact .inl rfl
        | [r], _, all => obtain ⟨d, hd⟩ := all r (by simp); exact .inr ⟨r, d, rfl, hd⟩
        | _ :: _ :: _, c5, _ => simp at c5
      have at0 : (((partsOf z).map (numOf · MP)).map oInt)[0]? = some (.int n0) := by rw [hps, List.map_cons, List.map_cons, e0]; rfl
      refine ⟨_, rfl, _, _, rfl, rfl, _, rfl, ifD (fun c6 => ?_) (fun c6 => ?_)⟩
      · have hg : negW z = true := sneg.mp c6
        refine ⟨_, rfl, _, _, _, _, rfl, rfl, SqL.of hn4', at_of (j := 0) rfl at0, rfl, _, rfl, ifD (fun c7 => ?_) (fun c7 => ?_)⟩
        · have : n0 = 0 := by
            have : (n0 : Int) = 0 := by simpa using c7
            omega
          subst this
          exact kN (bad_zero hps e0 hg) (Gr.refl G.ih)
        · exact q _ _ ⟨rfl, rfl, p0, n0, t0, hps, e0, fun y => c7 (by rw [y.2]; rfl), ht⟩
      · exact q _ _ ⟨rfl, rfl, p0, n0, t0, hps, e0, fun y => c6 (sneg.mpr y.1), ht⟩
    rintro σ' H5 ⟨rfl, rfl, p0, n0, t0, hps, e0, hz0, ht⟩
    have esg : ∀ m : Nat, sg * (m : Int) = if negW z = true then -(m : Int) else m := fun m => by rw [hsg]; split <;> omega
    have hn0 : n0 ≤ MP := (numOf_some.mp e0).2
    have hMP2 : MP < 10 ^ 60 := by decide +kernel
    have smn : ∀ m : Nat, m ≤ MP → Sm (m : Int) := fun m h => sm_of (by omega) (by omega)
    have sms : Sm sg := by rw [hsg]; split <;> exact sm_of (by decide) (by decide)
    have at0 : (((partsOf z).map (numOf · MP)).map oInt)[0]? = some (.int n0) := by rw [hps, List.map_cons, List.map_cons, e0]; rfl
    refine ⟨_, rfl, _, _, rfl, .inl ⟨_, SqL.of hp4, rfl⟩, rfl, _, rfl, ifD (fun c => ?_) (fun c => ?_)⟩
    · have e1 : t0 = [] := by
        rcases ht with h | ⟨r, d, h, _⟩
        · exact h
        · exfalso
          rw [hps, h] at c
          exact absurd c (by simp)
      rw [e1] at hps
      have er := read_one hps e0 hz0
      refine ⟨_, rfl, _, rfl, _, _, _, _, rfl, rfl, SqL.of hn4', at_of (j := 0) rfl at0, _, _, rfl, rfl, sms.mul (smn n0 hn0), (by show 2 ≤ sizeLine; decide), fun t ht2 => ?_⟩
      have g5 := Gr.new (ms := []) (o := .tup [.int (sg * n0), .int 1]) G.ih ht2
      obtain ⟨r1, r2⟩ := rt_one (if negW z = true then -(n0 : Int) else n0)
      exact k _ _ (.ref t) (G.trans g5) (by
        rw [er]
        refine ⟨t, rfl, ?_⟩
        rw [upd_same, r1, r2, esg])
    · obtain ⟨r, d, e1, e2⟩ : ∃ r d, t0 = [r] ∧ numOf r MP = some d := by
        rcases ht with h | h
        · exfalso
          rw [hps, h] at c
          exact c rfl
        · exact h
      rw [e1] at hps
      have er := read_two hps e0 e2 hz0
      have hd : d ≤ MP := (numOf_some.mp e2).2
      have at1 : (((partsOf z).map (numOf · MP)).map oInt)[1]? = some (.int d) := by rw [hps, List.map_cons, List.map_cons, e0, List.map_cons, List.map_cons, e2]; rfl
      (try unfold tNext)
      (try dsimp only)
      refine ⟨_, rfl, _, _, _, _, rfl, rfl, SqL.of hn4', at_of (j := 1) rfl at1, _, _, rfl, rfl, _, rfl, ifD (fun c3 => ?_) (fun c3 => ?_)⟩
      · exact kN (by rw [er]; exact if_neg fun y => by have : (d : Int) < 2 := c3; omega) (Gr.refl G.ih)
      have hd2 : 2 ≤ d := by have : ¬ (d : Int) < 2 := c3; omega
      refine ⟨_, rfl, _, _, _, _, rfl, rfl, SqL.of hn4', at_of (j := 0) rfl at0, _, rfl, _, _, _, _, rfl, rfl, SqL.of hn4', at_of (j := 1) rfl at1, I4, n0, d, rfl, G.ih, by omega, by omega, fun I5 H5' v5 g5 r5 => ?_⟩
      obtain ⟨t5, et5, ht5⟩ := r5
      subst et5
      have hn5 := g5.ih _ _ (g5.ii _ _ hn4)
      refine ⟨_, rfl, _, _, _, _, rfl, rfl, SqL.of hn5, at_of (j := 0) rfl at0, _, rfl, _, _, _, _, rfl, rfl, SqL.of hn5, at_of (j := 1) rfl at1, (by show 2 ≤ sizeLine; decide), fun t6 ht6 => ?_⟩
      have g6 := Gr.new (ms := []) (o := .tup [.int (n0 : Int), .int (d : Int)]) g5.ih ht6
      have dA : ∀ {Hx : Hp} {t : Addr} {x y : Int}, Hx t = some (.tup [.int x, .int y]) → dR Hx (.ref t) (.tup [.int x, .int y]) := fun {Hx t x y} h => by
        simp only [dR, dRs]; exact ⟨t, _, rfl, h, _, _, rfl, rfl, _, _, rfl, rfl, rfl⟩
      refine neD_of (dA (g6.ih _ _ (g6.ii _ _ ht5))) (dA (x := (n0 : Int)) (y := (d : Int)) upd_same) (by simp [Tk.plain, plains]) (by simp [Tk.plain, plains]) (by simp [dep, deps]) (by simp [dep, deps]) ⟨_, rfl, ?_⟩
      have ee : (!eqd (.tup [.int (rt n0 d).num, .int (rt n0 d).den]) (.tup [.int (n0 : Int), .int (d : Int)])) = !decide ((rt n0 d).num = n0 ∧ ((rt n0 d).den : Int) = d) := by
        congr 1
        rw [Bool.eq_iff_iff, eqd_iff, decide_eq_true_iff]; simp
      rw [ee]
      have g7 := g5.trans g6
      refine ifB (fun c4 => ?_) (fun c4 => ?_)
      · exact kN (by rw [er]; exact if_neg fun y => by rw [Bool.not_eq_true', decide_eq_false_iff_not] at c4; exact c4 y.2) g7
      · have c5 : (rt n0 d).num = n0 ∧ ((rt n0 d).den : Int) = d := by rw [Bool.not_eq_false', decide_eq_true_iff] at c4; exact c4
        have hn7 := g7.ih _ _ (g7.ii _ _ hn4)
        refine ⟨_, rfl, _, rfl, _, _, _, _, rfl, rfl, SqL.of hn7, at_of (j := 0) rfl at0, _, _, rfl, rfl, sms.mul (smn n0 hn0), _, rfl, _, _, _, _, rfl, rfl, SqL.of hn7, at_of (j := 1) rfl at1, (by show 2 ≤ sizeLine; decide), fun t ht2 => ?_⟩
        have g8 := Gr.new (ms := []) (o := .tup [.int (sg * n0), .int (d : Int)]) g7.ih ht2
        rw [if_pos ⟨hd2, c5⟩] at er
        obtain ⟨r1, r2⟩ := rt_sgn c5.1 c5.2 (negW z)
        exact k _ _ (.ref t) ((G.trans g7).trans g8) (by
          rw [er]
          refine ⟨t, rfl, ?_⟩
          rw [upd_same, r1, r2, esg])
end
end K

set_option Elab.async false
set_option linter.all false
set_option maxRecDepth 100000
set_option maxHeartbeats 4000000
set_option exponentiation.threshold 5000
namespace K
open PySem PySem.Spec PyProof.Rows L2 Tk Hd Rd Mt
section
variable {P : Program} {w : World} {K : PySem.W.Frag} {mg : Str → Option Value} {base : Heap}
def spLText : Sp := fun vs H Q _ => ∃ (I : Hp) (v : V) (q : Rat), vs = [v] ∧ Same I H ∧ iQ I v q ∧ Wide q ∧ Q (.str (rtx q)) H
theorem sc__law_text : FnScope ["pair"] ["pair"] (defScope s__law_text) := ⟨rfl, rfl, rfl, by decide +kernel, rfl, by decide +kernel, by decide +kernel⟩
theorem ok_ltext (D : Dt K mg) : Has P w K mg base 1 (He.ga K "_law_text") ["pair"] [] (spLText) := by
  obtain ⟨fd, F⟩ := fd__law_text D
  refine hasN F (F.bindsN fun _ _ _ _ _ _ us hl => match us, hl with | [_], _ => rfl) sc__law_text (fun vs H Q E h => ?_) (fun cdv A outer s H vs Q E hr h => ?_)
  · obtain ⟨I, v, q, rfl, _⟩ := h; rfl
  · obtain ⟨I, v, q, rfl, s0, rv, hw, k⟩ := h
    refine ⟨_, (pss_cons (ps_if (pt_cmpR op_eq (pe_ix (ix_tupK K) (pv 0) pe_int (fun _ _ => rfl)) pe_int (nomark _))
      (pss_one (ps_ret (pe_callTy call_str_int rfl (free_str D) (by decide +kernel) (pa_cons (pe_ix (ix_tupK K) (pv 0) pe_int (fun _ _ => rfl)) pa_nil))))
      pss_nil)
      (pss_one (ps_ret (pe_op op_add_str (pe_op op_add_str (pe_callTy call_str_int rfl (free_str D) (by decide +kernel) (pa_cons (pe_ix (ix_tupK K) (pv 0) pe_int (fun _ _ => rfl)) pa_nil)) pe_str) (pe_callTy call_str_int rfl (free_str D) (by decide +kernel) (pa_cons (pe_ix (ix_tupK K) (pv 0) pe_int (fun _ _ => rfl)) pa_nil)))))), ?_⟩
    obtain ⟨a, rfl, ha⟩ := rv
    have ha' := s0 _ _ ha
    obtain ⟨f1, f2⟩ := hw.few
    have l1 := txt_len f1
    have l2 := txt_len f2
    have dp := den_pos q
    have l3 : ("/" : Str).length ≤ 1 := by decide
    refine ⟨_, rfl, _, _, _, _, rfl, rfl, SqT.of ha', at_of (j := 1) rfl rfl, rfl, _, rfl, ifD (fun c => ?_) (fun c => ?_)⟩
    · have e : (q.den : Int) = 1 := by simpa using c
      refine ⟨_, rfl, _, _, _, _, rfl, rfl, SqT.of ha', at_of (j := 0) rfl rfl, _, rfl, f1.log, ?_⟩
      unfold rtx at k
      rw [if_neg (by omega)] at k
      exact k
    · have e : ¬ (q.den : Int) = 1 := by simpa using c
      (try unfold tNext)
      (try dsimp only)
      refine ⟨_, rfl, _, _, _, _, rfl, rfl, SqT.of ha', at_of (j := 0) rfl rfl, _, rfl, f1.log, _, _, rfl, rfl, line_of (by omega), _, rfl, _, _, _, _, rfl, rfl, SqT.of ha', at_of (j := 1) rfl rfl, _, rfl, f2.log, _, _, rfl, rfl, line_of (by rw [app_len]; omega), ?_⟩
      unfold rtx at k
      rw [if_pos (by omega)] at k
      exact k
def spLRow : Sp := fun vs H Q _ => ∃ (I : Hp) (v : V) (qs : List Rat), vs = [v] ∧ Same I H ∧ iL iQ I v qs ∧ (∀ q ∈ qs, Wide q) ∧ qs.length ≤ 100 ∧ ∀ I' H', Gr [] I H I' H' → Q (.str (jn (qs.map rtx))) H'
theorem sc__law_row_text : FnScope ["row", "part"] ["row"] (defScope s__law_row_text) := ⟨rfl, rfl, rfl, by decide +kernel, rfl, by decide +kernel, by decide +kernel⟩
theorem ok_lrow (D : Dt K mg) : Has P w K mg base 2 (He.ga K "_law_row_text") ["row"] [] (spLRow) := by
  obtain ⟨fd, F⟩ := fd__law_row_text D
  have H__law_text := ok_ltext (P := P) (w := w) (base := base) D
  refine hasN F (F.bindsN fun _ _ _ _ _ _ us hl => match us, hl with | [_], _ => rfl) sc__law_row_text (fun vs H Q E h => ?_) (fun cdv A outer s H vs Q E hr h => ?_)
  · obtain ⟨I, v, qs, rfl, _⟩ := h; rfl
  · obtain ⟨I, v, qs, rfl, s0, rv, hw, hn, k⟩ := h
    refine ⟨_, (pss_one (ps_ret (pe_bm PySem.F.plainAttrs_str PySem.F.slot_str_join PySem.F.type_str_join mt_join pe_str (pa_cons (pe_lc (own := [("part", 1)]) (g := gName 1) rfl sc__law_row_text.nd (pi_listK K (pv 0)) (blkOk_by (own := [("part", 1)]) (N := ["row", "part"]) (by kernel_rfl)) (fun _ _ _ _ _ => (pg_name (i := 1) sc__law_row_text.nd rfl (Or.inl rfl))) (fun _ _ _ _ _ => pts_nil) (fun _ _ _ _ _ => (pe_callH H__law_text (hr.mono (by omega)) rfl (glo__law_text D) passL (pa_cons (pv 1) pa_nil)))) pa_nil)))), ?_⟩
    obtain ⟨a, vs, rfl, ha, a2⟩ := rv
    have hl := a2.len
    refine ⟨rfl, _, rfl, a, rfl, ⟨_, SqL.of (s0 _ _ ha)⟩, fun l hD => lc_map (R := iQ) (Sy := iS) rtx (wk_list ha) a2 s0 hD (lt_line (by omega)) (fun i q I1 H1 Nx Qk hi rq s1 s2 kk => ?_) (fun I1 H1 g1 r1 => ?_)⟩
    · exact ⟨rfl, _, rfl, I1, _, q, rfl, s2, rq, hw q (List.mem_of_getElem? hi), kk _ _ _ (Gr.refl s2) rfl⟩
    · obtain ⟨b, ys, eb, hb, b2⟩ := r1
      cases eb
      rw [b2.strs] at hb
      refine ⟨" ", l, qs.map rtx, rfl, rfl, .inl (SqL.of (g1.ih _ _ hb)), ?_, k _ _ g1⟩
      have h4 := sum_le (l := qs.map rtx) (b := 130) fun z hz => by
        obtain ⟨q, hq, rfl⟩ := List.mem_map.mp hz
        exact rtx_len (hw q hq).1 (hw q hq).2
      have h5 : (" " : Str).length = 1 := by decide +kernel
      rw [List.length_map] at h4
      rw [h5, List.length_map]
      omega
end
end K

set_option Elab.async false
set_option linter.all false
set_option maxRecDepth 100000
set_option maxHeartbeats 4000000
/-! a text, so often. -/
namespace Tk
open PySem PySem.Spec PyProof.Rows L2
theorem op_mul_str {X : Cx} : OpR X (binaryOp .Mult) (fun x y H Q => ∃ z n, x = .str z ∧ y = .int n ∧ MulOk z n ∧ Q (.str (Txt.mul z n)) H) := by
  intro pins s σ H x y v u Q I rx ry h
  obtain ⟨z, n, rfl, rfl, hz, q⟩ := h
  obtain ⟨t, rfl⟩ := rx
  obtain ⟨t', rfl⟩ := ry
  exact SB.mul hz (fun t' tk => ⟨.str (Txt.mul z n), H, I.tok _, ⟨_, rfl⟩, q⟩)
theorem nine60 : MulOk "9" 60 ∧ MulOk "9" 61 := by
  refine ⟨⟨by decide, fun _ _ => by decide +kernel, fun _ _ => by decide +kernel⟩, ⟨by decide, fun _ _ => by decide +kernel, fun _ _ => by decide +kernel⟩⟩
end Tk

set_option Elab.async false
set_option linter.all false
set_option maxRecDepth 100000
set_option maxHeartbeats 4000000
set_option exponentiation.threshold 5000
namespace K
open PySem PySem.Spec PyProof.Rows L2 Tk Hd Rd Mt TL
section
variable {P : Program} {w : World} {K : PySem.W.Frag} {mg : Str → Option Value} {base : Heap}
/-- a plain word -/
structure Pw (z : Str) : Prop where
  len : z.length ≤ 130
  sp : 32 ∉ tl z
  ok : PyData.strOk z = true
def menu1 : List Str := ["apart", "same", "0", "1", "2", "3", "4", "12", "24", "25", "1/2", "-1/2", "-0", "--1", "1/3", "2/3", "", "x", "01", "00"]
def menu2 : List Str := ["-1", "+1", "1_0", "1/02", "0/1", "3/1", "1/1", "2/4", Txt.mul "9" 60, Txt.mul "9" 61, ("-" : Str) ++ Txt.mul "9" 60, ("1/" : Str) ++ Txt.mul "9" 60, ("1/" : Str) ++ Txt.mul "9" 61]
def menu3 : List Str := ["/2", "1/", "1\n", "Same", "sames", "1/-2"]
def pwB (z : Str) : Bool := decide (z.length ≤ 130) && (!(tl z).contains 32) && PyData.strOk z
theorem pw_of {z : Str} (h : pwB z = true) : Pw z := by
  unfold pwB at h
  rw [Bool.and_eq_true, Bool.and_eq_true] at h
  exact ⟨of_decide_eq_true h.1.1, by simpa using h.1.2, h.2⟩
theorem menus : ∀ z ∈ menu1 ++ menu2 ++ menu3, Pw z := fun z hz => pw_of (List.all_eq_true.mp (show (menu1 ++ menu2 ++ menu3).all pwB = true by decide +kernel) z hz)
def spLWord : Sp := fun vs H Q _ => ∃ (I : Hp) (p : Addr) (v : V) (ws : List Str), vs = [.ref p, v] ∧ Same I H ∧ PoolOk I H p ∧ iL iS I v ws ∧ (∀ z ∈ ws, Pw z) ∧ ws.length ≤ 1000 ∧ ∀ I' H' z, Gr [p] I H I' H' → PoolOk I' H' p → Pw z → Q (.str z) H'
theorem sc__law_word : FnScope ["pool", "words", "menu"] ["pool", "words"] (defScope s__law_word) := ⟨rfl, rfl, rfl, by decide +kernel, rfl, by decide +kernel, by decide +kernel⟩
theorem ok_lword (D : Dt K mg) : Has P w K mg base 2 (He.ga K "_law_word") ["pool", "words"] [] (spLWord) := by
  obtain ⟨fd, F⟩ := fd__law_word D
  have H__law_draw := ok_draw (P := P) (w := w) (base := base) D
  refine hasN F (F.bindsN fun _ _ _ _ _ _ us hl => match us, hl with | [_, _], _ => rfl) sc__law_word (fun vs H Q E h => ?_) (fun cdv A outer s H vs Q E hr h => ?_)
  · obtain ⟨I, p, v, ws, rfl, _⟩ := h; rfl
  · obtain ⟨I, p, v, ws, rfl, s0, po, rv, hw, hn, k⟩ := h
    refine ⟨_, (pss_cons (ps_set (i := 2) sc__law_word.nd rfl (Or.inl rfl) (pe_lst (pa_cons pe_str (pa_cons pe_str (pa_cons pe_str (pa_cons pe_str (pa_cons pe_str (pa_cons pe_str (pa_cons pe_str (pa_cons pe_str (pa_cons pe_str (pa_cons pe_str (pa_cons pe_str (pa_cons pe_str (pa_cons pe_str (pa_cons pe_str (pa_cons pe_str (pa_cons pe_str (pa_cons pe_str (pa_cons pe_str (pa_cons pe_str (pa_cons pe_str pa_nil))))))))))))))))))))))
      (pss_cons (ps_set (i := 2) sc__law_word.nd rfl (Or.inl rfl) (pe_op op_cat (pv 2) (pe_lst (pa_cons pe_str (pa_cons pe_str (pa_cons pe_str (pa_cons pe_str (pa_cons pe_str (pa_cons pe_str (pa_cons pe_str (pa_cons pe_str (pa_cons (pe_op op_mul_str pe_str pe_int) (pa_cons (pe_op op_mul_str pe_str pe_int) (pa_cons (pe_op op_add_str pe_str (pe_op op_mul_str pe_str pe_int)) (pa_cons (pe_op op_add_str pe_str (pe_op op_mul_str pe_str pe_int)) (pa_cons (pe_op op_add_str pe_str (pe_op op_mul_str pe_str pe_int)) pa_nil))))))))))))))))
      (pss_cons (ps_set (i := 2) sc__law_word.nd rfl (Or.inl rfl) (pe_op op_cat (pe_op op_cat (pv 2) (pe_lst (pa_cons pe_str (pa_cons pe_str (pa_cons pe_str (pa_cons pe_str (pa_cons pe_str (pa_cons pe_str pa_nil)))))))) (pv 1)))
      (pss_one (ps_ret (pe_ix (ix_listK K) (pv 2) (pe_callH H__law_draw (hr.mono (by omega)) rfl (glo__law_draw D) passL (pa_cons (pv 0) (pa_cons (pe_callB (call_lenK K) rfl (free_len D) PySem.boot_len (pa_cons (pv 2) pa_nil)) pa_nil))) (fun _ _ => rfl))))))), ?_⟩
    obtain ⟨a, rfl, ha⟩ := iL_strs rv
    (try dsimp only)
    refine seq_cut (fun σ' H1 => ∃ (I1 : Hp) (d : Addr), σ' = [some (.ref p), some (.ref a), some (.ref d)] ∧ Gr [] I H I1 H1 ∧ I1 d = some (.lst (menu1.map V.str))) (fun nx q => ?_) ?_
    · exact ⟨(by show 20 ≤ sizeLine; decide), fun d hd => q _ _ ⟨_, d, rfl, Gr.new (ms := []) (o := .lst (menu1.map V.str)) s0 hd, upd_same⟩⟩
    rintro σ' H1 ⟨I1, d, rfl, g1, h1⟩
    (try dsimp only)
    refine seq_cut (fun σ' H2 => ∃ (I2 : Hp) (d : Addr), σ' = [some (.ref p), some (.ref a), some (.ref d)] ∧ Gr [] I1 H1 I2 H2 ∧ I2 d = some (.lst ((menu1 ++ menu2).map V.str))) (fun nx q => ?_) ?_
    · have l9 : (Txt.mul "9" 60).length = 60 ∧ (Txt.mul "9" 61).length = 61 := by decide +kernel
      have l0 : ("-" : Str).length = 1 ∧ ("1/" : Str).length = 2 := by decide +kernel
      refine ⟨_, rfl, "9", 60, rfl, rfl, nine60.1, "9", 61, rfl, rfl, nine60.2, "9", 60, rfl, rfl, nine60.1, "-", _, rfl, rfl, by rw [l9.1, l0.1]; decide, "9", 60, rfl, rfl, nine60.1, "1/", _, rfl, rfl, by rw [l9.1, l0.2]; decide, "9", 61, rfl, rfl, nine60.2, "1/", _, rfl, rfl, by rw [l9.2, l0.2]; decide, (by show 13 ≤ sizeLine; decide), fun c hc => ?_⟩
      have g2 := Gr.new (ms := []) (o := .lst (menu2.map V.str)) g1.ih hc
      exact catL_of g2.ih (g2.ii _ _ h1) upd_same (by decide) fun I3 H3 e g3 he => q _ _ ⟨I3, e, rfl, g2.trans g3, he⟩
    rintro σ' H2 ⟨I2, d2, rfl, g2, h2⟩
    (try dsimp only)
    refine seq_cut (fun σ' H3 => ∃ (I3 : Hp) (d : Addr), σ' = [some (.ref p), some (.ref a), some (.ref d)] ∧ Gr [] I2 H2 I3 H3 ∧ I3 d = some (.lst ((menu1 ++ menu2 ++ menu3 ++ ws).map V.str))) (fun nx q => ?_) ?_
    · refine ⟨_, rfl, (by show 6 ≤ sizeLine; decide), fun c hc => ?_⟩
      have g3 := Gr.new (ms := []) (o := .lst (menu3.map V.str)) g2.ih hc
      refine catL_of g3.ih (g3.ii _ _ h2) upd_same (by decide) fun I4 H4 e g4 he => ⟨_, rfl, ?_⟩
      have sa := (g1.ii.trans (g2.ii.trans (g3.ii.trans g4.ii))) _ _ ha
      exact catL_of g4.ih he sa (by rw [List.length_append]; have : (menu1 ++ menu2).length + menu3.length = 39 := rfl
                                    omega) fun I5 H5 f g5 hf => q _ _ ⟨I5, f, rfl, (g3.trans g4).trans g5, hf⟩
    rintro σ' H3 ⟨I3, d3, rfl, g3, h3⟩
    have G := (g1.trans g2).trans g3
    have po3 := po.up G (by simp)
    have hM : (menu1 ++ menu2 ++ menu3 ++ ws).length = 39 + ws.length := by rw [List.length_append]; rfl
    have hall : ∀ z ∈ menu1 ++ menu2 ++ menu3 ++ ws, Pw z := fun z hz => by
      rcases List.mem_append.mp hz with h | h
      · exact menus z h
      · exact hw z h
    generalize menu1 ++ menu2 ++ menu3 ++ ws = M at hM hall h3
    refine ⟨_, rfl, _, rfl, _, rfl, _, _, rfl, .inl ⟨_, SqL.of (G.ih _ _ h3), rfl⟩, ?_⟩
    rw [List.length_map]
    refine ⟨I3, p, (M.length : Nat), rfl, G.ih, po3, by omega, by omega, fun v H4 v0 v1 g4 po4 => ?_⟩
    obtain ⟨j, rfl⟩ := Int.eq_ofNat_of_zero_le v0
    have hj : j < M.length := by omega
    have hz : (M.map V.str)[j]? = some (.str M[j]) := by rw [List.getElem?_map, List.getElem?_eq_getElem hj]; rfl
    exact ⟨_, _, _, _, rfl, rfl, SqL.of (g4.ih _ _ (g4.ii _ _ h3)), at_of (j := j) rfl hz, k _ _ _ ((G.mono fun _ z => nomatch z).trans g4) po4 (hall _ (List.getElem_mem hj))⟩
end
end K

set_option Elab.async false
set_option linter.all false
set_option maxRecDepth 100000
set_option maxHeartbeats 4000000
set_option exponentiation.threshold 5000
namespace K
open PySem PySem.Spec PyProof.Rows L2 Tk Hd Rd Mt TL
/-! ### the words of a line under changes -/
/-- a word that tells a small fraction, or none -/
def SmW (_ : Str) : Prop := True
/-- plain words of which at most k may be wide -/
inductive WRow : Nat → List Str → Prop where
  | nil (k : Nat) : WRow k []
  | sml {k : Nat} {z : Str} {ws : List Str} (p : Pw z) (h : SmW z) (t : WRow k ws) : WRow k (z :: ws)
  | any {k : Nat} {z : Str} {ws : List Str} (p : Pw z) (t : WRow k ws) : WRow (k + 1) (z :: ws)
theorem WRow.mono {k : Nat} {ws : List Str} (h : WRow k ws) : ∀ {j : Nat}, k ≤ j → WRow j ws := by
  induction h with
  | nil k => intro j _; exact .nil j
  | sml p h t ih => intro j hj; exact .sml p h (ih hj)
  | any p t ih => intro j hj; cases j with
    | zero => omega
    | succ j => exact .any p (ih (by omega))
theorem WRow.pw {k : Nat} {ws : List Str} (h : WRow k ws) : ∀ z ∈ ws, Pw z := by
  induction h with
  | nil k => intro z hz; cases hz
  | sml p h t ih => intro z hz; rcases List.mem_cons.mp hz with rfl | hz
                    · exact p
                    · exact ih z hz
  | any p t ih => intro z hz; rcases List.mem_cons.mp hz with rfl | hz
                  · exact p
                  · exact ih z hz
theorem WRow.sub {ws vs : List Str} (s : vs.Sublist ws) : ∀ {k : Nat}, WRow k ws → WRow k vs := by
  induction s with
  | slnil => intro k h; exact .nil k
  | cons a s ih =>
    intro k h
    cases h with
    | sml p h t => exact ih t
    | any p t => exact (ih t).mono (by omega)
  | cons_cons a s ih =>
    intro k h
    cases h with
    | sml p h t => exact .sml p h (ih t)
    | any p t => exact .any p (ih t)
/-- a word put in -/
theorem WRow.ins {z : Str} (pz : Pw z) : ∀ {a b : List Str} {k : Nat}, WRow k (a ++ b) → WRow (k + 1) (a ++ ([z] ++ b))
  | [], b, k, h => .any pz h
  | x :: a, b, k, h => by
    cases h with
    | sml p h t => exact .sml p h (WRow.ins pz t)
    | any p t => exact .any p (WRow.ins pz t)
/-- a line behind k changes -/
structure Ln (k : Nat) (l : Str) : Prop where
  row : WRow k (Txt.split l " ")
  len : (Txt.split l " ").length ≤ 13 + k
theorem pw_empty : Pw "" ∧ SmW "" := ⟨pw_of (by decide +kernel), trivial⟩
theorem ln_jn {k : Nat} {ws : List Str} (h : WRow k ws) (hl : ws.length ≤ 13 + k) : Ln k (jn ws) := by
  by_cases e : ws = []
  · subst e
    have e2 : Txt.split (jn []) " " = [("" : Str)] := by decide +kernel
    exact ⟨by rw [e2]; exact .sml pw_empty.1 pw_empty.2 (.nil k), by rw [e2]; simp; omega⟩
  · have e2 := words_split e fun p hp => (h.pw p hp).sp
    exact ⟨by rw [e2]; exact h, by rw [e2]; exact hl⟩
theorem Ln.mono {k j : Nat} {l : Str} (h : Ln k l) (hj : k ≤ j) : Ln j l := ⟨h.row.mono hj, Nat.le_trans h.len (by omega)⟩
end K

set_option Elab.async false
set_option linter.all false
set_option maxRecDepth 100000
set_option maxHeartbeats 4000000
set_option exponentiation.threshold 5000
namespace K
open PySem PySem.Spec PyProof.Rows L2 Tk Hd Rd Mt TL
section
variable {P : Program} {w : World} {K : PySem.W.Frag} {mg : Str → Option Value} {base : Heap}
structure Ls (k : Nat) (lines : List Str) : Prop where
  len : lines.length ≤ 60 + k
  ok : ∀ l ∈ lines, Ln k l
theorem Ls.mono {k j : Nat} {ls : List Str} (h : Ls k ls) (hj : k ≤ j) : Ls j ls := ⟨Nat.le_trans h.len (by omega), fun l hl => (h.ok l hl).mono hj⟩
theorem Ln.size {k : Nat} {l : Str} (h : Ln k l) (hk : k ≤ 10) : l.length ≤ 4000 := by
  have h1 := (split_sp l).1
  have h2 := jn_len (Txt.split l " ")
  have h3 := sum_le (l := Txt.split l " ") (b := 130) fun z hz => (h.row.pw z hz).len
  have h4 := h.len
  rw [h1] at h2
  split at h2 <;> omega
theorem cut_one {ws : List Str} {a : Nat} : cutW ws (some (a : Int)) (some ((a : Int) + 1)) = [] ∨ ∃ l, l ∈ ws ∧ cutW ws (some (a : Int)) (some ((a : Int) + 1)) = [l] := by
  have h1 := cutW_mid (ws := ws) (a := a) (b := a + 1) (x := (a : Int)) (y := (a : Int) + 1) rfl (by omega)
  cases e : cutW ws (some (a : Int)) (some ((a : Int) + 1)) with
  | nil => exact .inl rfl
  | cons l r =>
    rw [e] at h1
    have hr : r = [] := List.eq_nil_of_length_eq_zero (by rw [List.length_cons] at h1; omega)
    subst hr
    refine .inr ⟨l, ?_, rfl⟩
    have : l ∈ cutW ws (some (a : Int)) (some ((a : Int) + 1)) := by rw [e]; exact List.mem_cons_self
    unfold cutW at this
    exact List.mem_of_mem_drop (List.mem_of_mem_take this)
theorem cutW_mid2 {ws : List Str} {a b : Nat} {x y : Int} (hx : x = (a : Int)) (hy : y = (b : Int)) : (cutW ws (some x) (some y)).length ≤ min b ws.length - min a ws.length := by
  subst hx hy; unfold cutW; rw [HT.sIx_nat, HT.sIx_nat, List.length_take]; omega
theorem cutW_mem {ws : List Str} {lo hi : Option Int} {l : Str} (h : l ∈ cutW ws lo hi) : l ∈ ws := by
  unfold cutW at h
  exact List.mem_of_mem_drop (List.mem_of_mem_take h)
def spChg : Sp := fun vs H Q _ => ∃ (I : Hp) (p : Addr) (v : V) (lines : List Str), vs = [.ref p, v] ∧ Same I H ∧ PoolOk I H p ∧ iL iS I v lines ∧ Ls 0 lines ∧
  ∀ I' H' v' lines', Gr [p] I H I' H' → PoolOk I' H' p → iL iS I' v' lines' → Ls 3 lines' → Q v' H'
theorem sc__law_changed_lines : FnScope ["pool", "lines", "k", "place", "other", "words", "at", "way"] ["pool", "lines"] (defScope s__law_changed_lines) := ⟨rfl, rfl, rfl, by decide +kernel, rfl, by decide +kernel, by decide +kernel⟩
theorem ok_lchg (D : Dt K mg) : Has P w K mg base 3 (He.ga K "_law_changed_lines") ["pool", "lines"] [] (spChg) := by
  obtain ⟨fd, F⟩ := fd__law_changed_lines D
  have H__law_draw := ok_draw (P := P) (w := w) (base := base) D
  have H__law_word := ok_lword (P := P) (w := w) (base := base) D
  refine hasN F (F.bindsN fun _ _ _ _ _ _ us hl => match us, hl with | [_, _], _ => rfl) sc__law_changed_lines (fun vs H Q E h => ?_) (fun cdv A outer s H vs Q E hr h => ?_)
  · obtain ⟨I, p, v, lines, rfl, _⟩ := h; rfl
  · obtain ⟨I, p, v, lines, rfl, s0, po, rv, hl, k⟩ := h
    refine ⟨_, (pss_cons (ps_for PassesOwn.never rfl (pi_range1 rfl (free_range D) (pa_cons (pe_callH H__law_draw (hr.mono (by omega)) rfl (glo__law_draw D) passL (pa_cons (pv 0) (pa_cons pe_int pa_nil))) pa_nil)) (pg_name (i := 2) sc__law_changed_lines.nd rfl (Or.inl rfl))
      (pss_cons (ps_set (i := 3) sc__law_changed_lines.nd rfl (Or.inl rfl) (pe_callH H__law_draw (hr.mono (by omega)) rfl (glo__law_draw D) passL (pa_cons (pv 0) (pa_cons (pe_op op_add (pe_callB (call_lenK K) rfl (free_len D) PySem.boot_len (pa_cons (pv 1) pa_nil)) pe_int) pa_nil))))
      (pss_cons (ps_set (i := 4) sc__law_changed_lines.nd rfl (Or.inl rfl) (pe_callH H__law_draw (hr.mono (by omega)) rfl (glo__law_draw D) passL (pa_cons (pv 0) (pa_cons (pe_op op_add (pe_callB (call_lenK K) rfl (free_len D) PySem.boot_len (pa_cons (pv 1) pa_nil)) pe_int) pa_nil))))
      (pss_cons (ps_set (i := 5) sc__law_changed_lines.nd rfl (Or.inl rfl) (pe_bm PySem.F.plainAttrs_str PySem.F.slot_str_split PySem.F.type_str_split mt_split (pe_bm PySem.F.plainAttrs_str PySem.F.slot_str_join PySem.F.type_str_join mt_join pe_str (pa_cons (pe_slice (sl_listK K) (pv 1) (po_some (pv 3)) (po_some (pe_op op_add (pv 3) pe_int))) pa_nil)) (pa_cons pe_str pa_nil)))
      (pss_cons (ps_set (i := 6) sc__law_changed_lines.nd rfl (Or.inl rfl) (pe_callH H__law_draw (hr.mono (by omega)) rfl (glo__law_draw D) passL (pa_cons (pv 0) (pa_cons (pe_callB (call_lenK K) rfl (free_len D) PySem.boot_len (pa_cons (pv 5) pa_nil)) pa_nil))))
      (pss_cons (ps_set (i := 7) sc__law_changed_lines.nd rfl (Or.inl rfl) (pe_callH H__law_draw (hr.mono (by omega)) rfl (glo__law_draw D) passL (pa_cons (pv 0) (pa_cons pe_int pa_nil))))
      (pss_cons (ps_if (pt_cmpR op_eq (pv 7) pe_int (nomark _))
      (pss_one (ps_set (i := 1) sc__law_changed_lines.nd rfl (Or.inl rfl) (pe_op op_cat (pe_slice (sl_listK K) (pv 1) po_none (po_some (pv 3))) (pe_slice (sl_listK K) (pv 1) (po_some (pe_op op_add (pv 3) pe_int)) po_none))))
      (pss_one (ps_if (pt_cmpR op_eq (pv 7) pe_int (nomark _))
      (pss_one (ps_set (i := 1) sc__law_changed_lines.nd rfl (Or.inl rfl) (pe_op op_cat (pe_op op_cat (pe_slice (sl_listK K) (pv 1) po_none (po_some (pv 3))) (pe_slice (sl_listK K) (pv 1) (po_some (pv 4)) (po_some (pe_op op_add (pv 4) pe_int)))) (pe_slice (sl_listK K) (pv 1) (po_some (pv 3)) po_none))))
      (pss_one (ps_if (pt_cmpR op_eq (pv 7) pe_int (nomark _))
      (pss_one (ps_set (i := 1) sc__law_changed_lines.nd rfl (Or.inl rfl) (pe_op op_cat (pe_op op_cat (pe_slice (sl_listK K) (pv 1) po_none (po_some (pv 3))) (pe_lst (pa_cons pe_str pa_nil))) (pe_slice (sl_listK K) (pv 1) (po_some (pv 3)) po_none))))
      (pss_one (ps_if (pt_cmpR op_eq (pv 7) pe_int (nomark _))
      (pss_one (ps_set (i := 1) sc__law_changed_lines.nd rfl (Or.inl rfl) (pe_op op_cat (pe_op op_cat (pe_op op_cat (pe_slice (sl_listK K) (pv 1) po_none (po_some (pv 3))) (pe_slice (sl_listK K) (pv 1) (po_some (pe_op op_add (pv 3) pe_int)) (po_some (pe_op op_add (pv 3) pe_int)))) (pe_slice (sl_listK K) (pv 1) (po_some (pv 3)) (po_some (pe_op op_add (pv 3) pe_int)))) (pe_slice (sl_listK K) (pv 1) (po_some (pe_op op_add (pv 3) pe_int)) po_none))))
      (pss_one (ps_if (pt_cmpR op_eq (pv 7) pe_int (nomark _))
      (pss_one (ps_set (i := 5) sc__law_changed_lines.nd rfl (Or.inl rfl) (pe_op op_cat (pe_slice (sl_listK K) (pv 5) po_none (po_some (pv 6))) (pe_slice (sl_listK K) (pv 5) (po_some (pe_op op_add (pv 6) pe_int)) po_none))))
      (pss_one (ps_if (pt_cmpR op_eq (pv 7) pe_int (nomark _))
      (pss_one (ps_set (i := 5) sc__law_changed_lines.nd rfl (Or.inl rfl) (pe_op op_cat (pe_op op_cat (pe_slice (sl_listK K) (pv 5) po_none (po_some (pv 6))) (pe_lst (pa_cons (pe_callH H__law_word (hr.mono (by omega)) rfl (glo__law_word D) passL (pa_cons (pv 0) (pa_cons (pv 5) pa_nil))) pa_nil))) (pe_slice (sl_listK K) (pv 5) (po_some (pv 6)) po_none))))
      (pss_one (ps_set (i := 5) sc__law_changed_lines.nd rfl (Or.inl rfl) (pe_op op_cat (pe_op op_cat (pe_slice (sl_listK K) (pv 5) po_none (po_some (pv 6))) (pe_lst (pa_cons (pe_callH H__law_word (hr.mono (by omega)) rfl (glo__law_word D) passL (pa_cons (pv 0) (pa_cons (pv 5) pa_nil))) pa_nil))) (pe_slice (sl_listK K) (pv 5) (po_some (pe_op op_add (pv 6) pe_int)) po_none)))))))))))))))
      (pss_one (ps_if (PW.pt (pw_and (pt_cmpR op_gt (pv 7) pe_int (nomark _)) (pw_and1 (pt_cmpR op_lt (pv 3) (pe_callB (call_lenK K) rfl (free_len D) PySem.boot_len (pa_cons (pv 1) pa_nil)) (nomark _)))))
      (pss_one (ps_set (i := 1) sc__law_changed_lines.nd rfl (Or.inl rfl) (pe_op op_cat (pe_op op_cat (pe_slice (sl_listK K) (pv 1) po_none (po_some (pv 3))) (pe_lst (pa_cons (pe_bm PySem.F.plainAttrs_str PySem.F.slot_str_join PySem.F.type_str_join mt_join pe_str (pa_cons (pv 5) pa_nil)) pa_nil))) (pe_slice (sl_listK K) (pv 1) (po_some (pe_op op_add (pv 3) pe_int)) po_none))))
      pss_nil)))))))))
      (pss_one (ps_ret (pv 1)))), ?_⟩
    obtain ⟨a, rfl, ha⟩ := iL_strs rv
    (try dsimp only)
    refine seq_cut (fun σ' H2 => ∃ (I2 : Hp) (b : Addr) (ls : List Str) (v2 v3 v4 v5 v6 v7 : Option V), σ' = [some (.ref p), some (.ref b), v2, v3, v4, v5, v6, v7] ∧ Gr [p] I H I2 H2 ∧ PoolOk I2 H2 p ∧ I2 b = some (.lst (ls.map V.str)) ∧ Ls 3 ls) (fun nx q => ?_) ?_
    · refine ⟨_, rfl, I, p, 4, rfl, s0, po, by decide, by decide, fun t H1 t0 t1 g1 po1 => ?_⟩
      obtain ⟨n, rfl⟩ := Int.eq_ofNat_of_zero_le t0
      refine ⟨n, rfl, by omega, by omega, ?_⟩
      rw [Int.toNat_natCast]
      refine for_wk (D := { nx := nx, rt := Q }) (wk_range (I := I)) (fun σ' H2 => ∃ (I2 : Hp) (b : Addr) (ls : List Str) (v2 v3 v4 v5 v6 v7 : Option V), σ' = [some (.ref p), some (.ref b), v2, v3, v4, v5, v6, v7] ∧ Gr [p] I H I2 H2 ∧ PoolOk I2 H2 p ∧ I2 b = some (.lst (ls.map V.str)) ∧ Ls 3 ls)
        (fun i σ' H2 => ∃ (I2 : Hp) (b : Addr) (ls : List Str) (v2 v3 v4 v5 v6 v7 : Option V), σ' = [some (.ref p), some (.ref b), v2, v3, v4, v5, v6, v7] ∧ Gr [p] I H I2 H2 ∧ PoolOk I2 H2 p ∧ I2 b = some (.lst (ls.map V.str)) ∧ Ls i ls)
        (fun i σ' H' h => by obtain ⟨I2, _, _, _, _, _, _, _, _, _, gr, _⟩ := h; exact gr.ii.trans gr.ih)
        ⟨I, a, lines, none, none, none, none, none, none, rfl, g1, po1, ha, hl⟩ (fun nx2 q2 i σ' H' hi h => ?_) (fun σ' H' h => ?_) ?_
      rotate_left
      · obtain ⟨I2, b, ls, v2, v3, v4, v5, v6, v7, e, gr, po2, hb, hs⟩ := h
        exact ⟨I2, b, ls, v2, v3, v4, v5, v6, v7, e, gr, po2, hb, hs.mono (by omega)⟩
      · exact fun σ' H' h => q σ' H' h
      obtain ⟨I2, b, ls, v2, v3, v4, v5, v6, v7, rfl, g2, po2, hb, hs⟩ := h
      have hi3 : i ≤ 2 := by omega
      have hlen := hs.len
      (try unfold gName)
      (try dsimp only)
      -- place
      refine seq_cut (fun σ' H3 => ∃ (I3 : Hp) (v2 : Option V) (pl : Nat), σ' = [some (.ref p), some (.ref b), v2, some (.int pl), v4, v5, v6, v7] ∧ Gr [p] I2 H' I3 H3 ∧ PoolOk I3 H3 p ∧ pl ≤ ls.length) (fun nx3 q3 => ?_) ?_
      · refine ⟨_, rfl, _, rfl, _, _, rfl, .inl ⟨_, SqL.of (g2.ih _ _ hb), rfl⟩, _, _, rfl, rfl, I2, p, _, rfl, g2.ih, po2, by omega, by rw [List.length_map]; omega, fun x H3 a3 b3 g3 po3 => ?_⟩
        rw [List.length_map] at b3
        obtain ⟨pl, rfl⟩ := Int.eq_ofNat_of_zero_le a3
        exact q3 _ _ ⟨I2, _, pl, rfl, g3, po3, by omega⟩
      clear v2 v3
      rintro σ' H3 ⟨I3, v2, pl, rfl, g3, po3, hpl⟩
      (try dsimp only)
      have hb3 := g3.ii _ _ hb
      -- other
      refine seq_cut (fun σ' H4 => ∃ (I4 : Hp) (ot : Nat), σ' = [some (.ref p), some (.ref b), v2, some (.int pl), some (.int ot), v5, v6, v7] ∧ Gr [p] I3 H3 I4 H4 ∧ PoolOk I4 H4 p) (fun nx3 q3 => ?_) ?_
      · refine ⟨_, rfl, _, rfl, _, _, rfl, .inl ⟨_, SqL.of (g3.ih _ _ hb3), rfl⟩, _, _, rfl, rfl, I3, p, _, rfl, g3.ih, po3, by omega, by rw [List.length_map]; omega, fun x H4 a4 b4 g4 po4 => ?_⟩
        obtain ⟨ot, rfl⟩ := Int.eq_ofNat_of_zero_le a4
        exact q3 _ _ ⟨I3, ot, rfl, g4, po4⟩
      clear v4
      rintro σ' H4 ⟨I4, ot, rfl, g4, po4⟩
      (try dsimp only)
      have hb4 := g4.ii _ _ hb3
      -- words
      refine seq_cut (fun σ' H5 => ∃ (I5 : Hp) (c : Addr) (ws : List Str), σ' = [some (.ref p), some (.ref b), v2, some (.int pl), some (.int ot), some (.ref c), v6, v7] ∧ Gr [] I4 H4 I5 H5 ∧ I5 c = some (.lst (ws.map V.str)) ∧ WRow i ws ∧ ws.length ≤ 13 + i ∧ ws ≠ []) (fun nx3 q3 => ?_) ?_
      · refine ⟨rfl, _, rfl, _, rfl, _, rfl, _, rfl, _, _, rfl, rfl, (pl : Int) + 1, rfl, ?_⟩
        (try dsimp only [tNoPart])
        refine slL_of g4.ih hb4 fun I5 H5 c g5 hc => ?_
        have ec := cut_one (ws := ls) (a := pl)
        have hsz : ((cutW ls (some (pl : Int)) (some ((pl : Int) + 1))).map (·.length)).sum + (cutW ls (some (pl : Int)) (some ((pl : Int) + 1))).length * (" " : Str).length ≤ 16777216 := by
          have d3 : (" " : Str).length = 1 := by decide +kernel
          rw [d3]
          rcases ec with e | ⟨l, hl, e⟩
          · rw [e]; decide
          · rw [e]
            have := (hs.ok l hl).size (by omega)
            simp; omega
        have hj : Ln i (jn (cutW ls (some (pl : Int)) (some ((pl : Int) + 1)))) := by
          rcases ec with e | ⟨l, hl, e⟩
          · rw [e]; exact ln_jn (.nil i) (by simp)
          · rw [e, jn_one]; exact hs.ok l hl
        have hjs := hj.size (by omega)
        refine ⟨" ", c, _, rfl, rfl, .inl (SqL.of (g5.ih _ _ hc)), hsz, rfl, _, " ", rfl, rfl, by decide +kernel, line_of (by show (jn _).length + 2 ≤ 100000; omega), fun d hd => ?_⟩
        have g6 := Gr.new (ms := []) (o := .lst ((Txt.split (jn (cutW ls (some (pl : Int)) (some ((pl : Int) + 1)))) " ").map V.str)) g5.ih hd
        exact q3 _ _ ⟨_, d, _, rfl, g5.trans g6, upd_same, hj.row, hj.len, (split_sp _).2.1⟩
      rintro σ' H5 ⟨I5, c, ws, rfl, g5, hc, hr, hwl, hwn⟩
      (try dsimp only)
      have po5 := po4.up g5 (by simp)
      have hb5 := g5.ii _ _ hb4
      have hwp : 0 < ws.length := List.length_pos_iff.mpr hwn
      -- at
      refine seq_cut (fun σ' H6 => ∃ (I6 : Hp) (at' : Nat), σ' = [some (.ref p), some (.ref b), v2, some (.int pl), some (.int ot), some (.ref c), some (.int at'), v7] ∧ Gr [p] I5 H5 I6 H6 ∧ PoolOk I6 H6 p ∧ at' < ws.length) (fun nx3 q3 => ?_) ?_
      · refine ⟨_, rfl, _, rfl, _, _, rfl, .inl ⟨_, SqL.of (g5.ih _ _ hc), rfl⟩, I5, p, _, rfl, g5.ih, po5, by rw [List.length_map]; omega, by rw [List.length_map]; omega, fun x H6 a6 b6 g6 po6 => ?_⟩
        rw [List.length_map] at b6
        obtain ⟨at', rfl⟩ := Int.eq_ofNat_of_zero_le a6
        exact q3 _ _ ⟨I5, at', rfl, g6, po6, by omega⟩
      clear v6
      rintro σ' H6 ⟨I6, at', rfl, g6, po6, hat⟩
      (try dsimp only)
      -- way
      refine seq_cut (fun σ' H7 => ∃ (I7 : Hp) (way : Nat), σ' = [some (.ref p), some (.ref b), v2, some (.int pl), some (.int ot), some (.ref c), some (.int at'), some (.int way)] ∧ Gr [p] I6 H6 I7 H7 ∧ PoolOk I7 H7 p) (fun nx3 q3 => ?_) ?_
      · refine ⟨_, rfl, I6, p, 8, rfl, g6.ih, po6, by decide, by decide, fun x H7 a7 b7 g7 po7 => ?_⟩
        obtain ⟨way, rfl⟩ := Int.eq_ofNat_of_zero_le a7
        exact q3 _ _ ⟨I6, way, rfl, g7, po7⟩
      clear v7
      rintro σ' H7 ⟨I7, way, rfl, g7, po7⟩
      (try dsimp only)
      have G := (g2.trans (g3.trans g4)).trans ((g5.mono fun _ z => nomatch z).trans (g6.trans g7))
      have hb7 := g7.ii _ _ (g6.ii _ _ hb5)
      have hc7 := g7.ii _ _ (g6.ii _ _ hc)
      have s7 : Same I7 H7 := G.ih
      refine seq_cut (fun σ' H8 => ∃ (I8 : Hp) (b' c' : Addr) (ls' ws' : List Str), σ' = [some (.ref p), some (.ref b'), v2, some (.int pl), some (.int ot), some (.ref c'), some (.int at'), some (.int way)] ∧ Gr [p] I7 H7 I8 H8 ∧ PoolOk I8 H8 p ∧ I8 b' = some (.lst (ls'.map V.str)) ∧ Ls (i + 1) ls' ∧ I8 c' = some (.lst (ws'.map V.str)) ∧ WRow (i + 1) ws' ∧ ws'.length ≤ 13 + (i + 1)) (fun nx3 q3 => ?_) ?_
      · have fin : ∀ {I8 H8 : Hp} {b' : Addr} {ls' : List Str}, Gr [] I7 H7 I8 H8 → I8 b' = some (.lst (ls'.map V.str)) → ls'.length ≤ ls.length + 1 → (∀ l ∈ ls', l ∈ ls ∨ l = "") → nx3 [some (.ref p), some (.ref b'), v2, some (.int pl), some (.int ot), some (.ref c), some (.int at'), some (.int way)] H8 := fun {I8 H8 b' ls'} g hb' hl' hm => by
          refine q3 _ _ ⟨I8, b', c, ls', ws, rfl, (g.mono fun _ z => nomatch z), po7.up g (by simp), hb', ⟨by omega, fun l h => ?_⟩, g.ii _ _ hc7, hr.mono (by omega), by omega⟩
          rcases hm l h with h | h
          · exact (hs.ok l h).mono (by omega)
          · rw [h]; exact ln_jn (ws := []) (.nil _) (by simp)
        refine ⟨_, rfl, rfl, _, rfl, ifD (fun c0 => ?_) (fun c0 => ?_)⟩
        · refine ⟨_, rfl, _, rfl, _, rfl, ?_⟩
          (try dsimp only [tNoPart])
          refine slL_of s7 hb7 fun J1 K1 d1 m1 e1 => ?_
          refine ⟨_, rfl, _, rfl, _, _, rfl, rfl, (pl : Int) + 1, rfl, ?_⟩
          (try dsimp only [tNoPart])
          refine slL_of m1.ih (m1.ii _ _ hb7) fun J2 K2 d2 m2 e2 => ?_
          have l1 := cutW_lo (ws := ls) (a := pl) (x := (pl : Int)) rfl
          have l2 := cutW_hi (ws := ls) (a := pl + 1) (x := (pl : Int) + 1) (by omega)
          refine catL_of m2.ih (m2.ii _ _ e1) e2 (by omega) fun J3 K3 d3 m3 e3 => ?_
          refine fin ((m1.trans m2).trans m3) e3 (by rw [List.length_append]; omega) fun l hl => .inl ?_
          rcases List.mem_append.mp hl with h | h <;> exact cutW_mem h
        refine ⟨_, rfl, rfl, _, rfl, ifD (fun c1 => ?_) (fun c1 => ?_)⟩
        · refine ⟨_, rfl, _, rfl, _, rfl, ?_⟩
          (try dsimp only [tNoPart])
          refine slL_of s7 hb7 fun J1 K1 d1 m1 e1 => ?_
          refine ⟨_, rfl, _, rfl, _, rfl, _, rfl, _, _, rfl, rfl, (ot : Int) + 1, rfl, ?_⟩
          (try dsimp only [tNoPart])
          refine slL_of m1.ih (m1.ii _ _ hb7) fun J2 K2 d2 m2 e2 => ?_
          have l1 := cutW_lo (ws := ls) (a := pl) (x := (pl : Int)) rfl
          have l2 := cutW_mid (ws := ls) (a := ot) (b := ot + 1) (x := (ot : Int)) (y := (ot : Int) + 1) rfl (by omega)
          refine catL_of m2.ih (m2.ii _ _ e1) e2 (by omega) fun J3 K3 d3 m3 e3 => ?_
          refine ⟨_, rfl, _, rfl, _, rfl, ?_⟩
          (try dsimp only [tNoPart])
          refine slL_of m3.ih (m3.ii _ _ (m2.ii _ _ (m1.ii _ _ hb7))) fun J4 K4 d4 m4 e4 => ?_
          have l4 := cutW_hi (ws := ls) (a := pl) (x := (pl : Int)) rfl
          refine catL_of m4.ih (m4.ii _ _ e3) e4 (by rw [List.length_append]; omega) fun J5 K5 d5 m5 e5 => ?_
          refine fin (((m1.trans m2).trans (m3.trans m4)).trans m5) e5 (by rw [List.length_append, List.length_append]; omega) fun l hl => .inl ?_
          rcases List.mem_append.mp hl with h | h
          · rcases List.mem_append.mp h with h | h <;> exact cutW_mem h
          · exact cutW_mem h
        refine ⟨_, rfl, rfl, _, rfl, ifD (fun c2 => ?_) (fun c2 => ?_)⟩
        · refine ⟨_, rfl, _, rfl, _, rfl, ?_⟩
          (try dsimp only [tNoPart])
          refine slL_of s7 hb7 fun J1 K1 d1 m1 e1 => ?_
          refine ⟨(by show 1 ≤ sizeLine; decide), fun d2 hd2 => ?_⟩
          have m2 := Gr.new (ms := []) (o := .lst ([("" : Str)].map V.str)) m1.ih hd2
          have l1 := cutW_lo (ws := ls) (a := pl) (x := (pl : Int)) rfl
          refine catL_of m2.ih (m2.ii _ _ e1) upd_same (by simp; omega) fun J3 K3 d3 m3 e3 => ?_
          refine ⟨_, rfl, _, rfl, _, rfl, ?_⟩
          (try dsimp only [tNoPart])
          refine slL_of m3.ih (m3.ii _ _ (m2.ii _ _ (m1.ii _ _ hb7))) fun J4 K4 d4 m4 e4 => ?_
          have l4 := cutW_hi (ws := ls) (a := pl) (x := (pl : Int)) rfl
          refine catL_of m4.ih (m4.ii _ _ e3) e4 (by rw [List.length_append]; simp; omega) fun J5 K5 d5 m5 e5 => ?_
          refine fin (((m1.trans m2).trans (m3.trans m4)).trans m5) e5 (by rw [List.length_append, List.length_append]; simp; omega) fun l hl => ?_
          rcases List.mem_append.mp hl with h | h
          · rcases List.mem_append.mp h with h | h
            · exact .inl (cutW_mem h)
            · exact .inr (List.mem_singleton.mp h)
          · exact .inl (cutW_mem h)
        refine ⟨_, rfl, rfl, _, rfl, ifD (fun c3 => ?_) (fun c3 => ?_)⟩
        · refine ⟨_, rfl, _, rfl, _, rfl, ?_⟩
          (try dsimp only [tNoPart])
          refine slL_of s7 hb7 fun J1 K1 d1 m1 e1 => ?_
          refine ⟨_, rfl, _, rfl, _, _, rfl, rfl, (pl : Int) + 1, rfl, _, rfl, _, _, rfl, rfl, (pl : Int) + 2, rfl, ?_⟩
          (try dsimp only [tNoPart])
          refine slL_of m1.ih (m1.ii _ _ hb7) fun J2 K2 d2 m2 e2 => ?_
          have l1 := cutW_lo (ws := ls) (a := pl) (x := (pl : Int)) rfl
          have l2 := cutW_mid2 (ws := ls) (a := pl + 1) (b := pl + 2) (x := (pl : Int) + 1) (y := (pl : Int) + 2) (by omega) (by omega)
          refine catL_of m2.ih (m2.ii _ _ e1) e2 (by omega) fun J3 K3 d3 m3 e3 => ?_
          refine ⟨_, rfl, _, rfl, _, rfl, _, rfl, _, _, rfl, rfl, (pl : Int) + 1, rfl, ?_⟩
          (try dsimp only [tNoPart])
          have hb9 := m3.ii _ _ (m2.ii _ _ (m1.ii _ _ hb7))
          refine slL_of m3.ih hb9 fun J4 K4 d4 m4 e4 => ?_
          have l4 := cutW_mid2 (ws := ls) (a := pl) (b := pl + 1) (x := (pl : Int)) (y := (pl : Int) + 1) rfl (by omega)
          refine catL_of m4.ih (m4.ii _ _ e3) e4 (by rw [List.length_append]; omega) fun J5 K5 d5 m5 e5 => ?_
          refine ⟨_, rfl, _, rfl, _, _, rfl, rfl, (pl : Int) + 2, rfl, ?_⟩
          (try dsimp only [tNoPart])
          refine slL_of m5.ih (m5.ii _ _ (m4.ii _ _ hb9)) fun J6 K6 d6 m6 e6 => ?_
          have l6 := cutW_hi (ws := ls) (a := pl + 2) (x := (pl : Int) + 2) (by omega)
          refine catL_of m6.ih (m6.ii _ _ e5) e6 (by rw [List.length_append, List.length_append]; omega) fun J7 K7 d7 m7 e7 => ?_
          refine fin ((((m1.trans m2).trans (m3.trans m4)).trans (m5.trans m6)).trans m7) e7 (by rw [List.length_append, List.length_append, List.length_append]; omega) fun l hl => .inl ?_
          rcases List.mem_append.mp hl with h | h
          · rcases List.mem_append.mp h with h | h
            · rcases List.mem_append.mp h with h | h <;> exact cutW_mem h
            · exact cutW_mem h
          · exact cutW_mem h
        have finw : ∀ {I8 H8 : Hp} {c' : Addr} {ws' : List Str}, Gr [p] I7 H7 I8 H8 → PoolOk I8 H8 p → I8 c' = some (.lst (ws'.map V.str)) → WRow (i + 1) ws' → ws'.length ≤ ws.length + 1 → nx3 [some (.ref p), some (.ref b), v2, some (.int pl), some (.int ot), some (.ref c'), some (.int at'), some (.int way)] H8 := fun {I8 H8 c' ws'} g hp8 hc' hr' hl' =>
          q3 _ _ ⟨I8, b, c', ls, ws', rfl, g, hp8, g.ii _ _ hb7, hs.mono (by omega), hc', hr', by omega⟩
        refine ⟨_, rfl, rfl, _, rfl, ifD (fun c4 => ?_) (fun c4 => ?_)⟩
        · refine ⟨_, rfl, _, rfl, _, rfl, ?_⟩
          (try dsimp only [tNoPart])
          refine slL_of s7 hc7 fun J1 K1 d1 m1 e1 => ?_
          refine ⟨_, rfl, _, rfl, _, _, rfl, rfl, ((at' + 1 : Nat) : Int), congrArg V.int (by omega), ?_⟩
          (try dsimp only [tNoPart])
          refine slL_of m1.ih (m1.ii _ _ hc7) fun J2 K2 d2 m2 e2 => ?_
          rw [cutW_take] at e1
          rw [cutW_drop] at e2
          refine catL_of m2.ih (m2.ii _ _ e1) e2 (by rw [List.length_take, List.length_drop]; omega) fun J3 K3 d3 m3 e3 => ?_
          have m := (m1.trans m2).trans m3
          have sb : (ws.take at' ++ ws.drop (at' + 1)).Sublist ws := by
            have : (ws.take at' ++ ws.drop (at' + 1)).Sublist (ws.take at' ++ ws.drop at') := (List.Sublist.refl _).append (List.drop_sublist_drop_left ws (by omega))
            rwa [List.take_append_drop] at this
          exact finw (m.mono fun _ z => nomatch z) (po7.up m (by simp)) e3 ((hr.sub sb).mono (by omega)) (by have := sb.length_le; omega)
        refine ⟨_, rfl, rfl, _, rfl, ifD (fun c5 => ?_) (fun c5 => ?_)⟩
        · refine ⟨_, rfl, _, rfl, _, rfl, ?_⟩
          (try dsimp only [tNoPart])
          refine slL_of s7 hc7 fun J1 K1 d1 m1 e1 => ?_
          rw [cutW_take] at e1
          refine ⟨_, rfl, _, rfl, J1, p, _, ws, rfl, m1.ih, po7.up m1 (by simp), strs_iL (m1.ii _ _ hc7), hr.pw, by omega, fun J2 K2 z m2 po9 pz => ?_⟩
          refine ⟨(by show 1 ≤ sizeLine; decide), fun d2 hd2 => ?_⟩
          have m3 := Gr.new (ms := []) (o := .lst ([z].map V.str)) m2.ih hd2
          have po10 := po9.up m3 (by simp)
          refine catL_of m3.ih (m3.ii _ _ (m2.ii _ _ e1)) upd_same (by rw [List.length_take]; simp; omega) fun J4 K4 d4 m4 e4 => ?_
          refine ⟨_, rfl, _, rfl, _, rfl, ?_⟩
          (try dsimp only [tNoPart])
          refine slL_of m4.ih (m4.ii _ _ (m3.ii _ _ (m2.ii _ _ (m1.ii _ _ hc7)))) fun J5 K5 d5 m5 e5 => ?_
          rw [cutW_drop] at e5
          refine catL_of m5.ih (m5.ii _ _ e4) e5 (by rw [List.length_append, List.length_take, List.length_drop]; simp; omega) fun J6 K6 d6 m6 e6 => ?_
          have mm := ((m1.mono (ns := [p]) fun _ z => nomatch z).trans m2).trans (((m3.trans m4).trans (m5.trans m6)).mono (ns := [p]) fun _ z => nomatch z)
          have po11 := ((po10.up m4 (by simp)).up m5 (by simp)).up m6 (by simp)
          rw [List.append_assoc] at e6
          exact finw mm po11 e6 (WRow.ins pz (by rw [List.take_append_drop]; exact hr)) (by rw [List.length_append, List.length_append, List.length_take, List.length_drop]; simp; omega)
        · refine ⟨_, rfl, _, rfl, _, rfl, ?_⟩
          (try dsimp only [tNoPart])
          refine slL_of s7 hc7 fun J1 K1 d1 m1 e1 => ?_
          rw [cutW_take] at e1
          refine ⟨_, rfl, _, rfl, J1, p, _, ws, rfl, m1.ih, po7.up m1 (by simp), strs_iL (m1.ii _ _ hc7), hr.pw, by omega, fun J2 K2 z m2 po9 pz => ?_⟩
          refine ⟨(by show 1 ≤ sizeLine; decide), fun d2 hd2 => ?_⟩
          have m3 := Gr.new (ms := []) (o := .lst ([z].map V.str)) m2.ih hd2
          have po10 := po9.up m3 (by simp)
          refine catL_of m3.ih (m3.ii _ _ (m2.ii _ _ e1)) upd_same (by rw [List.length_take]; simp; omega) fun J4 K4 d4 m4 e4 => ?_
          refine ⟨_, rfl, _, rfl, _, _, rfl, rfl, ((at' + 1 : Nat) : Int), congrArg V.int (by omega), ?_⟩
          (try dsimp only [tNoPart])
          refine slL_of m4.ih (m4.ii _ _ (m3.ii _ _ (m2.ii _ _ (m1.ii _ _ hc7)))) fun J5 K5 d5 m5 e5 => ?_
          rw [cutW_drop] at e5
          refine catL_of m5.ih (m5.ii _ _ e4) e5 (by rw [List.length_append, List.length_take, List.length_drop]; simp; omega) fun J6 K6 d6 m6 e6 => ?_
          have mm := ((m1.mono (ns := [p]) fun _ z => nomatch z).trans m2).trans (((m3.trans m4).trans (m5.trans m6)).mono (ns := [p]) fun _ z => nomatch z)
          have po11 := ((po10.up m4 (by simp)).up m5 (by simp)).up m6 (by simp)
          rw [List.append_assoc] at e6
          have sb : (ws.take at' ++ ws.drop (at' + 1)).Sublist ws := by
            have : (ws.take at' ++ ws.drop (at' + 1)).Sublist (ws.take at' ++ ws.drop at') := (List.Sublist.refl _).append (List.drop_sublist_drop_left ws (by omega))
            rwa [List.take_append_drop] at this
          exact finw mm po11 e6 (WRow.ins pz (hr.sub sb)) (by rw [List.length_append, List.length_append, List.length_take, List.length_drop]; simp; omega)
      rintro σ' H8 ⟨I8, b', c', ls', ws', rfl, g8, po8, hb8, hs8, hc8, hr8, hl8⟩
      have GG := G.trans g8
      have stay : ∃ (I2 : Hp) (b : Addr) (ls : List Str) (v2' v3 v4 v5 v6 v7 : Option V), ([some (.ref p), some (.ref b'), v2, some (.int pl), some (.int ot), some (.ref c'), some (.int at'), some (.int way)] : L2.St) = [some (.ref p), some (.ref b), v2', v3, v4, v5, v6, v7] ∧ Gr [p] I H I2 H8 ∧ PoolOk I2 H8 p ∧ I2 b = some (.lst (ls.map V.str)) ∧ Ls (i + 1) ls :=
        ⟨I8, b', ls', _, _, _, _, _, _, rfl, GG, po8, hb8, hs8⟩
      refine ⟨_, rfl, _, _, rfl, rfl, _, rfl, ifD (fun c => ?_) (fun c => iteF stay)⟩
      refine ⟨_, rfl, _, rfl, _, _, rfl, .inl ⟨_, SqL.of (g8.ih _ _ hb8), rfl⟩, _, _, rfl, rfl, _, rfl, ifD (fun c2 => ?_) (fun c2 => stay)⟩
      refine ⟨_, rfl, _, rfl, _, rfl, ?_⟩
      (try dsimp only [tNoPart])
      refine slL_of g8.ih hb8 fun J1 K1 d1 m1 e1 => ?_
      have hj := ln_jn hr8 hl8
      have hsz : (ws'.map (·.length)).sum + ws'.length * (" " : Str).length ≤ 16777216 := by
        have d3 : (" " : Str).length = 1 := by decide +kernel
        have := sum_le (l := ws') (b := 130) fun z hz => (hr8.pw z hz).len
        rw [d3]; omega
      refine ⟨rfl, _, rfl, " ", c', ws', rfl, rfl, .inl (SqL.of (m1.ih _ _ (m1.ii _ _ hc8))), hsz, (by show 1 ≤ sizeLine; decide), fun d2 hd2 => ?_⟩
      have m2 := Gr.new (ms := []) (o := .lst ([jn ws'].map V.str)) m1.ih hd2
      have hl8' := hs8.len
      have l1 := cutW_lo (ws := ls') (a := pl) (x := (pl : Int)) rfl
      have l3 := cutW_hi (ws := ls') (a := pl + 1) (x := (pl : Int) + 1) (by omega)
      refine catL_of m2.ih (m2.ii _ _ e1) upd_same (by simp; omega) fun J3 K3 d3 m3 e3 => ?_
      refine ⟨_, rfl, _, rfl, _, _, rfl, rfl, (pl : Int) + 1, rfl, ?_⟩
      (try dsimp only [tNoPart])
      refine slL_of m3.ih (m3.ii _ _ (m2.ii _ _ (m1.ii _ _ hb8))) fun J4 K4 d4 m4 e4 => ?_
      refine catL_of m4.ih (m4.ii _ _ e3) e4 (by rw [List.length_append]; simp; omega) fun J5 K5 d5 m5 e5 => ?_
      have mm := ((m1.trans m2).trans (m3.trans m4)).trans m5
      have hlt : pl < ls'.length := by
        rw [List.length_map] at c2
        have : (pl : Int) < (ls'.length : Int) := c2
        omega
      refine ⟨J5, d5, _, _, _, _, _, _, _, rfl, GG.trans (mm.mono fun _ z => nomatch z), po8.up mm (by simp), e5, ⟨by rw [List.length_append, List.length_append]; simp; omega, fun l hl => ?_⟩⟩
      rcases List.mem_append.mp hl with h | h
      · rcases List.mem_append.mp h with h | h
        · exact hs8.ok l (cutW_mem h)
        · rw [List.mem_singleton.mp h]; exact hj
      · exact hs8.ok l (cutW_mem h)
    rintro σ' H2 ⟨I2, b, ls, v2, v3, v4, v5, v6, v7, rfl, g2, po2, hb, hs⟩
    exact ⟨_, rfl, k _ _ _ ls g2 po2 (strs_iL hb) hs⟩
end
end K

set_option Elab.async false
set_option linter.all false
set_option maxRecDepth 100000
set_option maxHeartbeats 4000000
set_option exponentiation.threshold 5000
namespace K
open PySem PySem.Spec PyProof.Rows L2 Tk Hd Rd Mt TL
section
variable {P : Program} {w : World} {K : PySem.W.Frag} {mg : Str → Option Value} {base : Heap}
/-! ### parts of lists of any kind -/
def cutG {α : Type} (l : List α) (lo hi : Option Int) : List α := (l.drop (HT.sIx l.length 0 lo)).take (HT.sIx l.length l.length hi - HT.sIx l.length 0 lo)
theorem cutV_map {α : Type} {f : α → V} {l : List α} {lo hi : Option Int} : cutV (l.map f) lo hi = (cutG l lo hi).map f := by
  unfold cutV cutG
  rw [List.length_map, ← List.map_drop, ← List.map_take]
theorem cutG_take {α : Type} {l : List α} {a : Nat} : cutG l none (some (a : Int)) = l.take a := by
  unfold cutG; rw [HT.sIx_none, HT.sIx_nat, List.drop_zero, Nat.sub_zero]
  rcases Nat.le_total a l.length with h | h
  · rw [Nat.min_eq_left h]
  · rw [Nat.min_eq_right h, List.take_length, List.take_of_length_le h]
theorem cutG_drop {α : Type} {l : List α} {a : Nat} {x : Int} (hx : x = (a : Int)) : cutG l (some x) none = l.drop a := by
  subst hx
  unfold cutG; rw [HT.sIx_none, HT.sIx_nat]
  rcases Nat.le_total a l.length with h | h
  · rw [Nat.min_eq_left h, List.take_of_length_le (by rw [List.length_drop]; omega)]
  · rw [Nat.min_eq_right h, List.drop_eq_nil_of_le h]; simp
theorem cutG_one {α : Type} {l : List α} {a : Nat} (h : a < l.length) {x y : Int} (hx : x = (a : Int)) (hy : y = (a : Int) + 1) : cutG l (some x) (some y) = (l.drop a).take 1 := by
  subst hx hy
  unfold cutG
  rw [HT.sIx_nat, show ((a : Int) + 1) = ((a + 1 : Nat) : Int) from by omega, HT.sIx_nat, Nat.min_eq_left (by omega), Nat.min_eq_left (by omega)]
  congr 1; omega
section
variable {I H : Hp} {a b : Addr} {xs ys : List V} {Q : VK}
theorem slV_of {lo hi : Option Int} (s : Same I H) (ha : I a = some (.lst xs)) (k : ∀ I' H' c, Gr [] I H I' H' → I' c = some (.lst (cutV xs lo hi)) → Q (.ref c) H') : rSlL K (.ref a) lo hi H Q :=
  ⟨a, _, rfl, SqL.of (s _ _ ha), fun p hp => k _ _ p (Gr.new s hp) upd_same⟩
theorem catV_of (s : Same I H) (ha : I a = some (.lst xs)) (hb : I b = some (.lst ys)) (hl : xs.length + ys.length ≤ 10000000) (k : ∀ I' H' c, Gr [] I H I' H' → I' c = some (.lst (xs ++ ys)) → Q (.ref c) H') : rCat (.ref a) (.ref b) H Q :=
  ⟨a, b, _, _, rfl, rfl, s _ _ ha, s _ _ hb, Nat.le_trans hl (by decide), fun p hp => k _ _ p (Gr.new s hp) upd_same⟩
theorem iL_at {α : Type} {R : Rp α} {v : V} {zs : List α} {i : Nat} {z : α} (h : iL R I v zs) (hz : zs[i]? = some z) : ∃ a vs u, v = .ref a ∧ I a = some (.lst vs) ∧ vs[i]? = some u ∧ R I u z := by
  obtain ⟨a, vs, e, ha, a2⟩ := h
  obtain ⟨u, hu, ru⟩ := a2.get' hz
  exact ⟨a, vs, u, e, ha, hu, ru⟩
end
theorem rot_perm {α : Type} (l : List α) {a : Nat} (h : a < l.length) : (l.take a ++ l.drop (a + 1) ++ (l.drop a).take 1).Perm l := by
  have e := List.take_append_drop a l
  have e2 : l.drop a = (l.drop a).take 1 ++ l.drop (a + 1) := by
    rw [List.drop_eq_getElem_cons h]; rfl
  have p : (l.take a ++ l.drop (a + 1) ++ (l.drop a).take 1).Perm (l.take a ++ ((l.drop a).take 1 ++ l.drop (a + 1))) := by
    rw [List.append_assoc]
    exact List.Perm.append_left _ List.perm_append_comm
  rw [← e2, e] at p
  exact p
theorem gName_of {i : Nat} {v : V} {σ : L2.St} {H : Hp} {Q : L2.St → Hp → Prop} (h : Q (σ.set i (some v)) H) : gName i v σ H Q := h
def spRen : Sp := fun vs H Q _ => ∃ (I : Hp) (p : Addr) (v : V) (M : Ma) (N n bs as : Nat), vs = [.ref p, v] ∧ Same I H ∧ PoolOk I H p ∧ iLM I v M ∧ ML N M n bs as ∧
  ∀ I' H' v' M', Gr [p] I H I' H' → PoolOk I' H' p → iLM I' v' M' → ML N M' n bs as → Q v' H'
theorem sc__law_renamed : FnScope ["pool", "machine", "start", "moves", "order", "state", "turn", "place", "found", "answers", "other", "rows"] ["pool", "machine"] (defScope s__law_renamed) := ⟨rfl, rfl, rfl, by decide +kernel, rfl, by decide +kernel, by decide +kernel⟩
theorem ok_ren (D : Dt K mg) : Has P w K mg base 2 (He.ga K "_law_renamed") ["pool", "machine"] [] (spRen) := by
  obtain ⟨fd, F⟩ := fd__law_renamed D
  have H__law_draw := ok_draw (P := P) (w := w) (base := base) D
  refine hasN F (F.bindsN fun _ _ _ _ _ _ us hl => match us, hl with | [_, _], _ => rfl) sc__law_renamed (fun vs H Q E h => ?_) (fun cdv A outer s H vs Q E hr h => ?_)
  · obtain ⟨I, p, v, M, N, n, bs, as, rfl, _⟩ := h; rfl
  · obtain ⟨I, p, v, M, N, n, bs, as, rfl, s0, po, rm, ml, k⟩ := h
    refine ⟨_, (pss_cons (ps_asg (pv 1) (pg_tupK K rfl (pgs_cons (pg_name (i := 2) sc__law_renamed.nd rfl (Or.inr rfl)) (pgs_cons (pg_name (i := 3) sc__law_renamed.nd rfl (Or.inl rfl)) pgs_nil))))
      (pss_cons (ps_set (i := 4) sc__law_renamed.nd rfl (Or.inr rfl) (pe_lc (own := [("state", 5)]) (g := gName 5) rfl sc__law_renamed.nd (pi_range1 rfl (free_range D) (pa_cons (pe_callB (call_lenK K) rfl (free_len D) PySem.boot_len (pa_cons (pv 2) pa_nil)) pa_nil)) (blkOk_by (own := [("state", 5)]) (N := ["pool", "machine", "start", "moves", "order", "state", "turn", "place", "found", "answers", "other", "rows"]) (by kernel_rfl)) (fun _ _ _ _ _ => (pg_name (i := 5) sc__law_renamed.nd rfl (Or.inl rfl))) (fun _ _ _ _ _ => pts_nil) (fun _ _ _ _ _ => (pv 5))))
      (pss_cons (ps_for PassesOwn.never rfl (pi_range1 rfl (free_range D) (pa_cons pe_int pa_nil)) (pg_name (i := 6) sc__law_renamed.nd rfl (Or.inl rfl))
      (pss_cons (ps_set (i := 7) sc__law_renamed.nd rfl (Or.inl rfl) (pe_callH H__law_draw (hr.mono (by omega)) rfl (glo__law_draw D) passL (pa_cons (pv 0) (pa_cons (pe_callB (call_lenK K) rfl (free_len D) PySem.boot_len (pa_cons (pv 4) pa_nil)) pa_nil))))
      (pss_one (ps_set (i := 4) sc__law_renamed.nd rfl (Or.inr rfl) (pe_op op_cat (pe_op op_cat (pe_slice (sl_listK K) (pv 4) po_none (po_some (pv 7))) (pe_slice (sl_listK K) (pv 4) (po_some (pe_op op_add (pv 7) pe_int)) po_none)) (pe_slice (sl_listK K) (pv 4) (po_some (pv 7)) (po_some (pe_op op_add (pv 7) pe_int))))))))
      (pss_cons (ps_set (i := 8) sc__law_renamed.nd rfl (Or.inl rfl) (pe_lst pa_nil))
      (pss_cons (ps_for PassesOwn.never rfl (pi_listK K (pv 3)) (pg_name (i := 9) sc__law_renamed.nd rfl (Or.inl rfl))
      (pss_one (ps_expr (pe_bm PySem.F.plainAttrs_list PySem.F.slot_list_append PySem.F.type_list_append mt_append (pv 8) (pa_cons (pe_lc (own := [("rows", 11)]) (g := gName 11) rfl sc__law_renamed.nd (pi_listK K (pv 9)) (blkOk_by (own := [("rows", 11)]) (N := ["pool", "machine", "start", "moves", "order", "state", "turn", "place", "found", "answers", "other", "rows"]) (by kernel_rfl)) (fun _ _ _ _ _ => (pg_name (i := 11) sc__law_renamed.nd rfl (Or.inr rfl))) (fun _ _ _ _ _ => pts_nil) (fun _ _ _ _ _ => (pe_lc (own := [("state", 5)]) (g := gName 5) rfl sc__law_renamed.nd (pi_listK K (pv 4)) (blkOk_by (own := [("state", 5)]) (N := ["pool", "machine", "start", "moves", "order", "state", "turn", "place", "found", "answers", "other", "rows"]) (by kernel_rfl)) (fun _ _ _ _ _ => (pg_name (i := 5) sc__law_renamed.nd rfl (Or.inr rfl))) (fun _ _ _ _ _ => pts_nil) (fun _ _ _ _ _ => (pe_lc (own := [("other", 10)]) (g := gName 10) rfl sc__law_renamed.nd (pi_listK K (pv 4)) (blkOk_by (own := [("other", 10)]) (N := ["pool", "machine", "start", "moves", "order", "state", "turn", "place", "found", "answers", "other", "rows"]) (by kernel_rfl)) (fun _ _ _ _ _ => (pg_name (i := 10) sc__law_renamed.nd rfl (Or.inl rfl))) (fun _ _ _ _ _ => pts_nil) (fun _ _ _ _ _ => (pe_ix (ix_listK K) (pe_ix (ix_listK K) (pv 11) (pv 5) (fun _ _ => rfl)) (pv 10) (fun _ _ => rfl)))))))) pa_nil)))))
      (pss_one (ps_ret (pe_tup (pa_cons (pe_lc (own := [("state", 5)]) (g := gName 5) rfl sc__law_renamed.nd (pi_listK K (pv 4)) (blkOk_by (own := [("state", 5)]) (N := ["pool", "machine", "start", "moves", "order", "state", "turn", "place", "found", "answers", "other", "rows"]) (by kernel_rfl)) (fun _ _ _ _ _ => (pg_name (i := 5) sc__law_renamed.nd rfl (Or.inl rfl))) (fun _ _ _ _ _ => pts_nil) (fun _ _ _ _ _ => (pe_ix (ix_listK K) (pv 2) (pv 5) (fun _ _ => rfl)))) (pa_cons (pv 8) pa_nil)))))))))), ?_⟩
    obtain ⟨am, xm, ym, rfl, hm, rx, ry⟩ := id rm
    have n1 := ml.n1
    have b1 := ml.b1
    have a1 := ml.a1
    refine ⟨_, rfl, am, _, rfl, SqT.of (s0 _ _ hm), rfl, _, _, rfl, _, _, rfl, rfl, ?_⟩
    (try dsimp only)
    refine seq_cut (fun σ' H1 => ∃ (I1 : Hp) (b : Addr), σ' = [some (.ref p), some (.ref am), some xm, some ym, some (.ref b), none, none, none, none, none, none, none] ∧ Gr [] I H I1 H1 ∧ I1 b = some (.lst (vn (List.range n)))) (fun nx q => ?_) ?_
    · refine ⟨_, rfl, _, M.1.length, rfl, len_of (iA.l rx) s0, _, rfl, by have := ml.l0; omega, by have := ml.l0; omega, fun l hD => ?_⟩
      rw [ml.l0, Int.toNat_natCast]
      refine lc_range1 iN (fun i => i) s0 hD (lt_line (by omega)) (fun i I3 H3 Nx Qk hi s2 s3 kk => ?_) (fun I3 H3 g3 r3 => ?_)
      · exact ⟨rfl, _, rfl, kk _ _ _ (Gr.refl s3) (by show V.int (0 + (i : Int)) = V.int (i : Int); rw [Int.zero_add])⟩
      · obtain ⟨c, ys, ec, hc, c2⟩ := r3
        cases ec
        have := all2_iN c2
        rw [List.map_id'] at this
        rw [this] at hc
        exact q _ _ ⟨I3, l, rfl, g3, hc⟩
    rintro σ' H1 ⟨I1, b, rfl, g1, hb⟩
    have po1 : PoolOk I1 H1 p := po.up g1 (by simp)
    replace g1 : Gr [p] I H I1 H1 := g1.mono fun _ z => nomatch z
    (try dsimp only)
    -- the order
    refine seq_cut (fun σ' H2 => ∃ (I2 : Hp) (b : Addr) (o : List Nat) (v6 v7 : Option V), σ' = [some (.ref p), some (.ref am), some xm, some ym, some (.ref b), none, v6, v7, none, none, none, none] ∧ Gr [p] I H I2 H2 ∧ PoolOk I2 H2 p ∧ I2 b = some (.lst (vn o)) ∧ o.Perm (List.range n)) (fun nx q => ?_) ?_
    · refine ⟨4, rfl, by decide, by decide, ?_⟩
      refine for_wk (D := { nx := nx, rt := Q }) (wk_range (I := I1)) (fun σ' H2 => ∃ (I2 : Hp) (b : Addr) (o : List Nat) (v6 v7 : Option V), σ' = [some (.ref p), some (.ref am), some xm, some ym, some (.ref b), none, v6, v7, none, none, none, none] ∧ Gr [p] I H I2 H2 ∧ PoolOk I2 H2 p ∧ I2 b = some (.lst (vn o)) ∧ o.Perm (List.range n))
        (fun i σ' H2 => ∃ (I2 : Hp) (b : Addr) (o : List Nat) (v6 v7 : Option V), σ' = [some (.ref p), some (.ref am), some xm, some ym, some (.ref b), none, v6, v7, none, none, none, none] ∧ Gr [p] I H I2 H2 ∧ Same I1 I2 ∧ PoolOk I2 H2 p ∧ I2 b = some (.lst (vn o)) ∧ o.Perm (List.range n))
        (fun i σ' H' h => by obtain ⟨I2, b, o, v6, v7, _, gr, s1, _⟩ := h; exact s1.trans gr.ih)
        ⟨I1, b, _, none, none, rfl, g1, Same.refl _, po1, hb, List.Perm.refl _⟩ (fun nx2 q2 i σ' H' hi h => ?_) (fun σ' H' h => ?_) ?_
      rotate_left
      · obtain ⟨I2, b, o, v6, v7, e, gr, _, r⟩ := h
        exact ⟨I2, b, o, v6, v7, e, gr, r⟩
      · exact fun σ' H' h => q σ' H' h
      clear hb b
      obtain ⟨I2, b, o, v6, v7, rfl, g2, s1, po2, hb, ho⟩ := h
      have lo : o.length = n := by rw [ho.length_eq, List.length_range]
      refine gName_of ?_
      (try dsimp only)
      refine seq_cut (fun σ' H3 => ∃ (pl : Nat), σ' = [some (.ref p), some (.ref am), some xm, some ym, some (.ref b), none, some (.int (0 + (i : Int))), some (.int (pl : Int)), none, none, none, none] ∧ Gr [p] I2 H' I2 H3 ∧ PoolOk I2 H3 p ∧ pl < o.length) (fun nx3 q3 => ?_) ?_
      · refine ⟨_, rfl, _, rfl, _, o.length, rfl, .inl ⟨_, SqL.of (g2.ih _ _ hb), by rw [List.length_map]⟩, I2, p, o.length, rfl, g2.ih, po2, by have := ml.n0; omega, by omega, fun x H3 a3 b3 g3 po3 => ?_⟩
        obtain ⟨pl, rfl⟩ := Int.eq_ofNat_of_zero_le a3
        exact q3 _ _ ⟨pl, rfl, g3, po3, by omega⟩
      rintro σ' H3 ⟨pl, rfl, g3, po3, hpl⟩
      (try dsimp only)
      refine ⟨_, rfl, _, rfl, _, rfl, ?_⟩
      (try dsimp only [tNoPart])
      refine slV_of g3.ih hb fun I4 H4 c4 g4 h4 => ?_
      refine ⟨_, rfl, _, rfl, _, _, rfl, rfl, _, rfl, ?_⟩
      (try dsimp only [tNoPart])
      refine slV_of g4.ih (g4.ii _ _ hb) fun I5 H5 c5 g5 h5 => ?_
      rw [cutV_map, cutG_take] at h4
      rw [cutV_map, cutG_drop (a := pl + 1) (by omega)] at h5
      refine catV_of g5.ih (g5.ii _ _ h4) h5 (by simp; omega) fun I6 H6 c6 g6 h6 => ?_
      refine ⟨_, rfl, _, rfl, _, rfl, _, rfl, _, _, rfl, rfl, _, rfl, ?_⟩
      (try dsimp only [tNoPart])
      have G := (g4.trans g5).trans g6
      refine slV_of G.ih (G.ii _ _ hb) fun I7 H7 c7 g7 h7 => ?_
      rw [cutV_map, cutG_one hpl rfl rfl] at h7
      refine catV_of g7.ih (g7.ii _ _ h6) h7 (by simp; omega) fun I8 H8 c8 g8 h8 => ?_
      rw [← List.map_append, ← List.map_append] at h8
      have G2 := (G.trans g7).trans g8
      exact ⟨I8, c8, _, _, _, rfl, (g2.trans g3).trans (G2.mono fun _ z => nomatch z), s1.trans (g3.ii.trans G2.ii), po3.up G2 (by simp), h8, (rot_perm o hpl).trans ho⟩
    clear g1 po1 hb b I1
    rintro σ' H1 ⟨I1, b, o, v6, v7, rfl, g1, po1, hb, ho⟩
    (try dsimp only)
    have lo : o.length = n := by rw [ho.length_eq, List.length_range]
    have olt : ∀ s ∈ o, s < n := fun s hs => ord_lt ho hs
    obtain ⟨ax, xs, rfl, hx, x2⟩ := id rx
    obtain ⟨ay, ys, rfl, hy, y2⟩ := id ry
    refine seq_cut (fun σ' H2 => ∃ L, σ' = [some (.ref p), some (.ref am), some (.ref ax), some (.ref ay), some (.ref b), none, v6, v7, some (.ref L), none, none, none] ∧ H1 L = none ∧ H2 = upd H1 L (.lst [])) (fun nx q => ?_) ?_
    · exact ⟨(by show 0 ≤ sizeLine; decide), fun L hL => q _ _ ⟨L, rfl, hL, rfl⟩⟩
    rintro σ' H2 ⟨L, rfl, hL, rfl⟩
    (try dsimp only)
    have npL := po1.ne hL
    have hL0 := g1.none hL
    have hI1L := g1.ih.free hL
    have gL : Gr [p] I H I1 (upd H1 L (.lst [])) := g1.trans (Gr.tmp g1.ih hL)
    refine seq_cut (fun σ' H2 => ∃ (I' : Hp) (v9 : Option V) (zs : List V), σ' = [some (.ref p), some (.ref am), some (.ref ax), some (.ref ay), some (.ref b), none, v6, v7, some (.ref L), v9, none, none] ∧ Gr [p] I H I' H2 ∧ Same I1 I' ∧ PoolOk I' H2 p ∧ I' L = none ∧ H2 L = some (.lst zs) ∧ All2 (iL (iL (iL iQ)) I') zs (M.2.map (renB o))) (fun nx q => ?_) ?_
    · have hy1 := g1.ii _ _ hy
      refine ⟨_, rfl, ay, rfl, ⟨_, SqL.of (gL.ih _ _ hy1)⟩, ?_⟩
      refine for_wk (D := { nx := nx, rt := Q }) (wk_list (I := I1) hy1) (fun σ' H2 => ∃ (I' : Hp) (v9 : Option V) (zs : List V), σ' = [some (.ref p), some (.ref am), some (.ref ax), some (.ref ay), some (.ref b), none, v6, v7, some (.ref L), v9, none, none] ∧ Gr [p] I H I' H2 ∧ Same I1 I' ∧ PoolOk I' H2 p ∧ I' L = none ∧ H2 L = some (.lst zs) ∧ All2 (iL (iL (iL iQ)) I') zs (M.2.map (renB o)))
        (fun i σ' H2 => ∃ (I' : Hp) (v9 : Option V) (zs : List V), σ' = [some (.ref p), some (.ref am), some (.ref ax), some (.ref ay), some (.ref b), none, v6, v7, some (.ref L), v9, none, none] ∧ Gr [p] I H I' H2 ∧ Same I1 I' ∧ PoolOk I' H2 p ∧ I' L = none ∧ H2 L = some (.lst zs) ∧ All2 (iL (iL (iL iQ)) I') zs ((M.2.take i).map (renB o)))
        (fun i σ' H' h => by obtain ⟨I', v9, zs, _, gr, s1, _⟩ := h; exact s1.trans gr.ih)
        ⟨I1, none, [], rfl, gL, Same.refl _, po1.mutO npL hI1L, hI1L, upd_same, .nil⟩ (fun nx2 q2 i σ' H' hi h => ?_) (fun σ' H' h => ?_) ?_
      rotate_left
      · obtain ⟨I', v9, zs, e, gr, s1, po2, hI, hH, a2⟩ := h
        rw [List.take_of_length_le (by rw [y2.len]; omega)] at a2
        exact ⟨I', v9, zs, e, gr, s1, po2, hI, hH, a2⟩
      · exact fun σ' H' h => q σ' H' h
      obtain ⟨I', v9, zs, rfl, gr, s1, po2, hLI, hLH, a2⟩ := h
      have hiM : i < M.2.length := by rw [← y2.len]; exact hi
      have hpi : M.2[i]? = some M.2[i] := List.getElem?_eq_getElem hiM
      have hpm := List.getElem_mem hiM
      generalize M.2[i] = pp at hpi hpm
      have bl := ml.b pp hpm
      have rpp := up (g1.ii.trans s1) (gv2 y2 hpi)
      obtain ⟨c, ws, ec, hc, c2⟩ := id rpp
      refine gName_of ?_
      rw [ec]
      (try dsimp only)
      have hb' := s1 _ _ hb
      refine ⟨_, rfl, .inl ⟨rfl, _, SqL.of hLH⟩, _, rfl, c, rfl, ⟨_, SqL.of (gr.ih _ _ hc)⟩, fun l hD => ?_⟩
      have nLl : L ≠ l := ne_of_none hLH hD
      refine lc_map (R := iL (iL iQ)) (Sy := iL (iL iQ)) (fun rows => o.map fun s => renR o (gl rows s)) (wk_list hc) c2 gr.ih hD (lt_line (by rw [bl.l2]; omega)) (fun j rows I3 H3 Nx3 Qk3 hj rr s3 s4 k3 => ?_) (fun I3 H3 g3 r3 => ?_)
      · have hrm := List.mem_of_getElem? hj
        have hb3 := s3 _ _ hb'
        obtain ⟨d, ds, ed, hd, d2⟩ := id rr
        rw [ed]
        refine ⟨rfl, _, rfl, b, rfl, ⟨_, SqL.of (s4 _ _ hb3)⟩, fun l2 hD2 => ?_⟩
        refine lc_map (R := iN) (Sy := iL iQ) (fun s => renR o (gl rows s)) (wk_list hb3) (all2_vn o) s4 hD2 (lt_line (by omega)) (fun js st I4 H4 Nx4 Qk4 hjs rs s5 s6 k4 => ?_) (fun I4 H4 g4 r4 => k3 _ _ _ g4 r4)
        have hst := olt st (List.mem_of_getElem? hjs)
        have hb4 := s5 _ _ hb3
        have evs : gv (vn o) js = V.int (st : Int) := rs
        rw [evs]
        have hgs : rows[st]? = some (gl rows st) := gl_lt (by rw [bl.l3 _ hrm]; exact hst)
        obtain ⟨u, hu, ru⟩ := d2.get' hgs
        obtain ⟨e, es, ee, he, e2⟩ := id ru
        refine ⟨rfl, _, rfl, b, rfl, ⟨_, SqL.of (s6 _ _ hb4)⟩, fun l3 hD3 => ?_⟩
        refine lc_map (R := iN) (Sy := iQ) (fun k => gq (gl rows st) k) (wk_list hb4) (all2_vn o) s6 hD3 (lt_line (by omega)) (fun jk ok I5 H5 Nx5 Qk5 hjk rk s7 s8 k5 => ?_) (fun I5 H5 g5 r5 => k4 _ _ _ g5 r5)
        have hok := olt ok (List.mem_of_getElem? hjk)
        have evk : gv (vn o) jk = V.int (ok : Int) := rk
        rw [evk]
        have hgk : (gl rows st)[ok]? = some (gq (gl rows st) ok) := gq_lt (by rw [bl.l4 _ hrm _ (gl_mem (by rw [bl.l3 _ hrm]; exact hst))]; exact hok)
        obtain ⟨u5, hu5, ru5⟩ := e2.get' hgk
        have sI : Same I3 I5 := s5.trans s7
        rw [ee] at hu
        refine ⟨rfl, _, rfl, _, rfl, _, _, _, _, rfl, rfl, SqL.of (s8 _ _ (sI _ _ hd)), at_of (j := st) rfl hu, _, rfl, _, _, _, _, rfl, rfl, SqL.of (s8 _ _ (sI _ _ he)), at_of (j := ok) rfl hu5, k5 _ _ _ (Gr.refl s8) (up sI ru5)⟩
      · have hLH3 : H3 L = some (.lst zs) := g3.at hLH (by simp)
        have hLI3 := g3.out hLI hLH
        refine ⟨L, zs, _, rfl, rfl, hLH3, lt_line (by rw [a2.len, List.length_map, List.length_take]; have := ml.l1; omega), ?_⟩
        have gg := gr.trans (g3.mono (ns := [p]) fun _ z => nomatch z)
        refine ⟨I3, _, zs ++ [.ref l], rfl, ((gg.mono (ns := [L, p]) fun _ z => List.mem_cons_of_mem _ z).trans (Gr.mut gg.ih hLI3 List.mem_cons_self)).drop hL0, s1.trans g3.ii, (po2.up g3 (by simp)).mutO npL hLI3, hLI3, upd_same, ?_⟩
        rw [List.take_succ, hpi, List.map_append]
        exact (a2.up g3.ii).snoc r3
    rintro σ' H2 ⟨I', v9, zs, rfl, gr, s1, po2, hLI, hLH, a2⟩
    (try dsimp only)
    have hb' := s1 _ _ hb
    have hx' := s1 _ _ (g1.ii _ _ hx)
    have x2' := x2.up (g1.ii.trans s1)
    refine ⟨_, rfl, b, rfl, ⟨_, SqL.of (gr.ih _ _ hb')⟩, fun l hD => ?_⟩
    have nLl : L ≠ l := ne_of_none hLH hD
    refine lc_map (R := iN) (Sy := iQ) (fun k => gq M.1 k) (wk_list hb') (all2_vn o) gr.ih hD (lt_line (by omega)) (fun jk ok I5 H5 Nx5 Qk5 hjk rk s7 s8 k5 => ?_) (fun I5 H5 g5 r5 => ?_)
    · have hok := olt ok (List.mem_of_getElem? hjk)
      have evk : gv (vn o) jk = V.int (ok : Int) := rk
      rw [evk]
      have hgk : M.1[ok]? = some (gq M.1 ok) := gq_lt (by rw [ml.l0]; exact hok)
      obtain ⟨u5, hu5, ru5⟩ := x2'.get' hgk
      exact ⟨rfl, _, rfl, _, rfl, _, _, _, _, rfl, rfl, SqL.of (s8 _ _ (s7 _ _ hx')), at_of (j := ok) rfl hu5, k5 _ _ _ (Gr.refl s8) (up s7 ru5)⟩
    · have hLH5 : H5 L = some (.lst zs) := g5.at hLH (by simp)
      have hLI5 := g5.out hLI hLH
      have gg := gr.trans (g5.mono (ns := [p]) fun _ z => nomatch z)
      have gf : Gr [p] I H (upd I5 L (.lst zs)) H5 := (gg.mono (ns := [L, p]) fun _ z => List.mem_cons_of_mem _ z).frz s0 hL0 hLH5
      refine ⟨_, rfl, (by show 2 ≤ sizeLine; decide), fun t ht => ?_⟩
      have g6 := Gr.new (ms := []) (o := .tup [.ref l, .ref L]) gf.ih ht
      have po6 := ((po2.up g5 (by simp)).frzO (o := .lst zs) npL hLI5).up g6 (by simp)
      refine k _ _ _ (renR o M.1, M.2.map (renB o)) (gf.trans g6.nil) po6 ⟨t, _, _, rfl, upd_same, up ((sNew hLI5).trans g6.ii) r5, L, zs, rfl, g6.ii _ _ upd_same, ?_⟩ (ml.ren ho)
      exact (a2.up (g5.ii.trans (sNew hLI5))).up g6.ii
end
end K

set_option Elab.async false
set_option linter.all false
set_option maxRecDepth 100000
set_option maxHeartbeats 4000000
set_option exponentiation.threshold 5000
namespace K
open PySem PySem.Spec PyProof.Rows L2 Tk Hd Rd Mt TL
section
variable {P : Program} {w : World} {K : PySem.W.Frag} {mg : Str → Option Value} {base : Heap}
theorem iQ_z {H : Hp} {v : V} {q : Rat} (h : iQ H v q) : iZ H v (q.num, (q.den : Int)) := h
theorem Fit.z {q : Rat} (h : Fit q) : Fz (q.num, (q.den : Int)) := ⟨h.1, h.2, den_pos q⟩
theorem cutV_eq {xs : List V} {lo hi : Option Int} : cutV xs lo hi = cutG xs lo hi := rfl
theorem all2_take {α : Type} {R : V → α → Prop} : ∀ {vs : List V} {xs : List α} (n : Nat), All2 R vs xs → All2 R (vs.take n) (xs.take n)
  | _, _, 0, _ => .nil
  | _, _, n + 1, .nil => .nil
  | _, _, n + 1, .cons h t => .cons h (all2_take n t)
theorem all2_drop {α : Type} {R : V → α → Prop} : ∀ {vs : List V} {xs : List α} (n : Nat), All2 R vs xs → All2 R (vs.drop n) (xs.drop n)
  | _, _, 0, h => h
  | _, _, n + 1, .nil => .nil
  | _, _, n + 1, .cons h t => all2_drop n t
theorem Gd.fit' {N : Nat} {q : Rat} (h : Gd N 1 q) (hN : N ≤ 100000) : Fit q := fit_gd h (by decide) (Nat.le_trans hN (by decide))
theorem gd_sub {k m : Nat} (hm : 0 < m) (h : k ≤ m) : Gd m 1 (rt (k : Int) m) ∧ Gd m 1 (1 - rt (k : Int) m) := by
  refine ⟨⟨hm, k, by omega, rfl⟩, ⟨hm, m - k, by omega, ?_⟩⟩
  have e : rt ((m - k : Nat) : Int) m + rt (k : Int) m = 1 := by
    rw [rt_addN _ _ (by omega), show ((m - k : Nat) : Int) + (k : Int) = (m : Int) from by omega]
    exact rt_same (by omega)
  rw [← e]; grind
theorem gd6 {k m : Nat} (h : k ≤ m) (hm : m = 2 ∨ m = 3) : Gd 6 1 (rt (k : Int) m) ∧ Gd 6 1 (1 - rt (k : Int) m) := by
  obtain ⟨g1, g2⟩ := gd_sub (k := k) (m := m) (by omega) h
  rcases hm with rfl | rfl
  · exact ⟨g1.scale (M := 3) (by decide), g2.scale (M := 3) (by decide)⟩
  · exact ⟨g1.scale (M := 2) (by decide), g2.scale (M := 2) (by decide)⟩
theorem one_minus {H : Hp} {v : V} {q : Rat} (h : iQ H v (rt (1 * (q.den : Int) - q.num * 1) (1 * (q.den : Int)))) : iQ H v (1 - q) := by
  rw [← rt_sub]; exact h
/-- a loop that appends to a list of its own, with the pool -/
theorem for_app {β : Type} {J : It} {n : Nat} {xs : Nat → V} {I0 H0 I1 : Hp} {g : TG} {tb : TS} {D : Ends} {σ : L2.St} {H : Hp} {p L : Addr} (R : Rp β) [Mono R] (Rel : Nat → β → Prop) (Sh : L2.St → Prop)
    (W : Wk J n xs I1) (s0 : Same I0 H0) (hL0 : H0 L = none) (g1 : Gr [p] I0 H0 I1 H) (hI : I1 L = none) (hH : H L = some (.lst [])) (po : PoolOk I1 H p) (npL : p ≠ L) (hn : n ≤ 100000) (sh : Sh σ)
    (step : ∀ (nx : L2.St → Hp → Prop) (i : Nat) (σ' : L2.St) (I' H' : Hp) (zs : List V) (Nx : L2.St → Hp → Prop), i < n → Sh σ' → Same I1 I' → Same I' H' → PoolOk I' H' p → I' L = none → H' L = some (.lst zs) → zs.length ≤ 100000 →
      (∀ (σ2 : L2.St) (I2 H2 : Hp) (y : V) (z : β), Sh σ2 → Gr [p] I' H' I2 H2 → PoolOk I2 H2 p → R I2 y z → Rel i z → Nx σ2 (upd H2 L (.lst (zs ++ [y])))) →
      g (xs i) σ' H' fun σ2 H2 => tb { D with nx := Nx, ct := Nx, bk := nx } σ2 H2)
    (fin : ∀ (σ' : L2.St) (I' H' : Hp) (zs : List V) (out : List β), Sh σ' → Gr [p] I0 H0 I' H' → Same I1 I' → PoolOk I' H' p → I' L = none → H' L = some (.lst zs) → All2 (R I') zs out → out.length = n → (∀ i z, out[i]? = some z → Rel i z) → D.nx σ' H') :
    ∃ Wz : Nat → Nat → L2.St → Hp → Prop, (∃ m, Wz 0 m σ H) ∧ ∀ i m σ H, Wz i m σ H →
      (J.stop i H ∧ D.nx σ H) ∨ (J.go i H ∧ ∃ N : L2.St → Hp → Prop, (∀ σ' H', N σ' H' → ∃ m', m' < m ∧ Wz (i + 1) m' σ' H') ∧ ∀ x H', J.yld i H x H' → g x σ H' fun σ2 H2 => tb { D with nx := N, ct := N, bk := D.nx } σ2 H2) := by
  refine for_wk W (fun σ' H' => ∃ (I' : Hp) (zs : List V) (out : List β), Sh σ' ∧ Gr [p] I0 H0 I' H' ∧ Same I1 I' ∧ PoolOk I' H' p ∧ I' L = none ∧ H' L = some (.lst zs) ∧ All2 (R I') zs out ∧ out.length = n ∧ ∀ i z, out[i]? = some z → Rel i z)
    (fun i σ' H' => ∃ (I' : Hp) (zs : List V) (out : List β), Sh σ' ∧ Gr [p] I0 H0 I' H' ∧ Same I1 I' ∧ PoolOk I' H' p ∧ I' L = none ∧ H' L = some (.lst zs) ∧ All2 (R I') zs out ∧ out.length = i ∧ ∀ i z, out[i]? = some z → Rel i z)
    (fun i σ' H' h => by obtain ⟨I', zs, out, _, gr, s1, _⟩ := h; exact s1.trans gr.ih)
    ⟨I1, [], [], sh, g1, Same.refl _, po, hI, hH, .nil, rfl, fun i z h => by simp at h⟩ (fun nx q i σ' H' hi h => ?_) (fun σ' H' h => h) (fun σ' H' h => ?_)
  · obtain ⟨I', zs, out, sh', gr, s1, po', hI', hH', a2, hl, rl⟩ := h
    refine step nx i σ' I' H' zs _ hi sh' s1 gr.ih po' hI' hH' (by rw [a2.len]; omega) fun σ2 I2 H2 y z sh2 g2 po2 ry rz => ?_
    have hI2 := g2.out hI' hH'
    have gg := gr.trans g2
    refine ⟨I2, zs ++ [y], out ++ [z], sh2, ((gg.mono (ns := [L, p]) fun _ z => List.mem_cons_of_mem _ z).trans (Gr.mut gg.ih hI2 List.mem_cons_self)).drop hL0, s1.trans g2.ii, po2.mutO npL hI2, hI2, upd_same, (a2.up g2.ii).snoc ry, by rw [List.length_append, hl]; rfl, fun j u hu => ?_⟩
    by_cases hj : j < out.length
    · rw [List.getElem?_append_left hj] at hu; exact rl j u hu
    · rw [List.getElem?_append_right (by omega)] at hu
      have e : j - out.length = 0 := by
        rcases Nat.eq_zero_or_pos (j - out.length) with h | h
        · exact h
        · rw [List.getElem?_eq_none (by simp; omega)] at hu; cases hu
      rw [e] at hu
      simp at hu
      subst hu
      have : j = i := by omega
      rw [this]; exact rz
  · obtain ⟨I', zs, out, sh', gr, s1, po', hI', hH', a2, hl, rl⟩ := h
    exact fin σ' I' H' zs out sh' gr s1 po' hI' hH' a2 hl rl
def spSpl : Sp := fun vs H Q _ => ∃ (I : Hp) (p : Addr) (v : V) (M : Ma) (N n bs as : Nat), vs = [.ref p, v] ∧ Same I H ∧ PoolOk I H p ∧ iLM I v M ∧ ML N M n bs as ∧ N ≤ 360 ∧ n + 1 ≤ 12 ∧
  ∀ I' H' v' M', Gr [p] I H I' H' → PoolOk I' H' p → iLM I' v' M' → ML (N * 6) M' (n + 1) bs as → Q v' H'
theorem sc__law_split : FnScope ["pool", "machine", "start", "moves", "state", "share", "rest", "found", "answers", "row", "rows", "wide", "own", "part"] ["pool", "machine"] (defScope s__law_split) := ⟨rfl, rfl, rfl, by decide +kernel, rfl, by decide +kernel, by decide +kernel⟩
theorem ok_spl (D : Dt K mg) : Has P w K mg base 3 (He.ga K "_law_split") ["pool", "machine"] [] (spSpl) := by
  obtain ⟨fd, F⟩ := fd__law_split D
  have H__law_draw := ok_draw (P := P) (w := w) (base := base) D
  have H__law_less := ok_ls (P := P) (w := w) (base := base) D
  have H__law_minus := ok_minus (P := P) (w := w) (base := base) D
  have H__law_times := ok_times (P := P) (w := w) (base := base) D
  refine hasN F (F.bindsN fun _ _ _ _ _ _ us hl => match us, hl with | [_, _], _ => rfl) sc__law_split (fun vs H Q E h => ?_) (fun cdv A outer s H vs Q E hr h => ?_)
  · obtain ⟨I, p, v, M, N, n, bs, as, rfl, _⟩ := h; rfl
  · obtain ⟨I, p, v, M, N, n, bs, as, rfl, s0, po, rm, ml, hN, hn1, k⟩ := h
    refine ⟨_, (pss_cons (ps_asg (pv 1) (pg_tupK K rfl (pgs_cons (pg_name (i := 2) sc__law_split.nd rfl (Or.inl rfl)) (pgs_cons (pg_name (i := 3) sc__law_split.nd rfl (Or.inl rfl)) pgs_nil))))
      (pss_cons (ps_set (i := 4) sc__law_split.nd rfl (Or.inl rfl) (pe_callH H__law_draw (hr.mono (by omega)) rfl (glo__law_draw D) passL (pa_cons (pv 0) (pa_cons (pe_callB (call_lenK K) rfl (free_len D) PySem.boot_len (pa_cons (pv 2) pa_nil)) pa_nil))))
      (pss_cons (ps_set (i := 5) sc__law_split.nd rfl (Or.inl rfl) (pe_callH H__law_less (hr.mono (by omega)) rfl (glo__law_less D) passL (pa_cons (pe_callH H__law_draw (hr.mono (by omega)) rfl (glo__law_draw D) passL (pa_cons (pv 0) (pa_cons pe_int pa_nil))) (pa_cons pe_int pa_nil))))
      (pss_cons (ps_set (i := 6) sc__law_split.nd rfl (Or.inl rfl) (pe_callH H__law_minus (hr.mono (by omega)) rfl (glo__law_minus D) passL (pa_cons (pe_tup (pa_cons pe_int (pa_cons pe_int pa_nil))) (pa_cons (pv 5) pa_nil))))
      (pss_cons (ps_set (i := 7) sc__law_split.nd rfl (Or.inl rfl) (pe_lst pa_nil))
      (pss_cons (ps_for PassesOwn.never rfl (pi_listK K (pv 3)) (pg_name (i := 8) sc__law_split.nd rfl (Or.inl rfl))
      (pss_cons (ps_set (i := 9) sc__law_split.nd rfl (Or.inl rfl) (pe_lst pa_nil))
      (pss_cons (ps_for PassesOwn.never rfl (pi_listK K (pv 8)) (pg_name (i := 10) sc__law_split.nd rfl (Or.inl rfl))
      (pss_cons (ps_set (i := 11) sc__law_split.nd rfl (Or.inl rfl) (pe_lst pa_nil))
      (pss_cons (ps_for PassesOwn.never rfl (pi_listK K (pe_op op_cat (pv 10) (pe_lst (pa_cons (pe_ix (ix_listK K) (pv 10) (pv 4) (fun _ _ => rfl)) pa_nil)))) (pg_name (i := 12) sc__law_split.nd rfl (Or.inl rfl))
      (pss_cons (ps_set (i := 13) sc__law_split.nd rfl (Or.inl rfl) (pe_callH H__law_less (hr.mono (by omega)) rfl (glo__law_less D) passL (pa_cons (pe_callH H__law_draw (hr.mono (by omega)) rfl (glo__law_draw D) passL (pa_cons (pv 0) (pa_cons pe_int pa_nil))) (pa_cons pe_int pa_nil))))
      (pss_one (ps_expr (pe_bm PySem.F.plainAttrs_list PySem.F.slot_list_append PySem.F.type_list_append mt_append (pv 11) (pa_cons (pe_op op_cat (pe_op op_cat (pe_op op_cat (pe_slice (sl_listK K) (pv 12) po_none (po_some (pv 4))) (pe_lst (pa_cons (pe_callH H__law_times (hr.mono (by omega)) rfl (glo__law_times D) passL (pa_cons (pe_ix (ix_listK K) (pv 12) (pv 4) (fun _ _ => rfl)) (pa_cons (pv 13) pa_nil))) pa_nil))) (pe_slice (sl_listK K) (pv 12) (po_some (pe_op op_add (pv 4) pe_int)) po_none)) (pe_lst (pa_cons (pe_callH H__law_times (hr.mono (by omega)) rfl (glo__law_times D) passL (pa_cons (pe_ix (ix_listK K) (pv 12) (pv 4) (fun _ _ => rfl)) (pa_cons (pe_callH H__law_minus (hr.mono (by omega)) rfl (glo__law_minus D) passL (pa_cons (pe_tup (pa_cons pe_int (pa_cons pe_int pa_nil))) (pa_cons (pv 13) pa_nil))) pa_nil))) pa_nil))) pa_nil))))))
      (pss_one (ps_expr (pe_bm PySem.F.plainAttrs_list PySem.F.slot_list_append PySem.F.type_list_append mt_append (pv 9) (pa_cons (pv 11) pa_nil)))))))
      (pss_one (ps_expr (pe_bm PySem.F.plainAttrs_list PySem.F.slot_list_append PySem.F.type_list_append mt_append (pv 7) (pa_cons (pv 9) pa_nil)))))))
      (pss_one (ps_ret (pe_tup (pa_cons (pe_op op_cat (pe_op op_cat (pe_op op_cat (pe_slice (sl_listK K) (pv 2) po_none (po_some (pv 4))) (pe_lst (pa_cons (pe_callH H__law_times (hr.mono (by omega)) rfl (glo__law_times D) passL (pa_cons (pe_ix (ix_listK K) (pv 2) (pv 4) (fun _ _ => rfl)) (pa_cons (pv 5) pa_nil))) pa_nil))) (pe_slice (sl_listK K) (pv 2) (po_some (pe_op op_add (pv 4) pe_int)) po_none)) (pe_lst (pa_cons (pe_callH H__law_times (hr.mono (by omega)) rfl (glo__law_times D) passL (pa_cons (pe_ix (ix_listK K) (pv 2) (pv 4) (fun _ _ => rfl)) (pa_cons (pv 6) pa_nil))) pa_nil))) (pa_cons (pv 7) pa_nil))))))))))), ?_⟩
    obtain ⟨am, xm, ym, rfl, hm, rx, ry⟩ := id rm
    have n0 := ml.n0
    have n1 := ml.n1
    have b1 := ml.b1
    have a1 := ml.a1
    obtain ⟨ax, xs, rfl, hx, x2⟩ := id rx
    obtain ⟨ay, ys, rfl, hy, y2⟩ := id ry
    refine ⟨_, rfl, am, _, rfl, SqT.of (s0 _ _ hm), rfl, _, _, rfl, _, _, rfl, rfl, ?_⟩
    (try dsimp only)
    refine seq_cut (fun σ' H1 => ∃ st : Nat, σ' = [some (.ref p), some (.ref am), some (.ref ax), some (.ref ay), some (.int (st : Int)), none, none, none, none, none, none, none, none, none] ∧ Gr [p] I H I H1 ∧ PoolOk I H1 p ∧ st < n) (fun nx q => ?_) ?_
    · refine ⟨_, rfl, _, rfl, _, M.1.length, rfl, len_of (iA.l rx) s0, I, p, M.1.length, rfl, s0, po, by have := ml.l0; omega, by have := ml.l0; omega, fun x H1 a3 b3 g3 po3 => ?_⟩
      obtain ⟨st, rfl⟩ := Int.eq_ofNat_of_zero_le a3
      exact q _ _ ⟨st, rfl, g3, po3, by have := ml.l0; omega⟩
    rintro σ' H1 ⟨st, rfl, g1, po1, hst⟩
    (try dsimp only)
    -- share
    refine seq_cut (fun σ' H2 => ∃ (I2 : Hp) (vs : V) (c : Rat), σ' = [some (.ref p), some (.ref am), some (.ref ax), some (.ref ay), some (.int (st : Int)), some vs, none, none, none, none, none, none, none, none] ∧ Gr [p] I H I2 H2 ∧ PoolOk I2 H2 p ∧ iQ I2 vs c ∧ Gd 6 1 c ∧ Gd 6 1 (1 - c)) (fun nx q => ?_) ?_
    · refine ⟨_, rfl, I, p, 4, rfl, g1.ih, po1, by decide, by decide, fun x H2 a2 b2 g2 po2 => ?_⟩
      obtain ⟨kx, rfl⟩ := Int.eq_ofNat_of_zero_le a2
      refine ⟨I, _, 3, rfl, g2.ih, by decide, by decide, fun I3 H3 v3 g3 r3 => ?_⟩
      obtain ⟨q1, q2⟩ := gd6 (k := kx) (m := 3) (by omega) (.inr rfl)
      exact q _ _ ⟨I3, v3, _, rfl, (g1.trans g2).trans g3.nil, po2.up g3 (by simp), r3, q1, q2⟩
    clear g1 po1
    rintro σ' H2 ⟨I2, vs, c0, rfl, g2, po2, rc, gc1, gc2⟩
    (try dsimp only)
    -- rest
    refine seq_cut (fun σ' H3 => ∃ (I3 : Hp) (vr : V), σ' = [some (.ref p), some (.ref am), some (.ref ax), some (.ref ay), some (.int (st : Int)), some vs, some vr, none, none, none, none, none, none, none] ∧ Gr [p] I H I3 H3 ∧ PoolOk I3 H3 p ∧ iQ I3 vs c0 ∧ iQ I3 vr (1 - c0)) (fun nx q => ?_) ?_
    · refine ⟨(by show 2 ≤ sizeLine; decide), fun t ht => ?_⟩
      have g3 := Gr.new (ms := []) (o := .tup [.int 1, .int 1]) g2.ih ht
      refine ⟨_, rfl, _, .ref t, vs, (1, 1), (c0.num, (c0.den : Int)), rfl, g3.ih, ⟨t, rfl, upd_same⟩, iQ_z (up g3.ii rc), ⟨by decide, by decide, by decide⟩, (Gd.fit' gc1 (by decide)).z, fun I4 H4 v4 g4 r4 => ?_⟩
      have G := g3.trans g4
      exact q _ _ ⟨I4, v4, rfl, g2.trans G.nil, po2.up G (by simp), up G.ii rc, one_minus r4⟩
    clear g2 po2 rc
    rintro σ' H3 ⟨I1, vr, rfl, g1, po1, rs, rr⟩
    (try dsimp only)
    have hx1 := g1.ii _ _ hx
    have hy1 := g1.ii _ _ hy
    have hF1 : ∀ c : Rat, Gd 6 1 c → Fit c := fun c g => Gd.fit' g (by decide)
    have hFN : ∀ q : Rat, Gd N 1 q → Fit q := fun q g => Gd.fit' g (by omega)
    refine seq_cut (fun σ' H2 => ∃ L, σ' = [some (.ref p), some (.ref am), some (.ref ax), some (.ref ay), some (.int (st : Int)), some vs, some vr, some (.ref L), none, none, none, none, none, none] ∧ H3 L = none ∧ H2 = upd H3 L (.lst [])) (fun nx q => ?_) ?_
    · exact ⟨(by show 0 ≤ sizeLine; decide), fun L hL => q _ _ ⟨L, rfl, hL, rfl⟩⟩
    rintro σ' H2 ⟨L, rfl, hL, rfl⟩
    (try dsimp only)
    have npL := po1.ne hL
    have hL0 := g1.none hL
    have hI1L := g1.ih.free hL
    have gL : Gr [p] I H I1 (upd H3 L (.lst [])) := g1.trans (Gr.tmp g1.ih hL)
    refine seq_cut (fun σ' H2 => ∃ (I' : Hp) (v8 v9 v10 v11 v12 v13 : Option V) (zs : List V) (out : List (List Rows)), σ' = [some (.ref p), some (.ref am), some (.ref ax), some (.ref ay), some (.int (st : Int)), some vs, some vr, some (.ref L), v8, v9, v10, v11, v12, v13] ∧ Gr [p] I H I' H2 ∧ Same I1 I' ∧ PoolOk I' H2 p ∧ I' L = none ∧ H2 L = some (.lst zs) ∧ All2 (iL (iL (iL iQ)) I') zs out ∧ SplM st M.2 out) (fun nx q => ?_) ?_
    · refine ⟨_, rfl, ay, rfl, ⟨_, SqL.of (gL.ih _ _ hy1)⟩, ?_⟩
      refine for_app (D := { nx := nx, rt := Q }) (iL (iL (iL iQ))) (fun b out => SplB st (gl M.2 b) out) (fun σ' => ∃ (v8 v9 v10 v11 v12 v13 : Option V), σ' = [some (.ref p), some (.ref am), some (.ref ax), some (.ref ay), some (.int (st : Int)), some vs, some vr, some (.ref L), v8, v9, v10, v11, v12, v13])
        (wk_list (I := I1) hy1) s0 hL0 gL hI1L upd_same (po1.mutO npL hI1L) npL (by have := y2.len; have := ml.l1; omega) ⟨_, _, _, _, _, _, rfl⟩ (fun nx2 i σ' I' H' zs Nx hi sh s1 s2 po2 hLI hLH hlz kN => ?_) (fun σ' I' H' zs out sh gr s1 po2 hLI hLH a2 hl rl => ?_)
      rotate_left
      · obtain ⟨v8, v9, v10, v11, v12, v13, rfl⟩ := sh
        refine q _ _ ⟨I', v8, v9, v10, v11, v12, v13, zs, out, rfl, gr, s1, po2, hLI, hLH, a2, ⟨by rw [hl, y2.len], fun b hb => rl b _ (gl_lt (by rw [hl, y2.len]; exact hb))⟩⟩
      obtain ⟨v8, v9, v10, v11, v12, v13, rfl⟩ := sh
      have hiM : i < M.2.length := by rw [← y2.len]; exact hi
      have rpp := up s1 (gv2 (y2.up g1.ii) (gl_lt hiM))
      have bl := ml.b _ (gl_mem hiM)
      obtain ⟨pp, epp⟩ : ∃ pp, pp = gl M.2 i := ⟨_, rfl⟩
      rw [← epp] at rpp bl kN
      obtain ⟨c, ws, ec, hc, c2⟩ := id rpp
      refine gName_of ?_
      rw [ec]
      (try dsimp only)
      -- a row of states for each answer
      refine seq_cut (fun σ' H2 => ∃ L9, σ' = [some (.ref p), some (.ref am), some (.ref ax), some (.ref ay), some (.int (st : Int)), some vs, some vr, some (.ref L), some (.ref c), some (.ref L9), v10, v11, v12, v13] ∧ H' L9 = none ∧ H2 = upd H' L9 (.lst [])) (fun nx q => ?_) ?_
      · exact ⟨(by show 0 ≤ sizeLine; decide), fun L9 hL => q _ _ ⟨L9, rfl, hL, rfl⟩⟩
      rintro σ' H2 ⟨L9, rfl, hL9, rfl⟩
      (try dsimp only)
      have npL9 := po2.ne hL9
      have hI9 := s2.free hL9
      have nL9L : L9 ≠ L := fun e => by rw [e, hLH] at hL9; cases hL9
      have gL9 : Gr [p] I' H' I' (upd H' L9 (.lst [])) := Gr.tmp s2 hL9
      refine seq_cut (fun σ' H2 => ∃ (I2 : Hp) (v10 v11 v12 v13 : Option V) (zs9 : List V) (out9 : List Rows), σ' = [some (.ref p), some (.ref am), some (.ref ax), some (.ref ay), some (.int (st : Int)), some vs, some vr, some (.ref L), some (.ref c), some (.ref L9), v10, v11, v12, v13] ∧ Gr [p] I' H' I2 H2 ∧ PoolOk I2 H2 p ∧ I2 L9 = none ∧ H2 L9 = some (.lst zs9) ∧ All2 (iL (iL iQ) I2) zs9 out9 ∧ SplB st pp out9) (fun nx9 q9 => ?_) ?_
      · refine ⟨_, rfl, c, rfl, ⟨_, SqL.of (gL9.ih _ _ hc)⟩, ?_⟩
        refine for_app (D := { nx := nx9, rt := Q, ct := Nx, bk := nx2 }) (iL (iL iQ)) (fun a out => SplRows st (gl pp a) out) (fun σ' => ∃ (v10 v11 v12 v13 : Option V), σ' = [some (.ref p), some (.ref am), some (.ref ax), some (.ref ay), some (.int (st : Int)), some vs, some vr, some (.ref L), some (.ref c), some (.ref L9), v10, v11, v12, v13])
          (wk_list (I := I') hc) s2 hL9 gL9 hI9 upd_same (po2.mutO npL9 hI9) npL9 (by have := c2.len; have := bl.l2; omega) ⟨_, _, _, _, rfl⟩ (fun nx3 j σ' I3 H3 zs9 Nx9 hj sh s3 s4 po3 h9I h9H h9z k9 => ?_) (fun σ' I3 H3 zs9 out9 sh gr s3 po3 h9I h9H a9 hl9 rl9 => ?_)
        rotate_left
        · obtain ⟨v10, v11, v12, v13, rfl⟩ := sh
          exact q9 _ _ ⟨I3, v10, v11, v12, v13, zs9, out9, rfl, gr, po3, h9I, h9H, a9, ⟨by rw [hl9, c2.len], fun a ha => rl9 a _ (gl_lt (by rw [hl9, c2.len]; exact ha))⟩⟩
        obtain ⟨v10, v11, v12, v13, rfl⟩ := sh
        have hjp : j < pp.length := by rw [← c2.len]; exact hj
        have rrw := up s3 (gv2 c2 (gl_lt hjp))
        have hrm : gl pp j ∈ pp := gl_mem hjp
        obtain ⟨rows, erows⟩ : ∃ rows, rows = gl pp j := ⟨_, rfl⟩
        rw [← erows] at rrw hrm k9
        have lr : rows.length = n := bl.l3 _ hrm
        obtain ⟨d, ds, ed, hd, d2⟩ := id rrw
        refine gName_of ?_
        rw [ed]
        (try dsimp only)
        refine seq_cut (fun σ' H2 => ∃ L11, σ' = [some (.ref p), some (.ref am), some (.ref ax), some (.ref ay), some (.int (st : Int)), some vs, some vr, some (.ref L), some (.ref c), some (.ref L9), some (.ref d), some (.ref L11), v12, v13] ∧ H3 L11 = none ∧ H2 = upd H3 L11 (.lst [])) (fun nx q => ?_) ?_
        · exact ⟨(by show 0 ≤ sizeLine; decide), fun L11 hL => q _ _ ⟨L11, rfl, hL, rfl⟩⟩
        rintro σ' H2 ⟨L11, rfl, hL11, rfl⟩
        (try dsimp only)
        have npL11 := po3.ne hL11
        have hI11 := s4.free hL11
        have gL11 : Gr [p] I3 H3 I3 (upd H3 L11 (.lst [])) := Gr.tmp s4 hL11
        refine seq_cut (fun σ' H2 => ∃ (I4 : Hp) (v12 v13 : Option V) (zs11 : List V) (out11 : Rows), σ' = [some (.ref p), some (.ref am), some (.ref ax), some (.ref ay), some (.int (st : Int)), some vs, some vr, some (.ref L), some (.ref c), some (.ref L9), some (.ref d), some (.ref L11), v12, v13] ∧ Gr [p] I3 H3 I4 H2 ∧ PoolOk I4 H2 p ∧ I4 L11 = none ∧ H2 L11 = some (.lst zs11) ∧ All2 (iL iQ I4) zs11 out11 ∧ SplRows st rows out11) (fun nx11 q11 => ?_) ?_
        · have hst' : rows[st]? = some (gl rows st) := gl_lt (by rw [lr]; exact hst)
          obtain ⟨ust, hust, rust⟩ := d2.get' hst'
          refine ⟨_, rfl, _, rfl, _, rfl, _, _, _, _, rfl, rfl, SqL.of (gL11.ih _ _ hd), at_of (j := st) rfl hust, (by show 1 ≤ sizeLine; decide), fun e1 he1 => ?_⟩
          have g5 := Gr.new (ms := []) (o := .lst [ust]) gL11.ih he1
          refine catV_of g5.ih (g5.ii _ _ hd) upd_same (by have := d2.len; simp; omega) fun I6 H6 e2 g6 he2 => ⟨e2, rfl, ⟨_, SqL.of (g6.ih _ _ he2)⟩, ?_⟩
          have G6 := g5.trans g6
          have hG6 : Gr [p] I3 H3 I6 H6 := gL11.trans G6.nil
          have w2 : All2 (iL iQ I6) (ds ++ [ust]) (rows ++ [gl rows st]) := ((d2.up G6.ii).snoc (up G6.ii rust))
          refine for_app (D := { nx := nx11, rt := Q, ct := Nx9, bk := nx3 }) (iL iQ) (fun s out => SplR st (gl (rows ++ [gl rows st]) s) out) (fun σ' => ∃ (v12 v13 : Option V), σ' = [some (.ref p), some (.ref am), some (.ref ax), some (.ref ay), some (.int (st : Int)), some vs, some vr, some (.ref L), some (.ref c), some (.ref L9), some (.ref d), some (.ref L11), v12, v13])
            (wk_list (I := I6) he2) s4 hL11 hG6 (G6.out hI11 upd_same) (G6.at upd_same (by simp)) ((po3.mutO npL11 hI11).up G6 (by simp)) npL11 (by have := w2.len; simp at this ⊢; omega) ⟨_, _, rfl⟩ (fun nx4 m σ' I7 H7 zs11 Nx11 hm' sh s7 s8 po7 h11I h11H h11z k11 => ?_) (fun σ' I7 H7 zs11 out11 sh gr s7 po7 h11I h11H a11 hl11 rl11 => ?_)
          rotate_left
          · obtain ⟨v12, v13, rfl⟩ := sh
            have ll : out11.length = rows.length + 1 := by rw [hl11, w2.len]; simp
            exact q11 _ _ ⟨I7, v12, v13, zs11, out11, rfl, gr, po7, h11I, h11H, a11, ⟨ll, fun s hs => rl11 s _ (gl_lt (by rw [ll]; exact hs))⟩⟩
          obtain ⟨v12, v13, rfl⟩ := sh
          have hml : m < (rows ++ [gl rows st]).length := by rw [← w2.len]; exact hm'
          have rx7 := up s7 (gv2 w2 (gl_lt hml))
          have hxm : gl (rows ++ [gl rows st]) m ∈ rows := by
            rcases List.mem_append.mp (gl_mem hml) with h | h
            · exact h
            · rw [List.mem_singleton.mp h]; exact gl_mem (by rw [lr]; exact hst)
          obtain ⟨x, ex⟩ : ∃ x, x = gl (rows ++ [gl rows st]) m := ⟨_, rfl⟩
          rw [← ex] at rx7 hxm k11
          have lx : x.length = n := bl.l4 _ hrm _ hxm
          have gx : Gd N 1 (gq x st) := bl.g _ hrm _ hxm _ (gq_mem (by rw [lx]; exact hst))
          obtain ⟨f, fs, ef, hf, f2⟩ := id rx7
          have lf := f2.len
          obtain ⟨uq, huq, ruq⟩ := f2.get' (gq_lt (l := x) (i := st) (by rw [lx]; exact hst))
          refine gName_of ?_
          rw [ef]
          (try dsimp only)
          -- part
          refine seq_cut (fun σ' H8 => ∃ (I8 : Hp) (vp : V) (cq : Rat), σ' = [some (.ref p), some (.ref am), some (.ref ax), some (.ref ay), some (.int (st : Int)), some vs, some vr, some (.ref L), some (.ref c), some (.ref L9), some (.ref d), some (.ref L11), some (.ref f), some vp] ∧ Gr [p] I7 H7 I8 H8 ∧ PoolOk I8 H8 p ∧ iQ I8 vp cq ∧ Gd 6 1 cq ∧ Gd 6 1 (1 - cq)) (fun nx q => ?_) ?_
          · refine ⟨_, rfl, I7, p, 3, rfl, s8, po7, by decide, by decide, fun y H8 a2 b2 g8 po8 => ?_⟩
            obtain ⟨kx, rfl⟩ := Int.eq_ofNat_of_zero_le a2
            refine ⟨I7, _, 2, rfl, g8.ih, by decide, by decide, fun I9 H9 v9 g9 r9 => ?_⟩
            obtain ⟨z1, z2⟩ := gd6 (k := kx) (m := 2) (by omega) (.inl rfl)
            exact q _ _ ⟨I9, v9, _, rfl, g8.trans g9.nil, po8.up g9 (by simp), r9, z1, z2⟩
          rintro σ' H8 ⟨I8, vp, cq, rfl, g8, po8, rp, gp1, gp2⟩
          (try dsimp only)
          have h11H8 := g8.at h11H (by simpa using npL11.symm)
          have hf8 := g8.ii _ _ hf
          refine ⟨_, rfl, .inl ⟨rfl, _, SqL.of h11H8⟩, ?_⟩
          refine ⟨_, rfl, _, rfl, _, rfl, ?_⟩
          (try dsimp only [tNoPart])
          refine slV_of g8.ih hf8 fun I9 H9 c9 g9 h9 => ?_
          rw [cutV_eq, cutG_take] at h9
          refine ⟨_, rfl, _, rfl, _, _, _, _, rfl, rfl, SqL.of (g9.ih _ _ (g9.ii _ _ hf8)), at_of (j := st) rfl huq, _, rfl, I9, uq, vp, ((gq x st).num, ((gq x st).den : Int)), (cq.num, (cq.den : Int)), rfl, g9.ih, iQ_z (up (g8.ii.trans g9.ii) ruq), iQ_z (up g9.ii rp), (hFN _ gx).z, (hF1 _ gp1).z, fun I10 H10 v10 g10 r10 => ⟨(by show 1 ≤ sizeLine; decide), fun e10 he10 => ?_⟩⟩
          rw [rt_mul] at r10
          have g11 := Gr.new (ms := []) (o := .lst [v10]) g10.ih he10
          refine catV_of g11.ih (g11.ii _ _ (g10.ii _ _ h9)) upd_same (by simp; omega) fun I12 H12 c12 g12 h12 => ?_
          have G12 := (g9.trans g10).trans (g11.trans g12)
          refine ⟨_, rfl, _, rfl, _, _, rfl, rfl, _, rfl, ?_⟩
          (try dsimp only [tNoPart])
          refine slV_of G12.ih (G12.ii _ _ hf8) fun I13 H13 c13 g13 h13 => ?_
          rw [cutV_eq, cutG_drop (a := st + 1) (by omega)] at h13
          refine catV_of g13.ih (g13.ii _ _ h12) h13 (by simp; omega) fun I14 H14 c14 g14 h14 => ?_
          have G14 := (G12.trans g13).trans g14
          refine ⟨_, rfl, _, rfl, _, _, _, _, rfl, rfl, SqL.of (G14.ih _ _ (G14.ii _ _ hf8)), at_of (j := st) rfl huq, (by show 2 ≤ sizeLine; decide), fun t15 ht15 => ?_⟩
          have g15 := Gr.new (ms := []) (o := .tup [.int 1, .int 1]) G14.ih ht15
          refine ⟨_, rfl, _, .ref t15, vp, (1, 1), (cq.num, (cq.den : Int)), rfl, g15.ih, ⟨t15, rfl, upd_same⟩, iQ_z (up (G14.ii.trans g15.ii) rp), ⟨by decide, by decide, by decide⟩, (hF1 _ gp1).z, fun I16 H16 v16 g16 r16 => ?_⟩
          replace r16 := one_minus r16
          refine ⟨I16, uq, v16, ((gq x st).num, ((gq x st).den : Int)), ((1 - cq).num, ((1 - cq).den : Int)), rfl, g16.ih, iQ_z (up (g8.ii.trans (G14.ii.trans (g15.ii.trans g16.ii))) ruq), iQ_z r16, (hFN _ gx).z, (hF1 _ gp2).z, fun I17 H17 v17 g17 r17 => ⟨(by show 1 ≤ sizeLine; decide), fun e18 he18 => ?_⟩⟩
          rw [rt_mul] at r17
          have g18 := Gr.new (ms := []) (o := .lst [v17]) g17.ih he18
          have S18 := g15.ii.trans (g16.ii.trans (g17.ii.trans g18.ii))
          refine catV_of g18.ih (S18 _ _ h14) upd_same (by simp; omega) fun I19 H19 c19 g19 h19 => ?_
          have G19 := G14.trans ((g15.trans g16).trans ((g17.trans g18).trans g19))
          have h11H9 := G19.at h11H8 (by simp)
          refine ⟨L11, zs11, _, rfl, rfl, h11H9, lt_line h11z, ?_⟩
          have fA := (f2.up (g8.ii.trans G19.ii))
          have S10 : Same I10 I19 := (g11.trans g12).ii.trans (g13.ii.trans (g14.ii.trans (S18.trans g19.ii)))
          have S17 : Same I17 I19 := g18.ii.trans g19.ii
          exact k11 _ _ _ (.ref c19) _ ⟨_, _, rfl⟩ (g8.trans G19.nil) (po8.up G19 (by simp)) ⟨c19, _, rfl, h19, (((all2_take st fA).append (.cons (up S10 r10) .nil)).append (all2_drop (st + 1) fA)).append (.cons (up S17 r17) .nil)⟩ ⟨cq, gp1, gp2, rfl⟩
        rintro σ' H4 ⟨I4, v12, v13, zs11, out11, rfl, g4, po4, h11I, h11H, a11, spr⟩
        (try dsimp only)
        -- row.append(wide)
        have gf : Gr [p] I3 H3 (upd I4 L11 (.lst zs11)) H4 := (g4.mono (ns := [L11, p]) fun _ z => List.mem_cons_of_mem _ z).frz s4 hL11 h11H
        have h9H4 := gf.at h9H (by simpa using npL9.symm)
        refine ⟨_, rfl, .inl ⟨rfl, _, SqL.of h9H4⟩, _, rfl, L9, zs9, _, rfl, rfl, h9H4, lt_line h9z, ?_⟩
        exact k9 _ _ _ (.ref L11) out11 ⟨_, _, _, _, rfl⟩ gf (po4.frzO npL11 h11I) ⟨L11, zs11, rfl, upd_same, a11.up (sNew h11I)⟩ spr
      rintro σ' H4 ⟨I4, v10, v11, v12, v13, zs9, out9, rfl, g4, po4, h9I, h9H, a9, spb⟩
      (try dsimp only)
      have gf : Gr [p] I' H' (upd I4 L9 (.lst zs9)) H4 := (g4.mono (ns := [L9, p]) fun _ z => List.mem_cons_of_mem _ z).frz s2 hL9 h9H
      have hLH4 := gf.at hLH (by simpa using npL.symm)
      refine ⟨_, rfl, .inl ⟨rfl, _, SqL.of hLH4⟩, _, rfl, L, zs, _, rfl, rfl, hLH4, lt_line hlz, ?_⟩
      exact kN _ _ _ (.ref L9) out9 ⟨_, _, _, _, _, _, rfl⟩ gf (po4.frzO npL9 h9I) ⟨L9, zs9, rfl, upd_same, a9.up (sNew h9I)⟩ spb
    rintro σ' H2 ⟨I', v8, v9, v10, v11, v12, v13, zs, out, rfl, gr, s1, po2, hLI, hLH, a2, spl⟩
    (try dsimp only)
    have hx' := s1 _ _ hx1
    have fx := x2.up (g1.ii.trans s1)
    have lx : xs.length = n := by rw [x2.len]; exact ml.l0
    have gx : Gd N 1 (gq M.1 st) := ml.g0 _ (gq_mem (by rw [ml.l0]; exact hst))
    obtain ⟨uq, huq, ruq⟩ := fx.get' (gq_lt (l := M.1) (i := st) (by rw [ml.l0]; exact hst))
    have rs' := up s1 rs
    have rr' := up s1 rr
    refine ⟨_, rfl, _, rfl, _, rfl, ?_⟩
    (try dsimp only [tNoPart])
    refine slV_of gr.ih hx' fun I9 H9 c9 g9 h9 => ?_
    rw [cutV_eq, cutG_take] at h9
    refine ⟨_, rfl, _, rfl, _, _, _, _, rfl, rfl, SqL.of (g9.ih _ _ (g9.ii _ _ hx')), at_of (j := st) rfl huq, _, rfl, I9, uq, vs, ((gq M.1 st).num, ((gq M.1 st).den : Int)), (c0.num, (c0.den : Int)), rfl, g9.ih, iQ_z (up g9.ii ruq), iQ_z (up g9.ii rs'), (hFN _ gx).z, (hF1 _ gc1).z, fun I10 H10 v10 g10 r10 => ⟨(by show 1 ≤ sizeLine; decide), fun e10 he10 => ?_⟩⟩
    rw [rt_mul] at r10
    have g11 := Gr.new (ms := []) (o := .lst [v10]) g10.ih he10
    refine catV_of g11.ih (g11.ii _ _ (g10.ii _ _ h9)) upd_same (by simp; omega) fun I12 H12 c12 g12 h12 => ?_
    have G12 := (g9.trans g10).trans (g11.trans g12)
    refine ⟨_, rfl, _, rfl, _, _, rfl, rfl, _, rfl, ?_⟩
    (try dsimp only [tNoPart])
    refine slV_of G12.ih (G12.ii _ _ hx') fun I13 H13 c13 g13 h13 => ?_
    rw [cutV_eq, cutG_drop (a := st + 1) (by omega)] at h13
    refine catV_of g13.ih (g13.ii _ _ h12) h13 (by simp; omega) fun I14 H14 c14 g14 h14 => ?_
    have G14 := (G12.trans g13).trans g14
    refine ⟨_, rfl, _, rfl, _, _, _, _, rfl, rfl, SqL.of (G14.ih _ _ (G14.ii _ _ hx')), at_of (j := st) rfl huq, _, rfl, ?_⟩
    refine ⟨I14, uq, vr, ((gq M.1 st).num, ((gq M.1 st).den : Int)), ((1 - c0).num, ((1 - c0).den : Int)), rfl, G14.ih, iQ_z (up G14.ii ruq), iQ_z (up G14.ii rr'), (hFN _ gx).z, (hF1 _ gc2).z, fun I17 H17 v17 g17 r17 => ⟨(by show 1 ≤ sizeLine; decide), fun e18 he18 => ?_⟩⟩
    rw [rt_mul] at r17
    have g18 := Gr.new (ms := []) (o := .lst [v17]) g17.ih he18
    refine catV_of g18.ih (g18.ii _ _ (g17.ii _ _ h14)) upd_same (by simp; omega) fun I19 H19 c19 g19 h19 => ?_
    have G19 := G14.trans ((g17.trans g18).trans g19)
    have hLH9 := G19.at hLH (by simp)
    have hLI9 := G19.out hLI hLH
    have fA := fx.up G19.ii
    have S10 : Same I10 I19 := (g11.trans g12).ii.trans (g13.ii.trans (g14.ii.trans (g17.ii.trans (g18.ii.trans g19.ii))))
    have S17 : Same I17 I19 := g18.ii.trans g19.ii
    have gg := gr.trans (G19.mono (ns := [p]) fun _ z => nomatch z)
    have gf : Gr [p] I H (upd I19 L (.lst zs)) H19 := (gg.mono (ns := [L, p]) fun _ z => List.mem_cons_of_mem _ z).frz s0 hL0 hLH9
    refine ⟨_, rfl, (by show 2 ≤ sizeLine; decide), fun t ht => ?_⟩
    have g20 := Gr.new (ms := []) (o := .tup [.ref c19, .ref L]) gf.ih ht
    have po20 := ((po2.up G19 (by simp)).frzO (o := .lst zs) npL hLI9).up g20 (by simp)
    refine k _ _ _ (M.1.take st ++ [gq M.1 st * c0] ++ M.1.drop (st + 1) ++ [gq M.1 st * (1 - c0)], out) (gf.trans g20.nil) po20 ⟨t, _, _, rfl, upd_same, up ((sNew hLI9).trans g20.ii) (⟨c19, _, rfl, h19, (((all2_take st fA).append (.cons (up S10 r10) .nil)).append (all2_drop (st + 1) fA)).append (.cons (up S17 r17) .nil)⟩ : iL iQ I19 (.ref c19) _), L, zs, rfl, g20.ii _ _ upd_same, ?_⟩ (ml.spl hn1 hst ⟨c0, gc1, gc2, rfl⟩ spl)
    exact (a2.up (G19.ii.trans (sNew hLI9))).up g20.ii
end
end K

set_option Elab.async false
set_option linter.all false
set_option maxRecDepth 100000
set_option maxHeartbeats 4000000
set_option exponentiation.threshold 5000
namespace K
open PySem PySem.Spec PyProof.Rows L2 Tk Hd Rd Mt TL
theorem gl_set {α : Type} {l : List (List α)} {i j : Nat} {x : List α} (h : i < l.length) : gl (l.set i x) j = if j = i then x else gl l j := by
  by_cases e : j = i
  · subst e; rw [if_pos rfl]; exact gl_of (List.getElem?_set_self h)
  · rw [if_neg e]; unfold gl; rw [List.getD_eq_getElem?_getD, List.getD_eq_getElem?_getD, List.getElem?_set_ne (Ne.symm e)]
theorem gl_none {α : Type} {l : List (List α)} {i : Nat} (h : l.length ≤ i) : gl l i = [] := by
  show l.getD i [] = []
  rw [List.getD_eq_getElem?_getD, List.getElem?_eq_none h]; rfl
/-- some rows of a state on a button are others -/
structure Chg (M : Ma) (b s : Nat) (cut : Nat → List Rat) (i : Nat) (mv : List (List Rows)) : Prop where
  l1 : mv.length = M.2.length
  l2 : ∀ b', (gl mv b').length = (gl M.2 b').length
  l3 : ∀ b' a', (gl (gl mv b') a').length = (gl (gl M.2 b') a').length
  e : ∀ b' a' s', gl (gl (gl mv b') a') s' = if b' = b ∧ s' = s ∧ a' < i then cut a' else gl (gl (gl M.2 b') a') s'
theorem Chg.zero {M : Ma} {b s : Nat} {cut : Nat → List Rat} : Chg M b s cut 0 M.2 := ⟨rfl, fun _ => rfl, fun _ _ => rfl, fun b' a' s' => by rw [if_neg (by omega)]⟩
theorem Chg.succ {M : Ma} {b s i : Nat} {cut : Nat → List Rat} {mv : List (List Rows)} (h : Chg M b s cut i mv) (hb : b < M.2.length) (hi : i < (gl M.2 b).length) (hs : s < (gl (gl M.2 b) i).length) :
    Chg M b s cut (i + 1) (mv.set b ((gl mv b).set i ((gl (gl mv b) i).set s (cut i)))) := by
  have hb' : b < mv.length := by rw [h.l1]; exact hb
  have hi' : i < (gl mv b).length := by rw [h.l2]; exact hi
  have hs' : s < (gl (gl mv b) i).length := by rw [h.l3]; exact hs
  refine ⟨by rw [List.length_set]; exact h.l1, fun b' => ?_, fun b' a' => ?_, fun b' a' s' => ?_⟩
  · rw [gl_set hb']
    by_cases e : b' = b
    · subst e; rw [if_pos rfl, List.length_set]; exact h.l2 b'
    · rw [if_neg e]; exact h.l2 b'
  · rw [gl_set hb']
    by_cases e : b' = b
    · subst e
      rw [if_pos rfl, gl_set hi']
      by_cases e : a' = i
      · subst e; rw [if_pos rfl, List.length_set]; exact h.l3 b' a'
      · rw [if_neg e]; exact h.l3 b' a'
    · rw [if_neg e]; exact h.l3 b' a'
  · rw [gl_set hb']
    by_cases e : b' = b
    · subst e
      rw [if_pos rfl, gl_set hi']
      by_cases e : a' = i
      · subst e
        rw [if_pos rfl, gl_set hs']
        by_cases e : s' = s
        · subst e
          rw [if_pos rfl, if_pos (by omega)]
        · rw [if_neg e, h.e, if_neg (by omega), if_neg (by omega)]
      · rw [if_neg e, h.e]
        by_cases z : b' = b' ∧ s' = s ∧ a' < i
        · rw [if_pos z, if_pos (by omega)]
        · rw [if_neg z, if_neg (by omega)]
    · rw [if_neg e, h.e, if_neg (by omega), if_neg (by omega)]
theorem sq_len {r : Rows} {n : Nat} (h : square r n = true) : r.length = n ∧ ∀ x ∈ r, x.length = n := by
  unfold square at h
  simpa only [Bool.and_eq_true, decide_eq_true_eq] using h
structure FN (st : List Rat) (mv : List (List Rows)) : Prop where
  a : 1 ≤ st.length ∧ st.length ≤ 12
  b : 1 ≤ mv.length ∧ mv.length ≤ 4
  c : 1 ≤ (gl mv 0).length ∧ (gl mv 0).length ≤ 4
  c2 : ∀ p ∈ mv, p.length = (gl mv 0).length
  d : ∀ p ∈ mv, ∀ r ∈ p, square r st.length = true
theorem _root_.Mt.ML.fn {N n bs as : Nat} {M : Ma} (h : ML N M n bs as) : FN M.1 M.2 := by
  have l0 := h.l0
  have l1 := h.l1
  have b0 := h.b0
  have z : (gl M.2 0).length = as := (h.b _ (gl_mem (by omega))).l2
  refine ⟨by have := h.n0; have := h.n1; omega, by have := h.b1; omega, by have := h.a0; have := h.a1; omega, fun p hp => by rw [z]; exact (h.b p hp).l2, fun p hp r hr => ?_⟩
  unfold square
  rw [Bool.and_eq_true, decide_eq_true_iff, decide_eq_true_iff, l0]
  exact ⟨(h.b p hp).l3 r hr, (h.b p hp).l4 r hr⟩
theorem Chg.ml {M : Ma} {b s N n bs as : Nat} {qs : List Rat} {mv : List (List Rows)} (h : Chg M b s (fun a => (qs.drop (a * M.1.length)).take M.1.length) (gl M.2 0).length mv) (ml : ML N M n bs as) (hs : s < M.1.length) (c : Cells ((gl M.2 0).length * M.1.length) qs) (h60 : 60 ∣ N) (hN : 0 < N) : ML N (M.1, mv) n bs as := by
  have l0 := ml.l0
  have l1 := ml.l1
  have b0 := ml.b0
  have z : (gl M.2 0).length = as := (ml.b _ (gl_mem (by omega))).l2
  rw [z, l0] at h c
  rw [l0] at hs
  have cl : ∀ a, a < as → ((qs.drop (a * n)).take n).length = n := fun a ha => by
    rw [List.length_take, List.length_drop, c.len]
    have := blk_le (n := n) ha
    omega
  obtain ⟨m, rfl⟩ := h60
  have m0 : 0 < m := by rcases Nat.eq_zero_or_pos m with e | e
                        · subst e; omega
                        · exact e
  refine ⟨ml.n0, ml.n1, ml.b0, ml.b1, ml.a0, ml.a1, l0, by show mv.length = bs; rw [h.l1, l1], ml.g0, ml.s0, fun p hp => ?_⟩
  obtain ⟨b', hb', rfl⟩ := mem_gl hp
  have hb' : b' < mv.length := hb'
  rw [h.l1] at hb'
  have bl := ml.b _ (gl_mem hb')
  have e2 : (gl mv b').length = as := by rw [h.l2]; exact bl.l2
  have e3 : ∀ a, a < as → (gl (gl mv b') a).length = n := fun a ha => by rw [h.l3]; exact bl.l3 _ (gl_mem (by rw [bl.l2]; exact ha))
  have om : ∀ a s', a < as → s' < n → gl (gl (gl M.2 b') a) s' ∈ gl (gl M.2 b') a ∧ gl (gl M.2 b') a ∈ gl M.2 b' := fun a s' ha hs' => ⟨gl_mem (by rw [bl.l3 _ (gl_mem (by rw [bl.l2]; exact ha))]; exact hs'), gl_mem (by rw [bl.l2]; exact ha)⟩
  show BL _ _ _ (gl mv b')
  refine ⟨e2, fun r hr => ?_, fun r hr x hx => ?_, fun r hr x hx q hq => ?_, fun s' hs' => ?_⟩
  · obtain ⟨a, ha, rfl⟩ := mem_gl hr
    exact e3 a (by rw [← e2]; exact ha)
  · obtain ⟨a, ha, rfl⟩ := mem_gl hr
    rw [e2] at ha
    obtain ⟨s', hs', rfl⟩ := mem_gl hx
    rw [e3 a ha] at hs'
    rw [h.e]
    by_cases y : b' = b ∧ s' = s ∧ a < as
    · rw [if_pos y]; exact cl a ha
    · rw [if_neg y]; exact bl.l4 _ (om a s' ha hs').2 _ (om a s' ha hs').1
  · obtain ⟨a, ha, rfl⟩ := mem_gl hr
    rw [e2] at ha
    obtain ⟨s', hs', rfl⟩ := mem_gl hx
    rw [e3 a ha] at hs'
    rw [h.e] at hq
    by_cases y : b' = b ∧ s' = s ∧ a < as
    · rw [if_pos y] at hq
      exact (c.gd q (List.mem_of_mem_drop (List.mem_of_mem_take hq))).scale m0
    · rw [if_neg y] at hq; exact bl.g _ (om a s' ha hs').2 _ (om a s' ha hs').1 q hq
  · by_cases y : b' = b ∧ s' = s
    · rw [← c.tot, ← cut_sum c.len]
      exact S_congr fun a ha => by rw [h.e, if_pos ⟨y.1, y.2, ha⟩]; exact tot_self (cl a ha)
    · rw [← bl.s s' hs']
      exact S_congr fun a ha => by rw [h.e, if_neg (by omega)]
theorem PoolOk.sub {I I' H : Hp} {p : Addr} (h : PoolOk I H p) (s : Same I I') (n : I' p = none) : PoolOk I' H p := by
  obtain ⟨i, c, cells, pos, b, sd, l, u, h1, h2, h3, h4⟩ := h
  exact ⟨n, c, cells, pos, b, sd, l, u, s _ _ h1, h2, h3, h4⟩
theorem nd_of {α : Type} {zs : List (α × List Addr)} {z : α × List Addr} (nd : (zs.map Prod.snd).flatten.Nodup) (h : z ∈ zs) : z.2.Nodup :=
  List.Nodup.sublist (List.sublist_flatten_of_mem (List.mem_map.mpr ⟨z, h, rfl⟩)) nd
instance : NoL iQ := ⟨fun s ⟨a, e, h⟩ => ⟨a, e, s _ _ h (fun _ z => nomatch z)⟩⟩
instance {C : Addr} : NoL (iR C) := ⟨fun s ⟨a, dx, e, h⟩ => ⟨a, dx, e, s _ _ h (fun _ z => nomatch z)⟩⟩
instance {C C2 : Addr} : NoL (iM C C2) := ⟨fun s ⟨a, dx, va, vb, e, h, r1, r2⟩ => ⟨a, dx, va, vb, e, s _ _ h (fun _ z => nomatch z), NoL.up s r1, NoL.up s r2⟩⟩
section
variable {P : Program} {w : World} {K : PySem.W.Frag} {mg : Str → Option Value} {base : Heap}
abbrev O4 : Oo (List (List Rows)) := oL (oL (oL (oL (o0 iQ))))
def spChanged : Sp := fun vs H Q _ => ∃ (I : Hp) (p : Addr) (v : V) (M : Ma) (N n bs as : Nat), vs = [.ref p, v] ∧ Same I H ∧ PoolOk I H p ∧ iLM I v M ∧ ML N M n bs as ∧ 60 ∣ N ∧ 0 < N ∧
  ∀ I' H' v' M', Gr [p] I H I' H' → PoolOk I' H' p → iLM I' v' M' → ML N M' n bs as → Q v' H'
theorem sc_changed : FnScope ["pool", "machine", "start", "moves", "button", "state", "cells", "found", "line", "rows", "answers", "answer"] ["pool", "machine"] (defScope s__law_changed) := ⟨rfl, rfl, rfl, by decide +kernel, rfl, by decide +kernel, by decide +kernel⟩
theorem ok_changed (D : Dt K mg) : Has P w K mg base 3 (He.ga K "_law_changed") ["pool", "machine"] [] spChanged := by
  obtain ⟨fd, F⟩ := fd__law_changed D
  have H__law_draw := ok_draw (P := P) (w := w) (base := base) D
  have H__law_cells := ok_cells (P := P) (w := w) (base := base) D
  refine hasN F (F.bindsN fun _ _ _ _ _ _ us hl => match us, hl with | [_, _], _ => rfl) sc_changed (fun vs H Q E h => ?_) (fun cdv A outer s H vs Q E hr h => ?_)
  · obtain ⟨I, p, v, M, N, n, bs, as, rfl, _⟩ := h; rfl
  · obtain ⟨I, p, vm, M, N, n, bs, as, rfl, s0, po, rm, ml, h60, hN0, k⟩ := h
    have fn := ml.fn
    obtain ⟨am, xm, ym, rfl, hm, rx, ry⟩ := id rm
    have na := fn.a
    have nb := fn.b
    have nc := fn.c
    refine ⟨_, (pss_cons (ps_asg (pv 1) (pg_tupK K rfl (pgs_cons (pg_name (i := 2) sc_changed.nd rfl (Or.inl rfl)) (pgs_cons (pg_name (i := 3) sc_changed.nd rfl (Or.inl rfl)) pgs_nil))))
      (pss_cons (ps_set (i := 4) sc_changed.nd rfl (Or.inl rfl) (pe_callH H__law_draw (hr.mono (by decide)) rfl (glo__law_draw D) passL (pa_cons (pv 0) (pa_cons (pe_callB (call_lenK K) rfl (free_len D) PySem.boot_len (pa_cons (pv 3) pa_nil)) pa_nil))))
      (pss_cons (ps_set (i := 5) sc_changed.nd rfl (Or.inl rfl) (pe_callH H__law_draw (hr.mono (by decide)) rfl (glo__law_draw D) passL (pa_cons (pv 0) (pa_cons (pe_callB (call_lenK K) rfl (free_len D) PySem.boot_len (pa_cons (pv 2) pa_nil)) pa_nil))))
      (pss_cons (ps_set (i := 6) sc_changed.nd rfl (Or.inl rfl) (pe_callH H__law_cells (hr.mono (by decide)) rfl (glo__law_cells D) passL (pa_cons (pv 0) (pa_cons (pe_op op_mul (pe_callB (call_lenK K) rfl (free_len D) PySem.boot_len (pa_cons (pe_ix (ix_listK K) (pv 3) pe_int (fun _ _ => rfl)) pa_nil)) (pe_callB (call_lenK K) rfl (free_len D) PySem.boot_len (pa_cons (pv 2) pa_nil))) (pa_cons pe_int pa_nil)))))
      (pss_cons (ps_setLc (own := [("answers", 10)]) (g := gName 10) (i := 7) rfl sc_changed.nd rfl rfl (sw_true rfl rfl rfl (by decide +kernel)) (pi_listK K (pv 3)) (blkOk_by (own := [("answers", 10)]) (N := ["pool", "machine", "start", "moves", "button", "state", "cells", "found", "line", "rows", "answers", "answer"]) (by kernel_rfl)) (fun _ _ _ _ _ => (pg_name (i := 10) sc_changed.nd rfl (Or.inl rfl))) (fun _ _ _ _ _ => pts_nil) (fun _ _ _ _ _ => (pe_lc (own := [("rows", 9)]) (g := gName 9) rfl sc_changed.nd (pi_listK K (pv 10)) (blkOk_by (own := [("rows", 9)]) (N := ["pool", "machine", "start", "moves", "button", "state", "cells", "found", "line", "rows", "answers", "answer"]) (by kernel_rfl)) (fun _ _ _ _ _ => (pg_name (i := 9) sc_changed.nd rfl (Or.inl rfl))) (fun _ _ _ _ _ => pts_nil) (fun _ _ _ _ _ => (pe_lc (own := [("line", 8)]) (g := gName 8) rfl sc_changed.nd (pi_listK K (pv 9)) (blkOk_by (own := [("line", 8)]) (N := ["pool", "machine", "start", "moves", "button", "state", "cells", "found", "line", "rows", "answers", "answer"]) (by kernel_rfl)) (fun _ _ _ _ _ => (pg_name (i := 8) sc_changed.nd rfl (Or.inl rfl))) (fun _ _ _ _ _ => pts_nil) (fun _ _ _ _ _ => (pe_callTy (call_list_ofK K) rfl (free_list D) (by decide +kernel) (pa_cons (pv 8) pa_nil))))))))
      (pss_cons (ps_for PassesOwn.never rfl (pi_range1 rfl (free_range D) (pa_cons (pe_callB (call_lenK K) rfl (free_len D) PySem.boot_len (pa_cons (pe_ix (ix_listK K) (pv 3) pe_int (fun _ _ => rfl)) pa_nil)) pa_nil)) (pg_name (i := 11) sc_changed.nd rfl (Or.inl rfl))
      (pss_cons (ps_set (i := 9) sc_changed.nd rfl (Or.inl rfl) (pe_ix (ix_listK K) (pe_ix (ix_listK K) (pv 7) (pv 4) (fun _ _ => rfl)) (pv 11) (fun _ _ => rfl)))
      (pss_one (ps_asg (pe_slice (sl_listK K) (pv 6) (po_some (pe_op op_mul (pv 11) (pe_callB (call_lenK K) rfl (free_len D) PySem.boot_len (pa_cons (pv 2) pa_nil)))) (po_some (pe_op op_add (pe_op op_mul (pv 11) (pe_callB (call_lenK K) rfl (free_len D) PySem.boot_len (pa_cons (pv 2) pa_nil))) (pe_callB (call_lenK K) rfl (free_len D) PySem.boot_len (pa_cons (pv 2) pa_nil))))) (pg_sub (pv 9) (pv 5) set_list)))))
      (pss_one (ps_ret (pe_tup (pa_cons (pv 2) (pa_cons (pv 7) pa_nil))))))))))), ?_⟩
    refine ⟨_, rfl, am, _, rfl, SqT.of (s0 _ _ hm), rfl, _, _, rfl, _, _, rfl, rfl, ?_⟩
    (try dsimp only)
    refine seq_cut (fun σ' H1 => ∃ bt : Nat, σ' = [some (.ref p), some (.ref am), some xm, some ym, some (.int bt), none, none, none, none, none, none, none] ∧ bt < M.2.length ∧ Gr [p] I H I H1 ∧ PoolOk I H1 p) (fun nx q => ?_) ?_
    · refine ⟨_, rfl, _, rfl, _, M.2.length, rfl, len_of (iA.l ry) s0, I, p, M.2.length, rfl, s0, po, by omega, by omega, fun w H1 c0 c1 g2 po2 => ?_⟩
      obtain ⟨j, rfl⟩ := Int.eq_ofNat_of_zero_le c0
      exact q _ _ ⟨j, rfl, by omega, g2, po2⟩
    rintro σ' H1 ⟨bt, rfl, hbt, g1, po1⟩
    (try dsimp only)
    refine seq_cut (fun σ' H1 => ∃ sn : Nat, σ' = [some (.ref p), some (.ref am), some xm, some ym, some (.int bt), some (.int sn), none, none, none, none, none, none] ∧ sn < M.1.length ∧ Gr [p] I H I H1 ∧ PoolOk I H1 p) (fun nx q => ?_) ?_
    · refine ⟨_, rfl, _, rfl, _, M.1.length, rfl, len_of (iA.l rx) g1.ih, I, p, M.1.length, rfl, g1.ih, po1, by omega, by omega, fun w H1 c0 c1 g2 po2 => ?_⟩
      obtain ⟨j, rfl⟩ := Int.eq_ofNat_of_zero_le c0
      exact q _ _ ⟨j, rfl, by omega, g1.trans g2, po2⟩
    clear g1 po1 H1
    rintro σ' H1 ⟨sn, rfl, hsn, g1, po1⟩
    obtain ⟨ay, mys, rfl, hy, y2⟩ := id ry
    obtain ⟨u0, hu0, ru0⟩ := y2.get' (gl_lt (l := M.2) (i := 0) (by omega))
    have anb : (gl M.2 0).length * M.1.length ≤ 4 * 12 := Nat.mul_le_mul nc.2 na.2
    have an0 : 0 < (gl M.2 0).length * M.1.length := Nat.mul_pos nc.1 na.1
    (try dsimp only)
    refine seq_cut (fun σ' H1 => ∃ (I1 : Hp) (vc : V) (qs : List Rat), σ' = [some (.ref p), some (.ref am), some xm, some (.ref ay), some (.int bt), some (.int sn), some vc, none, none, none, none, none] ∧ Gr [p] I H I1 H1 ∧ PoolOk I1 H1 p ∧ iL iQ I1 vc qs ∧ Cells ((gl M.2 0).length * M.1.length) qs) (fun nx q => ?_) ?_
    · refine ⟨_, rfl, _, rfl, _, _, _, _, rfl, rfl, SqL.of (g1.ih _ _ hy), at_of (j := 0) rfl hu0, _, (gl M.2 0).length, rfl, len_of (iA.l ru0) g1.ih, _, rfl, _, M.1.length, rfl, len_of (iA.l rx) g1.ih, _, _, rfl, rfl, mulc (by omega) (by omega), I, p, (gl M.2 0).length * M.1.length, 3, by rw [Int.natCast_mul]; rfl, g1.ih, po1, an0, by omega, by decide, by decide, fun I2 H2 v2 qs g2 po2 r2 c2 => ?_⟩
      exact q _ _ ⟨I2, v2, qs, rfl, g1.trans g2, po2, r2, c2⟩
    clear g1 po1 H1
    rintro σ' H1 ⟨I1, vc, qs, rfl, g1, po1, rc, cq⟩
    (try dsimp only)
    refine seq_cut (fun σ' H2 => ∃ (Is : Hp) (L : Addr) (S : List Addr), σ' = [some (.ref p), some (.ref am), some xm, some (.ref ay), some (.int bt), some (.int sn), some vc, some (.ref L), none, none, none, none] ∧ Gr [p] I H Is H2 ∧ PoolOk Is H2 p ∧ iL iQ Is vc qs ∧ O4 Is H2 (.ref L) (M.2, S) ∧ S.Nodup ∧ (∀ a ∈ S, H a = none ∧ Is a = none)) (fun nx q => ?_) ?_
    · have hy1 := g1.ii _ _ hy
      refine ⟨_, rfl, ay, rfl, ⟨_, SqL.of (g1.ih _ _ hy1)⟩, fun l hD => lc_own (R := iL (iL (iL iQ))) (O := oL (oL (oL (o0 iQ)))) id (wk_list hy1) (y2.up g1.ii) g1.ih hD (lt_line (by omega)) (fun i pp I2 H2 Nx2 Qk2 hi rp _ s2 k2 => ?_) (fun I2 H2 S g2 o2 nd fr => ?_)⟩
      · obtain ⟨c, zs, ec, hc, c2⟩ := id rp
        have l2 := fn.c2 _ (List.mem_of_getElem? hi)
        rw [ec]
        refine ⟨rfl, _, rfl, c, rfl, ⟨_, SqL.of (s2 _ _ hc)⟩, fun l hD => lc_own (R := iL (iL iQ)) (O := oL (oL (o0 iQ))) id (wk_list hc) c2 s2 hD (lt_line (by omega)) (fun j r I3 H3 Nx3 Qk3 hj rr _ s3 k3 => ?_) (fun I3 H3 S g3 o3 nd fr => k2 _ _ _ S g3 (by rw [List.map_id] at o3; exact o3) nd fr)⟩
        obtain ⟨d, ws, ed, hd, d2⟩ := id rr
        have l30 := sq_len (fn.d _ (List.mem_of_getElem? hi) _ (List.mem_of_getElem? hj))
        rw [ed]
        refine ⟨rfl, _, rfl, d, rfl, ⟨_, SqL.of (s3 _ _ hd)⟩, fun l hD => lc_own (R := iL iQ) (O := oL (o0 iQ)) id (wk_list hd) d2 s3 hD (lt_line (by omega)) (fun u x I4 H4 Nx4 Qk4 hu rx _ s4 k4 => ?_) (fun I4 H4 S g4 o4 nd fr => k3 _ _ _ S g4 (by rw [List.map_id] at o4; exact o4) nd fr)⟩
        obtain ⟨t, vs, et, ht, t2⟩ := id rx
        rw [et]
        refine ⟨rfl, _, rfl, t, vs, rfl, .inl (SqL.of (s4 _ _ ht)), fun l hl => ?_⟩
        have g5 := Gr.new (ms := []) (o := .lst vs) s4 hl
        exact k4 _ _ _ [l] g5 (oL_leaf upd_same (t2.up g5.ii)) (by simp) (fun a ha => by rw [List.mem_singleton.mp ha]; exact hl)
      · rw [List.map_id] at o2
        have gs := gr_strip g2 (fun a => a ∈ S) fr g1.ih
        refine q _ _ ⟨_, l, S, rfl, g1.trans gs.nil, po1.up gs (by simp), up gs.ii rc, ?_, nd, fun a ha => ⟨g1.none (fr a ha), strip_in ha⟩⟩
        have so := Ow.so o2
        refine Ow.fr (Same.refl _) (fun a ha => ?_) (OwN.up (strip_nol so) o2)
        obtain ⟨ws, e⟩ := so a ha
        show H2 a = I2 a
        rw [e, g2.ih _ _ e]
    clear g1 po1 rc H1 I1
    rintro σ' H1 ⟨I1, L, S, rfl, g1, po1, rc, o4, nd, fr⟩
    (try dsimp only)
    refine seq_cut (fun σ' H2 => ∃ (v9 v11 : Option V) (mv : List (List Rows)) (S : List Addr), σ' = [some (.ref p), some (.ref am), some xm, some (.ref ay), some (.int bt), some (.int sn), some vc, some (.ref L), none, v9, none, v11] ∧ Gr [p] I H I1 H2 ∧ PoolOk I1 H2 p ∧ O4 I1 H2 (.ref L) (mv, S) ∧ S.Nodup ∧ (∀ a ∈ S, H a = none ∧ I1 a = none) ∧ Chg M bt sn (fun a => (qs.drop (a * M.1.length)).take M.1.length) (gl M.2 0).length mv) (fun nx q => ?_) ?_
    · have hy1 := g1.ii _ _ hy
      refine ⟨_, rfl, _, _, _, _, rfl, rfl, SqL.of (g1.ih _ _ hy1), at_of (j := 0) rfl hu0, _, (gl M.2 0).length, rfl, len_of (iA.l (up g1.ii ru0)) g1.ih, _, rfl, by omega, by omega, ?_⟩
      rw [Int.toNat_natCast]
      refine for_wk (wk_range (I := I1))
        (fun σ' H2 => ∃ (v9 v11 : Option V) (mv : List (List Rows)) (S : List Addr), σ' = [some (.ref p), some (.ref am), some xm, some (.ref ay), some (.int bt), some (.int sn), some vc, some (.ref L), none, v9, none, v11] ∧ Gr [p] I H I1 H2 ∧ PoolOk I1 H2 p ∧ O4 I1 H2 (.ref L) (mv, S) ∧ S.Nodup ∧ (∀ a ∈ S, H a = none ∧ I1 a = none) ∧ Chg M bt sn (fun a => (qs.drop (a * M.1.length)).take M.1.length) (gl M.2 0).length mv)
        (fun i σ' H2 => ∃ (v9 v11 : Option V) (mv : List (List Rows)) (S : List Addr), σ' = [some (.ref p), some (.ref am), some xm, some (.ref ay), some (.int bt), some (.int sn), some vc, some (.ref L), none, v9, none, v11] ∧ Gr [p] I H I1 H2 ∧ PoolOk I1 H2 p ∧ O4 I1 H2 (.ref L) (mv, S) ∧ S.Nodup ∧ (∀ a ∈ S, H a = none ∧ I1 a = none) ∧ Chg M bt sn (fun a => (qs.drop (a * M.1.length)).take M.1.length) i mv)
        (fun i σ' H2 h => by obtain ⟨v9, v11, mv, S, _, gr, _⟩ := h; exact gr.ih)
        ⟨none, none, M.2, S, rfl, g1, po1, o4, nd, fr, Chg.zero⟩ (fun nx2 q2 i σ' H2 hi h => ?_) (fun σ' H2 h => h) (fun σ' H2 h => q σ' H2 h)
      clear o4 nd fr S
      obtain ⟨v9, v11, mv, S, rfl, gr, po2, o4, nd, fr, ch⟩ := h
      have lab : (gl M.2 bt).length = (gl M.2 0).length := fn.c2 _ (List.mem_of_getElem? (gl_lt hbt))
      have lsq := (sq_len (fn.d _ (List.mem_of_getElem? (gl_lt hbt)) _ (List.mem_of_getElem? (gl_lt (l := gl M.2 bt) (i := i) (by omega))))).1
      have chs := ch.succ hbt (by omega) (by omega)
      have e1 := ch.l1
      have e2 := ch.l2 bt
      have e3 := ch.l3 bt i
      obtain ⟨L', vsL, zsL, eL, hL, aL, pL, qL⟩ := o4
      cases eL
      dsimp only at pL qL
      obtain ⟨zb, hzb, ezb⟩ : ∃ z, zsL[bt]? = some z ∧ z.1 = gl mv bt := by
        have hb' := gl_lt (l := mv) (i := bt) (by omega)
        rw [pL, List.getElem?_map] at hb'
        cases e : zsL[bt]? with
        | none => rw [e] at hb'; cases hb'
        | some z => rw [e] at hb'; exact ⟨z, rfl, by rw [← pL] at hb'; exact Option.some.inj hb'⟩
      obtain ⟨ub, hub, ob⟩ := aL.get' hzb
      obtain ⟨B, vsB, zsB, rfl, hB, aB, pB, qB⟩ := ob
      obtain ⟨zr, hzr, ezr⟩ : ∃ z, zsB[i]? = some z ∧ z.1 = gl (gl mv bt) i := by
        have hb' := gl_lt (l := gl mv bt) (i := i) (by omega)
        rw [← ezb, pB, List.getElem?_map] at hb'
        cases e : zsB[i]? with
        | none => rw [e] at hb'; cases hb'
        | some z => rw [e] at hb'; exact ⟨z, rfl, by rw [← pB, ezb] at hb'; exact Option.some.inj hb'⟩
      obtain ⟨ur, hur, orr⟩ := aB.get' hzr
      obtain ⟨R, vsR, zsR, rfl, hR, aR, pR, qR⟩ := orr
      have lR : vsR.length = M.1.length := by
        have := congrArg List.length pR
        rw [ezr, List.length_map, e3, lsq] at this
        rw [aR.len, ← this]
      obtain ⟨zl, hzl⟩ : ∃ z, zsR[sn]? = some z := ⟨_, List.getElem?_eq_getElem (by rw [← aR.len, lR]; exact hsn)⟩
      (try dsimp only)
      refine seq_cut (fun σ' H3 => H3 = H2 ∧ σ' = [some (.ref p), some (.ref am), some xm, some (.ref ay), some (.int bt), some (.int sn), some vc, some (.ref L), none, some (.ref R), none, some (.int (0 + (i : Int)))]) (fun nx q => ?_) ?_
      · exact ⟨_, rfl, _, rfl, _, _, _, _, rfl, rfl, SqL.of hL, at_of (j := bt) rfl hub, _, rfl, _, _, _, _, rfl, rfl, SqL.of hB, at_of (j := i) (by omega) hur, q _ _ ⟨rfl, rfl⟩⟩
      rintro σ' H3 ⟨rfl, rfl⟩
      obtain ⟨c, cs, rfl, hc, c2⟩ := id rc
      have lx := len_of (K := K) (iA.l (up g1.ii rx)) gr.ih
      have e : (0 + (i : Int)) * ((M.1.length : Nat) : Int) = ((i * M.1.length : Nat) : Int) := by rw [Int.zero_add, Int.natCast_mul]
      refine ⟨_, rfl, _, rfl, _, rfl, _, M.1.length, rfl, lx, _, _, rfl, rfl, mulc (by omega) (by omega), _, rfl, _, rfl, _, rfl, _, M.1.length, rfl, lx, _, _, rfl, rfl, mulc (by omega) (by omega), _, rfl, _, M.1.length, rfl, lx, _, _, rfl, rfl, _, rfl, ?_⟩
      rw [e]
      have hi' : i < (gl M.2 0).length := hi
      refine ⟨c, cs, rfl, SqL.of (gr.ih _ _ hc), fun l hl => ?_⟩
      rw [cutV_nat (by rw [c2.len, cq.len]; exact blk_le hi')]
      have nlR : R ≠ l := ne_of_none hR hl
      refine ⟨_, rfl, _, rfl, R, vsR, (sn : Int), sn, rfl, rfl, by rw [upd_ne nlR]; exact hR, (show ixN vsR.length (sn : Int) = some sn from ?_), ?_⟩
      · unfold ixN
        rw [if_pos (by omega), if_pos (by omega)]; rfl
      have RS : R ∈ S := by rw [qL]; exact List.mem_cons_of_mem _ (mem_fl (List.mem_of_getElem? hzb) (by rw [qB]; exact List.mem_cons_of_mem _ (mem_fl (List.mem_of_getElem? hzr) (by rw [qR]; exact List.mem_cons_self))))
      obtain ⟨fR, iRn⟩ := fr R RS
      have gl1 := gr.trans (Gr.tmp (ms := [p]) (o := .lst ((cs.drop (i * M.1.length)).take M.1.length)) gr.ih hl)
      have gl2 := ((gl1.mono (ns := [R, p]) fun _ z => List.mem_cons_of_mem _ z).trans (Gr.mut (o := .lst (vsR.set sn (.ref l))) gl1.ih iRn List.mem_cons_self)).drop fR
      have same : ∀ b o, b ≠ R → H3 b = some o → upd (upd H3 l (.lst ((cs.drop (i * M.1.length)).take M.1.length))) R (.lst (vsR.set sn (.ref l))) b = H3 b := fun b o n e => by
        rw [upd_ne n, upd_ne (ne_of_none e hl)]
      have ol : oL (o0 iQ) I1 (upd (upd H3 l (.lst ((cs.drop (i * M.1.length)).take M.1.length))) R (.lst (vsR.set sn (.ref l)))) (.ref l) ((qs.drop (i * M.1.length)).take M.1.length, [l]) :=
        oL_leaf (by rw [upd_ne (Ne.symm nlR)]; exact upd_same) (c2.cut _ _)
      have ndL : (L :: (zsL.map Prod.snd).flatten).Nodup := by rw [← qL]; exact nd
      have ndB : (B :: (zsB.map Prod.snd).flatten).Nodup := by rw [← qB]; exact nd_of (List.nodup_cons.mp ndL).2 (List.mem_of_getElem? hzb)
      have ndR : (R :: (zsR.map Prod.snd).flatten).Nodup := by rw [← qR]; exact nd_of (List.nodup_cons.mp ndB).2 (List.mem_of_getElem? hzr)
      obtain ⟨oR, nR⟩ := oL_put hR aR ndR hzl upd_same ol (z := zl) (z' := ((qs.drop (i * M.1.length)).take M.1.length, [l])) ⟨by simp, fun a ha => .inr (by rw [List.mem_singleton.mp ha]; exact hl)⟩ same
      obtain ⟨oB, nB⟩ := oL_set hB aB ndB hur hzr oR (by rw [qR]; exact nR) (fun a o n e => same a o (fun z => n (by rw [qR, z]; exact List.mem_cons_self)) e)
      obtain ⟨oL', nL⟩ := oL_set hL aL ndL hub hzb oB (by rw [qB]; exact nB) (fun a o n e => same a o (fun z => n (by rw [qB, z]; exact List.mem_cons_of_mem _ (mem_fl (List.mem_of_getElem? hzr) (by rw [qR]; exact List.mem_cons_self)))) e)
      refine ⟨_, _, _, _, rfl, gl2, (po2.mutO (po2.ne hl) (gr.ih.free hl)).mutO (po.ne fR) iRn, oL', nL.nd, fun a ha => ?_, ?_⟩
      · rcases nL.so a ha with h | h
        · exact fr a (by rw [qL]; exact h)
        · exact ⟨gr.none h, gr.ih.free h⟩
      · dsimp only
        rw [← pL, ← pB, ← pR, ezb, ezr]
        exact chs
    clear g1 po1 o4 nd fr S H1
    rintro σ' H1 ⟨v9, v11, mv, S, rfl, g1, po1, o4, nd, fr, ch⟩
    have gp := gr_put (S := S) (ms := [p]) (g1.mono fun _ z => List.mem_append_right _ z) s0 fun a ha => (fr a ha).1
    have pS : p ∉ S := fun h => po.ne (fr p h).1 rfl
    have ii := put_ii (S := S) g1.ih
    have o5 : O4 (put S I1 H1) (put S I1 H1) (.ref L) (mv, S) := Ow.fr ii (fun a (ha : a ∈ S) => put_in ha) o4
    have r4 : iL (iL (iL (iL iQ))) (put S I1 H1) (.ref L) mv := Fz'.to (O := O4) o5
    refine ⟨_, rfl, _, rfl, (by show 2 ≤ sizeLine; decide), fun t ht => ?_⟩
    have g6 := Gr.new (ms := []) (o := .tup [xm, .ref L]) gp.ih ht
    exact k _ _ _ (M.1, mv) (gp.trans g6.nil) ((po1.sub ii (by rw [put_out pS]; exact po1.1)).up g6 (by simp)) ⟨t, _, _, rfl, upd_same, up g6.ii (up gp.ii rx), up g6.ii r4⟩ (ch.ml ml hsn cq h60 hN0)
end
end K

set_option Elab.async false
set_option linter.all false
set_option maxRecDepth 100000
set_option maxHeartbeats 4000000
set_option exponentiation.threshold 5000
namespace K
open PySem PySem.Spec PyProof.Rows L2 Tk Hd Rd Mt TL
section
variable {P : Program} {w : World} {K : PySem.W.Frag} {mg : Str → Option Value} {base : Heap}
/-- two machines of as many buttons and answers -/
def iP2 : Rp (Ma × Ma) := fun H v A => ∃ t x y, v = .ref t ∧ H t = some (.tup [x, y]) ∧ iLM H x A.1 ∧ iLM H y A.2
instance : Mono iP2 := ⟨fun s ⟨t, x, y, e, h, p, q⟩ => ⟨t, x, y, e, s _ _ h, up s p, up s q⟩⟩
structure Pr (m : Nat) (A B : Ma) (a b bs as : Nat) : Prop where
  one : ML 2160 A a bs as
  two : ML 2160 B b bs as
  sz : a + b ≤ 2 * m + 2
  sa : a ≤ m + 2
  sb : b ≤ m + 2
def spPairL : Sp := fun vs H Q _ => ∃ (I : Hp) (p : Addr) (most : Nat), vs = [.ref p, .int (most : Int)] ∧ Same I H ∧ PoolOk I H p ∧ 2 ≤ most ∧ most ≤ 4 ∧
  ∀ I' H' v A B a b bs as, Gr [p] I H I' H' → PoolOk I' H' p → iP2 I' v (A, B) → Pr most A B a b bs as → Q v H'
theorem sc__law_pair : FnScope ["pool", "most", "buttons", "answers", "one", "way", "other"] ["pool", "most"] (defScope s__law_pair) := ⟨rfl, rfl, rfl, by decide +kernel, rfl, by decide +kernel, by decide +kernel⟩
theorem ok_pairL (D : Dt K mg) : Has P w K mg base 5 (He.ga K "_law_pair") ["pool", "most"] [] (spPairL) := by
  obtain ⟨fd, F⟩ := fd__law_pair D
  have H__law_draw := ok_draw (P := P) (w := w) (base := base) D
  have H__law_machine := ok_lmach (P := P) (w := w) (base := base) D
  have H__law_changed := ok_changed (P := P) (w := w) (base := base) D
  have H__law_split := ok_spl (P := P) (w := w) (base := base) D
  have H__law_renamed := ok_ren (P := P) (w := w) (base := base) D
  refine hasN F (F.bindsN fun _ _ _ _ _ _ us hl => match us, hl with | [_, _], _ => rfl) sc__law_pair (fun vs H Q E h => ?_) (fun cdv A outer s H vs Q E hr h => ?_)
  · obtain ⟨I, p, most, rfl, _⟩ := h; rfl
  · obtain ⟨I, p, most, rfl, s0, po, m0, m1, k⟩ := h
    refine ⟨_, (pss_cons (ps_set (i := 2) sc__law_pair.nd rfl (Or.inl rfl) (pe_op op_add pe_int (pe_callH H__law_draw (hr.mono (by omega)) rfl (glo__law_draw D) passL (pa_cons (pv 0) (pa_cons pe_int pa_nil)))))
      (pss_cons (ps_set (i := 3) sc__law_pair.nd rfl (Or.inl rfl) (pe_op op_add pe_int (pe_callH H__law_draw (hr.mono (by omega)) rfl (glo__law_draw D) passL (pa_cons (pv 0) (pa_cons pe_int pa_nil)))))
      (pss_cons (ps_if (pt_cmpR op_eq (pe_callH H__law_draw (hr.mono (by omega)) rfl (glo__law_draw D) passL (pa_cons (pv 0) (pa_cons pe_int pa_nil))) pe_int (nomark _))
      (pss_cons (ps_set (i := 2) sc__law_pair.nd rfl (Or.inl rfl) (pe_op op_add pe_int (pe_callH H__law_draw (hr.mono (by omega)) rfl (glo__law_draw D) passL (pa_cons (pv 0) (pa_cons pe_int pa_nil)))))
      (pss_cons (ps_set (i := 3) sc__law_pair.nd rfl (Or.inl rfl) (pe_op op_add pe_int (pe_callH H__law_draw (hr.mono (by omega)) rfl (glo__law_draw D) passL (pa_cons (pv 0) (pa_cons pe_int pa_nil)))))
      (pss_one (ps_set (i := 1) sc__law_pair.nd rfl (Or.inl rfl) pe_int))))
      pss_nil)
      (pss_cons (ps_set (i := 4) sc__law_pair.nd rfl (Or.inl rfl) (pe_callH H__law_machine (hr.mono (by omega)) rfl (glo__law_machine D) passL (pa_cons (pv 0) (pa_cons (pe_op op_add pe_int (pe_callH H__law_draw (hr.mono (by omega)) rfl (glo__law_draw D) passL (pa_cons (pv 0) (pa_cons (pv 1) pa_nil)))) (pa_cons (pv 2) (pa_cons (pv 3) pa_nil))))))
      (pss_cons (ps_set (i := 5) sc__law_pair.nd rfl (Or.inl rfl) (pe_callH H__law_draw (hr.mono (by omega)) rfl (glo__law_draw D) passL (pa_cons (pv 0) (pa_cons pe_int pa_nil))))
      (pss_cons (ps_set (i := 6) sc__law_pair.nd rfl (Or.inl rfl) (pv 4))
      (pss_cons (ps_if (pt_cmpR op_eq (pv 5) pe_int (nomark _))
      (pss_one (ps_set (i := 6) sc__law_pair.nd rfl (Or.inl rfl) (pe_callH H__law_machine (hr.mono (by omega)) rfl (glo__law_machine D) passL (pa_cons (pv 0) (pa_cons (pe_op op_add pe_int (pe_callH H__law_draw (hr.mono (by omega)) rfl (glo__law_draw D) passL (pa_cons (pv 0) (pa_cons (pv 1) pa_nil)))) (pa_cons (pv 2) (pa_cons (pv 3) pa_nil)))))))
      pss_nil)
      (pss_cons (ps_if (pt_cmpR op_eq (pv 5) pe_int (nomark _))
      (pss_one (ps_set (i := 6) sc__law_pair.nd rfl (Or.inl rfl) (pe_callH H__law_changed (hr.mono (by omega)) rfl (glo__law_changed D) passL (pa_cons (pv 0) (pa_cons (pv 4) pa_nil)))))
      pss_nil)
      (pss_cons (ps_if (pt_cmpR op_gt (pv 5) pe_int (nomark _))
      (pss_one (ps_set (i := 6) sc__law_pair.nd rfl (Or.inl rfl) (pe_callH H__law_split (hr.mono (by omega)) rfl (glo__law_split D) passL (pa_cons (pv 0) (pa_cons (pv 6) pa_nil)))))
      pss_nil)
      (pss_cons (ps_if (pt_cmpR op_eq (pv 5) pe_int (nomark _))
      (pss_one (ps_set (i := 6) sc__law_pair.nd rfl (Or.inl rfl) (pe_callH H__law_split (hr.mono (by omega)) rfl (glo__law_split D) passL (pa_cons (pv 0) (pa_cons (pv 6) pa_nil)))))
      pss_nil)
      (pss_cons (ps_if (pt_cmpR op_eq (pv 5) pe_int (nomark _))
      (pss_one (ps_set (i := 6) sc__law_pair.nd rfl (Or.inl rfl) (pe_callH H__law_changed (hr.mono (by omega)) rfl (glo__law_changed D) passL (pa_cons (pv 0) (pa_cons (pv 6) pa_nil)))))
      pss_nil)
      (pss_cons (ps_set (i := 6) sc__law_pair.nd rfl (Or.inl rfl) (pe_callH H__law_renamed (hr.mono (by omega)) rfl (glo__law_renamed D) passL (pa_cons (pv 0) (pa_cons (pv 6) pa_nil))))
      (pss_cons (ps_if (pt_cmpR op_eq (pe_callH H__law_draw (hr.mono (by omega)) rfl (glo__law_draw D) passL (pa_cons (pv 0) (pa_cons pe_int pa_nil))) pe_int (nomark _))
      (pss_one (ps_ret (pe_tup (pa_cons (pv 6) (pa_cons (pv 4) pa_nil)))))
      pss_nil)
      (pss_one (ps_ret (pe_tup (pa_cons (pv 4) (pa_cons (pv 6) pa_nil)))))))))))))))))), ?_⟩
    refine seq_cut (fun σ' H1 => ∃ (bs : Nat), σ' = [some (.ref p), some (.int (most : Int)), some (.int (bs : Int)), none, none, none, none] ∧ Gr [p] I H I H1 ∧ PoolOk I H1 p ∧ 0 < bs ∧ bs ≤ 4) (fun nx q => ?_) ?_
    · refine ⟨_, rfl, I, p, 2, rfl, s0, po, by decide, by decide, fun x H1 a1 b1 g1 po1 => ⟨_, _, rfl, rfl, ?_⟩⟩
      obtain ⟨z, rfl⟩ := Int.eq_ofNat_of_zero_le a1
      exact q _ _ ⟨1 + z, by rw [show ((1 + z : Nat) : Int) = 1 + (z : Int) from by omega]; rfl, g1, po1, by omega, by omega⟩
    rintro σ' H1 ⟨bs, rfl, g1, po1, b0, b1⟩
    (try dsimp only)
    refine seq_cut (fun σ' H2 => ∃ (as : Nat), σ' = [some (.ref p), some (.int (most : Int)), some (.int (bs : Int)), some (.int (as : Int)), none, none, none] ∧ Gr [p] I H I H2 ∧ PoolOk I H2 p ∧ 0 < as ∧ as ≤ 4) (fun nx q => ?_) ?_
    · refine ⟨_, rfl, I, p, 3, rfl, g1.ih, po1, by decide, by decide, fun x H2 a1 b1 g2 po2 => ⟨_, _, rfl, rfl, ?_⟩⟩
      obtain ⟨z, rfl⟩ := Int.eq_ofNat_of_zero_le a1
      exact q _ _ ⟨1 + z, by rw [show ((1 + z : Nat) : Int) = 1 + (z : Int) from by omega]; rfl, g1.trans g2, po2, by omega, by omega⟩
    clear g1 po1 H1
    rintro σ' H2 ⟨as, rfl, g2, po2, c0, c1⟩
    (try dsimp only)
    refine seq_cut (fun σ' H3 => ∃ (m bs as : Nat), σ' = [some (.ref p), some (.int (m : Int)), some (.int (bs : Int)), some (.int (as : Int)), none, none, none] ∧ Gr [p] I H I H3 ∧ PoolOk I H3 p ∧ 0 < bs ∧ bs ≤ 4 ∧ 0 < as ∧ as ≤ 4 ∧ 2 ≤ m ∧ m ≤ most) (fun nx q => ?_) ?_
    · refine ⟨_, rfl, I, p, 6, rfl, g2.ih, po2, by decide, by decide, fun x H3 a3 b3 g3 po3 => ⟨rfl, _, rfl, ?_⟩⟩
      refine ifB (fun c => ?_) (fun c => q _ _ ⟨most, bs, as, rfl, g2.trans g3, po3, b0, b1, c0, c1, by omega, by omega⟩)
      refine seq_cut (fun σ' H1 => ∃ (bs : Nat), σ' = [some (.ref p), some (.int (most : Int)), some (.int (bs : Int)), some (.int (as : Int)), none, none, none] ∧ Gr [p] I H I H1 ∧ PoolOk I H1 p ∧ 0 < bs ∧ bs ≤ 4) (fun nx2 q2 => ?_) ?_
      · refine ⟨_, rfl, I, p, 4, rfl, g3.ih, po3, by decide, by decide, fun x H1 a1 b1 g1 po1 => ⟨_, _, rfl, rfl, ?_⟩⟩
        obtain ⟨z, rfl⟩ := Int.eq_ofNat_of_zero_le a1
        exact q2 _ _ ⟨1 + z, by rw [show ((1 + z : Nat) : Int) = 1 + (z : Int) from by omega]; rfl, (g2.trans g3).trans g1, po1, by omega, by omega⟩
      rintro σ' H1 ⟨bs, rfl, g1, po1, b0, b1⟩
      (try dsimp only)
      refine seq_cut (fun σ' H1 => ∃ (as : Nat), σ' = [some (.ref p), some (.int (most : Int)), some (.int (bs : Int)), some (.int (as : Int)), none, none, none] ∧ Gr [p] I H I H1 ∧ PoolOk I H1 p ∧ 0 < as ∧ as ≤ 4) (fun nx2 q2 => ?_) ?_
      · refine ⟨_, rfl, I, p, 4, rfl, g1.ih, po1, by decide, by decide, fun x H4 a1 b1 g4 po4 => ⟨_, _, rfl, rfl, ?_⟩⟩
        obtain ⟨z, rfl⟩ := Int.eq_ofNat_of_zero_le a1
        exact q2 _ _ ⟨1 + z, by rw [show ((1 + z : Nat) : Int) = 1 + (z : Int) from by omega]; rfl, g1.trans g4, po4, by omega, by omega⟩
      rintro σ' H4 ⟨as, rfl, g4, po4, c0, c1⟩
      (try dsimp only)
      exact q _ _ ⟨2, bs, as, rfl, g4, po4, b0, b1, c0, c1, by omega, by omega⟩
    clear g2 po2 H2 b0 b1 c0 c1 bs as
    rintro σ' H3 ⟨m, bs, as, rfl, g3, po3, b0, b1, c0, c1, mm0, mm1⟩
    (try dsimp only)
    -- one
    refine seq_cut (fun σ' H4 => ∃ (I4 : Hp) (vo : V) (A : Ma) (a : Nat), σ' = [some (.ref p), some (.int (m : Int)), some (.int (bs : Int)), some (.int (as : Int)), some vo, none, none] ∧ Gr [p] I H I4 H4 ∧ PoolOk I4 H4 p ∧ iLM I4 vo A ∧ ML 60 A a bs as ∧ a ≤ m) (fun nx q => ?_) ?_
    · refine ⟨_, rfl, _, rfl, _, rfl, I, p, m, rfl, g3.ih, po3, by omega, by omega, fun x H4 a4 b4 g4 po4 => ⟨_, _, rfl, rfl, _, rfl, _, rfl, ?_⟩⟩
      obtain ⟨z, rfl⟩ := Int.eq_ofNat_of_zero_le a4
      refine ⟨I, p, 1 + z, bs, as, by rw [show ((1 + z : Nat) : Int) = 1 + (z : Int) from by omega]; rfl, g4.ih, po4, ⟨by omega, by omega⟩, ⟨b0, b1⟩, ⟨c0, c1⟩, fun I5 H5 v5 M5 g5 po5 r5 ok5 => ?_⟩
      exact q _ _ ⟨I5, v5, M5, 1 + z, rfl, (g3.trans g4).trans g5, po5, r5, ok5.ml, by omega⟩
    clear g3 po3 H3
    rintro σ' H4 ⟨I4, vo, A, a, rfl, g4, po4, ro, mlA, am⟩
    (try dsimp only)
    -- way
    refine seq_cut (fun σ' H5 => ∃ (wy : Nat), σ' = [some (.ref p), some (.int (m : Int)), some (.int (bs : Int)), some (.int (as : Int)), some vo, some (.int (wy : Int)), none] ∧ Gr [p] I H I4 H5 ∧ PoolOk I4 H5 p) (fun nx q => ?_) ?_
    · refine ⟨_, rfl, I4, p, 6, rfl, g4.ih, po4, by decide, by decide, fun x H5 a5 b5 g5 po5 => ?_⟩
      obtain ⟨z, rfl⟩ := Int.eq_ofNat_of_zero_le a5
      exact q _ _ ⟨z, rfl, g4.trans g5, po5⟩
    clear g4 po4 H4
    rintro σ' H5 ⟨wy, rfl, g5, po5⟩
    (try dsimp only)
    -- other
    refine seq_cut (fun σ' H6 => H6 = H5 ∧ σ' = [some (.ref p), some (.int (m : Int)), some (.int (bs : Int)), some (.int (as : Int)), some vo, some (.int (wy : Int)), some vo]) (fun nx q => ?_) ?_
    · exact ⟨_, rfl, q _ _ ⟨rfl, rfl⟩⟩
    rintro σ' H6 ⟨rfl, rfl⟩
    (try dsimp only)
    refine seq_cut (fun σ' H7 => ∃ (I7 : Hp) (vt : V) (B : Ma) (b : Nat), σ' = [some (.ref p), some (.int (m : Int)), some (.int (bs : Int)), some (.int (as : Int)), some vo, some (.int (wy : Int)), some vt] ∧ Gr [p] I H I7 H7 ∧ PoolOk I7 H7 p ∧ iLM I7 vo A ∧ iLM I7 vt B ∧ ML 60 B b bs as ∧ b ≤ m) (fun nx q => ?_) ?_
    · refine ⟨_, rfl, rfl, _, rfl, ?_⟩
      refine ifB (fun c => ?_) (fun c => q _ _ ⟨I4, vo, A, a, rfl, g5, po5, ro, ro, mlA, am⟩)
      refine ⟨_, rfl, _, rfl, _, rfl, I4, p, m, rfl, g5.ih, po5, by omega, by omega, fun x H7 a4 b4 g7 po7 => ⟨_, _, rfl, rfl, _, rfl, _, rfl, ?_⟩⟩
      obtain ⟨z, rfl⟩ := Int.eq_ofNat_of_zero_le a4
      refine ⟨I4, p, 1 + z, bs, as, by rw [show ((1 + z : Nat) : Int) = 1 + (z : Int) from by omega]; rfl, g7.ih, po7, ⟨by omega, by omega⟩, ⟨b0, b1⟩, ⟨c0, c1⟩, fun I8 H8 v8 M8 g8 po8 r8 ok8 => ?_⟩
      exact q _ _ ⟨I8, v8, M8, 1 + z, rfl, (g5.trans g7).trans g8, po8, up g8.ii ro, r8, ok8.ml, by omega⟩
    clear g5 po5 ro I4 H6
    rintro σ' H7 ⟨I7, vt, B, b, rfl, g7, po7, ro, rt', mlB, bm⟩
    (try dsimp only)
    refine seq_cut (fun σ' H8 => ∃ (I7 : Hp) (vt : V) (B : Ma) (b : Nat), σ' = [some (.ref p), some (.int (m : Int)), some (.int (bs : Int)), some (.int (as : Int)), some vo, some (.int (wy : Int)), some vt] ∧ Gr [p] I H I7 H8 ∧ PoolOk I7 H8 p ∧ iLM I7 vo A ∧ iLM I7 vt B ∧ ML 60 B b bs as ∧ b ≤ m) (fun nx q => ?_) ?_
    · refine ⟨_, rfl, rfl, _, rfl, ?_⟩
      refine ifB (fun c => ?_) (fun c => q _ _ ⟨I7, vt, B, b, rfl, g7, po7, ro, rt', mlB, bm⟩)
      exact ⟨_, rfl, _, rfl, I7, p, vo, A, 60, a, bs, as, rfl, g7.ih, po7, ro, mlA, by decide, by decide, fun I8 H8 v8 M8 g8 po8 r8 ok8 => q _ _ ⟨I8, v8, M8, a, rfl, g7.trans g8, po8, up g8.ii ro, r8, ok8, am⟩⟩
    clear g7 po7 ro rt' mlB bm I7 vt B b H7
    rintro σ' H7 ⟨I7, vt, B, b, rfl, g7, po7, ro, rt', mlB, bm⟩
    (try dsimp only)
    refine seq_cut (fun σ' H8 => ∃ (I7 : Hp) (vt : V) (B : Ma) (b : Nat), σ' = [some (.ref p), some (.int (m : Int)), some (.int (bs : Int)), some (.int (as : Int)), some vo, some (.int (wy : Int)), some vt] ∧ Gr [p] I H I7 H8 ∧ PoolOk I7 H8 p ∧ iLM I7 vo A ∧ iLM I7 vt B ∧ ML 360 B b bs as ∧ b ≤ m + 1) (fun nx q => ?_) ?_
    · refine ⟨_, rfl, _, _, rfl, rfl, _, rfl, ?_⟩
      refine ifB (fun c => ?_) (fun c => q _ _ ⟨I7, vt, B, b, rfl, g7, po7, ro, rt', mlB.up (m := 6) (by decide), by omega⟩)
      exact ⟨_, rfl, _, rfl, I7, p, vt, B, 60, b, bs, as, rfl, g7.ih, po7, rt', mlB, by decide, by omega, fun I8 H8 v8 M8 g8 po8 r8 ok8 => q _ _ ⟨I8, v8, M8, b + 1, rfl, g7.trans g8, po8, up g8.ii ro, r8, ok8, by omega⟩⟩
    clear g7 po7 ro rt' mlB bm I7 vt B b H7
    rintro σ' H7 ⟨I7, vt, B, b, rfl, g7, po7, ro, rt', mlB, bm⟩
    (try dsimp only)
    refine seq_cut (fun σ' H8 => ∃ (I7 : Hp) (vt : V) (B : Ma) (b : Nat), σ' = [some (.ref p), some (.int (m : Int)), some (.int (bs : Int)), some (.int (as : Int)), some vo, some (.int (wy : Int)), some vt] ∧ Gr [p] I H I7 H8 ∧ PoolOk I7 H8 p ∧ iLM I7 vo A ∧ iLM I7 vt B ∧ ML 2160 B b bs as ∧ b ≤ m + 2) (fun nx q => ?_) ?_
    · refine ⟨_, rfl, rfl, _, rfl, ?_⟩
      refine ifB (fun c => ?_) (fun c => q _ _ ⟨I7, vt, B, b, rfl, g7, po7, ro, rt', mlB.up (m := 6) (by decide), by omega⟩)
      exact ⟨_, rfl, _, rfl, I7, p, vt, B, 360, b, bs, as, rfl, g7.ih, po7, rt', mlB, by decide, by omega, fun I8 H8 v8 M8 g8 po8 r8 ok8 => q _ _ ⟨I8, v8, M8, b + 1, rfl, g7.trans g8, po8, up g8.ii ro, r8, ok8, by omega⟩⟩
    clear g7 po7 ro rt' mlB bm I7 vt B b H7
    rintro σ' H7 ⟨I7, vt, B, b, rfl, g7, po7, ro, rt', mlB, bm⟩
    (try dsimp only)
    refine seq_cut (fun σ' H8 => ∃ (I7 : Hp) (vt : V) (B : Ma) (b : Nat), σ' = [some (.ref p), some (.int (m : Int)), some (.int (bs : Int)), some (.int (as : Int)), some vo, some (.int (wy : Int)), some vt] ∧ Gr [p] I H I7 H8 ∧ PoolOk I7 H8 p ∧ iLM I7 vo A ∧ iLM I7 vt B ∧ ML 2160 B b bs as ∧ b ≤ m + 2) (fun nx q => ?_) ?_
    · refine ⟨_, rfl, rfl, _, rfl, ?_⟩
      refine ifB (fun c => ?_) (fun c => q _ _ ⟨I7, vt, B, b, rfl, g7, po7, ro, rt', mlB, by omega⟩)
      exact ⟨_, rfl, _, rfl, I7, p, vt, B, 2160, b, bs, as, rfl, g7.ih, po7, rt', mlB, by decide, by decide, fun I8 H8 v8 M8 g8 po8 r8 ok8 => q _ _ ⟨I8, v8, M8, b, rfl, g7.trans g8, po8, up g8.ii ro, r8, ok8, by omega⟩⟩
    clear g7 po7 ro rt' mlB bm I7 vt B b H7
    rintro σ' H7 ⟨I7, vt, B, b, rfl, g7, po7, ro, rt', mlB, bm⟩
    (try dsimp only)
    refine seq_cut (fun σ' H8 => ∃ (I7 : Hp) (vt : V) (B : Ma) (b : Nat), σ' = [some (.ref p), some (.int (m : Int)), some (.int (bs : Int)), some (.int (as : Int)), some vo, some (.int (wy : Int)), some vt] ∧ Gr [p] I H I7 H8 ∧ PoolOk I7 H8 p ∧ iLM I7 vo A ∧ iLM I7 vt B ∧ ML 2160 B b bs as ∧ b ≤ m + 2) (fun nx q => ?_) ?_
    · exact ⟨_, rfl, _, rfl, I7, p, vt, B, 2160, b, bs, as, rfl, g7.ih, po7, rt', mlB, fun I8 H8 v8 M8 g8 po8 r8 ok8 => q _ _ ⟨I8, v8, M8, b, rfl, g7.trans g8, po8, up g8.ii ro, r8, ok8, by omega⟩⟩
    clear g7 po7 ro rt' mlB bm I7 vt B b H7
    rintro σ' H7 ⟨I7, vt, B, b, rfl, g7, po7, ro, rt', mlB, bm⟩
    have mlA2 : ML 2160 A a bs as := mlA.up (m := 36) (by decide)
    (try dsimp only)
    refine seq_cut (fun σ' H8 => σ' = [some (.ref p), some (.int (m : Int)), some (.int (bs : Int)), some (.int (as : Int)), some vo, some (.int (wy : Int)), some vt] ∧ Gr [p] I H I7 H8 ∧ PoolOk I7 H8 p) (fun nx q => ?_) ?_
    · refine ⟨_, rfl, I7, p, 2, rfl, g7.ih, po7, by decide, by decide, fun x H8 a8 b8 g8 po8 => ⟨rfl, _, rfl, ?_⟩⟩
      refine ifB (fun c => ?_) (fun c => q _ _ ⟨rfl, g7.trans g8, po8⟩)
      refine ⟨_, rfl, _, rfl, (by show 2 ≤ sizeLine; decide), fun t ht => ?_⟩
      have g9 := Gr.new (ms := []) (o := .tup [vt, vo]) g8.ih ht
      exact k _ _ _ B A b a bs as ((g7.trans g8).trans g9.nil) (po8.up g9 (by simp)) ⟨t, _, _, rfl, upd_same, up g9.ii rt', up g9.ii ro⟩ ⟨mlB, mlA2, by omega, by omega, by omega⟩
    rintro σ' H8 ⟨rfl, g8, po8⟩
    (try dsimp only)
    refine ⟨_, rfl, _, rfl, (by show 2 ≤ sizeLine; decide), fun t ht => ?_⟩
    have g9 := Gr.new (ms := []) (o := .tup [vo, vt]) g8.ih ht
    exact k _ _ _ A B a b bs as (g8.trans g9.nil) (po8.up g9 (by simp)) ⟨t, _, _, rfl, upd_same, up g9.ii ro, up g9.ii rt'⟩ ⟨mlA2, mlB, by omega, by omega, by omega⟩
end
end K

set_option Elab.async false
set_option linter.all false
set_option maxRecDepth 100000
set_option maxHeartbeats 4000000
set_option exponentiation.threshold 5000
namespace K
open PySem PySem.Spec PyProof.Rows L2 Tk Hd Rd Mt TL
section
variable {P : Program} {w : World} {K : PySem.W.Frag} {mg : Str → Option Value} {base : Heap}
abbrev CFd (K : PySem.W.Frag) : Addr := He.ga K "Found"
/-- what is found -/
structure Fo where
  k : Str
  vs : List (List Rat)
  st : List Rat
  mv : List (List Rat)
  w : Option (List (Nat × Nat))
def iSt : Rp (Nat × Nat) := fun H v p => ∃ a, v = .ref a ∧ H a = some (.tup [.int (p.1 : Int), .int (p.2 : Int)])
instance : Mono iSt := ⟨fun s ⟨a, e, h⟩ => ⟨a, e, s _ _ h⟩⟩
def iOW (R : Rp (List (Nat × Nat))) : Rp (Option (List (Nat × Nat))) := fun H v o => match o with
  | none => v = .non
  | some x => R H v x
instance {R : Rp (List (Nat × Nat))} [m : Mono R] : Mono (iOW R) := ⟨fun {H H' v o} s h => by cases o with
  | none => exact h
  | some q => exact up (R := R) s h⟩
def ffd (va vb vc vd ve : V) : List (Str × V) := putF "way" ve (putF "moves" vd (putF "start" vc (putF "vectors" vb (putF "kind" va []))))
theorem fnm : ¬ (("kind" : Str) = "vectors") ∧ ¬ (("kind" : Str) = "start") ∧ ¬ (("kind" : Str) = "moves") ∧ ¬ (("kind" : Str) = "way") ∧ ¬ (("vectors" : Str) = "start") ∧ ¬ (("vectors" : Str) = "moves") ∧ ¬ (("vectors" : Str) = "way") ∧ ¬ (("start" : Str) = "moves") ∧ ¬ (("start" : Str) = "way") ∧ ¬ (("moves" : Str) = "way") := by decide +kernel
section
variable {va vb vc vd ve : V}
theorem ff_kind : (ffd va vb vc vd ve).lookup ("kind" : Str) = some va := by
  unfold ffd; rw [lookup_putF, if_neg fnm.2.2.2.1, lookup_putF, if_neg fnm.2.2.1, lookup_putF, if_neg fnm.2.1, lookup_putF, if_neg fnm.1, lookup_putF, if_pos rfl]
theorem ff_vectors : (ffd va vb vc vd ve).lookup ("vectors" : Str) = some vb := by
  unfold ffd; rw [lookup_putF, if_neg fnm.2.2.2.2.2.2.1, lookup_putF, if_neg fnm.2.2.2.2.2.1, lookup_putF, if_neg fnm.2.2.2.2.1, lookup_putF, if_pos rfl]
theorem ff_start : (ffd va vb vc vd ve).lookup ("start" : Str) = some vc := by
  unfold ffd; rw [lookup_putF, if_neg fnm.2.2.2.2.2.2.2.2.1, lookup_putF, if_neg fnm.2.2.2.2.2.2.2.1, lookup_putF, if_pos rfl]
theorem ff_moves : (ffd va vb vc vd ve).lookup ("moves" : Str) = some vd := by
  unfold ffd; rw [lookup_putF, if_neg fnm.2.2.2.2.2.2.2.2.2, lookup_putF, if_pos rfl]
theorem ff_way : (ffd va vb vc vd ve).lookup ("way" : Str) = some ve := by
  unfold ffd; rw [lookup_putF, if_pos rfl]
end
/-- a Found as it stands -/
def iFo (C C2 : Addr) : Rp Fo := fun H v F => ∃ a dx vb vc vd ve, v = .ref a ∧ H a = some (.ins C2 dx (ffd (.str F.k) vb vc vd ve)) ∧ iL (iL (iR C)) H vb F.vs ∧ iL (iR C) H vc F.st ∧ iL (iL (iR C)) H vd F.mv ∧ iOW (iT iSt) H ve F.w
instance {C C2 : Addr} : Mono (iFo C C2) := ⟨fun s ⟨a, dx, vb, vc, vd, ve, e, h, r1, r2, r3, r4⟩ => ⟨a, dx, vb, vc, vd, ve, e, s _ _ h, up s r1, up s r2, up s r3, up s r4⟩⟩
/-! ### Machine's numbers -/
def spMStates (C C2 : Addr) : Sp := fun vs H Q _ => ∃ (I : Hp) (v : V) (M : Ma), vs = [v] ∧ Same I H ∧ iM C C2 I v M ∧ Q (.int (M.1.length : Nat)) H
theorem sc_Machine_states : FnScope ["self"] ["self"] (defScope s_Machine_states) := ⟨rfl, rfl, rfl, by decide +kernel, rfl, by decide +kernel, by decide +kernel⟩
theorem ok_mstates (D : Dt K mg) : Has P w K mg base 1 (He.ma K (He.ga K "Machine") "states") ["self"] [] (spMStates (CR K) (CM K)) := by
  obtain ⟨fd, F⟩ := fd_Machine_states D
  refine hasN F (F.bindsN fun _ _ _ _ _ _ us hl => match us, hl with | [_], _ => rfl) sc_Machine_states (fun vs H Q E h => ?_) (fun cdv A outer s H vs Q E hr h => ?_)
  · obtain ⟨I, v, M, rfl, _⟩ := h; rfl
  · obtain ⟨I, v, M, rfl, s0, rv, k⟩ := h
    refine ⟨_, (pss_one (ps_ret (pe_callB (call_lenK K) rfl (free_len D) PySem.boot_len (pa_cons (pe_fldK K (pv 0) rfl) pa_nil)))), ?_⟩
    obtain ⟨a, dx, va, vb, rfl, ha, r1, r2⟩ := rv
    exact ⟨_, rfl, a, _, dx, _, _, rfl, s0 _ _ ha, cls_Machine D, na_Machine_start D, mf_start va vb, _, _, rfl, len_of (iA.t r1) s0, k⟩
def spMButtons (C C2 : Addr) : Sp := fun vs H Q _ => ∃ (I : Hp) (v : V) (M : Ma), vs = [v] ∧ Same I H ∧ iM C C2 I v M ∧ Q (.int (M.2.length : Nat)) H
theorem sc_Machine_buttons : FnScope ["self"] ["self"] (defScope s_Machine_buttons) := ⟨rfl, rfl, rfl, by decide +kernel, rfl, by decide +kernel, by decide +kernel⟩
theorem ok_mbuttons (D : Dt K mg) : Has P w K mg base 1 (He.ma K (He.ga K "Machine") "buttons") ["self"] [] (spMButtons (CR K) (CM K)) := by
  obtain ⟨fd, F⟩ := fd_Machine_buttons D
  refine hasN F (F.bindsN fun _ _ _ _ _ _ us hl => match us, hl with | [_], _ => rfl) sc_Machine_buttons (fun vs H Q E h => ?_) (fun cdv A outer s H vs Q E hr h => ?_)
  · obtain ⟨I, v, M, rfl, _⟩ := h; rfl
  · obtain ⟨I, v, M, rfl, s0, rv, k⟩ := h
    refine ⟨_, (pss_one (ps_ret (pe_callB (call_lenK K) rfl (free_len D) PySem.boot_len (pa_cons (pe_fldK K (pv 0) rfl) pa_nil)))), ?_⟩
    obtain ⟨a, dx, va, vb, rfl, ha, r1, r2⟩ := rv
    exact ⟨_, rfl, a, _, dx, _, _, rfl, s0 _ _ ha, cls_Machine D, na_Machine_moves D, mf_moves va vb, _, _, rfl, len_of (iA.t r2) s0, k⟩
def spMAnswers (C C2 : Addr) : Sp := fun vs H Q _ => ∃ (I : Hp) (v : V) (M : Ma), vs = [v] ∧ Same I H ∧ iM C C2 I v M ∧ 0 < M.2.length ∧ Q (.int ((gl M.2 0).length : Nat)) H
theorem sc_Machine_answers : FnScope ["self"] ["self"] (defScope s_Machine_answers) := ⟨rfl, rfl, rfl, by decide +kernel, rfl, by decide +kernel, by decide +kernel⟩
theorem ok_manswers (D : Dt K mg) : Has P w K mg base 1 (He.ma K (He.ga K "Machine") "answers") ["self"] [] (spMAnswers (CR K) (CM K)) := by
  obtain ⟨fd, F⟩ := fd_Machine_answers D
  refine hasN F (F.bindsN fun _ _ _ _ _ _ us hl => match us, hl with | [_], _ => rfl) sc_Machine_answers (fun vs H Q E h => ?_) (fun cdv A outer s H vs Q E hr h => ?_)
  · obtain ⟨I, v, M, rfl, _⟩ := h; rfl
  · obtain ⟨I, v, M, rfl, s0, rv, h0, k⟩ := h
    refine ⟨_, (pss_one (ps_ret (pe_callB (call_lenK K) rfl (free_len D) PySem.boot_len (pa_cons (pe_ix (ix_tupK K) (pe_fldK K (pv 0) rfl) pe_int (fun _ _ => rfl)) pa_nil)))), ?_⟩
    obtain ⟨a, dx, va, vb, rfl, ha, r1, r2⟩ := rv
    obtain ⟨b, us, rfl, hb, b2⟩ := id r2
    obtain ⟨u, hu, ru⟩ := b2.get' (gl_lt (l := M.2) (i := 0) h0)
    exact ⟨_, rfl, a, _, dx, _, _, rfl, s0 _ _ ha, cls_Machine D, na_Machine_moves D, mf_moves va _, _, _, _, _, rfl, rfl, SqT.of (s0 _ _ hb), at_of (j := 0) rfl hu, _, _, rfl, len_of (iA.t ru) s0, k⟩
/-! ### _many, _step -/
def manyOf (ws : List Str) : Option Nat := match ws with
  | [a, b] => if a = ("same" : Str) ∧ b ≠ ("0" : Str) then numOf b 24 else none
  | _ => none
def spMany : Sp := fun vs H Q _ => ∃ (I : Hp) (v : V) (ws : List Str), vs = [v] ∧ Same I H ∧ iL iS I v ws ∧ (∀ z ∈ ws, z.length + 2 ≤ sizeLine) ∧ Q (oInt (manyOf ws)) H
theorem sc__many : FnScope ["words"] ["words"] (defScope s__many) := ⟨rfl, rfl, rfl, by decide +kernel, rfl, by decide +kernel, by decide +kernel⟩
theorem ok_many (D : Dt K mg) : Has P w K mg base 3 (He.ga K "_many") ["words"] [] (spMany) := by
  obtain ⟨fd, F⟩ := fd__many D
  have H_number_of := ok_number_of (P := P) (w := w) (base := base) D
  refine hasN F (F.bindsN fun _ _ _ _ _ _ us hl => match us, hl with | [_], _ => rfl) sc__many (fun vs H Q E h => ?_) (fun cdv A outer s H vs Q E hr h => ?_)
  · obtain ⟨I, v, ws, rfl, _⟩ := h; rfl
  · obtain ⟨I, v, ws, rfl, s0, rv, hw, k⟩ := h
    obtain ⟨t_MOST_VECTORS, e_MOST_VECTORS⟩ := int_MOST_VECTORS D
    refine ⟨_, (pss_cons (ps_if (PW.pt (pw_or (pt_cmpR op_ne (pe_callB (call_lenK K) rfl (free_len D) PySem.boot_len (pa_cons (pv 0) pa_nil)) pe_int (nomark _)) (pw_or (pt_cmpR op_ne (pe_ix (ix_listK K) (pv 0) pe_int (fun _ _ => rfl)) pe_str (nomark _)) (pw_or1 (pt_cmpR op_eq (pe_ix (ix_listK K) (pv 0) pe_int (fun _ _ => rfl)) pe_str (nomark _))))))
      (pss_one (ps_ret pe_non))
      pss_nil)
      (pss_one (ps_ret (pe_callH H_number_of (hr.mono (by omega)) rfl (glo_number_of D) passL (pa_cons (pe_ix (ix_listK K) (pv 0) pe_int (fun _ _ => rfl)) (pa_cons (pe_glob (v := .int 24) rfl e_MOST_VECTORS ⟨t_MOST_VECTORS, rfl⟩) pa_nil)))))), ?_⟩
    obtain ⟨a, rfl, ha⟩ := iL_strs rv
    refine ⟨_, rfl, _, ws.length, rfl, .inl ⟨_, SqL.of (s0 _ _ ha), by rw [List.length_map]⟩, rfl, _, rfl, ?_⟩
    dsimp only
    by_cases hl : ws.length = 2
    rotate_left
    · refine ifT (by show (!decide (V.int ((ws.length : Nat) : Int) = V.int 2)) = true; rw [decide_eq_false (fun h => by injection h with h; omega)]; rfl) ?_
      have e : manyOf ws = none := by
        match ws, hl with
        | [], _ => rfl
        | [_], _ => rfl
        | [_, _], h => exact absurd rfl h
        | _ :: _ :: _ :: _, _ => rfl
      rw [e] at k; exact k
    obtain ⟨x, y, rfl⟩ : ∃ x y, ws = [x, y] := by
      match ws, hl with
      | [x, y], _ => exact ⟨x, y, rfl⟩
    refine ifF (by rfl) ?_
    have e : manyOf [x, y] = if x = ("same" : Str) ∧ y ≠ ("0" : Str) then numOf y 24 else none := rfl
    refine ⟨_, rfl, _, _, _, _, rfl, rfl, SqL.of (s0 _ _ ha), at_of (j := 0) rfl rfl, rfl, _, rfl, ?_⟩
    dsimp only
    by_cases c1 : x = ("same" : Str)
    rotate_left
    · refine ifT (by rw [decide_eq_false (fun h => by injection h with h; exact c1 h)]; rfl) ?_
      rw [e, if_neg fun z => c1 z.1] at k; exact k
    refine ifF (by rw [decide_eq_true (by rw [c1])]; rfl) ?_
    refine ⟨_, rfl, _, _, _, _, rfl, rfl, SqL.of (s0 _ _ ha), at_of (j := 1) rfl rfl, rfl, _, rfl, ?_⟩
    (try dsimp only)
    by_cases c2 : y = ("0" : Str)
    · refine ifT (decide_eq_true (by rw [c2])) ?_
      rw [e, if_neg fun z => z.2 c2] at k; exact k
    refine ifF (decide_eq_false (fun h => by injection h with h; exact c2 h)) ?_
    rw [e, if_pos ⟨c1, c2⟩] at k
    exact ⟨_, rfl, _, _, _, _, rfl, rfl, SqL.of (s0 _ _ ha), at_of (j := 1) rfl rfl, y, 24, rfl, by have := hw y (by simp); omega, by decide, k⟩
def stepOf (ws : List Str) (m : Nat × Nat) : Option (Nat × Nat) := match ws with
  | [a, b] => match numOf a m.1, numOf b m.2 with
    | some x, some y => some (x, y)
    | _, _ => none
  | _ => none
def iOSt : Rp (Option (Nat × Nat)) := fun H v o => match o with
  | none => v = .non
  | some p => iSt H v p
instance : Mono iOSt := ⟨fun {H H' v o} s h => by cases o with
  | none => exact h
  | some q => exact up (R := iSt) s h⟩
def spStep : Sp := fun vs H Q _ => ∃ (I : Hp) (v u : V) (ws : List Str) (m : Nat × Nat), vs = [v, u] ∧ Same I H ∧ iL iS I v ws ∧ iSt I u m ∧ (∀ z ∈ ws, z.length + 2 ≤ sizeLine) ∧ m.1 < 100 ∧ m.2 < 100 ∧ Ret [] I H iOSt (stepOf ws m) Q
theorem sc__step : FnScope ["words", "most", "button", "answer"] ["words", "most"] (defScope s__step) := ⟨rfl, rfl, rfl, by decide +kernel, rfl, by decide +kernel, by decide +kernel⟩
theorem ok_step (D : Dt K mg) : Has P w K mg base 3 (He.ga K "_step") ["words", "most"] [] (spStep) := by
  obtain ⟨fd, F⟩ := fd__step D
  have H_number_of := ok_number_of (P := P) (w := w) (base := base) D
  refine hasN F (F.bindsN fun _ _ _ _ _ _ us hl => match us, hl with | [_, _], _ => rfl) sc__step (fun vs H Q E h => ?_) (fun cdv A outer s H vs Q E hr h => ?_)
  · obtain ⟨I, v, u, ws, m, rfl, _⟩ := h; rfl
  · obtain ⟨I, v, u, ws, m, rfl, s0, rv, ru, hw, hm1, hm2, k⟩ := h
    refine ⟨_, (pss_cons (ps_if (pt_cmpR op_ne (pe_callB (call_lenK K) rfl (free_len D) PySem.boot_len (pa_cons (pv 0) pa_nil)) pe_int (nomark _))
      (pss_one (ps_ret pe_non))
      pss_nil)
      (pss_cons (ps_par (i := 2) (j := 3) rfl sc__step.nd rfl rfl (by decide) rfl rfl (pa_cons (pe_callH H_number_of (hr.mono (by omega)) rfl (glo_number_of D) passL (pa_cons (pe_ix (ix_listK K) (pv 0) pe_int (fun _ _ => rfl)) (pa_cons (pe_ix (ix_tupK K) (pv 1) pe_int (fun _ _ => rfl)) pa_nil))) (pa_cons (pe_callH H_number_of (hr.mono (by omega)) rfl (glo_number_of D) passL (pa_cons (pe_ix (ix_listK K) (pv 0) pe_int (fun _ _ => rfl)) (pa_cons (pe_ix (ix_tupK K) (pv 1) pe_int (fun _ _ => rfl)) pa_nil))) pa_nil)) rfl)
      (pss_one (ps_ret (pe_ifExp (PW.pt (pw_and (pt_cmpR op_notN (pv 2) pe_non (nomark _)) (pw_and1 (pt_cmpR op_notN (pv 3) pe_non (nomark _))))) (pe_tup (pa_cons (pv 2) (pa_cons (pv 3) pa_nil))) pe_non))))), ?_⟩
    obtain ⟨a, rfl, ha⟩ := iL_strs rv
    obtain ⟨b, rfl, hb⟩ := ru
    refine ⟨_, rfl, _, ws.length, rfl, .inl ⟨_, SqL.of (s0 _ _ ha), by rw [List.length_map]⟩, rfl, _, rfl, ?_⟩
    dsimp only
    have kN : stepOf ws m = none → Q .non H := fun e => k _ _ .non (Gr.refl s0) (show iOSt I .non _ by rw [e]; rfl)
    by_cases hl : ws.length = 2
    rotate_left
    · refine ifT (by show (!decide (V.int ((ws.length : Nat) : Int) = V.int 2)) = true; rw [decide_eq_false (fun h => by injection h with h; omega)]; rfl) ?_
      refine kN ?_
      match ws, hl with
      | [], _ => rfl
      | [_], _ => rfl
      | [_, _], h => exact absurd rfl h
      | _ :: _ :: _ :: _, _ => rfl
    obtain ⟨x, y, rfl⟩ : ∃ x y, ws = [x, y] := by
      match ws, hl with
      | [x, y], _ => exact ⟨x, y, rfl⟩
    refine ifF (by rfl) ?_
    (try unfold tNext)
    (try dsimp only)
    have big : 100 < 10 ^ 64 := by decide
    have e : stepOf [x, y] m = match numOf x m.1, numOf y m.2 with
      | some x, some y => some (x, y)
      | _, _ => none := rfl
    refine seq_cut (fun σ' H1 => H1 = H ∧ σ' = [some (.ref a), some (.ref b), some (oInt (numOf x m.1)), some (oInt (numOf y m.2))]) (fun nx q => ?_) ?_
    · exact ⟨_, rfl, _, _, _, _, rfl, rfl, SqL.of (s0 _ _ ha), at_of (j := 0) rfl rfl, _, rfl, _, _, _, _, rfl, rfl, SqT.of (s0 _ _ hb), at_of (j := 0) rfl rfl, x, m.1, rfl, by have := hw x (by simp); omega, by omega,
        _, rfl, _, _, _, _, rfl, rfl, SqL.of (s0 _ _ ha), at_of (j := 1) rfl rfl, _, rfl, _, _, _, _, rfl, rfl, SqT.of (s0 _ _ hb), at_of (j := 1) rfl rfl, y, m.2, rfl, by have := hw y (by simp); omega, by omega, _, _, rfl, q _ _ ⟨rfl, rfl⟩⟩
    rintro σ' H1 ⟨rfl, rfl⟩
    (try dsimp only)
    have hsc : ∀ o : Option Nat, decide (oInt o = V.non) = decide (o = none) := fun o => by cases o <;> simp [oInt]
    refine ⟨_, rfl, rfl, _, rfl, ?_⟩
    cases e1 : numOf x m.1 with
    | none =>
      refine ifF rfl ?_
      exact kN (by rw [e, e1])
    | some p =>
      refine ifT rfl ⟨_, rfl, rfl, _, rfl, ?_⟩
      cases e2 : numOf y m.2 with
      | none =>
        refine ifF rfl ?_
        exact kN (by rw [e, e1, e2])
      | some q =>
        refine ifT rfl ⟨_, rfl, _, rfl, (by show 2 ≤ sizeLine; decide), fun t ht => ?_⟩
        exact k _ _ _ (Gr.new (ms := []) (o := .tup [.int (p : Int), .int (q : Int)]) s0 ht) (by rw [e, e1, e2]; exact ⟨t, rfl, upd_same⟩)
/-! ### Found.__init__ -/
def spFInit (C C2 : Addr) : Sp := fun vs H Q _ => ∃ (I : Hp) (x dx : Addr) (b c d e : V) (F : Fo), vs = [.ref x, .str F.k, b, c, d, e] ∧ Same I H ∧ I x = none ∧ H x = some (.ins C2 dx []) ∧ iA (iA (iR C)) I b F.vs ∧ iA (iR C) I c F.st ∧ iA (iA (iR C)) I d F.mv ∧ iOW (iA iSt) I e F.w ∧
  F.vs.length ≤ 10000 ∧ F.mv.length ≤ 10000 ∧ (∀ w, F.w = some w → w.length ≤ 10000) ∧
  ∀ I' H' vb vc vd ve, Gr [x] I H I' H' → H' x = some (.ins C2 dx (ffd (.str F.k) vb vc vd ve)) → iL (iL (iR C)) I' vb F.vs → iL (iR C) I' vc F.st → iL (iL (iR C)) I' vd F.mv → iOW (iT iSt) I' ve F.w → Q .non H'
theorem list_of {α : Type} {R : Rp α} [Mono R] {I H : Hp} {v : V} {xs : List α} {Q : VK} (r : iA R I v xs) (s : Same I H) (k : ∀ I' H' l, Gr [] I H I' H' → iL R I' (.ref l) xs → Q (.ref l) H') : ∃ p ys, [v] = [.ref p] ∧ (SqL K H p ys ∨ SqT K H p ys) ∧ ∀ l, H l = none → Q (.ref l) (upd H l (.lst ys)) := by
  obtain ⟨a, vs, rfl, ha, a2⟩ := r
  refine ⟨a, vs, rfl, ha.imp (fun h => SqL.of (s _ _ h)) (fun h => SqT.of (s _ _ h)), fun l hl => ?_⟩
  have g := Gr.new (ms := []) (o := .lst vs) s hl
  exact k _ _ l g ⟨l, vs, rfl, upd_same, a2.up g.ii⟩
theorem sc_Found_init : FnScope ["self", "kind", "vectors", "start", "moves", "way", "vector", "numbers", "step"] ["self", "kind", "vectors", "start", "moves", "way"] (defScope s_Found_init) := ⟨rfl, rfl, rfl, by decide +kernel, rfl, by decide +kernel, by decide +kernel⟩
theorem ok_finit (D : Dt K mg) : Has P w K mg base 2 (He.ma K (He.ga K "Found") "__init__") ["self", "kind", "vectors", "start", "moves", "way"] [] (spFInit (CR K) (CFd K)) := by
  obtain ⟨fd, F⟩ := fd_Found_init D
  refine hasN F (F.bindsN fun _ _ _ _ _ _ us hl => match us, hl with | [_, _, _, _, _, _], _ => rfl) sc_Found_init (fun vs H Q E h => ?_) (fun cdv A outer s H vs Q E hr h => ?_)
  · obtain ⟨I, x, dx, vb, vc, vd, ve, F, rfl, _⟩ := h; rfl
  · obtain ⟨I, x, dx, vb, vc, vd, ve, F, rfl, s0, hI, hx, rb, rc, rd, re, h1, h2, h3, k⟩ := h
    refine ⟨_, (pss_cons (ps_fld (pv 0) (pv 1) rfl)
      (pss_cons (ps_fld (pv 0) (pe_lc (own := [("vector", 6)]) (g := gName 6) rfl sc_Found_init.nd (pi_ltK K (pv 2)) (blkOk_by (own := [("vector", 6)]) (N := ["self", "kind", "vectors", "start", "moves", "way", "vector", "numbers", "step"]) (by kernel_rfl)) (fun _ _ _ _ _ => (pg_name (i := 6) sc_Found_init.nd rfl (Or.inl rfl))) (fun _ _ _ _ _ => pts_nil) (fun _ _ _ _ _ => (pe_callTy (call_list_ofK K) rfl (free_list D) (by decide +kernel) (pa_cons (pv 6) pa_nil)))) rfl)
      (pss_cons (ps_fld (pv 0) (pe_callTy (call_list_ofK K) rfl (free_list D) (by decide +kernel) (pa_cons (pv 3) pa_nil)) rfl)
      (pss_cons (ps_fld (pv 0) (pe_lc (own := [("numbers", 7)]) (g := gName 7) rfl sc_Found_init.nd (pi_ltK K (pv 4)) (blkOk_by (own := [("numbers", 7)]) (N := ["self", "kind", "vectors", "start", "moves", "way", "vector", "numbers", "step"]) (by kernel_rfl)) (fun _ _ _ _ _ => (pg_name (i := 7) sc_Found_init.nd rfl (Or.inl rfl))) (fun _ _ _ _ _ => pts_nil) (fun _ _ _ _ _ => (pe_callTy (call_list_ofK K) rfl (free_list D) (by decide +kernel) (pa_cons (pv 7) pa_nil)))) rfl)
      (pss_one (ps_fld (pv 0) (pe_ifExp (pt_cmpR op_isN (pv 5) pe_non (nomark _)) pe_non (pe_callTy (call_tuple_ofK K) rfl (free_tuple D) (by decide +kernel) (pa_cons (pe_lc (own := [("step", 8)]) (g := gName 8) rfl sc_Found_init.nd (pi_ltK K (pv 5)) (blkOk_by (own := [("step", 8)]) (N := ["self", "kind", "vectors", "start", "moves", "way", "vector", "numbers", "step"]) (by kernel_rfl)) (fun _ _ _ _ _ => (pg_name (i := 8) sc_Found_init.nd rfl (Or.inl rfl))) (fun _ _ _ _ _ => pts_nil) (fun _ _ _ _ _ => (pe_callTy (call_tuple_ofK K) rfl (free_tuple D) (by decide +kernel) (pa_cons (pv 8) pa_nil)))) pa_nil))) rfl)))))), ?_⟩
    (try dsimp only)
    refine seq_cut (fun σ' H1 => σ' = [some (.ref x), some (.str F.k), some vb, some vc, some vd, some ve, none, none, none] ∧ Gr [x] I H I H1 ∧ H1 x = some (.ins (CFd K) dx (putF "kind" (.str F.k) []))) (fun nx q => ?_) ?_
    · refine ⟨_, rfl, _, rfl, x, _, dx, _, rfl, hx, cls_Found D, na_Found_kind D, (by show 0 < 1000; decide), ?_⟩
      exact q _ _ ⟨rfl, Gr.mut s0 hI List.mem_cons_self, upd_same⟩
    rintro σ' H1 ⟨rfl, g1, hx1⟩
    (try dsimp only)
    obtain ⟨b, us, rfl, hb, b2⟩ := id rb
    refine seq_cut (fun σ' H2 => ∃ (I2 : Hp) (wb : V), σ' = [some (.ref x), some (.str F.k), some (.ref b), some vc, some vd, some ve, none, none, none] ∧ Gr [x] I H I2 H2 ∧ H2 x = some (.ins (CFd K) dx (putF "vectors" wb (putF "kind" (.str F.k) []))) ∧ iL (iL (iR (CR K))) I2 wb F.vs) (fun nx q => ?_) ?_
    · refine ⟨_, rfl, lt_of hb g1.ih fun J W l hD => lc_id (R := iA (iR (CR K))) (Sy := iL (iR (CR K))) W b2 g1.ih hD (lt_line (by have := b2.len; omega)) (fun i y I' H' Nx Qk hy ry sx kk => ?_) (fun I2 H2 g2 r2 => ?_)⟩
      · exact ⟨rfl, _, rfl, list_of ry sx fun I5 H5 l5 g5 r5 => kk _ _ _ g5 r5⟩
      · have hI2 := g2.out hI hx1
        have h3 := g2.at hx1 (by simp)
        refine ⟨_, rfl, x, _, dx, _, rfl, h3, cls_Found D, na_Found_vectors D, (by show 1 < 1000; decide), ?_⟩
        exact q _ _ ⟨I2, _, rfl, (g1.trans g2.nil).trans (Gr.mut g2.ih hI2 List.mem_cons_self), upd_same, r2⟩
    rintro σ' H2 ⟨I2, wb, rfl, g2, hx2, r2⟩
    (try dsimp only)
    refine seq_cut (fun σ' H3 => ∃ (I3 : Hp) (wc vc : V), σ' = [some (.ref x), some (.str F.k), some (.ref b), some vc, some vd, some ve, none, none, none] ∧ Gr [x] I H I3 H3 ∧ Same I2 I3 ∧ H3 x = some (.ins (CFd K) dx (putF "start" wc (putF "vectors" wb (putF "kind" (.str F.k) [])))) ∧ iL (iR (CR K)) I3 wc F.st) (fun nx q => ?_) ?_
    · obtain ⟨c, cs, rfl, hc, c2⟩ := id rc
      refine ⟨_, rfl, c, cs, rfl, hc.imp (fun h => SqL.of (g2.ih _ _ (g2.ii _ _ h))) (fun h => SqT.of (g2.ih _ _ (g2.ii _ _ h))), fun l3 hl3 => ?_⟩
      have g3 := Gr.new (ms := []) (o := .lst cs) g2.ih hl3
      obtain ⟨I3, eI3⟩ : ∃ I3, I3 = upd I2 l3 (.lst cs) := ⟨_, rfl⟩
      obtain ⟨H3, eH3⟩ : ∃ H3, H3 = upd H2 l3 (.lst cs) := ⟨_, rfl⟩
      rw [← eI3, ← eH3] at g3
      rw [← eH3]
      have r3 : iL (iR (CR K)) I3 (.ref l3) F.st := ⟨l3, cs, rfl, by rw [eI3]; exact upd_same, c2.up (g2.ii.trans g3.ii)⟩
      have hI3 := g3.out (g2.out hI hx) hx2
      have h3 := g3.at hx2 (by simp)
      refine ⟨_, rfl, x, _, dx, _, rfl, h3, cls_Found D, na_Found_start D, (by show 2 < 1000; decide), ?_⟩
      exact q _ _ ⟨I3, _, _, rfl, (g2.trans g3.nil).trans (Gr.mut g3.ih hI3 List.mem_cons_self), g3.ii, upd_same, r3⟩
    clear rc
    rintro σ' H3 ⟨I3, wc, vc, rfl, g3, s23, hx3, r3⟩
    (try dsimp only)
    obtain ⟨d, ds, rfl, hd, d2⟩ := id rd
    refine seq_cut (fun σ' H4 => ∃ (I4 : Hp) (wd : V), σ' = [some (.ref x), some (.str F.k), some (.ref b), some vc, some (.ref d), some ve, none, none, none] ∧ Gr [x] I H I4 H4 ∧ Same I3 I4 ∧ H4 x = some (.ins (CFd K) dx (putF "moves" wd (putF "start" wc (putF "vectors" wb (putF "kind" (.str F.k) []))))) ∧ iL (iL (iR (CR K))) I4 wd F.mv) (fun nx q => ?_) ?_
    · refine ⟨_, rfl, lt_of (hd.imp (g3.ii _ _) (g3.ii _ _)) g3.ih fun J W l hD => lc_id (R := iA (iR (CR K))) (Sy := iL (iR (CR K))) W (d2.up g3.ii) g3.ih hD (lt_line (by have := d2.len; omega)) (fun i y I' H' Nx Qk hy ry sx kk => ?_) (fun I4 H4 g4 r4 => ?_)⟩
      · exact ⟨rfl, _, rfl, list_of ry sx fun I5 H5 l5 g5 r5 => kk _ _ _ g5 r5⟩
      · have hI4 := g4.out (g3.out hI hx) hx3
        have h4 := g4.at hx3 (by simp)
        refine ⟨_, rfl, x, _, dx, _, rfl, h4, cls_Found D, na_Found_moves D, (by show 3 < 1000; decide), ?_⟩
        exact q _ _ ⟨I4, _, rfl, (g3.trans g4.nil).trans (Gr.mut g4.ih hI4 List.mem_cons_self), g4.ii, upd_same, r4⟩
    rintro σ' H4 ⟨I4, wd, rfl, g4, s34, hx4, r4⟩
    (try dsimp only)
    have hI4 := g4.out hI hx
    have fin : ∀ (I5 H5 : Hp) (we : V), Gr [] I4 H4 I5 H5 → iOW (iT iSt) I5 we F.w → Q .non (upd H5 x (.ins (CFd K) dx (ffd (.str F.k) wb wc wd we))) := fun I5 H5 we g5 r5 => by
      have hI5 := g5.out hI4 hx4
      refine k I5 _ wb wc wd we ((g4.trans g5.nil).trans (Gr.mut g5.ih hI5 List.mem_cons_self)) upd_same (up (s23.trans (s34.trans g5.ii)) r2) (up (s34.trans g5.ii) r3) (up g5.ii r4) r5
    cases ew : F.w with
    | none =>
      rw [ew] at re fin
      have : ve = .non := re
      subst this
      refine ⟨_, rfl, rfl, _, rfl, iteT ?_⟩
      exact ⟨_, rfl, x, _, dx, _, rfl, hx4, cls_Found D, na_Found_way D, (by show 4 < 1000; decide), fin _ _ .non (Gr.refl g4.ih) rfl⟩
    | some w =>
      rw [ew] at re fin
      obtain ⟨e, es, rfl, he, e2⟩ := (show iA iSt I ve w from re)
      refine ⟨_, rfl, rfl, _, rfl, iteF ?_⟩
      refine ⟨_, rfl, lt_of (he.imp (g4.ii _ _) (g4.ii _ _)) g4.ih fun J W l hD => lc_id (R := iSt) (Sy := iSt) W (e2.up g4.ii) g4.ih hD (lt_line (by have := e2.len; have := h3 w ew; omega)) (fun i y I' H' Nx Qk hy ry sx kk => ?_) (fun I5 H5 g5 r5 => ?_)⟩
      · obtain ⟨t, et, ht⟩ := id ry
        rw [et]
        exact ⟨rfl, _, rfl, ⟨t, _, rfl, .inr ⟨SqT.of (sx _ _ ht), kk _ _ _ (Gr.refl sx) ⟨t, rfl, ht⟩⟩⟩⟩
      · refine tup_of (iA.l r5) g5.ih fun I6 H6 v6 g6 r6 => ?_
        have g56 := g5.trans g6
        have h6 := g56.at hx4 (by simp)
        exact ⟨_, rfl, x, _, dx, _, rfl, h6, cls_Found D, na_Found_way D, (by show 4 < 1000; decide), fin _ _ v6 g56 r6⟩
end
end K

set_option Elab.async false
set_option linter.all false
set_option maxRecDepth 100000
set_option maxHeartbeats 4000000
set_option exponentiation.threshold 5000
namespace K
open PySem PySem.Spec PyProof.Rows L2 Tk Hd Rd Mt TL
section
variable {P : Program} {w : World} {K : PySem.W.Frag} {mg : Str → Option Value} {base : Heap}
/-- the lines behind the first, or the place of the first wrong one -/
def restG {β γ : Type} (rd : List Str → β → Option γ) : Nat → List Str → List β → Except Nat (List γ)
  | _, [], [] => .ok []
  | at', [], _ :: _ => .error at'
  | at', _ :: _, [] => .error at'
  | at', l :: ls, f :: fs => match rd (wordsOf l) f with
    | none => .error at'
    | some p => match restG rd (at' + 1) ls fs with
      | .ok ps => .ok (p :: ps)
      | .error e => .error e
/-- behind i lines that are right -/
def restAtG {β γ : Type} (rd : List Str → β → Option γ) (ls : List Str) (fs : List β) (i : Nat) (ps : List γ) : Except Nat (List γ) := match restG rd (1 + i) (ls.drop i) (fs.drop i) with
  | .ok qs => .ok (ps ++ qs)
  | .error e => .error e
section
variable {β γ : Type} {rd : List Str → β → Option γ}
theorem rest_zeroG (ls : List Str) (fs : List β) : restAtG rd ls fs 0 [] = restG rd 1 ls fs := by
  unfold restAtG
  simp only [Nat.add_zero, List.drop_zero, List.nil_append]
  cases restG rd 1 ls fs <;> rfl
theorem rest_stepG {ls : List Str} {fs : List β} {i : Nat} {ps : List γ} {l : Str} {f : β} (h1 : ls[i]? = some l) (h2 : fs[i]? = some f) :
    restAtG rd ls fs i ps = match rd (wordsOf l) f with
      | none => .error (1 + i)
      | some p => restAtG rd ls fs (i + 1) (ps ++ [p]) := by
  have e1 : ls.drop i = l :: ls.drop (i + 1) := by
    obtain ⟨h, e⟩ := List.getElem?_eq_some_iff.mp h1
    rw [List.drop_eq_getElem_cons h, e]
  have e2 : fs.drop i = f :: fs.drop (i + 1) := by
    obtain ⟨h, e⟩ := List.getElem?_eq_some_iff.mp h2
    rw [List.drop_eq_getElem_cons h, e]
  unfold restAtG
  rw [e1, e2]
  show (match (match rd (wordsOf l) f with
    | none => Except.error (1 + i)
    | some p => match restG rd (1 + i + 1) (ls.drop (i + 1)) (fs.drop (i + 1)) with
      | .ok ps => .ok (p :: ps)
      | .error e => .error e) with
    | .ok qs => Except.ok (ps ++ qs)
    | .error e => .error e) = _
  cases rd (wordsOf l) f with
  | none => rfl
  | some p =>
    rw [show 1 + (i + 1) = 1 + i + 1 from by omega]
    cases restG rd (1 + i + 1) (ls.drop (i + 1)) (fs.drop (i + 1)) with
    | error e => rfl
    | ok qs => simp
theorem rest_manyG {ls : List Str} {fs : List β} {i : Nat} {ps : List γ} {l : Str} (h1 : ls[i]? = some l) (h2 : fs.length ≤ i) : restAtG rd ls fs i ps = .error (1 + i) := by
  have e1 : ls.drop i = l :: ls.drop (i + 1) := by
    obtain ⟨h, e⟩ := List.getElem?_eq_some_iff.mp h1
    rw [List.drop_eq_getElem_cons h, e]
  unfold restAtG
  rw [e1, List.drop_eq_nil_of_le h2]; rfl
theorem rest_endG {ls : List Str} {fs : List β} {ps : List γ} (hl : ls.length ≤ fs.length) : restAtG rd ls fs ls.length ps = if ls.length < fs.length then .error (1 + ls.length) else .ok ps := by
  unfold restAtG
  rw [List.drop_eq_nil_of_le (Nat.le_refl _)]
  by_cases h : ls.length < fs.length
  · rw [if_pos h, List.drop_eq_getElem_cons h]; rfl
  · rw [if_neg h, List.drop_eq_nil_of_le (by omega)]
    show Except.ok (ps ++ []) = _
    rw [List.append_nil]
end
def iOpt {γ : Type} (R : Rp γ) : Rp (Option γ) := fun H v o => match o with
  | none => v = .non
  | some p => R H v p
instance {γ : Type} {R : Rp γ} [m : Mono R] : Mono (iOpt R) := ⟨fun {H H' v o} s h => by cases o with
  | none => exact h
  | some q => exact up (R := R) s h⟩
def WLk (ws : List Str) : Prop := ws.length ≤ 1000 ∧ ∀ z ∈ ws, z.length + 2 ≤ sizeLine
/-- a def that reads words for a form -/
def spReadG {β γ : Type} (RF : Rp β) (RV : Rp γ) (rd : List Str → β → Option γ) (Fk : β → Prop) : Sp := fun vs H Q _ => ∃ (I : Hp) (v u : V) (ws : List Str) (b : β), vs = [v, u] ∧ Same I H ∧ iL iS I v ws ∧ RF I u b ∧ WLk ws ∧ Fk b ∧ Ret [] I H (iOpt RV) (rd ws b) Q
def spRestX (P : Program) (w : World) (K : PySem.W.Frag) (mg : Str → Option Value) (base : Heap) : Sp := fun vs H Q E => ∃ (β γ : Type) (RF : Rp β) (_ : Mono RF) (RV : Rp γ) (_ : Mono RV) (rd : List Str → β → Option γ) (Fk : β → Prop) (f0 : Addr) (ps0 : List Str)
  (_ : Has P w K mg base 8 f0 ps0 [] (spReadG RF RV rd Fk)) (_ : ∀ H v p, RV H v p → ∃ a, v = .ref a) (I : Hp) (vl vf : V) (l0 : Str) (ls : List Str) (fs : List β), vs = [vl, vf, .ref f0] ∧ Same I H ∧ iA iS I vl (l0 :: ls) ∧ iL RF I vf fs ∧ fs.length ≤ 1000 ∧ ls.length ≤ 1000 ∧
  (∀ l ∈ ls, l.length + 2 ≤ sizeLine ∧ WLk (wordsOf l)) ∧ (∀ f ∈ fs, Fk f) ∧ OutE I H (CBP K) (iL RV) (restG rd 1 ls fs) Q E
theorem sc__read_rest : FnScope ["lines", "forms", "read", "found", "at", "value"] ["lines", "forms", "read"] (defScope s__read_rest) := ⟨rfl, rfl, rfl, by decide +kernel, rfl, by decide +kernel, by decide +kernel⟩
theorem ok_restG (D : Dt K mg) /- H_READ -/ : HasN P w K mg base 9 (He.ga K "_read_rest") ["lines", "forms", "read"] [] (spRestX P w K mg base) := by
  obtain ⟨fd, F⟩ := fd__read_rest D
  have H_words_of := ok_words_of (P := P) (w := w) (base := base) D
  have H_BadPaper_init := ok_bp (P := P) (w := w) (base := base) D
  refine hasXN F (F.bindsN fun _ _ _ _ _ _ us hl => match us, hl with | [_, _, _], _ => rfl) sc__read_rest (fun vs H Q E h => ?_) (fun cdv A outer s H vs Q E hr h => ?_)
  · obtain ⟨β, γ, RF, i1, RV, i2, rd, Fk, f0, ps0, H_READ, nv, I, vl, vf, l0, ls, fs, rfl, _⟩ := h; rfl
  · obtain ⟨β, γ, RF, i1, RV, i2, rd, Fk, f0, ps0, H_READ, nv, I, vl, vf, l0, ls, fs, rfl, s0, rl, rf, hf, hn, hw, h1, k⟩ := h
    refine ⟨_, (pss_cons (ps_set (i := 3) sc__read_rest.nd rfl (Or.inl rfl) (pe_lst pa_nil))
      (pss_cons (ps_for (passes_of rfl) rfl (pi_range2 rfl (free_range D) (pa_cons pe_int (pa_cons (pe_callB (call_lenK K) rfl (free_len D) PySem.boot_len (pa_cons (pv 0) pa_nil)) pa_nil))) (pg_name (i := 4) sc__read_rest.nd rfl (Or.inl rfl))
      (pss_cons (ps_set (i := 5) sc__read_rest.nd rfl (Or.inl rfl) (pe_ifExp (pt_cmpR op_le (pv 4) (pe_callB (call_lenK K) rfl (free_len D) PySem.boot_len (pa_cons (pv 1) pa_nil)) (nomark _)) (pe_callVH (i := 2) H_READ (hr.mono (by omega)) passL rfl (Or.inl rfl) (pa_cons (pe_callH H_words_of (hr.mono (by omega)) rfl (glo_words_of D) passL (pa_cons (pe_ix (ix_seq) (pv 0) (pv 4) (fun _ _ => rfl)) pa_nil)) (pa_cons (pe_ix (ix_listK K) (pv 1) (pe_op op_sub (pv 4) pe_int) (fun _ _ => rfl)) pa_nil))) pe_non))
      (pss_cons (ps_if (pt_cmpR op_isN (pv 5) pe_non (nomark _))
      (pss_one (L2N.ps_raise rfl (L2N.takes_of rfl rfl rfl rfl) (pmk_oexN (oex_BadPaper (K := K) D) H_BadPaper_init (hr.mono (by omega)) rfl (glo_BadPaper D) (pa_cons (pv 4) pa_nil))))
      pss_nil)
      (pss_one (ps_expr (pe_bm PySem.F.plainAttrs_list PySem.F.slot_list_append PySem.F.type_list_append mt_append (pv 3) (pa_cons (pv 5) pa_nil)))))))
      (pss_cons (ps_if (pt_cmpR op_lt (pe_callB (call_lenK K) rfl (free_len D) PySem.boot_len (pa_cons (pv 3) pa_nil)) (pe_callB (call_lenK K) rfl (free_len D) PySem.boot_len (pa_cons (pv 1) pa_nil)) (nomark _))
      (pss_one (L2N.ps_raise rfl (L2N.takes_of rfl rfl rfl rfl) (pmk_oexN (oex_BadPaper (K := K) D) H_BadPaper_init (hr.mono (by omega)) rfl (glo_BadPaper D) (pa_cons (pe_callB (call_lenK K) rfl (free_len D) PySem.boot_len (pa_cons (pv 0) pa_nil)) pa_nil))))
      pss_nil)
      (pss_one (ps_ret (pv 3)))))), ?_⟩
    obtain ⟨a, vs, rfl, ha, a2⟩ := id rl
    obtain ⟨b, us, rfl, hb, b2⟩ := id rf
    have hla := a2.len
    have hlb := b2.len
    rw [List.length_cons] at hla
    (try dsimp only)
    refine seq_cut (fun σ' H1 => ∃ L, σ' = [some (.ref a), some (.ref b), some (.ref f0), some (.ref L), none, none] ∧ Gr [] I H I H1 ∧ H L = none ∧ H1 L = some (.lst [])) (fun nx q => ?_) ?_
    · exact ⟨(by show 0 ≤ sizeLine; decide), fun L hL => q _ _ ⟨L, rfl, Gr.tmp s0 hL, hL, upd_same⟩⟩
    rintro σ' H1 ⟨L, rfl, g1, hL0, hL1⟩
    (try dsimp only)
    refine seq_cut (fun σ' H2 => ∃ (I2 : Hp) (v4 v5 : Option V) (ys : List V) (ps : List γ), σ' = [some (.ref a), some (.ref b), some (.ref f0), some (.ref L), v4, v5] ∧ Gr [] I H I2 H2 ∧ I2 L = none ∧ H2 L = some (.lst ys) ∧ All2 (RV I2) ys ps ∧ ps.length = ls.length ∧ ls.length ≤ fs.length ∧ restAtG rd ls fs ls.length ps = restG rd 1 ls fs) (fun nx q => ?_) ?_
    · refine ⟨_, rfl, _, (l0 :: ls).length, rfl, len_of rl g1.ih, 1, _, rfl, ⟨by decide, by decide, by rw [List.length_cons]; omega, by rw [List.length_cons]; omega⟩, ?_⟩
      have e0 : (((l0 :: ls).length : Int) - 1).toNat = ls.length := by rw [List.length_cons]; omega
      (try dsimp only)
      rw [e0]
      refine for_wk (D := { nx := nx, rt := Q }) (wk_range (I := I))
        (fun σ' H2 => ∃ (I2 : Hp) (v4 v5 : Option V) (ys : List V) (ps : List γ), σ' = [some (.ref a), some (.ref b), some (.ref f0), some (.ref L), v4, v5] ∧ Gr [] I H I2 H2 ∧ I2 L = none ∧ H2 L = some (.lst ys) ∧ All2 (RV I2) ys ps ∧ ps.length = ls.length ∧ ls.length ≤ fs.length ∧ restAtG rd ls fs ls.length ps = restG rd 1 ls fs)
        (fun i σ' H2 => ∃ (I2 : Hp) (v4 v5 : Option V) (ys : List V) (ps : List γ), σ' = [some (.ref a), some (.ref b), some (.ref f0), some (.ref L), v4, v5] ∧ Gr [] I H I2 H2 ∧ I2 L = none ∧ H2 L = some (.lst ys) ∧ All2 (RV I2) ys ps ∧ ps.length = i ∧ i ≤ fs.length ∧ restAtG rd ls fs i ps = restG rd 1 ls fs)
        (fun i σ' H' h => by obtain ⟨I2, _, _, _, _, _, gr, _⟩ := h; exact gr.ii.trans gr.ih)
        ⟨I, none, none, [], [], rfl, g1, s0.free hL0, hL1, .nil, rfl, Nat.zero_le _, rest_zeroG ls fs⟩ (fun nx qn i σ' H' hi h => ?_) (fun σ' H' h => h) ?_
      rotate_left
      · exact fun σ' H' h => q σ' H' h
      obtain ⟨I2, v4, v5, ys, ps, rfl, g2, hLI, hLH, y2, hp, hif, hre⟩ := h
      have hli : ls[i]? = some ls[i] := List.getElem?_eq_getElem hi
      generalize ls[i] = l at hli
      have e1 : (1 : Int) + (i : Int) = ((1 + i : Nat) : Int) := by omega
      have hw' := hw l (List.mem_of_getElem? hli)
      rw [e1]
      (try unfold gName)
      (try dsimp only)
      refine seq_cut (fun σ' H3 => ∃ (I3 : Hp) (x : V) (o : Option γ), σ' = [some (.ref a), some (.ref b), some (.ref f0), some (.ref L), some (.int ((1 + i : Nat) : Int)), some x] ∧ Gr [] I2 H' I3 H3 ∧ iOpt RV I3 x o ∧ (o = none → restG rd 1 ls fs = .error (1 + i)) ∧ ∀ p, o = some p → i < fs.length ∧ restAtG rd ls fs (i + 1) (ps ++ [p]) = restG rd 1 ls fs) (fun nx2 q2 => ?_) ?_
      · refine ⟨_, rfl, _, rfl, _, us.length, rfl, .inl ⟨_, SqL.of (g2.ih _ _ (g2.ii _ _ hb)), rfl⟩, _, _, rfl, rfl, _, rfl, ifD (fun c => ?_) (fun c => ?_)⟩
        · have c' : i < fs.length := by
            have : (((1 + i : Nat)) : Int) ≤ (us.length : Int) := c
            omega
          have hfi : fs[i]? = some fs[i] := List.getElem?_eq_getElem c'
          have hfm := List.getElem_mem c'
          generalize fs[i] = f at hfi hfm
          obtain ⟨u, hu, ru⟩ := b2.get' hfi
          obtain ⟨vl', hvl, rvl⟩ := a2.get' (i := 1 + i) (x := l) (by rw [Nat.add_comm 1 i, List.getElem?_cons_succ]; exact hli)
          have evl : vl' = V.str l := rvl
          subst evl
          have hix : ∀ {H4 : Hp} (s : Same I H4) {Q' : VK}, Q' (.str l) H4 → rIx K (.ref a) (.int ((1 + i : Nat) : Int)) H4 Q' := fun {H4} s {Q'} hq => by
            rcases ha with ha | ha
            · exact .inl ⟨_, _, _, _, rfl, rfl, SqL.of (s _ _ ha), at_of (j := 1 + i) rfl hvl, hq⟩
            · exact .inr (.inl ⟨_, _, _, _, rfl, rfl, SqT.of (s _ _ ha), at_of (j := 1 + i) rfl hvl, hq⟩)
          have sI := g2.ii.trans g2.ih
          refine ⟨rfl, _, rfl, _, rfl, hix sI ?_⟩
          refine ⟨I2, l, rfl, g2.ih, hw'.1, fun I4 H4 v4' g4 r4 => ?_⟩
          obtain ⟨d, ed, hd⟩ := r4
          subst ed
          have hu4 := (g2.ii.trans g4.ii)
          refine ⟨_, rfl, _, rfl, _, _, rfl, rfl, _, _, _, _, rfl, rfl, SqL.of (g4.ih _ _ (hu4 _ _ hb)), at_of (j := i) (by omega) hu, ?_⟩
          refine ⟨I4, _, _, wordsOf l, f, rfl, g4.ih, strs_iL hd, up hu4 ru, hw'.2, h1 f hfm, fun I5 H5 x5 g5 r5 => ?_⟩
          refine q2 _ _ ⟨I5, x5, rd (wordsOf l) f, rfl, g4.trans g5, r5, fun e => ?_, fun p e => ⟨c', ?_⟩⟩
          · rw [← hre, rest_stepG hli hfi, e]
          · rw [← hre, rest_stepG hli hfi, e]
        · have c' : fs.length ≤ i := by
            have : ¬ (((1 + i : Nat)) : Int) ≤ (us.length : Int) := c
            omega
          refine q2 _ _ ⟨I2, .non, none, rfl, Gr.refl g2.ih, rfl, fun _ => ?_, fun p e => nomatch e⟩
          rw [← hre, rest_manyG hli c']
      rintro σ' H3 ⟨I3, x, o, rfl, g3, rx, hN, hS⟩
      have hL3 := g3.at hLH (by simp)
      have hI3 := g3.out hLI hLH
      cases o with
      | none =>
        have : x = .non := rx
        subst this
        have e := hN rfl
        have kE : RaisedAt [] I H (CBP K) (1 + i) E := by rw [e] at k; exact k
        refine ⟨_, rfl, rfl, _, rfl, iteT ?_⟩
        exact ⟨_, rfl, (by show 1 ≤ 1000; decide), fun e he => ⟨e, _, rfl, upd_same, fun d hd ne => ⟨rfl, d, [("at", .int ((1 + i : Nat) : Int))], upd_same, by rw [upd_ne ne]; exact upd_same, by rw [upd_ne ne] at hd; exact hd, raised_at (g2.trans g3) kE e he d hd ne⟩⟩⟩
      | some p =>
        obtain ⟨hi2, hS2⟩ := hS p rfl
        obtain ⟨px, ex⟩ := nv _ _ _ (show RV I3 x p from rx)
        subst ex
        refine ⟨_, rfl, rfl, _, rfl, iteF ?_⟩
        (try unfold tNext)
        (try dsimp only)
        have ly := y2.len
        refine ⟨_, rfl, .inl ⟨rfl, _, SqL.of hL3⟩, _, rfl, L, ys, _, rfl, rfl, hL3, lt_line (by omega), ?_⟩
        have G := g2.trans g3
        exact ⟨I3, _, _, ys ++ [.ref px], ps ++ [p], rfl, ((G.mono (ns := [L]) fun _ z => nomatch z).trans (Gr.mut G.ih hI3 List.mem_cons_self)).drop hL0, hI3, upd_same, (y2.up g3.ii).snoc rx, by rw [List.length_append, hp]; rfl, hi2, hS2⟩
    rintro σ' H2 ⟨I2, v4, v5, ys, ps, rfl, g2, hLI, hLH, y2, hp, hif, hre⟩
    have ly := y2.len
    have hre' := rest_endG (rd := rd) (ps := ps) hif
    rw [hre] at hre'
    refine ⟨_, rfl, _, ys.length, rfl, .inl ⟨_, SqL.of hLH, rfl⟩, _, rfl, _, us.length, rfl, .inl ⟨_, SqL.of (g2.ih _ _ (g2.ii _ _ hb)), rfl⟩, _, _, rfl, rfl, _, rfl, ifD (fun c => ?_) (fun c => ?_)⟩
    · have c' : ls.length < fs.length := by
        have : (ys.length : Int) < (us.length : Int) := c
        omega
      rw [if_pos c'] at hre'
      have kE : RaisedAt [] I H (CBP K) (1 + ls.length) E := by rw [hre'] at k; exact k
      refine ⟨_, rfl, _, (l0 :: ls).length, rfl, len_of (up g2.ii rl) g2.ih, ?_⟩
      rw [show (((l0 :: ls).length : Nat) : Int) = ((1 + ls.length : Nat) : Int) from by rw [List.length_cons]; omega]
      exact ⟨(by show 1 ≤ 1000; decide), fun e he => ⟨e, _, rfl, upd_same, fun d hd ne => ⟨rfl, d, [("at", .int ((1 + ls.length : Nat) : Int))], upd_same, by rw [upd_ne ne]; exact upd_same, by rw [upd_ne ne] at hd; exact hd, raised_at g2 kE e he d hd ne⟩⟩⟩
    · have c' : ¬ ls.length < fs.length := by
        have : ¬ (ys.length : Int) < (us.length : Int) := c
        omega
      rw [if_neg c'] at hre'
      have kO : Ret [] I H (iL (RV)) ps Q := by rw [hre'] at k; exact k
      (try unfold tNext)
      (try dsimp only)
      have g5 : Gr [] I H (upd I2 L (.lst ys)) H2 := (g2.mono (ns := [L]) fun _ z => nomatch z).frz s0 hL0 hLH
      exact ⟨_, rfl, kO _ _ _ g5 ⟨L, ys, rfl, upd_same, y2.up (sNew hLI)⟩⟩
end
end K

set_option Elab.async false
set_option linter.all false
set_option maxRecDepth 100000
set_option maxHeartbeats 4000000
set_option exponentiation.threshold 5000
namespace K
open PySem PySem.Spec PyProof.Rows L2 Tk Hd Rd Mt TL
section
variable {P : Program} {w : World} {K : PySem.W.Frag} {mg : Str → Option Value} {base : Heap}
theorem has_weak {k : Nat} {f : Addr} {ps : List Str} {dvs : List V} {sp sp' : Sp} (A : Has P w K mg base k f ps dvs sp) (h : ∀ vs H Q E, sp' vs H Q E → sp vs H Q E) : Has P w K mg base k f ps dvs sp' := by
  obtain ⟨hk, fd, ds, a, b, F⟩ := A
  exact ⟨hk, fd, ds, a, b, ⟨fun vs H Q E z => F.len vs H Q E (h _ _ _ _ z), fun A' outer s H args us vs Q E hr he hb hv z => F.run A' outer s H args us vs Q E hr he hb hv (h _ _ _ _ z)⟩⟩
def FkS : Nat × Nat → Prop := fun m => m.1 < 100 ∧ m.2 < 100
theorem read_step (D : Dt K mg) : Has P w K mg base 8 (He.ga K "_step") ["words", "most"] [] (spReadG iSt iSt stepOf FkS) :=
  has_weak ((ok_step (P := P) (w := w) (base := base) D).mono (show 3 ≤ 8 by decide)) fun vs H Q E h => by
    obtain ⟨I, v, u, ws, b, e, s, r1, r2, wl, fk, k⟩ := h
    refine ⟨I, v, u, ws, b, e, s, r1, r2, wl.2, fk.1, fk.2, fun I' H' v' g r => k I' H' v' g ?_⟩
    cases ho : stepOf ws b with
    | none => rw [ho] at r; exact r
    | some p => rw [ho] at r; exact r
def FkR : Nat → Prop := fun _ => True
theorem read_ratios (D : Dt K mg) : Has P w K mg base 8 (He.ga K "_ratios") ["words", "many"] [] (spReadG iN (iL (iR (CR K))) ratiosOf FkR) :=
  has_weak ((ok_ratios (P := P) (w := w) (base := base) D).mono (show 7 ≤ 8 by decide)) fun vs H Q E h => by
    obtain ⟨I, v, u, ws, b, e, s, r1, r2, wl, fk, k⟩ := h
    have r2 : u = .int (b : Int) := r2
    subst r2
    refine ⟨I, v, ws, b, e, s, r1, wl.2, wl.1, fun I' H' v' g r => k I' H' v' g ?_⟩
    cases ho : ratiosOf ws b with
    | none => rw [ho] at r; exact r
    | some p => rw [ho] at r; exact r
theorem all2_rep {α : Type} {R : V → α → Prop} {v : V} {x : α} (h : R v x) : ∀ n, All2 R (List.replicate n [v]).flatten (List.replicate n x)
  | 0 => .nil
  | n + 1 => by rw [List.replicate_succ, List.flatten_cons, List.replicate_succ]; exact .cons h (all2_rep h n)
theorem nv_st : ∀ H v p, iSt H v p → ∃ a, v = .ref a := fun H v p ⟨a, e, _⟩ => ⟨a, e⟩
theorem nv_l {α : Type} {R : Rp α} : ∀ H v (p : List α), iL R H v p → ∃ a, v = .ref a := fun H v p ⟨a, _, e, _⟩ => ⟨a, e⟩
theorem fo_new {I H I' H' : Hp} {x dx C C2 : Addr} {F : Fo} {vb vc vd ve : V} (s : Same I H) (nx : H x = none) (nd : H dx = none) (ne : dx ≠ x)
    (g : Gr [x] (upd I dx (.own x)) (upd (upd H dx (.own x)) x (.ins C2 dx [])) I' H') (h : H' x = some (.ins C2 dx (ffd (.str F.k) vb vc vd ve))) (r1 : iL (iL (iR C)) I' vb F.vs) (r2 : iL (iR C) I' vc F.st) (r3 : iL (iL (iR C)) I' vd F.mv) (r4 : iOW (iT iSt) I' ve F.w) :
    Gr [] I H (upd I' x (.ins C2 dx (ffd (.str F.k) vb vc vd ve))) H' ∧ iFo C C2 (upd I' x (.ins C2 dx (ffd (.str F.k) vb vc vd ve))) (.ref x) F := by
  have g0 : Gr [] I H (upd I dx (.own x)) (upd H dx (.own x)) := Gr.new s nd
  have hx0 : upd H dx (.own x) x = none := by rw [upd_ne (Ne.symm ne)]; exact nx
  have g1 : Gr [] (upd I dx (.own x)) (upd H dx (.own x)) (upd I dx (.own x)) (upd (upd H dx (.own x)) x (.ins C2 dx [])) := Gr.tmp g0.ih hx0
  have g2 := (g1.mono (ns := [x]) fun _ z => nomatch z).trans g
  have hI' : I' x = none := g.out (g0.ih.free hx0) upd_same
  exact ⟨g0.trans (g2.frz g0.ih hx0 h), x, dx, vb, vc, vd, ve, rfl, upd_same, up (sNew hI') r1, up (sNew hI') r2, up (sNew hI') r3, up (sNew hI') r4⟩
theorem restG_len {β γ : Type} {rd : List Str → β → Option γ} : ∀ {ls : List Str} {fs : List β} {n : Nat} {ps : List γ}, restG rd n ls fs = .ok ps → ps.length = fs.length
  | [], [], _, _, h => by injection h with h; rw [← h]; rfl
  | [], _ :: _, _, _, h => nomatch h
  | _ :: _, [], _, _, h => nomatch h
  | l :: ls, f :: fs, n, ps, h => by
    unfold restG at h
    cases e : rd (wordsOf l) f with
    | none => rw [e] at h; cases h
    | some p =>
      rw [e] at h
      dsimp only at h
      cases e2 : restG rd (n + 1) ls fs with
      | error x => rw [e2] at h; cases h
      | ok qs =>
        rw [e2] at h
        injection h with h
        rw [← h, List.length_cons, List.length_cons, restG_len e2]
theorem manyOf_some {ws : List Str} {m : Nat} (h : manyOf ws = some m) : ws = [("same" : Str), dec m] ∧ 0 < m ∧ m ≤ 24 := by
  match ws, h with
  | [a, b], h =>
    have h : (if a = ("same" : Str) ∧ b ≠ ("0" : Str) then numOf b 24 else none) = some m := h
    by_cases c : a = ("same" : Str) ∧ b ≠ ("0" : Str)
    · rw [if_pos c] at h
      obtain ⟨e1, e2⟩ := numOf_some.mp h
      refine ⟨by rw [c.1, e1], ?_, e2⟩
      rcases Nat.eq_zero_or_pos m with z | z
      · subst z
        exact absurd (e1.trans (by decide +kernel)) c.2
      · exact z
    · rw [if_neg c] at h; cases h
theorem mulw {i j : Int} (h1 : i.natAbs < 2 ^ 64) (h2 : j.natAbs < 2 ^ 64) : CMulW i j := wide_mul (a := 64) (b := 64) h1 h2 (by decide) (by decide) (by decide)
/-! ### read_paper -/
def widthsOf (n1 n2 m bs as : Nat) : List Nat := List.replicate m (n1 + n2) ++ List.replicate (1 + m * bs * as) m
def readPaper (lines : List Str) (n1 n2 bs as : Nat) : Except Nat Fo := match lines with
  | [] => .error 0
  | l0 :: ls => if l0 = ("apart" : Str) then match restG stepOf 1 ls (List.replicate ls.length (bs - 1, as - 1)) with
      | .ok w => .ok ⟨"apart", [], [], [], some w⟩
      | .error e => .error e
    else match manyOf (wordsOf l0) with
      | none => .error 0
      | some m => match restG ratiosOf 1 ls (widthsOf n1 n2 m bs as) with
        | .ok rows => .ok ⟨"same", rows.take m, rows.getD m [], rows.drop (m + 1), none⟩
        | .error e => .error e
structure PLk (lines : List Str) : Prop where
  len : lines.length ≤ 1000
  ok : ∀ l ∈ lines, l.length + 2 ≤ sizeLine ∧ WLk (wordsOf l)
theorem mf_nos (va vb : V) : (mf va vb).lookup ("states" : Str) = none ∧ (mf va vb).lookup ("buttons" : Str) = none ∧ (mf va vb).lookup ("answers" : Str) = none := by
  refine ⟨?_, ?_, ?_⟩ <;> (unfold mf; rw [lookup_putF, if_neg (by decide +kernel), lookup_putF, if_neg (by decide +kernel)]; rfl)
def spRPaper (K : PySem.W.Frag) : Sp := fun vs H Q E => ∃ (I : Hp) (v1 v2 vl : V) (A B : Ma) (lines : List Str) (n1 n2 bs as : Nat), vs = [v1, v2, vl] ∧ Same I H ∧ iM (CR K) (CM K) I v1 A ∧ iM (CR K) (CM K) I v2 B ∧ A.1.length = n1 ∧ B.1.length = n2 ∧ A.2.length = bs ∧ (gl A.2 0).length = as ∧
  n1 ≤ 12 ∧ n2 ≤ 12 ∧ 0 < bs ∧ bs ≤ 4 ∧ 0 < as ∧ as ≤ 4 ∧ iA iS I vl lines ∧ PLk lines ∧ OutE I H (CBP K) (iFo (CR K) (CFd K)) (readPaper lines n1 n2 bs as) Q E
theorem sc_read_paper : FnScope ["one", "other", "lines", "most", "many", "widths", "rows"] ["one", "other", "lines"] (defScope s_read_paper) := ⟨rfl, rfl, rfl, by decide +kernel, rfl, by decide +kernel, by decide +kernel⟩
theorem ok_rpaper (D : Dt K mg) : HasN P w K mg base 12 (He.ga K "read_paper") ["one", "other", "lines"] [] (spRPaper K) := by
  obtain ⟨fd, F⟩ := fd_read_paper D
  have H_BadPaper_init := ok_bp (P := P) (w := w) (base := base) D
  have H_Machine_answers := ok_manswers (P := P) (w := w) (base := base) D
  have H_Machine_buttons := ok_mbuttons (P := P) (w := w) (base := base) D
  have H_Found_init := ok_finit (P := P) (w := w) (base := base) D
  have H__read_rest := ok_restG (P := P) (w := w) (base := base) D
  have H__many := ok_many (P := P) (w := w) (base := base) D
  have H_words_of := ok_words_of (P := P) (w := w) (base := base) D
  have H_Machine_states := ok_mstates (P := P) (w := w) (base := base) D
  refine hasXN F (F.bindsN fun _ _ _ _ _ _ us hl => match us, hl with | [_, _, _], _ => rfl) sc_read_paper (fun vs H Q E h => ?_) (fun cdv A outer s H vs Q E hr h => ?_)
  · obtain ⟨I, v1, v2, vl, A, B, lines, n1, n2, bs, as, rfl, _⟩ := h; rfl
  · obtain ⟨I, v1, v2, vl, A, B, lines, n1, n2, bs, as, rfl, s0, r1, r2, e1, e2, e3, e4, h1, h2, b0, b1, a0, a1, rl, ok, k⟩ := h
    refine ⟨_, (pss_cons (ps_if (pt_cmpR op_eq (pe_callB (call_lenK K) rfl (free_len D) PySem.boot_len (pa_cons (pv 2) pa_nil)) pe_int (nomark _))
      (pss_one (L2N.ps_raise rfl (L2N.takes_of rfl rfl rfl rfl) (pmk_oexN (oex_BadPaper (K := K) D) H_BadPaper_init (hr.mono (by omega)) rfl (glo_BadPaper D) (pa_cons pe_int pa_nil))))
      pss_nil)
      (pss_cons (ps_if (pt_cmpR op_eq (pe_ix (ix_seq) (pv 2) pe_int (fun _ _ => rfl)) pe_str (nomark _))
      (pss_cons (ps_set (i := 3) sc_read_paper.nd rfl (Or.inl rfl) (pe_tup (pa_cons (pe_op op_sub (pe_methH0 (pv 0) (cls_Machine (K := K) D) (me_Machine_buttons (K := K) D) H_Machine_buttons (hr.mono (by omega)) passL) pe_int) (pa_cons (pe_op op_sub (pe_methH0 (pv 0) (cls_Machine (K := K) D) (me_Machine_answers (K := K) D) H_Machine_answers (hr.mono (by omega)) passL) pe_int) pa_nil))))
      (pss_one (ps_ret (pe_makeH (mkr_Found (K := K) D) H_Found_init (hr.mono (by omega)) rfl (glo_Found D) passL (pa_cons pe_str (pa_cons (pe_lst pa_nil) (pa_cons (pe_lst pa_nil) (pa_cons (pe_lst pa_nil) (pa_cons (pe_callHN H__read_rest (hr.mono (by omega)) rfl (glo__read_rest D) (L2N.passes_call (L2N.takes_of rfl rfl rfl rfl) fun _ _ _ _ h => h) (pa_cons (pv 2) (pa_cons (pe_op op_rep (pe_lst (pa_cons (pv 3) pa_nil)) (pe_op op_sub (pe_callB (call_lenK K) rfl (free_len D) PySem.boot_len (pa_cons (pv 2) pa_nil)) pe_int)) (pa_cons (pe_glob (v := .ref (He.ga K "_step")) rfl (glo__step D) rfl) pa_nil)))) pa_nil)))))))))
      pss_nil)
      (pss_cons (ps_set (i := 4) sc_read_paper.nd rfl (Or.inl rfl) (pe_callH H__many (hr.mono (by omega)) rfl (glo__many D) passL (pa_cons (pe_callH H_words_of (hr.mono (by omega)) rfl (glo_words_of D) passL (pa_cons (pe_ix (ix_seq) (pv 2) pe_int (fun _ _ => rfl)) pa_nil)) pa_nil)))
      (pss_cons (ps_if (pt_cmpR op_isN (pv 4) pe_non (nomark _))
      (pss_one (L2N.ps_raise rfl (L2N.takes_of rfl rfl rfl rfl) (pmk_oexN (oex_BadPaper (K := K) D) H_BadPaper_init (hr.mono (by omega)) rfl (glo_BadPaper D) (pa_cons pe_int pa_nil))))
      pss_nil)
      (pss_cons (ps_set (i := 5) sc_read_paper.nd rfl (Or.inl rfl) (pe_op op_cat (pe_op op_rep (pe_lst (pa_cons (pe_op op_add (pe_methH0 (pv 0) (cls_Machine (K := K) D) (me_Machine_states (K := K) D) H_Machine_states (hr.mono (by omega)) passL) (pe_methH0 (pv 1) (cls_Machine (K := K) D) (me_Machine_states (K := K) D) H_Machine_states (hr.mono (by omega)) passL)) pa_nil)) (pv 4)) (pe_op op_rep (pe_lst (pa_cons (pv 4) pa_nil)) (pe_op op_add pe_int (pe_op op_mulW (pe_op op_mulW (pv 4) (pe_methH0 (pv 0) (cls_Machine (K := K) D) (me_Machine_buttons (K := K) D) H_Machine_buttons (hr.mono (by omega)) passL)) (pe_methH0 (pv 0) (cls_Machine (K := K) D) (me_Machine_answers (K := K) D) H_Machine_answers (hr.mono (by omega)) passL))))))
      (pss_cons (ps_set (i := 6) sc_read_paper.nd rfl (Or.inl rfl) (pe_callHN H__read_rest (hr.mono (by omega)) rfl (glo__read_rest D) (L2N.passes_call (L2N.takes_of rfl rfl rfl rfl) fun _ _ _ _ h => h) (pa_cons (pv 2) (pa_cons (pv 5) (pa_cons (pe_glob (v := .ref (He.ga K "_ratios")) rfl (glo__ratios D) rfl) pa_nil)))))
      (pss_one (ps_ret (pe_makeH (mkr_Found (K := K) D) H_Found_init (hr.mono (by omega)) rfl (glo_Found D) passL (pa_cons pe_str (pa_cons (pe_slice (sl_listK K) (pv 6) po_none (po_some (pv 4))) (pa_cons (pe_ix (ix_listK K) (pv 6) (pv 4) (fun _ _ => rfl)) (pa_cons (pe_slice (sl_listK K) (pv 6) (po_some (pe_op op_add (pv 4) pe_int)) po_none) (pa_cons pe_non pa_nil)))))))))))))), ?_⟩
    obtain ⟨a, vs, rfl, ha, a2⟩ := id rl
    have hla := a2.len
    have hlen := ok.len
    obtain ⟨am, dm, va, vb, rfl, hm, rm1, rm2⟩ := id r1
    obtain ⟨bm, db, va2, vb2, rfl, hm2, rn1, rn2⟩ := id r2
    have raise : ∀ (n : Nat), readPaper lines n1 n2 bs as = .error n → RaisedAt [] I H (CBP K) n E := fun n e => by rw [e] at k; exact k
    refine ⟨_, rfl, _, lines.length, rfl, len_of rl s0, rfl, _, rfl, ifD (fun c => ?_) (fun c => ?_)⟩
    · have c : lines = [] := List.eq_nil_of_length_eq_zero (by have : V.int ((lines.length : Nat) : Int) = V.int 0 := c
                                                               injection this with this; omega)
      have kE := raise 0 (by rw [c]; rfl)
      exact ⟨(by show 1 ≤ 1000; decide), fun e he => ⟨e, _, rfl, upd_same, fun d hd ne => ⟨rfl, d, [("at", .int ((0 : Nat) : Int))], upd_same, by rw [upd_ne ne]; exact upd_same, by rw [upd_ne ne] at hd; exact hd, raised_at (Gr.refl s0) kE e he d hd ne⟩⟩⟩
    cases lines with
    | nil => exact absurd rfl c
    | cons l0 ls =>
      obtain ⟨v0, hv0, rv0⟩ := a2.get' (i := 0) (x := l0) rfl
      have ev : v0 = V.str l0 := rv0
      subst ev
      have hix : ∀ {Q' : VK} {H' : Hp}, Same I H' → Q' (.str l0) H' → rIx K (.ref a) (.int 0) H' Q' := fun {Q'} {H'} s hq => by
        rcases ha with ha | ha
        · exact .inl ⟨_, _, _, _, rfl, rfl, SqL.of (s _ _ ha), at_of (j := 0) rfl hv0, hq⟩
        · exact .inr (.inl ⟨_, _, _, _, rfl, rfl, SqT.of (s _ _ ha), at_of (j := 0) rfl hv0, hq⟩)
      have ok0 := ok.ok l0 List.mem_cons_self
      (try unfold tNext)
      (try dsimp only)
      refine seq_cut (fun σ' H1 => H1 = H ∧ l0 ≠ ("apart" : Str) ∧ σ' = [some (.ref am), some (.ref bm), some (.ref a), none, none, none, none]) (fun nx q => ?_) ?_
      · refine ⟨_, rfl, hix s0 ⟨rfl, _, rfl, ?_⟩⟩
        by_cases ca : l0 = ("apart" : Str)
        rotate_left
        · exact ifF (decide_eq_false (fun h => by injection h with h; exact ca h)) (q _ _ ⟨rfl, ca, rfl⟩)
        refine ifT (decide_eq_true (by rw [ca])) ?_
        refine seq_cut (fun σ' H1 => ∃ (I1 : Hp) (t : Addr), σ' = [some (.ref am), some (.ref bm), some (.ref a), some (.ref t), none, none, none] ∧ Gr [] I H I1 H1 ∧ iSt I1 (.ref t) (bs - 1, as - 1)) (fun nx q => ?_) ?_
        · refine ⟨_, rfl, am, dm, _, rfl, s0 _ _ hm, (mf_nos va vb).2.1, I, _, A, rfl, s0, r1, _, _, rfl, rfl, _, rfl, am, dm, _, rfl, s0 _ _ hm, (mf_nos va vb).2.2, I, _, A, rfl, s0, r1, by omega, _, _, rfl, rfl, (by show 2 ≤ sizeLine; decide), fun t ht => ?_⟩
          refine q _ _ ⟨_, t, rfl, Gr.new (ms := []) s0 ht, t, rfl, ?_⟩
          rw [upd_same]
          show some (HO.tup [V.int ((A.2.length : Int) - 1), V.int (((gl A.2 0).length : Int) - 1)]) = some (HO.tup [V.int ((bs - 1 : Nat) : Int), V.int ((as - 1 : Nat) : Int)])
          rw [e3, e4, show ((bs - 1 : Nat) : Int) = (bs : Int) - 1 from by omega, show ((as - 1 : Nat) : Int) = (as : Int) - 1 from by omega]
        rintro σ' H1 ⟨I1, t, rfl, g1, rt1⟩
        (try dsimp only)
        refine ⟨(by show 0 ≤ sizeLine; decide), fun l1 hl1 => ⟨(by show 0 ≤ sizeLine; decide), fun l2 hl2 => ⟨(by show 0 ≤ sizeLine; decide), fun l3 hl3 => ?_⟩⟩⟩
        have g2 := Gr.new (ms := []) (o := .lst []) g1.ih hl1
        have g3 := Gr.new (ms := []) (o := .lst []) g2.ih hl2
        have g4 := Gr.new (ms := []) (o := .lst []) g3.ih hl3
        refine ⟨_, rfl, _, rfl, (by show 1 ≤ sizeLine; decide), fun l4 hl4 => ?_⟩
        have g5 := Gr.new (ms := []) (o := .lst [.ref t]) g4.ih hl4
        have G5 := (((g1.trans g2).trans g3).trans g4).trans g5
        have eL : (((l0 :: ls).length : Nat) : Int) - 1 = (ls.length : Int) := by rw [List.length_cons]; omega
        rw [List.length_cons] at hlen
        refine ⟨_, rfl, _, (l0 :: ls).length, rfl, len_of (up G5.ii rl) G5.ih, _, _, rfl, rfl, l4, (ls.length : Int), _, rfl, (show V.int ((((l0 :: ls).length : Nat) : Int) - 1) = V.int (ls.length : Int) from by rw [eL]), upd_same, by omega, by omega, ?_, fun l6 hl6 => ?_⟩
        · rw [Int.toNat_natCast]; exact Nat.le_of_lt (lt_line (by simp; omega))
        rw [Int.toNat_natCast]
        have g6 := Gr.new (ms := []) (o := .lst (List.replicate ls.length [V.ref t]).flatten) g5.ih hl6
        have G6 := G5.trans g6
        have rt6 := up (g2.ii.trans (g3.ii.trans (g4.ii.trans (g5.ii.trans g6.ii)))) rt1
        refine ⟨Nat × Nat, Nat × Nat, iSt, inferInstance, iSt, inferInstance, stepOf, FkS, _, _, read_step D, nv_st, _, _, _, l0, ls, List.replicate ls.length (bs - 1, as - 1), rfl, G6.ih, up G6.ii rl, ⟨l6, _, rfl, upd_same, all2_rep rt6 _⟩, by rw [List.length_replicate]; omega, by omega, fun l hl => ok.ok l (List.mem_cons_of_mem _ hl), fun f hf => by rw [(List.mem_replicate.mp hf).2]; exact ⟨by show bs - 1 < 100; omega, by show as - 1 < 100; omega⟩, ?_⟩
        have er : readPaper (l0 :: ls) n1 n2 bs as = match restG stepOf 1 ls (List.replicate ls.length (bs - 1, as - 1)) with
          | .ok w => .ok ⟨"apart", [], [], [], some w⟩
          | .error e => .error e := by unfold readPaper; dsimp only; rw [if_pos ca]
        cases e5 : restG stepOf 1 ls (List.replicate ls.length (bs - 1, as - 1)) with
        | error n =>
          rw [e5] at er
          have kE := raise n er
          exact fun I' H' d g h => kE I' H' d (G6.trans g) h
        | ok w =>
          rw [e5] at er
          have kO : Ret [] I H (iFo (CR K) (CFd K)) (⟨"apart", [], [], [], some w⟩ : Fo) Q := by rw [er] at k; exact k
          intro I7 H7 v7 g7 r7
          refine fun x dx nx nd ne => ?_
          have hx1 : upd H7 dx (.own x) x = none := by rw [upd_ne (Ne.symm ne)]; exact nx
          have gd := Gr.new (ms := []) (o := .own x) g7.ih nd
          have nl : ∀ l, (upd I7 dx (.own x)) l = some (HO.lst []) → iA (iA (iR (CR K))) (upd I7 dx (.own x)) (.ref l) [] := fun l h => ⟨l, [], rfl, .inl h, .nil⟩
          have nl2 : ∀ l, (upd I7 dx (.own x)) l = some (HO.lst []) → iA (iR (CR K)) (upd I7 dx (.own x)) (.ref l) [] := fun l h => ⟨l, [], rfl, .inl h, .nil⟩
          have S4 : Same (upd (upd (upd I1 l1 (.lst [])) l2 (.lst [])) l3 (.lst [])) (upd I7 dx (.own x)) := g5.ii.trans (g6.ii.trans (g7.ii.trans gd.ii))
          have wl := restG_len e5
          rw [List.length_replicate] at wl
          refine ⟨upd I7 dx (.own x), x, dx, .ref l1, .ref l2, .ref l3, v7, ⟨"apart", [], [], [], some w⟩, rfl, sUnder gd.ih (gd.ih.free hx1), gd.ih.free hx1, upd_same, nl l1 (S4 _ _ (g4.ii _ _ (g3.ii _ _ upd_same))), nl2 l2 (S4 _ _ (g4.ii _ _ upd_same)), nl l3 (S4 _ _ upd_same), iA.l (up gd.ii r7), by simp, by simp, fun w' e => by injection e with e; subst e; omega, fun I8 H8 wb wc wd we g8 h8 q1 q2 q3 q4 => ?_⟩
          obtain ⟨g9, r9⟩ := fo_new (F := ⟨"apart", [], [], [], some w⟩) g7.ih nx nd ne g8 h8 q1 q2 q3 q4
          exact ⟨rfl, kO _ _ _ ((G6.trans g7).trans g9) r9⟩
      rintro σ' H1 ⟨rfl, ca, rfl⟩
      (try dsimp only)
      refine seq_cut (fun σ' H2 => ∃ (I2 : Hp), σ' = [some (.ref am), some (.ref bm), some (.ref a), none, some (oInt (manyOf (wordsOf l0))), none, none] ∧ Gr [] I H1 I2 H2) (fun nx q => ?_) ?_
      · refine ⟨_, rfl, hix s0 ⟨I, l0, rfl, s0, ok0.1, fun I1 H1 v1 g1 r1 => ?_⟩⟩
        obtain ⟨d1, ed1, hd1⟩ := r1
        subst ed1
        exact ⟨I1, _, wordsOf l0, rfl, g1.ih, strs_iL hd1, ok0.2.2, q _ _ ⟨I1, rfl, g1⟩⟩
      rintro σ' H2 ⟨I2, rfl, g2⟩
      (try dsimp only)
      cases em : manyOf (wordsOf l0) with
      | none =>
        have kE := raise 0 (by unfold readPaper; dsimp only; rw [if_neg ca, em])
        refine ⟨_, rfl, rfl, _, rfl, iteT ?_⟩
        exact ⟨(by show 1 ≤ 1000; decide), fun e he => ⟨e, _, rfl, upd_same, fun d hd ne => ⟨rfl, d, [("at", .int ((0 : Nat) : Int))], upd_same, by rw [upd_ne ne]; exact upd_same, by rw [upd_ne ne] at hd; exact hd, raised_at g2 kE e he d hd ne⟩⟩⟩
      | some m =>
        obtain ⟨_, m0, m24'⟩ := manyOf_some em
        have m24 : 0 < m ∧ m ≤ 24 := ⟨m0, m24'⟩
        refine ⟨_, rfl, rfl, _, rfl, iteF ?_⟩
        (try unfold tNext)
        (try dsimp only)
        have mb1 : m * bs ≤ 24 * 4 := Nat.mul_le_mul m24.2 b1
        have mb2 : m * bs * as ≤ 24 * 4 * 4 := Nat.mul_le_mul mb1 a1
        refine seq_cut (fun σ' H3 => ∃ (I3 : Hp) (f : Addr), σ' = [some (.ref am), some (.ref bm), some (.ref a), none, some (.int (m : Int)), some (.ref f), none] ∧ Gr [] I2 H2 I3 H3 ∧ iL iN I3 (.ref f) (widthsOf n1 n2 m bs as)) (fun nx q => ?_) ?_
        · have r1' := up g2.ii r1
          have r2' := up g2.ii r2
          refine ⟨_, rfl, am, dm, _, rfl, g2.ih _ _ (g2.ii _ _ hm), (mf_nos va vb).1, I2, _, A, rfl, g2.ih, r1', _, rfl, bm, db, _, rfl, g2.ih _ _ (g2.ii _ _ hm2), (mf_nos va2 vb2).1, I2, _, B, rfl, g2.ih, r2', _, _, rfl, rfl, (by show 1 ≤ sizeLine; decide), fun l1 hl1 => ?_⟩
          rw [e1, e2]
          have gA := Gr.new (ms := []) (o := .lst [V.int ((n1 : Int) + (n2 : Int))]) g2.ih hl1
          refine ⟨_, rfl, l1, (m : Int), _, rfl, rfl, upd_same, by omega, by omega, ?_, fun l2 hl2 => ?_⟩
          · rw [Int.toNat_natCast]; exact Nat.le_of_lt (lt_line (by simp; omega))
          rw [Int.toNat_natCast]
          have gB := Gr.new (ms := []) (o := .lst (List.replicate m [V.int ((n1 : Int) + (n2 : Int))]).flatten) gA.ih hl2
          refine ⟨_, rfl, (by show 1 ≤ sizeLine; decide), fun l3 hl3 => ?_⟩
          have gC := Gr.new (ms := []) (o := .lst [V.int (m : Int)]) gB.ih hl3
          have GC := (gA.trans gB).trans gC
          have r1C := up GC.ii r1'
          have hmC := GC.ih _ _ (GC.ii _ _ (g2.ii _ _ hm))
          refine ⟨_, rfl, _, rfl, am, dm, _, rfl, hmC, (mf_nos va vb).2.1, _, _, A, rfl, GC.ih, r1C, ?_⟩
          rw [e3]
          refine ⟨_, _, rfl, rfl, mulw (by omega) (by omega), _, rfl, am, dm, _, rfl, hmC, (mf_nos va vb).2.2, _, _, A, rfl, GC.ih, r1C, by omega, ?_⟩
          rw [e4]
          have eM : (m : Int) * (bs : Int) = ((m * bs : Nat) : Int) := by rw [Int.natCast_mul]
          have eMM : (m : Int) * (bs : Int) * (as : Int) = ((m * bs * as : Nat) : Int) := by rw [Int.natCast_mul, Int.natCast_mul]
          refine ⟨_, _, rfl, rfl, (by show CMulW ((m : Int) * (bs : Int)) (as : Int); rw [eM]; exact mulw (by omega) (by omega)), _, _, rfl, rfl, ?_⟩
          have eK : (1 : Int) + (m : Int) * (bs : Int) * (as : Int) = ((1 + m * bs * as : Nat) : Int) := by rw [eMM]; omega
          refine ⟨l3, ((1 + m * bs * as : Nat) : Int), _, rfl, (show V.int ((1 : Int) + (m : Int) * (bs : Int) * (as : Int)) = _ from by rw [eK]), upd_same, by omega, by omega, ?_, fun l4 hl4 => ?_⟩
          · rw [Int.toNat_natCast]; exact Nat.le_of_lt (lt_line (by simp; omega))
          rw [Int.toNat_natCast]
          have gD := Gr.new (ms := []) (o := .lst (List.replicate (1 + m * bs * as) [V.int (m : Int)]).flatten) GC.ih hl4
          refine catV_of gD.ih (gD.ii _ _ (gC.ii _ _ upd_same)) upd_same (by simp; omega) fun I5 H5 c5 g5 h5 => ?_
          refine q _ _ ⟨I5, c5, rfl, (GC.trans gD).trans g5, c5, _, rfl, h5, ?_⟩
          unfold widthsOf
          exact (all2_rep (R := iN I5) (v := V.int ((n1 : Int) + (n2 : Int))) (x := n1 + n2) (by show V.int _ = V.int _; rw [Int.natCast_add]) m).append (all2_rep (R := iN I5) (v := V.int (m : Int)) (x := m) rfl _)
        rintro σ' H3 ⟨I3, f, rfl, g3, rf3⟩
        (try dsimp only)
        have G3 := g2.trans g3
        have wlen : (widthsOf n1 n2 m bs as).length = m + (1 + m * bs * as) := by unfold widthsOf; rw [List.length_append, List.length_replicate, List.length_replicate]
        have er : readPaper (l0 :: ls) n1 n2 bs as = match restG ratiosOf 1 ls (widthsOf n1 n2 m bs as) with
          | .ok rows => .ok ⟨"same", rows.take m, rows.getD m [], rows.drop (m + 1), none⟩
          | .error e => .error e := by unfold readPaper; dsimp only; rw [if_neg ca, em]
        rw [List.length_cons] at hlen
        refine seq_cut (fun σ' H4 => ∃ (I4 : Hp) (r : Addr) (rows : List (List Rat)), σ' = [some (.ref am), some (.ref bm), some (.ref a), none, some (.int (m : Int)), some (.ref f), some (.ref r)] ∧ Gr [] I3 H3 I4 H4 ∧ iL (iL (iR (CR K))) I4 (.ref r) rows ∧ restG ratiosOf 1 ls (widthsOf n1 n2 m bs as) = .ok rows) (fun nx q => ?_) ?_
        · refine ⟨_, rfl, _, rfl, ?_⟩
          refine ⟨Nat, List Rat, iN, inferInstance, iL (iR (CR K)), inferInstance, ratiosOf, FkR, _, _, read_ratios D, nv_l, I3, .ref a, .ref f, l0, ls, widthsOf n1 n2 m bs as, rfl, G3.ih, up G3.ii rl, rf3, by rw [wlen]; omega, by omega, fun l hl => ok.ok l (List.mem_cons_of_mem _ hl), fun f hf => trivial, ?_⟩
          cases e5 : restG ratiosOf 1 ls (widthsOf n1 n2 m bs as) with
          | error n =>
            rw [e5] at er
            have kE := raise n er
            exact fun I' H' d g h => kE I' H' d (G3.trans g) h
          | ok rows =>
            intro I4 H4 v4 g4 r4
            obtain ⟨r, ys, ey, hr, y2⟩ := id r4
            subst ey
            exact q _ _ ⟨I4, r, rows, rfl, g4, r4, e5⟩
        rintro σ' H4 ⟨I4, r, rows, rfl, g4, r4, e5⟩
        (try dsimp only)
        rw [e5] at er
        have rlen := restG_len e5
        rw [wlen] at rlen
        obtain ⟨r', ys, ey, hr', y2⟩ := id r4
        cases ey
        have ylen := y2.len
        have kO : Ret [] I H1 (iFo (CR K) (CFd K)) (⟨"same", rows.take m, rows.getD m [], rows.drop (m + 1), none⟩ : Fo) Q := by rw [er] at k; exact k
        have hrm : rows[m]? = some (rows.getD m []) := by
          rw [List.getD_eq_getElem?_getD, List.getElem?_eq_getElem (show m < rows.length by omega)]; rfl
        obtain ⟨um, hum, rum⟩ := y2.get' hrm
        have G4 := G3.trans g4
        refine ⟨_, rfl, _, rfl, _, rfl, ?_⟩
        (try dsimp only [tNoPart])
        refine slV_of g4.ih hr' fun I5 H5 c5 g5 h5 => ?_
        rw [cutV_eq, cutG_take] at h5
        refine ⟨_, rfl, _, rfl, _, _, _, _, rfl, rfl, SqL.of (g5.ih _ _ (g5.ii _ _ hr')), at_of (j := m) rfl hum, ?_⟩
        refine ⟨_, rfl, _, rfl, _, _, rfl, rfl, _, rfl, ?_⟩
        (try dsimp only [tNoPart])
        refine slV_of g5.ih (g5.ii _ _ hr') fun I6 H6 c6 g6 h6 => ?_
        rw [cutV_eq, cutG_drop (a := m + 1) (by omega)] at h6
        refine fun x dx nx nd ne => ?_
        have hx1 : upd H6 dx (.own x) x = none := by rw [upd_ne (Ne.symm ne)]; exact nx
        have gd := Gr.new (ms := []) (o := .own x) g6.ih nd
        have S5 := g5.ii.trans (g6.ii.trans gd.ii)
        have yy := y2.up S5
        have toA : ∀ {v : V} {xs : List (List Rat)}, iL (iL (iR (CR K))) (upd I6 dx (.own x)) v xs → iA (iA (iR (CR K))) (upd I6 dx (.own x)) v xs := fun {v xs} h => by
          obtain ⟨q, zs, e, hq, q2⟩ := h
          exact ⟨q, zs, e, .inl hq, q2.imp fun _ _ => iA.l⟩
        refine ⟨upd I6 dx (.own x), x, dx, .ref c5, um, .ref c6, .non, ⟨"same", rows.take m, rows.getD m [], rows.drop (m + 1), none⟩, rfl, sUnder gd.ih (gd.ih.free hx1), gd.ih.free hx1, upd_same, toA ⟨c5, _, rfl, gd.ii _ _ (g6.ii _ _ h5), all2_take m yy⟩, iA.l (up S5 rum), toA ⟨c6, _, rfl, gd.ii _ _ h6, all2_drop (m + 1) yy⟩, rfl, by simp; omega, by simp; omega, (fun w' e => nomatch e), fun I8 H8 wb wc wd we g8 h8 q1 q2 q3 q4 => ?_⟩
        obtain ⟨g9, r9⟩ := fo_new (F := ⟨"same", rows.take m, rows.getD m [], rows.drop (m + 1), none⟩) g6.ih nx nd ne g8 h8 q1 q2 q3 q4
        exact ⟨rfl, kO _ _ _ ((G4.trans (g5.trans g6)).trans g9) r9⟩
end
end K

set_option Elab.async false
set_option linter.all false
set_option maxRecDepth 100000
set_option maxHeartbeats 4000000
set_option exponentiation.threshold 5000
namespace K
open PySem PySem.Spec PyProof.Rows L2 Tk Hd Rd Mt TL
section
variable {P : Program} {w : World} {K : PySem.W.Frag} {mg : Str → Option Value} {base : Heap}
def stepL (p : Nat × Nat) : Str := Str.empty ++ dec p.1 ++ (" " : Str) ++ dec p.2
def rowL (r : List Rat) : Str := jn (r.map rtx)
def foLines (F : Fo) : List Str := match F.w with
  | some w => ("apart" : Str) :: w.map stepL
  | none => (Str.empty ++ ("same " : Str) ++ dec F.vs.length) :: (F.vs ++ [F.st] ++ F.mv).map rowL
inductive FoOk (F : Fo) : Prop where
  | apart (w : List (Nat × Nat)) (hk : F.k = ("apart" : Str)) (hw : F.w = some w) (hl : w.length ≤ 1000) (hp : ∀ p ∈ w, p.1 ≤ 100 ∧ p.2 ≤ 100)
  | same (hk : F.k = ("same" : Str)) (hw : F.w = none) (h1 : F.vs.length ≤ 100) (h2 : F.mv.length ≤ 1000) (hr : ∀ r ∈ F.vs ++ [F.st] ++ F.mv, r.length ≤ 100 ∧ ∀ q ∈ r, Wide q)
def spPLines (C C2 : Addr) : Sp := fun vs H Q _ => ∃ (I : Hp) (v : V) (F : Fo), vs = [v] ∧ Same I H ∧ iFo C C2 I v F ∧ FoOk F ∧ Ret [] I H (iL iS) (foLines F) Q
theorem sc_paper_lines : FnScope ["found", "button", "answer", "rows", "row"] ["found"] (defScope s_paper_lines) := ⟨rfl, rfl, rfl, by decide +kernel, rfl, by decide +kernel, by decide +kernel⟩
theorem ok_plines (D : Dt K mg) : Has P w K mg base 7 (He.ga K "paper_lines") ["found"] [] (spPLines (CR K) (CFd K)) := by
  obtain ⟨fd, F⟩ := fd_paper_lines D
  have H__ratios_line := ok_rline (P := P) (w := w) (base := base) D
  refine hasN F (F.bindsN fun _ _ _ _ _ _ us hl => match us, hl with | [_], _ => rfl) sc_paper_lines (fun vs H Q E h => ?_) (fun cdv A outer s H vs Q E hr h => ?_)
  · obtain ⟨I, v, F, rfl, _⟩ := h; rfl
  · obtain ⟨I, v, F, rfl, s0, rv, ok, k⟩ := h
    refine ⟨_, (pss_cons (ps_if (pt_cmpR op_eq (pe_fldK K (pv 0) rfl) pe_str (nomark _))
      (pss_one (ps_ret (pe_op op_cat (pe_lst (pa_cons pe_str pa_nil)) (pe_lc (own := [("button", 1), ("answer", 2)]) (g := gTup K 2 (gCons (gName 1) (gCons (gName 2) gNil))) rfl sc_paper_lines.nd (pi_tupK K (pe_fldK K (pv 0) rfl)) (blkOk_by (own := [("button", 1), ("answer", 2)]) (N := ["found", "button", "answer", "rows", "row"]) (by kernel_rfl)) (fun _ _ _ _ _ => (pg_tupK K rfl (pgs_cons (pg_name (i := 1) sc_paper_lines.nd rfl (Or.inl rfl)) (pgs_cons (pg_name (i := 2) sc_paper_lines.nd rfl (Or.inl rfl)) pgs_nil)))) (fun _ _ _ _ _ => pts_nil) (fun _ _ _ _ _ => (pe_joined (PJ.cons (pe_fmt (pv 1)) (PJ.cons pe_str (PJ.cons (pe_fmt (pv 2)) PJ.nil)))))))))
      pss_nil)
      (pss_cons (ps_set (i := 3) sc_paper_lines.nd rfl (Or.inl rfl) (pe_op op_cat (pe_op op_cat (pe_fldK K (pv 0) rfl) (pe_lst (pa_cons (pe_fldK K (pv 0) rfl) pa_nil))) (pe_fldK K (pv 0) rfl)))
      (pss_one (ps_ret (pe_op op_cat (pe_lst (pa_cons (pe_joined (PJ.cons pe_str (PJ.cons (pe_fmt (pe_callB (call_lenK K) rfl (free_len D) PySem.boot_len (pa_cons (pe_fldK K (pv 0) rfl) pa_nil))) PJ.nil))) pa_nil)) (pe_lc (own := [("row", 4)]) (g := gName 4) rfl sc_paper_lines.nd (pi_listK K (pv 3)) (blkOk_by (own := [("row", 4)]) (N := ["found", "button", "answer", "rows", "row"]) (by kernel_rfl)) (fun _ _ _ _ _ => (pg_name (i := 4) sc_paper_lines.nd rfl (Or.inl rfl))) (fun _ _ _ _ _ => pts_nil) (fun _ _ _ _ _ => (pe_callH H__ratios_line (hr.mono (by omega)) rfl (glo__ratios_line D) passL (pa_cons (pv 4) pa_nil))))))))), ?_⟩
    obtain ⟨a, dx, vb, vc, vd, ve, rfl, ha, r1, r2, r3, r4⟩ := id rv
    have d3 : (" " : Str).length = 1 := by decide +kernel
    have e0 : (Str.empty : Str).length = 0 := rfl
    refine ⟨_, rfl, a, _, dx, _, _, rfl, s0 _ _ ha, cls_Found D, na_Found_kind D, ff_kind, rfl, _, rfl, ?_⟩
    cases ok with
    | apart w hk hw hl hp =>
      refine ifT (decide_eq_true (by rw [hk])) ?_
      rw [hw] at r4
      obtain ⟨e, es, rfl, he, e2⟩ := (show iT iSt I ve w from r4)
      have le := e2.len
      refine ⟨(by show 1 ≤ sizeLine; decide), fun l1 hl1 => ?_⟩
      have g1 := Gr.new (ms := []) (o := .lst ([("apart" : Str)].map V.str)) s0 hl1
      refine ⟨_, rfl, a, _, dx, _, _, rfl, g1.ih _ _ (g1.ii _ _ ha), cls_Found D, na_Found_way D, ff_way, e, rfl, ⟨_, SqT.of (g1.ih _ _ (g1.ii _ _ he))⟩, fun l hD => ?_⟩
      refine lc_map (te := fun σ H Q => tJs [tFmt (tVar 1), tC (.str " "), tFmt (tVar 2)] Str.empty σ H fun out H1 => Q (.str out) H1) (R := iSt) (Sy := iS) stepL (wk_tup (g1.ii _ _ he)) (e2.up g1.ii) g1.ih hD (lt_line (by omega)) (fun i p I1 H1 Nx Qk hi rp s1 s2 kk => ?_) (fun I1 H1 g2 r2 => ?_)
      · obtain ⟨o, eo, ho⟩ := rp
        obtain ⟨p1, p2⟩ := hp p (List.mem_of_getElem? hi)
        have d1 := dec100 p1
        have d2 := dec100 p2
        have z1 : (Str.empty ++ dec p.1).length ≤ sizeLine := by rw [app_len, e0]; exact line_of (by omega)
        have z2 : (Str.empty ++ dec p.1 ++ (" " : Str)).length ≤ sizeLine := by rw [app_len, app_len, e0, d3]; exact line_of (by omega)
        have z3 : (Str.empty ++ dec p.1 ++ (" " : Str) ++ dec p.2).length ≤ sizeLine := by rw [app_len, app_len, app_len, e0, d3]; exact line_of (by omega)
        rw [eo]
        refine ⟨o, _, rfl, SqT.of (s2 _ _ ho), rfl, _, _, rfl, _, _, rfl, rfl, rfl, ?_⟩
        exact ⟨_, rfl, .inr ⟨p.1, rfl, log100 p1, _, rfl, z1, _, rfl, z2, _, rfl, .inr ⟨p.2, rfl, log100 p2, _, rfl, z3, kk _ _ _ (Gr.refl s2) rfl⟩⟩⟩
      · obtain ⟨b', ys, eb, hb', b2'⟩ := r2
        cases eb
        rw [b2'.strs] at hb'
        refine catL_of g2.ih (g2.ii _ _ upd_same) hb' (by simp; omega) fun I4 H4 v4 g4 h4 => ?_
        have er : foLines F = [("apart" : Str)] ++ w.map stepL := by unfold foLines; rw [hw]; rfl
        exact k _ _ _ ((g1.trans g2).trans g4) (by rw [er]; exact strs_iL h4)
    | same hk hw h1 h2 hr' =>
      refine ifF (decide_eq_false (by rw [hk]; intro h; injection h with h; exact absurd h (by decide +kernel))) ?_
      obtain ⟨b, bs, rfl, hb, b2⟩ := id r1
      obtain ⟨c, cs, rfl, hc, c2⟩ := id r2
      obtain ⟨d, ds, rfl, hd, d2⟩ := id r3
      have lb := b2.len
      have lc := c2.len
      have ld := d2.len
      (try unfold tNext)
      (try dsimp only)
      refine seq_cut (fun σ' H1 => ∃ (I1 : Hp) (l : Addr), σ' = [some (.ref a), none, none, some (.ref l), none] ∧ Gr [] I H I1 H1 ∧ iL (iL (iR (CR K))) I1 (.ref l) (F.vs ++ [F.st] ++ F.mv)) (fun nx q => ?_) ?_
      · refine ⟨_, rfl, a, _, dx, _, _, rfl, s0 _ _ ha, cls_Found D, na_Found_vectors D, ff_vectors, _, rfl, a, _, dx, _, _, rfl, s0 _ _ ha, cls_Found D, na_Found_start D, ff_start, (by show 1 ≤ sizeLine; decide), fun l1 hl1 => ?_⟩
        have g1 := Gr.new (ms := []) (o := .lst [.ref c]) s0 hl1
        refine catV_of g1.ih (g1.ii _ _ hb) upd_same (by simp; omega) fun I2 H2 c2' g2 h2' => ?_
        have G2 := g1.trans g2
        refine ⟨_, rfl, a, _, dx, _, _, rfl, G2.ih _ _ (G2.ii _ _ ha), cls_Found D, na_Found_moves D, ff_moves, ?_⟩
        refine catV_of G2.ih h2' (G2.ii _ _ hd) (by simp; omega) fun I3 H3 c3 g3 h3 => ?_
        have G3 := G2.trans g3
        exact q _ _ ⟨I3, c3, rfl, G3, c3, _, rfl, h3, ((b2.up G3.ii).append (.cons (up G3.ii r2) .nil)).append (d2.up G3.ii)⟩
      rintro σ' H1 ⟨I1, l, rfl, g1, rl⟩
      (try dsimp only)
      have e5 : ("same " : Str).length = 5 := by decide +kernel
      have dn := dec100 h1
      have z1 : (Str.empty ++ ("same " : Str)).length ≤ sizeLine := by rw [app_len, e0]; exact line_of (by omega)
      have z2 : (Str.empty ++ ("same " : Str) ++ dec F.vs.length).length ≤ sizeLine := by rw [app_len, app_len, e0]; exact line_of (by omega)
      have haa := g1.ih _ _ (g1.ii _ _ ha)
      have hbb := g1.ii _ _ hb
      refine ⟨_, rfl, z1, _, rfl, a, _, dx, _, _, rfl, haa, cls_Found D, na_Found_vectors D, ff_vectors, _, F.vs.length, rfl, .inl ⟨_, SqL.of (g1.ih _ _ hbb), lb.symm⟩, .inr ⟨F.vs.length, rfl, log100 h1, _, rfl, z2, (by show 1 ≤ sizeLine; decide), fun l1 hl1 => ?_⟩⟩
      have g2 := Gr.new (ms := []) (o := .lst ([Str.empty ++ ("same " : Str) ++ dec F.vs.length].map V.str)) g1.ih hl1
      obtain ⟨l', us, el, hl, l2⟩ := id rl
      cases el
      have ll := l2.len
      have lrows : (F.vs ++ [F.st] ++ F.mv).length = F.vs.length + 1 + F.mv.length := by simp; omega
      refine ⟨_, rfl, l, rfl, ⟨_, SqL.of (g2.ih _ _ (g2.ii _ _ hl))⟩, fun l3 hD => ?_⟩
      refine lc_map (R := iL (iR (CR K))) (Sy := iS) rowL (wk_list (g2.ii _ _ hl)) (l2.up g2.ii) g2.ih hD (lt_line (by omega)) (fun i r I3 H3 Nx Qk hi rr s1 s2 kk => ?_) (fun I3 H3 g3 r3' => ?_)
      · obtain ⟨q1, q2⟩ := hr' r (List.mem_of_getElem? hi)
        exact ⟨rfl, _, rfl, I3, _, r, rfl, s2, rr, q2, q1, fun I4 H4 g4 => kk _ _ _ g4 rfl⟩
      · obtain ⟨b', ys, eb, hb', b2'⟩ := r3'
        cases eb
        rw [b2'.strs] at hb'
        refine catL_of g3.ih (g3.ii _ _ upd_same) hb' (by simp; omega) fun I4 H4 v4 g4 h4 => ?_
        have er : foLines F = [Str.empty ++ ("same " : Str) ++ dec F.vs.length] ++ (F.vs ++ [F.st] ++ F.mv).map rowL := by unfold foLines; rw [hw]; rfl
        exact k _ _ _ (((g1.trans g2).trans g3).trans g4) (by rw [er]; exact strs_iL h4)
end
end K

set_option Elab.async false
set_option linter.all false
set_option maxRecDepth 100000
set_option maxHeartbeats 4000000
set_option exponentiation.threshold 5000
namespace K
open PySem PySem.Spec PyProof.Rows L2 Tk Hd Rd Mt TL
section
variable {P : Program} {w : World} {K : PySem.W.Frag} {mg : Str → Option Value} {base : Heap}
theorem cpw : CPow 10 59 := ⟨by decide, by decide, by decide⟩
theorem wide_red {n : Int} {d : Nat} (h1 : n.natAbs ≤ MP) (h2 : d ≤ MP) (h0 : 0 < d) : Wide (rt n d) := by
  have r := red_num n h0
  exact ⟨Nat.le_trans r.1 h1, Nat.le_trans r.2 h2⟩
theorem gz_one {n d : Int} (hn : n = 1 ∨ n = -1) : gz n d = 1 := by
  unfold gz
  rcases hn with rfl | rfl
  · show ((Nat.gcd 1 d.natAbs : Nat) : Int) = 1
    rw [Nat.gcd_one_left]; rfl
  · show ((Nat.gcd 1 d.natAbs : Nat) : Int) = 1
    rw [Nat.gcd_one_left]; rfl
def spSigned : Sp := fun vs H Q _ => ∃ (I : Hp) (p : Addr), vs = [.ref p] ∧ Same I H ∧ PoolOk I H p ∧ ∀ I' H' v q, Gr [p] I H I' H' → PoolOk I' H' p → iQ I' v q → Wide q → Q v H'
theorem sc__law_signed : FnScope ["pool", "pair", "wide"] ["pool"] (defScope s__law_signed) := ⟨rfl, rfl, rfl, by decide +kernel, rfl, by decide +kernel, by decide +kernel⟩
theorem ok_signed (D : Dt K mg) : Has P w K mg base 2 (He.ga K "_law_signed") ["pool"] [] (spSigned) := by
  obtain ⟨fd, F⟩ := fd__law_signed D
  have H__law_less := ok_ls (P := P) (w := w) (base := base) D
  have H__law_draw := ok_draw (P := P) (w := w) (base := base) D
  refine hasN F (F.bindsN fun _ _ _ _ _ _ us hl => match us, hl with | [_], _ => rfl) sc__law_signed (fun vs H Q E h => ?_) (fun cdv A outer s H vs Q E hr h => ?_)
  · obtain ⟨I, p, rfl, _⟩ := h; rfl
  · obtain ⟨I, p, rfl, s0, po, k⟩ := h
    refine ⟨_, (pss_cons (ps_set (i := 1) sc__law_signed.nd rfl (Or.inl rfl) (pe_callH H__law_less (hr.mono (by omega)) rfl (glo__law_less D) passL (pa_cons (pe_op op_sub (pe_callH H__law_draw (hr.mono (by omega)) rfl (glo__law_draw D) passL (pa_cons (pv 0) (pa_cons pe_int pa_nil))) pe_int) (pa_cons (pe_op op_add pe_int (pe_callH H__law_draw (hr.mono (by omega)) rfl (glo__law_draw D) passL (pa_cons (pv 0) (pa_cons pe_int pa_nil)))) pa_nil))))
      (pss_cons (ps_if (pt_cmpR op_eq (pe_callH H__law_draw (hr.mono (by omega)) rfl (glo__law_draw D) passL (pa_cons (pv 0) (pa_cons pe_int pa_nil))) pe_int (nomark _))
      (pss_cons (ps_set (i := 2) sc__law_signed.nd rfl (Or.inl rfl) (pe_op op_add (pe_op op_pow pe_int pe_int) (pe_callH H__law_draw (hr.mono (by omega)) rfl (glo__law_draw D) passL (pa_cons (pv 0) (pa_cons pe_int pa_nil)))))
      (pss_one (ps_ret (pe_tup (pa_cons (pe_op op_sub pe_int (pe_op op_mulW pe_int (pe_callH H__law_draw (hr.mono (by omega)) rfl (glo__law_draw D) passL (pa_cons (pv 0) (pa_cons pe_int pa_nil))))) (pa_cons (pv 2) pa_nil))))))
      pss_nil)
      (pss_one (ps_ret (pv 1))))), ?_⟩
    have hMP : MP + 1 = 10 ^ 60 := MP_eq
    have h59 : (10 : Nat) ^ 60 = 10 * 10 ^ 59 := by decide
    have h59' : 100 < 10 ^ 59 := by decide
    have h1999 : (100 : Int) < 2 ^ 1999 := by decide
    refine seq_cut (fun σ' H1 => ∃ (I1 : Hp) (v : V) (q : Rat), σ' = [some (.ref p), some v, none] ∧ Gr [p] I H I1 H1 ∧ PoolOk I1 H1 p ∧ iQ I1 v q ∧ Wide q) (fun nx q => ?_) ?_
    · refine ⟨_, rfl, I, p, 9, rfl, s0, po, by decide, by decide, fun x H1 a1 b1 g1 po1 => ⟨_, _, rfl, rfl, _, rfl, I, p, 7, rfl, g1.ih, po1, by decide, by decide, fun y H2 a2 b2 g2 po2 => ⟨_, _, rfl, rfl, ?_⟩⟩⟩
      obtain ⟨z, rfl⟩ := Int.eq_ofNat_of_zero_le a2
      refine ⟨I, x - 3, 1 + (z : Int), rfl, g2.ih, by omega, by omega, fun I3 H3 v3 g3 r3 => ?_⟩
      refine q _ _ ⟨I3, v3, _, rfl, (g1.trans g2).trans g3.nil, po2.up g3 (by simp), r3, ?_⟩
      have := wide_red (n := x - 3) (d := 1 + z) (by omega) (by omega) (by omega)
      rw [show ((1 + z : Nat) : Int) = 1 + (z : Int) from by omega] at this
      exact this
    rintro σ' H1 ⟨I1, v, q, rfl, g1, po1, r1, w1⟩
    (try dsimp only)
    refine seq_cut (fun σ' H2 => σ' = [some (.ref p), some v, none] ∧ Gr [p] I H I1 H2 ∧ PoolOk I1 H2 p) (fun nx qq => ?_) ?_
    · refine ⟨_, rfl, I1, p, 12, rfl, g1.ih, po1, by decide, by decide, fun x H2 a2 b2 g2 po2 => ⟨rfl, _, rfl, ?_⟩⟩
      refine ifB (fun c => ?_) (fun c => qq _ _ ⟨rfl, g1.trans g2, po2⟩)
      refine seq_cut (fun σ' H3 => ∃ W : Nat, σ' = [some (.ref p), some v, some (.int (W : Int))] ∧ Gr [p] I H I1 H3 ∧ PoolOk I1 H3 p ∧ W ≤ MP ∧ 0 < W) (fun nx2 q2 => ?_) ?_
      · refine ⟨_, _, rfl, rfl, cpw, _, rfl, I1, p, 9, rfl, g2.ih, po2, by decide, by decide, fun y H3 a3 b3 g3 po3 => ⟨_, _, rfl, rfl, ?_⟩⟩
        obtain ⟨z, rfl⟩ := Int.eq_ofNat_of_zero_le a3
        refine q2 _ _ ⟨10 ^ 59 + z, ?_, (g1.trans g2).trans g3, po3, by omega, by omega⟩
        show [some (V.ref p), some v, some (V.int ((10 : Int) ^ (59 : Int).toNat + (z : Int)))] = _
        rw [show ((10 ^ 59 + z : Nat) : Int) = (10 : Int) ^ (59 : Int).toNat + (z : Int) from by rw [Int.natCast_add, Int.natCast_pow]; rfl]
      rintro σ' H3 ⟨W, rfl, g3, po3, hW, hW0⟩
      (try dsimp only)
      refine ⟨_, rfl, I1, p, 2, rfl, g3.ih, po3, by decide, by decide, fun y H4 a4 b4 g4 po4 => ⟨_, _, rfl, rfl, mulw (by decide) (by omega), _, _, rfl, rfl, _, rfl, (by show 2 ≤ sizeLine; decide), fun t ht => ?_⟩⟩
      have g5 := Gr.new (ms := []) (o := .tup [.int (1 - 2 * y), .int (W : Int)]) g4.ih ht
      have hy : 1 - 2 * y = 1 ∨ 1 - 2 * y = -1 := by omega
      have hn := rt_num (n := 1 - 2 * y) (d := (W : Int)) (by omega)
      have hd := rt_den (n := 1 - 2 * y) (d := (W : Int)) (by omega)
      rw [gz_one hy] at hn hd
      refine k _ _ _ (rt (1 - 2 * y) W) ((g3.trans g4).trans g5.nil) (po4.up g5 (by simp)) ⟨t, rfl, ?_⟩ (wide_red (by omega) hW hW0)
      rw [upd_same, hn, hd, Int.ediv_one, Int.ediv_one]
    rintro σ' H2 ⟨rfl, g2, po2⟩
    (try dsimp only)
    exact ⟨_, rfl, k _ _ _ q g2 po2 r1 w1⟩
/-- what the law draws for a paper -/
inductive FoD (n bs as : Nat) : Fo → Prop where
  | apart (w : List (Nat × Nat)) (hl : w.length ≤ 5) (hp : ∀ p ∈ w, p.1 < bs ∧ p.2 < as) : FoD n bs as ⟨"apart", [], [], [], some w⟩
  | same (m : Nat) (vs : List (List Rat)) (st : List Rat) (mv : List (List Rat)) (m0 : 0 < m) (m3 : m ≤ 3) (h1 : vs.length = m) (h2 : st.length = m) (h3 : mv.length = m * bs * as)
    (r1 : ∀ r ∈ vs, r.length = n) (r2 : ∀ r ∈ mv, r.length = m) (hw : ∀ r ∈ vs ++ [st] ++ mv, ∀ q ∈ r, Wide q) : FoD n bs as ⟨"same", vs, st, mv, none⟩
def iDr : Rp Fo := fun H v F => ∃ t vl vw vx, v = .ref t ∧ H t = some (.tup [vl, vw, vx]) ∧ iL iS H vl (foLines F) ∧ match F.w with
  | some w => iT iSt H vw w ∧ vx = .non
  | none => vw = .non ∧ ∃ u a b c, vx = .ref u ∧ H u = some (.tup [a, b, c]) ∧ iL (iL iQ) H a F.vs ∧ iL iQ H b F.st ∧ iL (iL iQ) H c F.mv
def spDrawn : Sp := fun vs H Q _ => ∃ (I : Hp) (p : Addr) (v1 v2 : V) (A B : Ma) (n1 n2 bs as : Nat), vs = [.ref p, v1, v2] ∧ Same I H ∧ PoolOk I H p ∧ iLM I v1 A ∧ iLM I v2 B ∧ A.1.length = n1 ∧ B.1.length = n2 ∧ A.2.length = bs ∧ (gl A.2 0).length = as ∧ 0 < bs ∧ bs ≤ 4 ∧ 0 < as ∧ as ≤ 4 ∧ 0 < n1 ∧ n1 + n2 ≤ 24 ∧
  ∀ I' H' v F, Gr [p] I H I' H' → PoolOk I' H' p → iDr I' v F → FoD (n1 + n2) bs as F → Q v H'
theorem sc__law_drawn : FnScope ["pool", "one", "other", "way", "k", "button", "answer", "size", "count", "vectors", "turn", "start", "moves", "lines", "row"] ["pool", "one", "other"] (defScope s__law_drawn) := ⟨rfl, rfl, rfl, by decide +kernel, rfl, by decide +kernel, by decide +kernel⟩
theorem ok_drawn (D : Dt K mg) : Has P w K mg base 4 (He.ga K "_law_drawn") ["pool", "one", "other"] [] (spDrawn) := by
  obtain ⟨fd, F⟩ := fd__law_drawn D
  have H__law_draw := ok_draw (P := P) (w := w) (base := base) D
  have H__law_signed := ok_signed (P := P) (w := w) (base := base) D
  have H__law_row_text := ok_lrow (P := P) (w := w) (base := base) D
  refine hasN F (F.bindsN fun _ _ _ _ _ _ us hl => match us, hl with | [_, _, _], _ => rfl) sc__law_drawn (fun vs H Q E h => ?_) (fun cdv A outer s H vs Q E hr h => ?_)
  · obtain ⟨I, p, v1, v2, A, B, n1, n2, bs, as, rfl, _⟩ := h; rfl
  · obtain ⟨I, p, v1, v2, A, B, n1, n2, bs, as, rfl, s0, po, r1, r2, e1, e2, e3, e4, b0, b1, a0, a1, n0, nn, k⟩ := h
    refine ⟨_, (pss_cons (ps_if (pt_cmpR op_eq (pe_callH H__law_draw (hr.mono (by omega)) rfl (glo__law_draw D) passL (pa_cons (pv 0) (pa_cons pe_int pa_nil))) pe_int (nomark _))
      (pss_cons (ps_setLc (own := [("k", 4)]) (g := gName 4) (i := 3) rfl sc__law_drawn.nd rfl rfl (sw_true rfl rfl rfl (by decide +kernel)) (pi_range1 rfl (free_range D) (pa_cons (pe_callH H__law_draw (hr.mono (by omega)) rfl (glo__law_draw D) passL (pa_cons (pv 0) (pa_cons pe_int pa_nil))) pa_nil)) (blkOk_by (own := [("k", 4)]) (N := ["pool", "one", "other", "way", "k", "button", "answer", "size", "count", "vectors", "turn", "start", "moves", "lines", "row"]) (by kernel_rfl)) (fun _ _ _ _ _ => (pg_name (i := 4) sc__law_drawn.nd rfl (Or.inl rfl))) (fun _ _ _ _ _ => pts_nil) (fun _ _ _ _ _ => (pe_tup (pa_cons (pe_callH H__law_draw (hr.mono (by omega)) rfl (glo__law_draw D) passL (pa_cons (pv 0) (pa_cons (pe_callB (call_lenK K) rfl (free_len D) PySem.boot_len (pa_cons (pe_ix (ix_tupK K) (pv 1) pe_int (fun _ _ => rfl)) pa_nil)) pa_nil))) (pa_cons (pe_callH H__law_draw (hr.mono (by omega)) rfl (glo__law_draw D) passL (pa_cons (pv 0) (pa_cons (pe_callB (call_lenK K) rfl (free_len D) PySem.boot_len (pa_cons (pe_ix (ix_listK K) (pe_ix (ix_tupK K) (pv 1) pe_int (fun _ _ => rfl)) pe_int (fun _ _ => rfl)) pa_nil)) pa_nil))) pa_nil)))))
      (pss_one (ps_ret (pe_tup (pa_cons (pe_op op_cat (pe_lst (pa_cons pe_str pa_nil)) (pe_lc (own := [("button", 5), ("answer", 6)]) (g := gTup K 2 (gCons (gName 5) (gCons (gName 6) gNil))) rfl sc__law_drawn.nd (pi_listK K (pv 3)) (blkOk_by (own := [("button", 5), ("answer", 6)]) (N := ["pool", "one", "other", "way", "k", "button", "answer", "size", "count", "vectors", "turn", "start", "moves", "lines", "row"]) (by kernel_rfl)) (fun _ _ _ _ _ => (pg_tupK K rfl (pgs_cons (pg_name (i := 5) sc__law_drawn.nd rfl (Or.inl rfl)) (pgs_cons (pg_name (i := 6) sc__law_drawn.nd rfl (Or.inl rfl)) pgs_nil)))) (fun _ _ _ _ _ => pts_nil) (fun _ _ _ _ _ => (pe_op op_add_str (pe_op op_add_str (pe_callTy call_str_int rfl (free_str D) (by decide +kernel) (pa_cons (pv 5) pa_nil)) pe_str) (pe_callTy call_str_int rfl (free_str D) (by decide +kernel) (pa_cons (pv 6) pa_nil)))))) (pa_cons (pe_callTy (call_tuple_ofK K) rfl (free_tuple D) (by decide +kernel) (pa_cons (pv 3) pa_nil)) (pa_cons pe_non pa_nil)))))))
      pss_nil)
      (pss_cons (ps_set (i := 7) sc__law_drawn.nd rfl (Or.inr rfl) (pe_op op_add (pe_callB (call_lenK K) rfl (free_len D) PySem.boot_len (pa_cons (pe_ix (ix_tupK K) (pv 1) pe_int (fun _ _ => rfl)) pa_nil)) (pe_callB (call_lenK K) rfl (free_len D) PySem.boot_len (pa_cons (pe_ix (ix_tupK K) (pv 2) pe_int (fun _ _ => rfl)) pa_nil))))
      (pss_cons (ps_set (i := 8) sc__law_drawn.nd rfl (Or.inr rfl) (pe_op op_add pe_int (pe_callH H__law_draw (hr.mono (by omega)) rfl (glo__law_draw D) passL (pa_cons (pv 0) (pa_cons pe_int pa_nil)))))
      (pss_cons (ps_setLc (own := [("turn", 10)]) (g := gName 10) (i := 9) rfl sc__law_drawn.nd rfl rfl (sw_true rfl rfl rfl (by decide +kernel)) (pi_range1 rfl (free_range D) (pa_cons (pv 8) pa_nil)) (blkOk_by (own := [("turn", 10)]) (N := ["pool", "one", "other", "way", "k", "button", "answer", "size", "count", "vectors", "turn", "start", "moves", "lines", "row"]) (by kernel_rfl)) (fun _ _ _ _ _ => (pg_name (i := 10) sc__law_drawn.nd rfl (Or.inl rfl))) (fun _ _ _ _ _ => pts_nil) (fun _ _ _ _ _ => (pe_lc (own := [("k", 4)]) (g := gName 4) rfl sc__law_drawn.nd (pi_range1 rfl (free_range D) (pa_cons (pv 7) pa_nil)) (blkOk_by (own := [("k", 4)]) (N := ["pool", "one", "other", "way", "k", "button", "answer", "size", "count", "vectors", "turn", "start", "moves", "lines", "row"]) (by kernel_rfl)) (fun _ _ _ _ _ => (pg_name (i := 4) sc__law_drawn.nd rfl (Or.inl rfl))) (fun _ _ _ _ _ => pts_nil) (fun _ _ _ _ _ => (pe_callH H__law_signed (hr.mono (by omega)) rfl (glo__law_signed D) passL (pa_cons (pv 0) pa_nil))))))
      (pss_cons (ps_setLc (own := [("k", 4)]) (g := gName 4) (i := 11) rfl sc__law_drawn.nd rfl rfl (sw_true rfl rfl rfl (by decide +kernel)) (pi_range1 rfl (free_range D) (pa_cons (pv 8) pa_nil)) (blkOk_by (own := [("k", 4)]) (N := ["pool", "one", "other", "way", "k", "button", "answer", "size", "count", "vectors", "turn", "start", "moves", "lines", "row"]) (by kernel_rfl)) (fun _ _ _ _ _ => (pg_name (i := 4) sc__law_drawn.nd rfl (Or.inl rfl))) (fun _ _ _ _ _ => pts_nil) (fun _ _ _ _ _ => (pe_callH H__law_signed (hr.mono (by omega)) rfl (glo__law_signed D) passL (pa_cons (pv 0) pa_nil))))
      (pss_cons (ps_setLc (own := [("turn", 10)]) (g := gName 10) (i := 12) rfl sc__law_drawn.nd rfl rfl (sw_true rfl rfl rfl (by decide +kernel)) (pi_range1 rfl (free_range D) (pa_cons (pe_op op_mulW (pe_op op_mulW (pv 8) (pe_callB (call_lenK K) rfl (free_len D) PySem.boot_len (pa_cons (pe_ix (ix_tupK K) (pv 1) pe_int (fun _ _ => rfl)) pa_nil))) (pe_callB (call_lenK K) rfl (free_len D) PySem.boot_len (pa_cons (pe_ix (ix_listK K) (pe_ix (ix_tupK K) (pv 1) pe_int (fun _ _ => rfl)) pe_int (fun _ _ => rfl)) pa_nil))) pa_nil)) (blkOk_by (own := [("turn", 10)]) (N := ["pool", "one", "other", "way", "k", "button", "answer", "size", "count", "vectors", "turn", "start", "moves", "lines", "row"]) (by kernel_rfl)) (fun _ _ _ _ _ => (pg_name (i := 10) sc__law_drawn.nd rfl (Or.inl rfl))) (fun _ _ _ _ _ => pts_nil) (fun _ _ _ _ _ => (pe_lc (own := [("k", 4)]) (g := gName 4) rfl sc__law_drawn.nd (pi_range1 rfl (free_range D) (pa_cons (pv 8) pa_nil)) (blkOk_by (own := [("k", 4)]) (N := ["pool", "one", "other", "way", "k", "button", "answer", "size", "count", "vectors", "turn", "start", "moves", "lines", "row"]) (by kernel_rfl)) (fun _ _ _ _ _ => (pg_name (i := 4) sc__law_drawn.nd rfl (Or.inl rfl))) (fun _ _ _ _ _ => pts_nil) (fun _ _ _ _ _ => (pe_callH H__law_signed (hr.mono (by omega)) rfl (glo__law_signed D) passL (pa_cons (pv 0) pa_nil))))))
      (pss_cons (ps_set (i := 13) sc__law_drawn.nd rfl (Or.inl rfl) (pe_op op_cat (pe_op op_cat (pe_lst (pa_cons (pe_op op_add_str pe_str (pe_callTy call_str_int rfl (free_str D) (by decide +kernel) (pa_cons (pv 8) pa_nil))) pa_nil)) (pe_lc (own := [("row", 14)]) (g := gName 14) rfl sc__law_drawn.nd (pi_listK K (pv 9)) (blkOk_by (own := [("row", 14)]) (N := ["pool", "one", "other", "way", "k", "button", "answer", "size", "count", "vectors", "turn", "start", "moves", "lines", "row"]) (by kernel_rfl)) (fun _ _ _ _ _ => (pg_name (i := 14) sc__law_drawn.nd rfl (Or.inl rfl))) (fun _ _ _ _ _ => pts_nil) (fun _ _ _ _ _ => (pe_callH H__law_row_text (hr.mono (by omega)) rfl (glo__law_row_text D) passL (pa_cons (pv 14) pa_nil))))) (pe_lst (pa_cons (pe_callH H__law_row_text (hr.mono (by omega)) rfl (glo__law_row_text D) passL (pa_cons (pv 11) pa_nil)) pa_nil))))
      (pss_one (ps_ret (pe_tup (pa_cons (pe_op op_cat (pv 13) (pe_lc (own := [("row", 14)]) (g := gName 14) rfl sc__law_drawn.nd (pi_listK K (pv 12)) (blkOk_by (own := [("row", 14)]) (N := ["pool", "one", "other", "way", "k", "button", "answer", "size", "count", "vectors", "turn", "start", "moves", "lines", "row"]) (by kernel_rfl)) (fun _ _ _ _ _ => (pg_name (i := 14) sc__law_drawn.nd rfl (Or.inl rfl))) (fun _ _ _ _ _ => pts_nil) (fun _ _ _ _ _ => (pe_callH H__law_row_text (hr.mono (by omega)) rfl (glo__law_row_text D) passL (pa_cons (pv 14) pa_nil))))) (pa_cons pe_non (pa_cons (pe_tup (pa_cons (pv 9) (pa_cons (pv 11) (pa_cons (pv 12) pa_nil)))) pa_nil))))))))))))), ?_⟩
    obtain ⟨am, xm, ym, rfl, hm, rx, ry⟩ := id r1
    obtain ⟨am2, xm2, ym2, rfl, hm2, rx2, ry2⟩ := id r2
    obtain ⟨ay, mys, ey, hy, y2⟩ := id ry
    subst ey
    obtain ⟨u0, hu0, ru0⟩ := y2.get' (gl_lt (l := A.2) (i := 0) (by omega))
    have d3 : (" " : Str).length = 1 := by decide +kernel
    (try dsimp only)
    refine seq_cut (fun σ' H1 => σ' = [some (.ref p), some (.ref am), some (.ref am2), none, none, none, none, none, none, none, none, none, none, none, none] ∧ Gr [p] I H I H1 ∧ PoolOk I H1 p) (fun nx q => ?_) ?_
    · refine ⟨_, rfl, I, p, 3, rfl, s0, po, by decide, by decide, fun x H1 a5 b5 g1 po1 => ⟨rfl, _, rfl, ?_⟩⟩
      refine ifB (fun c => ?_) (fun c => q _ _ ⟨rfl, g1, po1⟩)
      refine seq_cut (fun σ' H2 => ∃ (I2 : Hp) (l : Addr) (w : List (Nat × Nat)), σ' = [some (.ref p), some (.ref am), some (.ref am2), some (.ref l), none, none, none, none, none, none, none, none, none, none, none] ∧ Gr [p] I H I2 H2 ∧ PoolOk I2 H2 p ∧ iL iSt I2 (.ref l) w ∧ w.length ≤ 5 ∧ ∀ z ∈ w, z.1 < bs ∧ z.2 < as) (fun nx2 q2 => ?_) ?_
      · refine ⟨_, rfl, I, p, 6, rfl, g1.ih, po1, by decide, by decide, fun y H2 a2 b2 g2 po2 => ?_⟩
        obtain ⟨z, rfl⟩ := Int.eq_ofNat_of_zero_le a2
        refine ⟨z, rfl, by omega, by omega, fun l hD => ?_⟩
        rw [Int.toNat_natCast]
        have npl := po2.ne hD
        refine lc_wk [p] iSt (fun i z => z.1 < bs ∧ z.2 < as) (fun I H => PoolOk I H p) (wk_range (I := I)) g2.ih hD (by simpa using npl.symm) (lt_line (by omega)) (stb_pool npl) po2 (fun j I3 H3 Nx Qk hj s2 s3 pj kk => ?_) (fun I3 H3 ys zs g3 hD' b3 hz rl pj => ?_)
        · have hm3 := s3 _ _ (s2 _ _ hm)
          have hy3 := s3 _ _ (s2 _ _ hy)
          refine ⟨rfl, _, rfl, _, rfl, _, _, _, _, rfl, rfl, SqT.of hm3, at_of (j := 1) rfl rfl, _, A.2.length, rfl, len_of (iA.l (up s2 ry)) s3, I3, p, A.2.length, rfl, s3, pj, by omega, by omega, fun x4 H4 a4 b4 g4 po4 => ?_⟩
          obtain ⟨x, rfl⟩ := Int.eq_ofNat_of_zero_le a4
          have hm4 := g4.ih _ _ (s2 _ _ hm)
          have hy4 := g4.ih _ _ (s2 _ _ hy)
          refine ⟨_, rfl, _, rfl, _, _, _, _, rfl, rfl, SqT.of hm4, at_of (j := 1) rfl rfl, _, _, _, _, rfl, rfl, SqL.of hy4, at_of (j := 0) rfl hu0, _, (gl A.2 0).length, rfl, len_of (iA.l (up s2 ru0)) g4.ih, I3, p, (gl A.2 0).length, rfl, g4.ih, po4, by omega, by omega, fun x5 H5 a5 b5 g5 po5 => ?_⟩
          obtain ⟨y, rfl⟩ := Int.eq_ofNat_of_zero_le a5
          refine ⟨(by show 2 ≤ sizeLine; decide), fun t ht => ?_⟩
          have g6 := Gr.new (ms := []) (o := .tup [.int (x : Int), .int (y : Int)]) g5.ih ht
          exact kk _ _ _ (x, y) ((g4.trans g5).trans g6.nil) (po5.up g6 (by simp)) ⟨t, rfl, upd_same⟩ ⟨by show x < bs; omega, by show y < as; omega⟩
        · refine q2 _ _ ⟨I3, l, zs, rfl, (g1.trans g2).trans g3, pj, ⟨l, ys, rfl, hD', b3⟩, by rw [hz]; omega, fun z hz' => ?_⟩
          obtain ⟨j, hj, e⟩ := List.getElem_of_mem hz'
          rw [← e]; exact rl j _ (List.getElem?_eq_getElem hj)
      rintro σ' H2 ⟨I2, l, w, rfl, g2, po2, rw2, hwl, hwp⟩
      (try dsimp only)
      obtain ⟨l', ws, el, hl, w2⟩ := id rw2
      cases el
      have lw := w2.len
      refine ⟨(by show 1 ≤ sizeLine; decide), fun l1 hl1 => ?_⟩
      have g3 := Gr.new (ms := []) (o := .lst ([("apart" : Str)].map V.str)) g2.ih hl1
      refine ⟨_, rfl, l, rfl, ⟨_, SqL.of (g3.ih _ _ (g3.ii _ _ hl))⟩, fun l2 hD => ?_⟩
      refine lc_map (R := iSt) (Sy := iS) stepL (wk_list (g3.ii _ _ hl)) (w2.up g3.ii) g3.ih hD (lt_line (by omega)) (fun i z I4 H4 Nx Qk hi rz s4 s5 kk => ?_) (fun I4 H4 g4 r4 => ?_)
      · obtain ⟨o, eo, ho⟩ := rz
        obtain ⟨p1, p2⟩ := hwp z (List.mem_of_getElem? hi)
        have d1 := dec100 (st := z.1) (by omega)
        have d2 := dec100 (st := z.2) (by omega)
        rw [eo]
        refine ⟨o, _, rfl, SqT.of (s5 _ _ ho), rfl, _, _, rfl, _, _, rfl, rfl, rfl, _, rfl, _, rfl, log100 (by omega), _, _, rfl, rfl, line_of (by show (dec z.1).length + _ ≤ _; omega), _, rfl, _, rfl, log100 (by omega), _, _, rfl, rfl, line_of (by show (dec z.1 ++ (" " : Str)).length + (dec z.2).length ≤ _; rw [app_len]; omega), ?_⟩
        refine kk _ _ _ (Gr.refl s5) ?_
        show V.str (dec z.1 ++ (" " : Str) ++ dec z.2) = V.str (stepL z)
        unfold stepL; rw [empty_app']
      · obtain ⟨c', hc', hcl⟩ := iL_strs r4
        cases hc'
        refine catL_of g4.ih (g4.ii _ _ upd_same) hcl (by simp; omega) fun I5 H5 v5 g5 h5 => ?_
        have G5 := (g3.trans g4).trans g5
        refine ⟨_, rfl, tup_of (iA.l (up G5.ii rw2)) G5.ih fun I6 H6 v6 g6 r6 => ⟨(by show 3 ≤ sizeLine; decide), fun t ht => ?_⟩⟩
        have g7 := Gr.new (ms := []) (o := .tup [.ref v5, v6, .non]) g6.ih ht
        have G7 := (G5.trans g6).trans g7
        refine k _ _ _ ⟨"apart", [], [], [], some w⟩ (g2.trans G7.nil) (po2.up G7 (by simp)) ⟨t, _, _, _, rfl, upd_same, strs_iL (g7.ii _ _ (g6.ii _ _ h5)), up g7.ii r6, rfl⟩ (.apart w hwl hwp)
    rintro σ' H1 ⟨rfl, g1, po1⟩
    (try dsimp only)
    -- size
    refine seq_cut (fun σ' H2 => H2 = H1 ∧ σ' = [some (.ref p), some (.ref am), some (.ref am2), none, none, none, none, some (.int ((n1 + n2 : Nat) : Int)), none, none, none, none, none, none, none]) (fun nx q => ?_) ?_
    · refine ⟨_, rfl, _, _, _, _, rfl, rfl, SqT.of (g1.ih _ _ hm), at_of (j := 0) rfl rfl, _, A.1.length, rfl, len_of (iA.l rx) g1.ih, _, rfl, _, _, _, _, rfl, rfl, SqT.of (g1.ih _ _ hm2), at_of (j := 0) rfl rfl, _, B.1.length, rfl, len_of (iA.l rx2) g1.ih, _, _, rfl, rfl, q _ _ ⟨rfl, ?_⟩⟩
      rw [e1, e2, Int.natCast_add]; rfl
    rintro σ' H2 ⟨rfl, rfl⟩
    (try dsimp only)
    obtain ⟨n, en⟩ : ∃ n, n = n1 + n2 := ⟨_, rfl⟩
    rw [← en]
    rw [← en] at nn k
    -- count
    refine seq_cut (fun σ' H3 => ∃ m : Nat, σ' = [some (.ref p), some (.ref am), some (.ref am2), none, none, none, none, some (.int (n : Int)), some (.int (m : Int)), none, none, none, none, none, none] ∧ Gr [p] I H I H3 ∧ PoolOk I H3 p ∧ 0 < m ∧ m ≤ 3) (fun nx q => ?_) ?_
    · refine ⟨_, rfl, I, p, 3, rfl, g1.ih, po1, by decide, by decide, fun x H3 a3 b3 g3 po3 => ⟨_, _, rfl, rfl, ?_⟩⟩
      obtain ⟨z, rfl⟩ := Int.eq_ofNat_of_zero_le a3
      exact q _ _ ⟨1 + z, by rw [show ((1 + z : Nat) : Int) = 1 + (z : Int) from by omega]; rfl, g1.trans g3, po3, by omega, by omega⟩
    clear g1 po1 H2
    rintro σ' H3 ⟨m, rfl, g1, po1, m0, m3⟩
    (try dsimp only)
    -- vectors
    refine seq_cut (fun σ' H4 => ∃ (I4 : Hp) (lv : Addr) (vs : List (List Rat)), σ' = [some (.ref p), some (.ref am), some (.ref am2), none, none, none, none, some (.int (n : Int)), some (.int (m : Int)), some (.ref lv), none, none, none, none, none] ∧ Gr [p] I H I4 H4 ∧ PoolOk I4 H4 p ∧ iL (iL iQ) I4 (.ref lv) vs ∧ vs.length = m ∧ ∀ r ∈ vs, r.length = n ∧ ∀ q ∈ r, Wide q) (fun nx q => ?_) ?_
    · refine ⟨_, rfl, m, rfl, by omega, by omega, fun l hD => ?_⟩
      rw [Int.toNat_natCast]
      have npl := po1.ne hD
      refine lc_wk [p] (iL iQ) (fun i z => z.length = n ∧ ∀ q ∈ z, Wide q) (fun I H => PoolOk I H p) (wk_range (I := I)) g1.ih hD (by simpa using npl.symm) (lt_line (by omega)) (stb_pool npl) po1 (fun j I4 H4 Nx Qk hj s2 s3 pj kk => ?_) (fun I4 H4 ys zs g4 hD' b4 hz rl pj => ?_)
      · refine ⟨rfl, _, rfl, n, rfl, by omega, by omega, fun l5 hD5 => ?_⟩
        rw [Int.toNat_natCast]
        have npl5 := pj.ne hD5
        refine lc_wk [p] iQ (fun i z => Wide z) (fun I H => PoolOk I H p) (wk_range (I := I4)) s3 hD5 (by simpa using npl5.symm) (lt_line (by omega)) (stb_pool npl5) pj (fun j5 I6 H6 Nx6 Qk6 hj6 s6 s7 pj6 kk6 => ?_) (fun I6 H6 ys6 zs6 g6 hD6 b6 hz6 rl6 pj6 => ?_)
        · exact ⟨rfl, _, rfl, I6, p, rfl, s7, pj6, fun I7 H7 v7 q7 g7 po7 r7 w7 => kk6 _ _ _ _ g7 po7 r7 w7⟩
        · exact kk _ _ _ zs6 g6 pj6 ⟨l5, ys6, rfl, hD6, b6⟩ ⟨hz6, fun q hq => by
            obtain ⟨j, hj, e⟩ := List.getElem_of_mem hq
            rw [← e]; exact rl6 j _ (List.getElem?_eq_getElem hj)⟩
      · exact q _ _ ⟨I4, l, zs, rfl, g1.trans g4, pj, ⟨l, ys, rfl, hD', b4⟩, hz, fun r hr => by
          obtain ⟨j, hj, e⟩ := List.getElem_of_mem hr
          rw [← e]; exact rl j _ (List.getElem?_eq_getElem hj)⟩
    clear g1 po1 H3
    rintro σ' H4 ⟨I4, lv, vs, rfl, g4, po4, rvs, hvs, hvr⟩
    (try dsimp only)
    -- start
    refine seq_cut (fun σ' H5 => ∃ (I5 : Hp) (ls : Addr) (st : List Rat), σ' = [some (.ref p), some (.ref am), some (.ref am2), none, none, none, none, some (.int (n : Int)), some (.int (m : Int)), some (.ref lv), none, some (.ref ls), none, none, none] ∧ Gr [p] I H I5 H5 ∧ PoolOk I5 H5 p ∧ iL (iL iQ) I5 (.ref lv) vs ∧ iL iQ I5 (.ref ls) st ∧ st.length = m ∧ ∀ q ∈ st, Wide q) (fun nx q => ?_) ?_
    · refine ⟨_, rfl, m, rfl, by omega, by omega, fun l5 hD5 => ?_⟩
      rw [Int.toNat_natCast]
      have npl5 := po4.ne hD5
      refine lc_wk [p] iQ (fun i z => Wide z) (fun I H => PoolOk I H p) (wk_range (I := I4)) g4.ih hD5 (by simpa using npl5.symm) (lt_line (by omega)) (stb_pool npl5) po4 (fun j5 I6 H6 Nx6 Qk6 hj6 s6 s7 pj6 kk6 => ?_) (fun I6 H6 ys6 zs6 g6 hD6 b6 hz6 rl6 pj6 => ?_)
      · exact ⟨rfl, _, rfl, I6, p, rfl, s7, pj6, fun I7 H7 v7 q7 g7 po7 r7 w7 => kk6 _ _ _ _ g7 po7 r7 w7⟩
      · exact q _ _ ⟨I6, l5, zs6, rfl, g4.trans g6, pj6, up g6.ii rvs, ⟨l5, ys6, rfl, hD6, b6⟩, hz6, fun q hq => by
          obtain ⟨j, hj, e⟩ := List.getElem_of_mem hq
          rw [← e]; exact rl6 j _ (List.getElem?_eq_getElem hj)⟩
    clear g4 po4 rvs I4 H4
    rintro σ' H5 ⟨I5, ls, st, rfl, g5, po5, rvs, rst, hst, hsw⟩
    (try dsimp only)
    have mb1 : m * bs ≤ 3 * 4 := Nat.mul_le_mul m3 b1
    have mb2 : m * bs * as ≤ 3 * 4 * 4 := Nat.mul_le_mul mb1 a1
    -- moves
    refine seq_cut (fun σ' H6 => ∃ (I6 : Hp) (lm : Addr) (mv : List (List Rat)), σ' = [some (.ref p), some (.ref am), some (.ref am2), none, none, none, none, some (.int (n : Int)), some (.int (m : Int)), some (.ref lv), none, some (.ref ls), some (.ref lm), none, none] ∧ Gr [p] I H I6 H6 ∧ PoolOk I6 H6 p ∧ iL (iL iQ) I6 (.ref lv) vs ∧ iL iQ I6 (.ref ls) st ∧ iL (iL iQ) I6 (.ref lm) mv ∧ mv.length = m * bs * as ∧ ∀ r ∈ mv, r.length = m ∧ ∀ q ∈ r, Wide q) (fun nx q => ?_) ?_
    · have hm5 := g5.ih _ _ (g5.ii _ _ hm)
      have hy5 := g5.ih _ _ (g5.ii _ _ hy)
      have eM : (m : Int) * (bs : Int) = ((m * bs : Nat) : Int) := by rw [Int.natCast_mul]
      have eMM : (m : Int) * (bs : Int) * (as : Int) = ((m * bs * as : Nat) : Int) := by rw [Int.natCast_mul, Int.natCast_mul]
      refine ⟨_, rfl, _, rfl, _, _, _, _, rfl, rfl, SqT.of hm5, at_of (j := 1) rfl rfl, _, A.2.length, rfl, len_of (iA.l (up g5.ii ry)) g5.ih, ?_⟩
      rw [e3]
      refine ⟨_, _, rfl, rfl, mulw (by omega) (by omega), _, rfl, _, _, _, _, rfl, rfl, SqT.of hm5, at_of (j := 1) rfl rfl, _, _, _, _, rfl, rfl, SqL.of hy5, at_of (j := 0) rfl hu0, _, (gl A.2 0).length, rfl, len_of (iA.l (up g5.ii ru0)) g5.ih, ?_⟩
      rw [e4]
      refine ⟨_, _, rfl, rfl, (by show CMulW ((m : Int) * (bs : Int)) (as : Int); rw [eM]; exact mulw (by omega) (by omega)), (m : Int) * (bs : Int) * (as : Int), rfl, by rw [eMM]; omega, by rw [eMM]; omega, fun l hD => ?_⟩
      rw [eMM, Int.toNat_natCast]
      have npl := po5.ne hD
      refine lc_wk [p] (iL iQ) (fun i z => z.length = m ∧ ∀ q ∈ z, Wide q) (fun I H => PoolOk I H p) (wk_range (I := I5)) g5.ih hD (by simpa using npl.symm) (lt_line (by omega)) (stb_pool npl) po5 (fun j I4 H4 Nx Qk hj s2 s3 pj kk => ?_) (fun I4 H4 ys zs g4 hD' b4 hz rl pj => ?_)
      · refine ⟨rfl, _, rfl, m, rfl, by omega, by omega, fun l5 hD5 => ?_⟩
        rw [Int.toNat_natCast]
        have npl5 := pj.ne hD5
        refine lc_wk [p] iQ (fun i z => Wide z) (fun I H => PoolOk I H p) (wk_range (I := I4)) s3 hD5 (by simpa using npl5.symm) (lt_line (by omega)) (stb_pool npl5) pj (fun j5 I6 H6 Nx6 Qk6 hj6 s6 s7 pj6 kk6 => ?_) (fun I6 H6 ys6 zs6 g6 hD6 b6 hz6 rl6 pj6 => ?_)
        · exact ⟨rfl, _, rfl, I6, p, rfl, s7, pj6, fun I7 H7 v7 q7 g7 po7 r7 w7 => kk6 _ _ _ _ g7 po7 r7 w7⟩
        · exact kk _ _ _ zs6 g6 pj6 ⟨l5, ys6, rfl, hD6, b6⟩ ⟨hz6, fun q hq => by
            obtain ⟨j, hj, e⟩ := List.getElem_of_mem hq
            rw [← e]; exact rl6 j _ (List.getElem?_eq_getElem hj)⟩
      · exact q _ _ ⟨I4, l, zs, rfl, g5.trans g4, pj, up g4.ii rvs, up g4.ii rst, ⟨l, ys, rfl, hD', b4⟩, hz, fun r hr => by
          obtain ⟨j, hj, e⟩ := List.getElem_of_mem hr
          rw [← e]; exact rl j _ (List.getElem?_eq_getElem hj)⟩
    clear g5 po5 rvs rst I5 H5
    rintro σ' H6 ⟨I6, lm, mv, rfl, g6, po6, rvs, rst, rmv, hmv, hmr⟩
    (try dsimp only)
    have e5 : ("same " : Str).length = 5 := by decide +kernel
    have dn := dec100 (st := m) (by omega)
    obtain ⟨lv', vls, el, hlv, v2'⟩ := id rvs
    cases el
    obtain ⟨lm', mls, el, hlm, m2'⟩ := id rmv
    cases el
    have lvl := v2'.len
    have lml := m2'.len
    -- lines
    refine seq_cut (fun σ' H7 => ∃ (I7 : Hp) (ll : Addr), σ' = [some (.ref p), some (.ref am), some (.ref am2), none, none, none, none, some (.int (n : Int)), some (.int (m : Int)), some (.ref lv), none, some (.ref ls), some (.ref lm), some (.ref ll), none] ∧ Gr [] I6 H6 I7 H7 ∧ I7 ll = some (.lst ((([Str.empty ++ ("same " : Str) ++ dec m] ++ vs.map rowL) ++ [rowL st]).map V.str))) (fun nx q => ?_) ?_
    · refine ⟨_, rfl, _, rfl, log100 (by omega), _, _, rfl, rfl, line_of (by show ("same " : Str).length + (dec m).length ≤ _; omega), (by show 1 ≤ sizeLine; decide), fun l1 hl1 => ?_⟩
      have g7 := Gr.new (ms := []) (o := .lst ([("same " : Str) ++ dec m].map V.str)) g6.ih hl1
      refine ⟨_, rfl, lv, rfl, ⟨_, SqL.of (g7.ih _ _ (g7.ii _ _ hlv))⟩, fun l2 hD => ?_⟩
      refine lc_map (R := iL iQ) (Sy := iS) rowL (wk_list (g7.ii _ _ hlv)) (v2'.up g7.ii) g7.ih hD (lt_line (by omega)) (fun i z I8 H8 Nx Qk hi rz s8 s9 kk => ?_) (fun I8 H8 g8 r8 => ?_)
      · obtain ⟨q1, q2⟩ := hvr z (List.mem_of_getElem? hi)
        exact ⟨rfl, _, rfl, I8, _, z, rfl, s9, rz, q2, by omega, fun I9 H9 g9 => kk _ _ _ g9 rfl⟩
      · obtain ⟨c', hc', hcl⟩ := iL_strs r8
        cases hc'
        refine catL_of g8.ih (g8.ii _ _ upd_same) hcl (by simp; omega) fun I9 H9 v9 g9 h9 => ?_
        have G9 := (g7.trans g8).trans g9
        refine ⟨_, rfl, I9, _, st, rfl, G9.ih, up G9.ii rst, hsw, by omega, fun I10 H10 g10 => ⟨(by show 1 ≤ sizeLine; decide), fun l3 hl3 => ?_⟩⟩
        have g11 := Gr.new (ms := []) (o := .lst ([rowL st].map V.str)) g10.ih hl3
        refine catL_of g11.ih (g11.ii _ _ (g10.ii _ _ h9)) upd_same (by simp; omega) fun I12 H12 v12 g12 h12 => ?_
        exact q _ _ ⟨I12, v12, rfl, (G9.trans g10).trans (g11.trans g12), by rw [empty_app']; exact h12⟩
    rintro σ' H7 ⟨I7, ll, rfl, g7, hll⟩
    (try dsimp only)
    have hlm7 := g7.ii _ _ hlm
    refine ⟨_, rfl, _, rfl, lm, rfl, ⟨_, SqL.of (g7.ih _ _ hlm7)⟩, fun l2 hD => ?_⟩
    refine lc_map (R := iL iQ) (Sy := iS) rowL (wk_list hlm7) (m2'.up g7.ii) g7.ih hD (lt_line (by omega)) (fun i z I8 H8 Nx Qk hi rz s8 s9 kk => ?_) (fun I8 H8 g8 r8 => ?_)
    · obtain ⟨q1, q2⟩ := hmr z (List.mem_of_getElem? hi)
      exact ⟨rfl, _, rfl, I8, _, z, rfl, s9, rz, q2, by omega, fun I9 H9 g9 => kk _ _ _ g9 rfl⟩
    · obtain ⟨c', hc', hcl⟩ := iL_strs r8
      cases hc'
      refine catL_of g8.ih (g8.ii _ _ hll) hcl (by simp; omega) fun I9 H9 v9 g9 h9 => ?_
      have G9 := (g7.trans g8).trans g9
      refine ⟨_, rfl, _, rfl, _, rfl, (by show 3 ≤ sizeLine; decide), fun t1 ht1 => ?_⟩
      have g10 := Gr.new (ms := []) (o := .tup [.ref lv, .ref ls, .ref lm]) G9.ih ht1
      refine ⟨(by show 3 ≤ sizeLine; decide), fun t2 ht2 => ?_⟩
      have g11 := Gr.new (ms := []) (o := .tup [.ref v9, .non, .ref t1]) g10.ih ht2
      have G11 := (G9.trans g10).trans g11
      have er : foLines ⟨"same", vs, st, mv, none⟩ = (([Str.empty ++ ("same " : Str) ++ dec m] ++ vs.map rowL) ++ [rowL st]) ++ mv.map rowL := by
        unfold foLines
        dsimp only
        rw [hvs]
        simp
      refine k _ _ _ ⟨"same", vs, st, mv, none⟩ (g6.trans G11.nil) (po6.up G11 (by simp)) ⟨t2, _, _, _, rfl, upd_same, ?_, rfl, t1, _, _, _, rfl, g11.ii _ _ upd_same, up G11.ii rvs, up G11.ii rst, up G11.ii rmv⟩ (.same m vs st mv m0 m3 hvs hst hmv (fun r hr => (hvr r hr).1) (fun r hr => (hmr r hr).1) (fun r hr => ?_))
      · rw [er]; exact strs_iL (g11.ii _ _ (g10.ii _ _ h9))
      · rcases List.mem_append.mp hr with hr | hr
        · rcases List.mem_append.mp hr with hr | hr
          · exact (hvr r hr).2
          · rw [List.mem_singleton.mp hr]; exact hsw
        · exact (hmr r hr).2
end
end K

set_option Elab.async false
set_option linter.all false
set_option maxRecDepth 100000
set_option maxHeartbeats 4000000
/-! x in a list of data, by the interpreter's own ==. -/
namespace Tk
open PySem PySem.Spec PyProof.Rows L2
theorem roomU {k : Nat} {A : Around} (r : Room k A) : A.units + 65 < cLine := by have := r.un; omega
theorem op_inDK {X : Cx} (K : PySem.W.Frag) (hu : X.A.units + 65 < cLine) (hK : X.K = K := by rfl) : OpR X (compareOp .In) (rInD K) := hK ▸ op_inD hu
theorem any_toP {a : Da} (pa : plain a = true) : ∀ {ds : List Da}, plains ds = true → ((toPs ds).any fun z => PyData.eqv z (toP a)) = ds.any fun z => eqd z a
  | [], _ => by simp [toPs]
  | d :: r, h => by
    simp only [plains, Bool.and_eq_true] at h
    simp only [toPs, List.any_cons]
    rw [toP_eq d a h.1 pa, any_toP pa h.2]
theorem inD_of {K : PySem.W.Frag} {H : Hp} {x y : V} {a : Da} {ds : List Da} {Q : VK} (ha : dR H x a) (hb : dR H y (.lst ds)) (pa : plain a = true) (pb : plain (.lst ds) = true) (la : dep a ≤ 64) (lb : dep (.lst ds) ≤ 64) (k : Q (.bl (ds.any fun z => eqd z a)) H) : rInD K x y H Q :=
  ⟨toP a, toPs ds, dp_of a x ha, dp_of (.lst ds) y hb, toP_shaped pa la, toP_shaped (d := .lst ds) pb lb, by rw [any_toP pa (by simpa only [plain] using pb)]; exact k⟩
theorem op_notInDK {X : Cx} (K : PySem.W.Frag) (hu : X.A.units + 65 < cLine) (hK : X.K = K := by rfl) : OpR X (compareOp .NotIn) (rNotInD K) := hK ▸ op_notInD hu
theorem notInD_of {K : PySem.W.Frag} {H : Hp} {x y : V} {a : Da} {ds : List Da} {Q : VK} (ha : dR H x a) (hb : dR H y (.lst ds)) (pa : plain a = true) (pb : plain (.lst ds) = true) (la : dep a ≤ 64) (lb : dep (.lst ds) ≤ 64) (k : Q (.bl (!ds.any fun z => eqd z a)) H) : rNotInD K x y H Q :=
  ⟨toP a, toPs ds, dp_of a x ha, dp_of (.lst ds) y hb, toP_shaped pa la, toP_shaped (d := .lst ds) pb lb, by rw [any_toP pa (by simpa only [plain] using pb)]; exact k⟩
end Tk

set_option Elab.async false
set_option linter.all false
set_option maxRecDepth 100000
set_option maxHeartbeats 4000000
set_option exponentiation.threshold 5000
namespace K
open PySem PySem.Spec PyProof.Rows L2 Tk Hd Rd Mt TL
section
variable {P : Program} {w : World} {K : PySem.W.Frag} {mg : Str → Option Value} {base : Heap}
/-- what is open -/
inductive Op where
  | hed | pairs | row (n : Nat)
def Op.code : Op → Nat × Nat
  | Op.hed => (0, 0)
  | Op.pairs => (1, 0)
  | Op.row n => (2, n)
instance : DecidableEq Op := fun a b => decidable_of_iff (a.code = b.code) ⟨fun h => by cases a <;> cases b <;> simp [Op.code] at h <;> first | rfl | (subst h; rfl), fun h => by rw [h]⟩
def stPairs (bs as : Nat) (stk : List Op) (ws : List Str) : Option (List Op) := match ws with
  | [a, b] => match numOf a 9, numOf b 9 with
    | some x, some y => if x < bs ∧ y < as then some (stk.dropLast ++ [.pairs]) else none
    | _, _ => none
  | _ => none
def stCnt (size bs as : Nat) (stk : List Op) (o : Option Nat) : Option (List Op) := match o with
  | some m => if 0 < m ∧ m < 25 then some (stk.dropLast ++ (List.replicate (m * bs * as + 1) (Op.row m) ++ List.replicate m (Op.row size))) else none
  | none => none
def stSame (size bs as : Nat) (stk : List Op) (ws : List Str) : Option (List Op) := match ws with
  | [a, b] => if a = ("same" : Str) then stCnt size bs as stk (numOf b 99) else none
  | _ => none
def stHed (size bs as : Nat) (stk : List Op) (ws : List Str) : Option (List Op) := if ws = [("apart" : Str)] then some (stk.dropLast ++ [.pairs]) else stSame size bs as stk ws
def stB (size bs as : Nat) (stk : List Op) (ws : List Str) : Option (List Op) := match stk.getLast? with
  | none => none
  | some (Op.row n) => if none ∉ ws.map ratioOf ∧ ws.length = n then some stk.dropLast else none
  | some Op.pairs => stPairs bs as stk ws
  | some Op.hed => stHed size bs as stk ws
def runB (size bs as : Nat) : List Op → Nat → List Str → Option Nat
  | stk, k, [] => if stk ≠ [] ∧ stk.head? ≠ some .pairs then some k else none
  | stk, k, l :: ls => if stk = [] then some k else match stB size bs as stk (Txt.split l " ") with
    | none => some k
    | some stk' => runB size bs as stk' (k + 1) ls
def exN {α : Type} : Except Nat α → Option Nat
  | .ok _ => none
  | .error n => some n
theorem split_empty : Txt.split ("" : Str) " " = [("" : Str)] := by decide +kernel
theorem words_or (l : Str) : wordsOf l = Txt.split l " " ∨ (l = "" ∧ wordsOf l = []) := by
  unfold wordsOf
  by_cases h : l = ("" : Str)
  · exact .inr ⟨h, if_pos h⟩
  · exact .inl (if_neg h)
theorem num_lt {b : Nat} (h0 : 0 < b) (hb : b ≤ 10) (z : Str) : numOf z (b - 1) = match numOf z 9 with
    | some x => if x < b then some x else none
    | none => none := by
  cases e : numOf z 9 with
  | none =>
    refine numOf_none.mpr fun n hn y => ?_
    exact numOf_none.mp e n (by omega) y
  | some x =>
    obtain ⟨e1, e2⟩ := numOf_some.mp e
    dsimp only
    by_cases c : x < b
    · rw [if_pos c]; exact numOf_some.mpr ⟨e1, by omega⟩
    · rw [if_neg c]
      refine numOf_none.mpr fun n hn y => ?_
      have := dec_inj (e1.symm.trans y)
      omega
theorem step_same {bs as : Nat} (b0 : 0 < bs) (b1 : bs ≤ 4) (a0 : 0 < as) (a1 : as ≤ 4) (l : Str) (size : Nat) (stk : List Op) : stB size bs as (stk ++ [.pairs]) (Txt.split l " ") = match stepOf (wordsOf l) (bs - 1, as - 1) with
    | some _ => some (stk ++ [.pairs])
    | none => none := by
  have key : ∀ ws : List Str, stB size bs as (stk ++ [.pairs]) ws = match stepOf ws (bs - 1, as - 1) with
      | some _ => some (stk ++ [.pairs])
      | none => none := fun ws => by
    unfold stB
    rw [List.getLast?_concat]
    dsimp only
    unfold stPairs
    match ws with
    | [] => rfl
    | [_] => rfl
    | _ :: _ :: _ :: _ => rfl
    | [a, b] =>
      dsimp only
      have e : stepOf [a, b] (bs - 1, as - 1) = match numOf a (bs - 1), numOf b (as - 1) with
        | some x, some y => some (x, y)
        | _, _ => none := rfl
      rw [e, num_lt b0 (by omega), num_lt a0 (by omega)]
      cases numOf a 9 with
      | none => rfl
      | some x =>
        cases numOf b 9 with
        | none =>
          dsimp only
          by_cases c1 : x < bs
          · rw [if_pos c1]
          · rw [if_neg c1]
        | some y =>
          dsimp only
          by_cases c1 : x < bs
          · by_cases c2 : y < as
            · rw [if_pos ⟨c1, c2⟩, if_pos c1, if_pos c2, List.dropLast_concat]
            · rw [if_neg (fun z => c2 z.2), if_pos c1, if_neg c2]
          · rw [if_neg (fun z => c1 z.1), if_neg c1]
  rcases words_or l with h | ⟨h1, h2⟩
  · rw [h]; exact key _
  · rw [key, h2, h1, split_empty]; rfl
theorem run_pairs {bs as : Nat} (b0 : 0 < bs) (b1 : bs ≤ 4) (a0 : 0 < as) (a1 : as ≤ 4) (size : Nat) : ∀ (ls : List Str) (k : Nat), runB size bs as [.pairs] k ls = exN (restG stepOf k ls (List.replicate ls.length (bs - 1, as - 1)))
  | [], k => by simp [runB, restG, exN]
  | l :: ls, k => by
    have h := step_same b0 b1 a0 a1 l size []
    rw [List.nil_append] at h
    unfold runB
    rw [if_neg (by simp), h, List.length_cons, List.replicate_succ]
    unfold restG
    cases stepOf (wordsOf l) (bs - 1, as - 1) with
    | none => rfl
    | some p =>
      dsimp only
      rw [run_pairs b0 b1 a0 a1 size ls (k + 1)]
      cases restG stepOf (k + 1) ls (List.replicate ls.length (bs - 1, as - 1)) <;> rfl
theorem row_same {bs as n : Nat} (n0 : 0 < n) (l : Str) (size : Nat) (stk : List Op) : stB size bs as (stk ++ [.row n]) (Txt.split l " ") = match ratiosOf (wordsOf l) n with
    | some _ => some stk
    | none => none := by
  have key : ∀ ws : List Str, stB size bs as (stk ++ [.row n]) ws = match ratiosOf ws n with
      | some _ => some stk
      | none => none := fun ws => by
    unfold stB
    rw [List.getLast?_concat]
    dsimp only
    unfold ratiosOf
    by_cases c : ws.length = n
    · rw [if_pos c]
      cases e : allR ws with
      | none => rw [if_neg (fun z => z.1 (allR_none.mp e))]
      | some qs => rw [if_pos ⟨(fun z => by rw [allR_none.mpr z] at e; cases e), c⟩, List.dropLast_concat]
    · rw [if_neg c, if_neg (fun z => c z.2)]
  rcases words_or l with h | ⟨h1, h2⟩
  · rw [h]; exact key _
  · have e1 : ratiosOf [("" : Str)] n = none := by
      have : allR [("" : Str)] = none := by decide +kernel
      unfold ratiosOf; rw [this]; exact ite_self _
    have e2 : ratiosOf [] n = none := by unfold ratiosOf; exact if_neg (by simp; omega)
    rw [key, h2, h1, split_empty, e1, e2]
theorem run_rows {bs as : Nat} (size : Nat) : ∀ (ls : List Str) (fs : List Nat) (k : Nat), (∀ f ∈ fs, 0 < f) → runB size bs as (fs.reverse.map Op.row) k ls = exN (restG ratiosOf k ls fs)
  | [], [], k, _ => by simp [runB, restG, exN]
  | [], f :: fs, k, _ => by
    unfold runB
    rw [if_pos]
    · rfl
    · refine ⟨by simp, ?_⟩
      rw [List.head?_map]
      cases ((f :: fs).reverse).head? <;> simp
  | l :: ls, [], k, _ => by simp [runB, restG, exN]
  | l :: ls, f :: fs, k, h => by
    have e : ((f :: fs).reverse.map Op.row) = fs.reverse.map Op.row ++ [Op.row f] := by simp
    unfold runB
    rw [e, if_neg (by simp), row_same (h f List.mem_cons_self)]
    unfold restG
    cases ratiosOf (wordsOf l) f with
    | none => rfl
    | some p =>
      dsimp only
      rw [run_rows size ls fs (k + 1) fun x hx => h x (List.mem_cons_of_mem _ hx)]
      cases restG ratiosOf (k + 1) ls fs <;> rfl
theorem many_num (b : Str) (m : Nat) : (b ≠ ("0" : Str) ∧ numOf b 24 = some m) ↔ (numOf b 99 = some m ∧ 0 < m ∧ m < 25) := by
  have d0 : dec 0 = ("0" : Str) := by decide +kernel
  constructor
  · rintro ⟨h1, h2⟩
    obtain ⟨e1, e2⟩ := numOf_some.mp h2
    refine ⟨numOf_some.mpr ⟨e1, by omega⟩, ?_, by omega⟩
    rcases Nat.eq_zero_or_pos m with z | z
    · subst z; exact absurd (e1.trans d0) h1
    · exact z
  · rintro ⟨h1, h2, h3⟩
    obtain ⟨e1, e2⟩ := numOf_some.mp h1
    refine ⟨fun y => ?_, numOf_some.mpr ⟨e1, by omega⟩⟩
    have := dec_inj ((e1.symm.trans y).trans d0.symm)
    omega
theorem head_same {size bs as : Nat} {l : Str} (ha : l ≠ ("apart" : Str)) : stB size bs as [.hed] (Txt.split l " ") = match manyOf (wordsOf l) with
    | some m => some (List.replicate (m * bs * as + 1) (Op.row m) ++ List.replicate m (Op.row size))
    | none => none := by
  have key : ∀ ws : List Str, ws ≠ [("apart" : Str)] → stB size bs as [.hed] ws = match manyOf ws with
      | some m => some (List.replicate (m * bs * as + 1) (Op.row m) ++ List.replicate m (Op.row size))
      | none => none := fun ws hw => by
    show stHed size bs as [.hed] ws = _
    unfold stHed
    rw [if_neg hw]
    unfold stSame
    match ws with
    | [] => rfl
    | [_] => rfl
    | _ :: _ :: _ :: _ => rfl
    | [a, b] =>
      dsimp only
      have e : manyOf [a, b] = if a = ("same" : Str) ∧ b ≠ ("0" : Str) then numOf b 24 else none := rfl
      rw [e]
      by_cases c : a = ("same" : Str)
      · rw [if_pos c]
        unfold stCnt
        cases h : numOf b 99 with
        | none =>
          have : (if a = ("same" : Str) ∧ b ≠ ("0" : Str) then numOf b 24 else none) = none := by
            by_cases c2 : b ≠ ("0" : Str)
            · rw [if_pos ⟨c, c2⟩]
              cases h2 : numOf b 24 with
              | none => rfl
              | some m => rw [((many_num b m).mp ⟨c2, h2⟩).1] at h; cases h
            · rw [if_neg fun z => c2 z.2]
          rw [this]
        | some m =>
          dsimp only
          by_cases c3 : 0 < m ∧ m < 25
          · obtain ⟨h1, h2⟩ := (many_num b m).mpr ⟨h, c3⟩
            rw [if_pos c3, if_pos ⟨c, h1⟩, h2]; rfl
          · have : (if a = ("same" : Str) ∧ b ≠ ("0" : Str) then numOf b 24 else none) = none := by
              by_cases c2 : b ≠ ("0" : Str)
              · rw [if_pos ⟨c, c2⟩]
                cases h2 : numOf b 24 with
                | none => rfl
                | some m2 =>
                  obtain ⟨k1, k2⟩ := (many_num b m2).mp ⟨c2, h2⟩
                  rw [h] at k1; injection k1 with k1; subst k1
                  exact absurd k2 c3
              · rw [if_neg fun z => c2 z.2]
            rw [if_neg c3, this]
      · rw [if_neg c, if_neg fun z => c z.1]
  have hs : Txt.split l " " ≠ [("apart" : Str)] := fun h => ha (by have := (split_sp l).1; rw [h, jn_one] at this; exact this.symm)
  rcases words_or l with h | ⟨h1, h2⟩
  · rw [h]; exact key _ hs
  · rw [key _ hs, h2, h1, split_empty]; rfl
/-- the law's run is what the program tells -/
theorem run_paper {n1 n2 bs as : Nat} (b0 : 0 < bs) (b1 : bs ≤ 4) (a0 : 0 < as) (a1 : as ≤ 4) (hn : 0 < n1 + n2) (lines : List Str) : runB (n1 + n2) bs as [.hed] 0 lines = exN (readPaper lines n1 n2 bs as) := by
  cases lines with
  | nil => simp [runB, readPaper, exN]
  | cons l0 ls =>
    unfold runB
    rw [if_neg (by simp)]
    by_cases ha : l0 = ("apart" : Str)
    · have e : stB (n1 + n2) bs as [.hed] (Txt.split l0 " ") = some [.pairs] := by
        rw [ha, show Txt.split ("apart" : Str) " " = [("apart" : Str)] from by decide +kernel]; rfl
      rw [e]
      dsimp only
      rw [run_pairs b0 b1 a0 a1]
      unfold readPaper
      dsimp only
      rw [if_pos ha]
      cases restG stepOf (0 + 1) ls (List.replicate ls.length (bs - 1, as - 1)) <;> rfl
    · rw [head_same ha]
      unfold readPaper
      dsimp only
      rw [if_neg ha]
      cases hm : manyOf (wordsOf l0) with
      | none => rfl
      | some m =>
        dsimp only
        obtain ⟨_, m0, _⟩ := manyOf_some hm
        have e : (List.replicate (m * bs * as + 1) (Op.row m) ++ List.replicate m (Op.row (n1 + n2))) = ((widthsOf n1 n2 m bs as).reverse.map Op.row) := by
          unfold widthsOf
          rw [List.reverse_append, List.reverse_replicate, List.reverse_replicate, List.map_append, List.map_replicate, List.map_replicate, Nat.add_comm 1]
        rw [e, run_rows]
        · cases restG ratiosOf (0 + 1) ls (widthsOf n1 n2 m bs as) <;> rfl
        · intro f hf
          unfold widthsOf at hf
          rcases List.mem_append.mp hf with h | h
          · rw [(List.mem_replicate.mp h).2]; exact hn
          · rw [(List.mem_replicate.mp h).2]; exact m0
end
end K

set_option Elab.async false
set_option linter.all false
set_option maxRecDepth 100000
set_option maxHeartbeats 4000000
set_option exponentiation.threshold 5000
namespace K
open PySem PySem.Spec PyProof.Rows L2 Tk Hd Rd Mt TL
section
variable {P : Program} {w : World} {K : PySem.W.Frag} {mg : Str → Option Value} {base : Heap}
def daO : Option Rat → Da
  | none => .non
  | some q => .tup [.int q.num, .int (q.den : Int)]
theorem dR_row {H : Hp} : ∀ {ys : List V} {os : List (Option Rat)}, All2 (iOQ H) ys os → dRs H ys (os.map daO)
  | [], [], _ => by simp [dRs]
  | y :: ys, o :: os, .cons h t => by
    simp only [List.map_cons, dRs]
    refine ⟨_, _, rfl, ?_, dR_row t⟩
    cases o with
    | none => have : y = .non := h
              subst this
              simp [daO, dR]
    | some q =>
      obtain ⟨a, rfl, ha⟩ := (show iQ H y q from h)
      simp only [daO, dR, dRs]
      exact ⟨a, _, rfl, ha, _, _, rfl, rfl, _, _, rfl, rfl, rfl⟩
theorem plain_row : ∀ os : List (Option Rat), plains (os.map daO) = true ∧ deps (os.map daO) ≤ 1
  | [] => by simp [plains, deps]
  | o :: r => by
    obtain ⟨h1, h2⟩ := plain_row r
    cases o with
    | none => simp [plains, deps, Tk.plain, dep, daO, h1, h2]
    | some q => simp [plains, deps, Tk.plain, dep, daO, h1]; omega
theorem any_none : ∀ os : List (Option Rat), ((os.map daO).any fun z => eqd z .non) = decide (none ∈ os)
  | [] => rfl
  | o :: r => by
    rw [List.map_cons, List.any_cons, any_none r]
    cases o with
    | none => simp [daO, eqd]
    | some q => simp [daO, eqd]
theorem all2_iOQ {H : Hp} : ∀ {ys : List V} {qs : List Rat}, All2 (iOQ H) ys (qs.map some) → All2 (iQ H) ys qs
  | [], [], _ => .nil
  | y :: ys, q :: qs, .cons h t => .cons h (all2_iOQ t)
def iIt : Rp Op := fun H v o => ∃ a, v = .ref a ∧ match o with
  | Op.hed => H a = some (.tup [.str "head"])
  | Op.pairs => H a = some (.tup [.str "pairs"])
  | Op.row n => H a = some (.tup [.str "row", .int (n : Int)])
instance : Mono iIt := ⟨fun {H H' v o} s h => by
  obtain ⟨a, e, h⟩ := h
  cases o <;> exact ⟨a, e, s _ _ h⟩⟩
def spOpens : Sp := fun vs H Q _ => ∃ (I : Hp) (s : Addr) (v vw : V) (A : Ma) (size bs as : Nat) (ys : List V) (stk : List Op) (ws : List Str), vs = [.ref s, v, .int (size : Int), vw] ∧ Same I H ∧ I s = none ∧ H s = some (.lst ys) ∧ All2 (iIt I) ys stk ∧ stk ≠ [] ∧ stk.length ≤ 10000 ∧
  iLM I v A ∧ A.2.length = bs ∧ (gl A.2 0).length = as ∧ 0 < bs ∧ bs ≤ 4 ∧ 0 < as ∧ as ≤ 4 ∧ iL iS I vw ws ∧ ws.length ≤ 1000 ∧ (∀ z ∈ ws, z.length ≤ 50000 ∧ PyData.strOk z = true) ∧
  ∀ I' H' ys', Gr [s] I H I' H' → H' s = some (.lst ys') → (match stB size bs as stk ws with
    | none => Q (.bl false) H'
    | some stk' => All2 (iIt I') ys' stk' → Q (.bl true) H')
theorem last_at {ys : List V} {stk : List Op} {R : V → Op → Prop} (h : All2 R ys stk) (hn : stk ≠ []) : ∃ u o, ys[ys.length - 1]? = some u ∧ stk.getLast? = some o ∧ R u o ∧ All2 R ys.dropLast stk.dropLast := by
  obtain ⟨xs, o, e⟩ : ∃ xs o, stk = xs ++ [o] := ⟨stk.dropLast, stk.getLast hn, (List.dropLast_concat_getLast hn).symm⟩
  subst e
  obtain ⟨us, u, rfl, a2, r⟩ := All2.unsnoc h
  refine ⟨u, o, by simp, by simp, r, by rw [List.dropLast_concat, List.dropLast_concat]; exact a2⟩
theorem sc__law_opens : FnScope ["stack", "one", "size", "words", "top", "row", "word", "numbers", "count"] ["stack", "one", "size", "words"] (defScope s__law_opens) := ⟨rfl, rfl, rfl, by decide +kernel, rfl, by decide +kernel, by decide +kernel⟩
theorem ok_opens (D : Dt K mg) : Has P w K mg base 5 (He.ga K "_law_opens") ["stack", "one", "size", "words"] [] (spOpens) := by
  obtain ⟨fd, F⟩ := fd__law_opens D
  have H__law_read := ok_lread (P := P) (w := w) (base := base) D
  have H__law_digits := ok_ldig (P := P) (w := w) (base := base) D
  refine hasN F (F.bindsN fun _ _ _ _ _ _ us hl => match us, hl with | [_, _, _, _], _ => rfl) sc__law_opens (fun vs H Q E h => ?_) (fun cdv A outer s H vs Q E hr h => ?_)
  · obtain ⟨I, s1, v, vw, A, size, bs, as, ys, stk, ws, rfl, _⟩ := h; rfl
  · obtain ⟨I, s1, v, vw, A, size, bs, as, ys, stk, ws, rfl, s0, hI, hs, a2, hne, hsl, rm, e3, e4, b0, b1, a0, a1, rw1, hwl, hwz, k⟩ := h
    refine ⟨_, (pss_cons (ps_set (i := 4) sc__law_opens.nd rfl (Or.inl rfl) (pe_bm0 PySem.F.plainAttrs_list PySem.F.slot_list_pop PySem.F.type_list_pop mt_pop (pv 0)))
      (pss_cons (ps_if (pt_cmpR op_eq (pe_ix (ix_tupK K) (pv 4) pe_int (fun _ _ => rfl)) pe_str (nomark _))
      (pss_cons (ps_setLc (own := [("word", 6)]) (g := gName 6) (i := 5) rfl sc__law_opens.nd rfl rfl (sw_true rfl rfl rfl (by decide +kernel)) (pi_listK K (pv 3)) (blkOk_by (own := [("word", 6)]) (N := ["stack", "one", "size", "words", "top", "row", "word", "numbers", "count"]) (by kernel_rfl)) (fun _ _ _ _ _ => (pg_name (i := 6) sc__law_opens.nd rfl (Or.inl rfl))) (fun _ _ _ _ _ => pts_nil) (fun _ _ _ _ _ => (pe_callH H__law_read (hr.mono (by omega)) rfl (glo__law_read D) passL (pa_cons (pv 6) pa_nil))))
      (pss_one (ps_ret (pe_and (pe_cmpR (op_notInDK K (roomU hr)) pe_non (pv 5) rfl) (pe_one (pe_cmpR op_eq (pe_callB (call_lenK K) rfl (free_len D) PySem.boot_len (pa_cons (pv 5) pa_nil)) (pe_ix (ix_tupK K) (pv 4) pe_int (fun _ _ => rfl)) (nomark _)))))))
      pss_nil)
      (pss_cons (ps_if (pt_cmpR op_eq (pe_ix (ix_tupK K) (pv 4) pe_int (fun _ _ => rfl)) pe_str (nomark _))
      (pss_cons (ps_expr (pe_bm PySem.F.plainAttrs_list PySem.F.slot_list_append PySem.F.type_list_append mt_append (pv 0) (pa_cons (pe_tup (pa_cons pe_str pa_nil)) pa_nil)))
      (pss_cons (ps_setLc (own := [("word", 6)]) (g := gName 6) (i := 7) rfl sc__law_opens.nd rfl rfl (sw_true rfl rfl rfl (by decide +kernel)) (pi_listK K (pv 3)) (blkOk_by (own := [("word", 6)]) (N := ["stack", "one", "size", "words", "top", "row", "word", "numbers", "count"]) (by kernel_rfl)) (fun _ _ _ _ _ => (pg_name (i := 6) sc__law_opens.nd rfl (Or.inl rfl))) (fun _ _ _ _ _ => pts_nil) (fun _ _ _ _ _ => (pe_callH H__law_digits (hr.mono (by omega)) rfl (glo__law_digits D) passL (pa_cons (pv 6) (pa_cons pe_int pa_nil)))))
      (pss_cons (ps_if (PW.pt (pw_or (pt_cmpR op_ne (pe_callB (call_lenK K) rfl (free_len D) PySem.boot_len (pa_cons (pv 7) pa_nil)) pe_int (nomark _)) (pw_or1 (pt_cmpR (op_in_seqK K) pe_non (pv 7) rfl))))
      (pss_one (ps_ret pe_bl))
      pss_nil)
      (pss_one (ps_ret (pe_and (pe_cmpR op_lt (pe_ix (ix_listK K) (pv 7) pe_int (fun _ _ => rfl)) (pe_callB (call_lenK K) rfl (free_len D) PySem.boot_len (pa_cons (pe_ix (ix_tupK K) (pv 1) pe_int (fun _ _ => rfl)) pa_nil)) (nomark _)) (pe_one (pe_cmpR op_lt (pe_ix (ix_listK K) (pv 7) pe_int (fun _ _ => rfl)) (pe_callB (call_lenK K) rfl (free_len D) PySem.boot_len (pa_cons (pe_ix (ix_listK K) (pe_ix (ix_tupK K) (pv 1) pe_int (fun _ _ => rfl)) pe_int (fun _ _ => rfl)) pa_nil)) (nomark _)))))))))
      pss_nil)
      (pss_cons (ps_if (pt_cmpR (op_eqDK K hr.units) (pv 3) (pe_lst (pa_cons pe_str pa_nil)) (nomark _))
      (pss_cons (ps_expr (pe_bm PySem.F.plainAttrs_list PySem.F.slot_list_append PySem.F.type_list_append mt_append (pv 0) (pa_cons (pe_tup (pa_cons pe_str pa_nil)) pa_nil)))
      (pss_one (ps_ret pe_bl)))
      pss_nil)
      (pss_cons (ps_if (PW.pt (pw_or (pt_cmpR op_ne (pe_callB (call_lenK K) rfl (free_len D) PySem.boot_len (pa_cons (pv 3) pa_nil)) pe_int (nomark _)) (pw_or1 (pt_cmpR op_ne (pe_ix (ix_listK K) (pv 3) pe_int (fun _ _ => rfl)) pe_str (nomark _)))))
      (pss_one (ps_ret pe_bl))
      pss_nil)
      (pss_cons (ps_set (i := 8) sc__law_opens.nd rfl (Or.inl rfl) (pe_callH H__law_digits (hr.mono (by omega)) rfl (glo__law_digits D) passL (pa_cons (pe_ix (ix_listK K) (pv 3) pe_int (fun _ _ => rfl)) (pa_cons pe_int pa_nil))))
      (pss_cons (ps_if (PW.pt (pw_or (pt_cmpR op_isN (pv 8) pe_non (nomark _)) (pw_or1 (pt_not (pt_chain op_lt op_lt pe_int (pv 8) pe_int)))))
      (pss_one (ps_ret pe_bl))
      pss_nil)
      (pss_cons (ps_expr (pe_bm PySem.F.plainAttrs_list PySem.F.slot_list_extend PySem.F.type_list_extend mt_extend (pv 0) (pa_cons (pe_op op_cat (pe_op op_rep (pe_lst (pa_cons (pe_tup (pa_cons pe_str (pa_cons (pv 8) pa_nil))) pa_nil)) (pe_op op_add (pe_op op_mulW (pe_op op_mulW (pv 8) (pe_callB (call_lenK K) rfl (free_len D) PySem.boot_len (pa_cons (pe_ix (ix_tupK K) (pv 1) pe_int (fun _ _ => rfl)) pa_nil))) (pe_callB (call_lenK K) rfl (free_len D) PySem.boot_len (pa_cons (pe_ix (ix_listK K) (pe_ix (ix_tupK K) (pv 1) pe_int (fun _ _ => rfl)) pe_int (fun _ _ => rfl)) pa_nil))) pe_int)) (pe_op op_rep (pe_lst (pa_cons (pe_tup (pa_cons pe_str (pa_cons (pv 2) pa_nil))) pa_nil)) (pv 8))) pa_nil)))
      (pss_one (ps_ret pe_bl)))))))))), ?_⟩
    obtain ⟨am, xm, ym, rfl, hm, rx, ry⟩ := id rm
    obtain ⟨ay, mys, ey, hy, y2⟩ := id ry
    subst ey
    obtain ⟨u0, hu0, ru0⟩ := y2.get' (gl_lt (l := A.2) (i := 0) (by omega))
    obtain ⟨aw, rfl, haw⟩ := iL_strs rw1
    obtain ⟨ut, o, hut, hgo, rto, a2'⟩ := last_at a2 hne
    obtain ⟨t, rfl, hto⟩ := rto
    have lys := a2.len
    (try dsimp only)
    -- top
    refine seq_cut (fun σ' H1 => σ' = [some (.ref s1), some (.ref am), some (.int (size : Int)), some (.ref aw), some (.ref t), none, none, none, none] ∧ Gr [s1] I H I H1 ∧ H1 s1 = some (.lst ys.dropLast)) (fun nx q => ?_) ?_
    · exact ⟨_, rfl, .inl ⟨rfl, _, SqL.of hs⟩, s1, ys, _, rfl, rfl, hs, hut, q _ _ ⟨rfl, Gr.mut s0 hI List.mem_cons_self, upd_same⟩⟩
    rintro σ' H1 ⟨rfl, g1, hs1⟩
    (try dsimp only)
    have hm1 := g1.ih _ _ hm
    have hy1 := g1.ih _ _ hy
    have haw1 := g1.ih _ _ haw
    have ldl : ys.dropLast.length ≤ 10000 := by rw [List.length_dropLast]; omega
    have ns : ∀ (x y : Str), x ≠ y → decide (V.str x = V.str y) = false := fun x y h => decide_eq_false fun z => by injection z with z; exact h z
    have n1 : ("head" : Str) ≠ "row" ∧ ("pairs" : Str) ≠ "row" ∧ ("head" : Str) ≠ "pairs" := by decide +kernel
    cases o with
    | row n =>
      have hto : I t = some (.tup [.str "row", .int (n : Int)]) := hto
      have hto1 := g1.ih _ _ hto
      refine ⟨_, rfl, _, _, _, _, rfl, rfl, SqT.of hto1, at_of (j := 0) rfl rfl, rfl, _, rfl, ifT (decide_eq_true rfl) ?_⟩
      have eS : stB size bs as stk ws = if none ∉ ws.map ratioOf ∧ ws.length = n then some stk.dropLast else none := by unfold stB; rw [hgo]
      refine seq_cut (fun σ' H2 => ∃ (I2 : Hp) (r : Addr) (zs : List V), σ' = [some (.ref s1), some (.ref am), some (.int (size : Int)), some (.ref aw), some (.ref t), some (.ref r), none, none, none] ∧ Gr [s1] I H I2 H2 ∧ H2 s1 = some (.lst ys.dropLast) ∧ Same I I2 ∧ I2 r = some (.lst zs) ∧ All2 (iOQ I2) zs (ws.map ratioOf)) (fun nx q => ?_) ?_
      · refine ⟨_, rfl, aw, rfl, ⟨_, SqL.of haw1⟩, fun l hD => ?_⟩
        refine lc_map (R := iS) (Sy := iOQ) ratioOf (wk_list haw) (All2.ofStrs ws) g1.ih hD (lt_line (by omega)) (fun j z I2 H2 Nx Qk hj rz s2 s3 kk => ?_) (fun I2 H2 g2 r2 => ?_)
        · have hz := hwz z (List.mem_of_getElem? hj)
          refine ⟨rfl, _, rfl, I2, z, ?_, s3, line_of (by omega), by omega, fun I9 H9 v9 g9 r9 => kk _ _ _ g9 r9⟩
          rw [show gv (ws.map V.str) j = V.str z from rz]
          rfl
        · obtain ⟨b, zs, eb, hb, b2⟩ := r2
          cases eb
          exact q _ _ ⟨I2, l, zs, rfl, g1.trans g2.nil, g2.at hs1 (by simp), g2.ii, hb, b2⟩
      rintro σ' H2 ⟨I2, r, zs, rfl, g2, hs2, si, hr2, z2⟩
      have kk := k I2 H2 _ g2 hs2
      rw [eS] at kk
      have hrH := g2.ih _ _ hr2
      obtain ⟨p1, p2⟩ := plain_row (ws.map ratioOf)
      have lz := z2.len
      rw [List.length_map] at lz
      refine ⟨_, rfl, notInD_of (a := .non) (ds := (ws.map ratioOf).map daO) rfl (by simp only [dR]; exact ⟨r, zs, rfl, hrH, dR_row (z2.up g2.ih)⟩) rfl (by simpa only [Tk.plain] using p1) (by decide) (by simp only [dep]; omega) ⟨_, rfl, ?_⟩⟩
      rw [any_none]
      by_cases c1 : none ∈ ws.map ratioOf
      · rw [if_neg (fun z => z.1 c1)] at kk
        rw [decide_eq_true c1]
        exact iteF kk
      · rw [decide_eq_false c1]
        refine iteT ⟨_, rfl, _, ws.length, rfl, .inl ⟨_, SqL.of hrH, lz.symm⟩, _, rfl, _, _, _, _, rfl, rfl, SqT.of (g2.ih _ _ (si _ _ hto)), at_of (j := 1) rfl rfl, rfl, ?_⟩
        by_cases c2 : ws.length = n
        · rw [if_pos ⟨c1, c2⟩] at kk
          rw [decide_eq_true (by rw [c2])]
          exact kk (a2'.up si)
        · rw [if_neg (fun z => c2 z.2)] at kk
          rw [decide_eq_false (fun z => c2 (by injection z with z; omega))]
          exact kk
    | pairs =>
      have hto : I t = some (.tup [.str "pairs"]) := hto
      have hto1 := g1.ih _ _ hto
      refine ⟨_, rfl, _, _, _, _, rfl, rfl, SqT.of hto1, at_of (j := 0) rfl rfl, rfl, _, rfl, ifF (ns _ _ n1.2.1) ?_⟩
      (try unfold tNext)
      (try dsimp only)
      refine ⟨_, rfl, _, _, _, _, rfl, rfl, SqT.of hto1, at_of (j := 0) rfl rfl, rfl, _, rfl, ifT (decide_eq_true rfl) ?_⟩
      refine seq_cut (fun σ' H2 => ∃ (I2 : Hp) (t2 : Addr), σ' = [some (.ref s1), some (.ref am), some (.int (size : Int)), some (.ref aw), some (.ref t), none, none, none, none] ∧ Gr [s1] I H I2 H2 ∧ Same I I2 ∧ H2 s1 = some (.lst (ys.dropLast ++ [.ref t2])) ∧ I2 t2 = some (.tup [.str "pairs"])) (fun nx q => ?_) ?_
      · refine ⟨_, rfl, .inl ⟨rfl, _, SqL.of hs1⟩, (by show 1 ≤ sizeLine; decide), fun t2 ht2 => ?_⟩
        have g2 := Gr.new (ms := []) (o := .tup [.str "pairs"]) g1.ih ht2
        have hs2 := g2.at hs1 (by simp)
        refine ⟨s1, _, _, rfl, rfl, hs2, lt_line (by omega), ?_⟩
        have hI2 := g2.out hI hs1
        exact q _ _ ⟨_, t2, rfl, (g1.trans g2.nil).trans (Gr.mut g2.ih hI2 List.mem_cons_self), g2.ii, upd_same, upd_same⟩
      rintro σ' H2 ⟨I2, t2, rfl, g2, si, hs2, ht2⟩
      (try dsimp only)
      have nI2 : I2 s1 = none := g2.out hI hs
      refine seq_cut (fun σ' H3 => ∃ (I3 : Hp) (r : Addr), σ' = [some (.ref s1), some (.ref am), some (.int (size : Int)), some (.ref aw), some (.ref t), none, none, some (.ref r), none] ∧ Gr [s1] I H I3 H3 ∧ Same I2 I3 ∧ H3 s1 = some (.lst (ys.dropLast ++ [.ref t2])) ∧ I3 r = some (.lst ((ws.map (numOf · 9)).map oInt))) (fun nx q => ?_) ?_
      · refine ⟨_, rfl, aw, rfl, ⟨_, SqL.of (g2.ih _ _ (si _ _ haw))⟩, fun l hD => ?_⟩
        refine lc_map (R := iS) (Sy := iO) (numOf · 9) (wk_list (si _ _ haw)) (All2.ofStrs ws) g2.ih hD (lt_line (by omega)) (fun j z I3 H3 Nx Qk hj rz s2 s3 kk => ?_) (fun I3 H3 g3 r3 => ?_)
        · have hz := hwz z (List.mem_of_getElem? hj)
          refine ⟨rfl, _, rfl, z, 1, ?_, line_of (by omega), by decide, by decide, kk _ _ _ (Gr.refl s3) rfl⟩
          rw [show gv (ws.map V.str) j = V.str z from rz]
          rfl
        · obtain ⟨b, zs, eb, hb, b2⟩ := r3
          cases eb
          rw [all2_oInt b2] at hb
          exact q _ _ ⟨I3, l, rfl, g2.trans g3.nil, g3.ii, g3.at hs2 (by simp), hb⟩
      rintro σ' H3 ⟨I3, r, rfl, g3, s23, hs3, hr3⟩
      (try dsimp only)
      have kk := k I3 H3 _ g3 hs3
      have hrH := g3.ih _ _ hr3
      have hm3 := g3.ih _ _ (s23 _ _ (si _ _ hm))
      have hy3 := g3.ih _ _ (s23 _ _ (si _ _ hy))
      have eS : stB size bs as stk ws = stPairs bs as stk ws := by unfold stB; rw [hgo]
      rw [eS] at kk
      clear eS
      unfold stPairs at kk
      obtain ⟨i1, i2⟩ := inV_none' (ws.map (numOf · 9))
      refine ⟨_, rfl, _, ws.length, rfl, .inl ⟨_, SqL.of hrH, by simp⟩, rfl, _, rfl, ?_⟩
      dsimp only
      by_cases hl : ws.length = 2
      rotate_left
      · refine ifT (by show (!decide (V.int ((ws.length : Nat) : Int) = V.int 2)) = true; rw [decide_eq_false (fun h => by injection h with h; omega)]; rfl) ?_
        match ws, hl with
        | [], _ => exact kk
        | [_], _ => exact kk
        | [_, _], h => exact absurd rfl h
        | _ :: _ :: _ :: _, _ => exact kk
      obtain ⟨x, y, rfl⟩ : ∃ x y, ws = [x, y] := by
        match ws, hl with
        | [x, y], _ => exact ⟨x, y, rfl⟩
      refine ifF (by rfl) ?_
      refine ⟨_, rfl, r, _, rfl, .inl (SqL.of hrH), rfl, i2, _, rfl, ?_⟩
      rw [if_neg (by decide), i1]
      dsimp only at kk
      cases e1 : numOf x 9 with
      | none =>
        rw [e1] at kk
        refine ifT (by simp [e1]) kk
      | some p =>
        cases e2 : numOf y 9 with
        | none =>
          rw [e1, e2] at kk
          refine ifT (by simp [e2]) kk
        | some q =>
          rw [e1, e2] at kk
          dsimp only at kk
          refine ifF (by simp [e1, e2]) ?_
          have hn0 : (([x, y] : List Str).map (numOf · 9)).map oInt = [V.int (p : Int), V.int (q : Int)] := by simp [e1, e2, oInt]
          rw [hn0] at hrH
          (try unfold tNext)
          (try dsimp only)
          refine ⟨_, rfl, _, _, _, _, rfl, rfl, SqL.of hrH, at_of (j := 0) rfl rfl, _, rfl, _, _, _, _, rfl, rfl, SqT.of hm3, at_of (j := 1) rfl rfl, _, A.2.length, rfl, len_of (iA.l (up (si.trans s23) ry)) g3.ih, _, _, rfl, rfl, _, rfl, ?_⟩
          rw [e3]
          by_cases c1 : p < bs
          · rw [decide_eq_true (by omega)]
            refine iteT ⟨_, rfl, _, _, _, _, rfl, rfl, SqL.of hrH, at_of (j := 1) rfl rfl, _, rfl, _, _, _, _, rfl, rfl, SqT.of hm3, at_of (j := 1) rfl rfl, _, _, _, _, rfl, rfl, SqL.of hy3, at_of (j := 0) rfl hu0, _, (gl A.2 0).length, rfl, len_of (iA.l (up (si.trans s23) ru0)) g3.ih, _, _, rfl, rfl, ?_⟩
            rw [e4]
            show Q (V.bl (decide ((q : Int) < (as : Int)))) H3
            by_cases c2 : q < as
            · rw [if_pos ⟨c1, c2⟩] at kk
              rw [decide_eq_true (by omega)]
              exact kk ((a2'.up (si.trans s23)).snoc ⟨t2, rfl, s23 _ _ ht2⟩)
            · rw [if_neg (fun z => c2 z.2)] at kk
              rw [decide_eq_false (by omega)]
              exact kk
          · rw [if_neg (fun z => c1 z.1)] at kk
            rw [decide_eq_false (by omega)]
            exact iteF kk
    | hed =>
      have hto : I t = some (.tup [.str "head"]) := hto
      have hto1 := g1.ih _ _ hto
      refine ⟨_, rfl, _, _, _, _, rfl, rfl, SqT.of hto1, at_of (j := 0) rfl rfl, rfl, _, rfl, ifF (ns _ _ n1.1) ?_⟩
      (try unfold tNext)
      (try dsimp only)
      refine ⟨_, rfl, _, _, _, _, rfl, rfl, SqT.of hto1, at_of (j := 0) rfl rfl, rfl, _, rfl, ifF (ns _ _ n1.2.2) ?_⟩
      (try unfold tNext)
      (try dsimp only)
      have eS : stB size bs as stk ws = stHed size bs as stk ws := by unfold stB; rw [hgo]
      refine ⟨_, rfl, (by show 1 ≤ sizeLine; decide), fun l1 hl1 => ?_⟩
      have g2 := Gr.new (ms := [s1]) (o := .lst ([("apart" : Str)].map V.str)) g1.ih hl1
      have G2 := g1.trans g2
      have hs2 : upd H1 l1 (.lst ([("apart" : Str)].map V.str)) s1 = some (.lst ys.dropLast) := by
        rw [upd_ne (ne_of_none hs1 hl1)]; exact hs1
      obtain ⟨p1, p2, p3⟩ := dR_strs (G2.ih _ _ (G2.ii _ _ haw)) fun z hz => (hwz z hz).2
      obtain ⟨q1, q2, q3⟩ := dR_strs (H := upd H1 l1 (.lst ([("apart" : Str)].map V.str))) (a := l1) (ws := [("apart" : Str)]) upd_same fun z hz => by rw [List.mem_singleton.mp hz]; decide +kernel
      refine eqD_of p1 q1 p2 q2 (by omega) (by omega) ⟨_, rfl, ?_⟩
      (try dsimp only)
      by_cases ca : ws = [("apart" : Str)]
      · refine ifT (by rw [ca]; exact (eqd_iff _ _).mpr rfl) ?_
        refine ⟨_, rfl, .inl ⟨rfl, _, SqL.of hs2⟩, (by show 1 ≤ sizeLine; decide), fun t2 ht2 => ?_⟩
        have g3 := Gr.new (ms := []) (o := .tup [.str "pairs"]) G2.ih ht2
        have hs3 := g3.at hs2 (by simp)
        refine ⟨s1, _, _, rfl, rfl, hs3, lt_line (by omega), ?_⟩
        have hI3 := g3.out (G2.out hI hs) hs2
        have g4 := (G2.trans g3.nil).trans (Gr.mut (o := .lst (ys.dropLast ++ [.ref t2])) g3.ih hI3 List.mem_cons_self)
        have kk := k _ _ _ g4 upd_same
        rw [eS] at kk
        unfold stHed at kk
        rw [if_pos ca] at kk
        exact kk ((a2'.up (G2.ii.trans g3.ii)).snoc ⟨t2, rfl, upd_same⟩)
      refine ifF (by
        cases q : eqd (.lst (ws.map Da.str)) (.lst ([("apart" : Str)].map Da.str)) with
        | false => rfl
        | true =>
          have h := (eqd_iff _ _).mp q
          injection h with h
          exact absurd (da_strs h) ca) ?_
      (try unfold tNext)
      (try dsimp only)
      have eS2 : stB size bs as stk ws = stSame size bs as stk ws := by rw [eS]; unfold stHed; rw [if_neg ca]
      have kk := k _ _ _ G2 hs2
      have haw2 := G2.ih _ _ (G2.ii _ _ haw)
      rw [eS2] at kk
      clear eS eS2 p1 p2 p3 q1 q2 q3
      unfold stSame at kk
      refine ⟨_, rfl, _, ws.length, rfl, .inl ⟨_, SqL.of haw2, by rw [List.length_map]⟩, rfl, _, rfl, ?_⟩
      dsimp only
      by_cases hl : ws.length = 2
      rotate_left
      · refine ifT (by show (!decide (V.int ((ws.length : Nat) : Int) = V.int 2)) = true; rw [decide_eq_false (fun h => by injection h with h; omega)]; rfl) ?_
        match ws, hl with
        | [], _ => exact kk
        | [_], _ => exact kk
        | [_, _], h => exact absurd rfl h
        | _ :: _ :: _ :: _, _ => exact kk
      obtain ⟨x, y, rfl⟩ : ∃ x y, ws = [x, y] := by
        match ws, hl with
        | [x, y], _ => exact ⟨x, y, rfl⟩
      dsimp only at kk
      refine ifF (by rfl) ?_
      refine ⟨_, rfl, _, _, _, _, rfl, rfl, SqL.of haw2, at_of (j := 0) rfl rfl, rfl, _, rfl, ?_⟩
      dsimp only
      by_cases c1 : x = ("same" : Str)
      rotate_left
      · refine ifT (by rw [decide_eq_false (fun h => by injection h with h; exact c1 h)]; rfl) ?_
        rw [if_neg c1] at kk
        exact kk
      rw [if_pos c1] at kk
      refine ifF (by rw [decide_eq_true (by rw [c1])]; rfl) ?_
      (try unfold tNext)
      (try dsimp only)
      have hy2 := (hwz y (by simp)).1
      refine seq_cut (fun σ' H3 => H3 = upd H1 l1 (.lst ([("apart" : Str)].map V.str)) ∧ σ' = [some (.ref s1), some (.ref am), some (.int (size : Int)), some (.ref aw), some (.ref t), none, none, none, some (oInt (numOf y 99))]) (fun nx q => ?_) ?_
      · exact ⟨_, rfl, _, _, _, _, rfl, rfl, SqL.of haw2, at_of (j := 1) rfl rfl, y, 2, rfl, line_of (by omega), by decide, by decide, q _ _ ⟨rfl, rfl⟩⟩
      rintro σ' H3 ⟨rfl, rfl⟩
      (try dsimp only)
      cases em : numOf y 99 with
      | none =>
        rw [em] at kk
        exact ⟨_, rfl, rfl, _, rfl, iteT kk⟩
      | some m =>
        have eC : stCnt size bs as stk (numOf y 99) = if 0 < m ∧ m < 25 then some (stk.dropLast ++ (List.replicate (m * bs * as + 1) (Op.row m) ++ List.replicate m (Op.row size))) else none := by rw [em]; rfl
        refine ⟨_, rfl, rfl, _, rfl, iteF ?_⟩
        have kN : ¬ (0 < m ∧ m < 25) → Q (.bl false) (upd H1 l1 (.lst ([("apart" : Str)].map V.str))) := fun c => by
          rw [eC, if_neg c] at kk
          exact kk
        refine ⟨_, rfl, _, _, rfl, rfl, _, rfl, ?_⟩
        refine ifD (fun c0 => ⟨_, _, rfl, rfl, _, rfl, ?_⟩) (fun c0 => ?_)
        rotate_left
        · exact ⟨_, rfl, kN (fun z => by omega)⟩
        by_cases c9 : m < 25
        rotate_left
        · rw [decide_eq_false (by omega)]
          exact kN (fun z => c9 z.2)
        rw [decide_eq_true (by omega)]
        have cm : 0 < m ∧ m < 25 := ⟨by omega, c9⟩
        rw [eC, if_pos cm] at kk
        refine iteF ?_
        (try unfold tNext)
        (try dsimp only)
        have mb1 : m * bs ≤ 24 * 4 := Nat.mul_le_mul (by omega) b1
        have mb2 : m * bs * as ≤ 24 * 4 * 4 := Nat.mul_le_mul mb1 a1
        have eM : (m : Int) * (bs : Int) = ((m * bs : Nat) : Int) := by rw [Int.natCast_mul]
        have eMM : (m : Int) * (bs : Int) * (as : Int) = ((m * bs * as : Nat) : Int) := by rw [Int.natCast_mul, Int.natCast_mul]
        have eK : (m : Int) * (bs : Int) * (as : Int) + 1 = ((m * bs * as + 1 : Nat) : Int) := by rw [eMM]; omega
        refine ⟨_, rfl, .inl ⟨rfl, _, SqL.of hs2⟩, _, rfl, (by show 2 ≤ sizeLine; decide), fun t1 ht1 => ?_⟩
        have g3 := Gr.new (ms := []) (o := .tup [.str "row", .int (m : Int)]) G2.ih ht1
        refine ⟨(by show 1 ≤ sizeLine; decide), fun l2 hl2 => ?_⟩
        have g4 := Gr.new (ms := []) (o := .lst [.ref t1]) g3.ih hl2
        have G4 := g3.trans g4
        have S4 := G2.ii.trans G4.ii
        have hm4 := G4.ih _ _ (S4 _ _ hm)
        have hy4 := G4.ih _ _ (S4 _ _ hy)
        refine ⟨_, rfl, _, rfl, _, _, _, _, rfl, rfl, SqT.of hm4, at_of (j := 1) rfl rfl, _, A.2.length, rfl, len_of (iA.l (up S4 ry)) G4.ih, ?_⟩
        rw [e3]
        refine ⟨_, _, rfl, rfl, mulw (by omega) (by omega), _, rfl, _, _, _, _, rfl, rfl, SqT.of hm4, at_of (j := 1) rfl rfl, _, _, _, _, rfl, rfl, SqL.of hy4, at_of (j := 0) rfl hu0, _, (gl A.2 0).length, rfl, len_of (iA.l (up S4 ru0)) G4.ih, ?_⟩
        rw [e4]
        refine ⟨_, _, rfl, rfl, (by show CMulW ((m : Int) * (bs : Int)) (as : Int); rw [eM]; exact mulw (by omega) (by omega)), _, _, rfl, rfl, ?_⟩
        refine ⟨l2, ((m * bs * as + 1 : Nat) : Int), _, rfl, (show V.int ((m : Int) * (bs : Int) * (as : Int) + 1) = _ from by rw [eK]), upd_same, by omega, by omega, ?_, fun l5 hl5 => ?_⟩
        · rw [Int.toNat_natCast]; exact Nat.le_of_lt (lt_line (by simp; omega))
        rw [Int.toNat_natCast]
        have g5 := Gr.new (ms := []) (o := .lst (List.replicate (m * bs * as + 1) [V.ref t1]).flatten) G4.ih hl5
        refine ⟨_, rfl, (by show 2 ≤ sizeLine; decide), fun t6 ht6 => ?_⟩
        have g6 := Gr.new (ms := []) (o := .tup [.str "row", .int (size : Int)]) g5.ih ht6
        refine ⟨(by show 1 ≤ sizeLine; decide), fun l7 hl7 => ?_⟩
        have g7 := Gr.new (ms := []) (o := .lst [.ref t6]) g6.ih hl7
        refine ⟨_, rfl, l7, (m : Int), _, rfl, rfl, upd_same, by omega, by omega, ?_, fun l8 hl8 => ?_⟩
        · rw [Int.toNat_natCast]; exact Nat.le_of_lt (lt_line (by simp; omega))
        rw [Int.toNat_natCast]
        have g8 := Gr.new (ms := []) (o := .lst (List.replicate m [V.ref t6]).flatten) g7.ih hl8
        refine catV_of g8.ih (g8.ii _ _ (g7.ii _ _ (g6.ii _ _ upd_same))) upd_same (by simp; omega) fun I9 H9 c9 g9 h9 => ?_
        have G9 := ((G4.trans g5).trans g6).trans ((g7.trans g8).trans g9)
        have hs9 := G9.at hs2 (by simp)
        have hI9 := G9.out (G2.out hI hs) hs2
        refine ⟨s1, c9, _, _, rfl, rfl, hs9, g9.ih _ _ h9, line_of (by simp; omega), ?_⟩
        have gf := (G2.trans G9.nil).trans (Gr.mut (ms := [s1]) (o := .lst (ys.dropLast ++ ((List.replicate (m * bs * as + 1) [V.ref t1]).flatten ++ (List.replicate m [V.ref t6]).flatten))) G9.ih hI9 List.mem_cons_self)
        have kf := k _ _ _ gf upd_same
        have eF : stB size bs as stk [x, y] = some (stk.dropLast ++ (List.replicate (m * bs * as + 1) (Op.row m) ++ List.replicate m (Op.row size))) := by
          have e0 : stB size bs as stk [x, y] = stHed size bs as stk [x, y] := by unfold stB; rw [hgo]
          rw [e0]
          unfold stHed stSame
          rw [if_neg ca]
          dsimp only
          rw [if_pos c1, eC, if_pos cm]
        rw [eF] at kf
        refine kf ((a2'.up (G2.ii.trans G9.ii)).append ((all2_rep (R := iIt I9) (v := V.ref t1) (x := Op.row m) ⟨t1, rfl, ?_⟩ _).append (all2_rep (R := iIt I9) (v := V.ref t6) (x := Op.row size) ⟨t6, rfl, ?_⟩ _)))
        · exact g9.ii _ _ (g8.ii _ _ (g7.ii _ _ (g6.ii _ _ (g5.ii _ _ (g4.ii _ _ upd_same)))))
        · exact g9.ii _ _ (g8.ii _ _ (g7.ii _ _ upd_same))
end
end K

set_option Elab.async false
set_option linter.all false
set_option maxRecDepth 100000
set_option maxHeartbeats 4000000
set_option exponentiation.threshold 5000
namespace K
open PySem PySem.Spec PyProof.Rows L2 Tk Hd Rd Mt TL
section
variable {P : Program} {w : World} {K : PySem.W.Frag} {mg : Str → Option Value} {base : Heap}
structure LP (l : Str) : Prop where
  len : l.length + 2 ≤ sizeLine
  wl : (Txt.split l " ").length ≤ 1000
  wz : ∀ z ∈ Txt.split l " ", z.length ≤ 50000 ∧ PyData.strOk z = true
  str : PyData.strOk l = true
def Sk (stk : List Op) : Prop := stk = [.hed] ∨ (Op.hed ∉ stk ∧ stk.length ≤ 500)
theorem Sk.len {stk : List Op} (h : Sk stk) : stk.length ≤ 500 := by
  rcases h with rfl | ⟨_, h⟩
  · decide
  · exact h
theorem sk_drop {stk : List Op} (h : Sk stk) : Op.hed ∉ stk.dropLast ∧ stk.dropLast.length ≤ 499 := by
  rcases h with rfl | ⟨h1, h2⟩
  · exact ⟨by simp, by simp⟩
  · exact ⟨fun y => h1 (List.dropLast_subset _ y), by rw [List.length_dropLast]; omega⟩
theorem sk_step {size bs as : Nat} {stk stk' : List Op} {ws : List Str} (b1 : bs ≤ 4) (a1 : as ≤ 4) (h : Sk stk) (e : stB size bs as stk ws = some stk') : Sk stk' := by
  obtain ⟨d1, d2⟩ := sk_drop h
  have dp : Sk (stk.dropLast ++ [.pairs]) := .inr ⟨by simp [d1], by simp only [List.length_append, List.length_cons, List.length_nil]; omega⟩
  unfold stB at e
  cases hg : stk.getLast? with
  | none => rw [hg] at e; cases e
  | some o =>
    rw [hg] at e
    cases o with
    | row n =>
      dsimp only at e
      split at e
      · injection e with e; subst e; exact .inr ⟨d1, by omega⟩
      · cases e
    | pairs =>
      dsimp only at e
      unfold stPairs at e
      split at e
      · split at e
        · split at e
          · injection e with e; subst e; exact dp
          · cases e
        · cases e
      · cases e
    | hed =>
      dsimp only at e
      unfold stHed at e
      split at e
      · injection e with e; subst e; exact dp
      · unfold stSame at e
        split at e
        · split at e
          · unfold stCnt at e
            split at e
            · rename_i m _
              split at e
              · rename_i c
                injection e with e; subst e
                have hs : stk.dropLast = [] := by
                  rcases h with rfl | ⟨h1, _⟩
                  · rfl
                  · exact absurd (List.mem_of_getLast? hg) h1
                rw [hs, List.nil_append]
                have m1 : m * bs ≤ 24 * 4 := Nat.mul_le_mul (by omega) b1
                have m2 : m * bs * as ≤ 24 * 4 * 4 := Nat.mul_le_mul m1 a1
                exact .inr ⟨by simp, by simp; omega⟩
              · cases e
            · cases e
          · cases e
        · cases e
theorem run_cons {size bs as k : Nat} {stk : List Op} {l : Str} {ls : List Str} (h : stk ≠ []) : runB size bs as stk k (l :: ls) = match stB size bs as stk (Txt.split l " ") with
    | none => some k
    | some stk' => runB size bs as stk' (k + 1) ls := by
  rw [runB, if_neg h]
  (try (cases stB size bs as stk (Txt.split l " ") <;> rfl))
theorem run_stop {size bs as k : Nat} {l : Str} {ls : List Str} : runB size bs as [] k (l :: ls) = some k := by
  rw [runB, if_pos rfl]
def daP : Op → Da
  | .hed => .tup [.str "head"]
  | .pairs => .tup [.str "pairs"]
  | .row n => .tup [.str "row", .int (n : Int)]
def tuP : Op → List V
  | .hed => [.str "head"]
  | .pairs => [.str "pairs"]
  | .row n => [.str "row", .int (n : Int)]
theorem op_at {I : Hp} {b : Addr} {o : Op} (h : match o with
    | Op.hed => I b = some (.tup [.str "head"])
    | Op.pairs => I b = some (.tup [.str "pairs"])
    | Op.row n => I b = some (.tup [.str "row", .int (n : Int)])) : I b = some (.tup (tuP o)) := by
  cases o <;> exact h
theorem dR_op {H : Hp} {b : Addr} {o : Op} (h : H b = some (.tup (tuP o))) : dR H (.ref b) (daP o) := by
  cases o with
  | hed => simp only [daP, dR, dRs]; exact ⟨b, _, rfl, h, _, _, rfl, rfl, rfl⟩
  | pairs => simp only [daP, dR, dRs]; exact ⟨b, _, rfl, h, _, _, rfl, rfl, rfl⟩
  | row n => simp only [daP, dR, dRs]; exact ⟨b, _, rfl, h, _, _, rfl, rfl, _, _, rfl, rfl, rfl⟩
theorem plain_op : ∀ o : Op, Tk.plain (daP o) = true
  | .hed => by decide +kernel
  | .pairs => by decide +kernel
  | .row n => by
    have e : PyData.strOk ("row" : Str) = true := by decide +kernel
    simp [daP, Tk.plain, plains, e]
theorem dep_op : ∀ o : Op, dep (daP o) ≤ 64
  | .hed => by decide
  | .pairs => by decide
  | .row _ => by simp [daP, dep, deps]
theorem eqd_op {o : Op} (h : o ≠ .pairs) : eqd (daP o) (daP .pairs) = false := by
  cases e : eqd (daP o) (daP .pairs) with
  | false => rfl
  | true =>
    have e2 := (eqd_iff _ _).mp e
    cases o with
    | hed => simp only [daP] at e2; injection e2 with e2; injection e2 with e2; injection e2 with e2; exact absurd e2 (by decide +kernel)
    | pairs => exact absurd rfl h
    | row n => simp only [daP] at e2; injection e2 with e2; injection e2 with _ e2; cases e2
def spBad : Sp := fun vs H Q _ => ∃ (I : Hp) (v vo : V) (A : Ma) (lines : List Str) (size bs as : Nat), vs = [v, vo, .int (size : Int)] ∧ Same I H ∧ iL iS I v lines ∧ lines.length ≤ 1000 ∧ (∀ l ∈ lines, LP l) ∧
  iLM I vo A ∧ A.2.length = bs ∧ (gl A.2 0).length = as ∧ 0 < bs ∧ bs ≤ 4 ∧ 0 < as ∧ as ≤ 4 ∧ ∀ I' H', Gr [] I H I' H' → Q (oInt (runB size bs as [.hed] 0 lines)) H'
theorem sc__law_bad : FnScope ["lines", "one", "size", "stack", "at"] ["lines", "one", "size"] (defScope s__law_bad) := ⟨rfl, rfl, rfl, by decide +kernel, rfl, by decide +kernel, by decide +kernel⟩
theorem ok_lbad (D : Dt K mg) : Has P w K mg base 6 (He.ga K "_law_bad") ["lines", "one", "size"] [] (spBad) := by
  obtain ⟨fd, F⟩ := fd__law_bad D
  have H__law_opens := ok_opens (P := P) (w := w) (base := base) D
  refine hasN F (F.bindsN fun _ _ _ _ _ _ us hl => match us, hl with | [_, _, _], _ => rfl) sc__law_bad (fun vs H Q E h => ?_) (fun cdv A outer s H vs Q E hr h => ?_)
  · obtain ⟨I, v, vo, A, lines, size, bs, as, rfl, _⟩ := h; rfl
  · obtain ⟨I, v, vo, A, lines, size, bs, as, rfl, s0, rv, hl, lp, rm, e3, e4, b0, b1, a0, a1, k⟩ := h
    refine ⟨_, (pss_cons (ps_set (i := 3) sc__law_bad.nd rfl (Or.inl rfl) (pe_lst (pa_cons (pe_tup (pa_cons pe_str pa_nil)) pa_nil)))
      (pss_cons (ps_for PassesOwn.never rfl (pi_range1 rfl (free_range D) (pa_cons (pe_callB (call_lenK K) rfl (free_len D) PySem.boot_len (pa_cons (pv 0) pa_nil)) pa_nil)) (pg_name (i := 4) sc__law_bad.nd rfl (Or.inl rfl))
      (pss_one (ps_if (PW.pt (pw_or (pt_cmpR op_eq (pe_callB (call_lenK K) rfl (free_len D) PySem.boot_len (pa_cons (pv 3) pa_nil)) pe_int (nomark _)) (pw_or1 (pt_not (pt_val (pe_callH H__law_opens (hr.mono (by omega)) rfl (glo__law_opens D) passL (pa_cons (pv 3) (pa_cons (pv 1) (pa_cons (pv 2) (pa_cons (pe_bm PySem.F.plainAttrs_str PySem.F.slot_str_split PySem.F.type_str_split mt_split (pe_ix (ix_listK K) (pv 0) (pv 4) (fun _ _ => rfl)) (pa_cons pe_str pa_nil)) pa_nil))))))))))
      (pss_one (ps_ret (pv 4)))
      pss_nil)))
      (pss_cons (ps_if (PW.pt (pw_and (pt_cmpR op_gt (pe_callB (call_lenK K) rfl (free_len D) PySem.boot_len (pa_cons (pv 3) pa_nil)) pe_int (nomark _)) (pw_and1 (pt_cmpR (op_neDK K hr.units) (pe_ix (ix_listK K) (pv 3) pe_int (fun _ _ => rfl)) (pe_tup (pa_cons pe_str pa_nil)) (nomark _)))))
      (pss_one (ps_ret (pe_callB (call_lenK K) rfl (free_len D) PySem.boot_len (pa_cons (pv 0) pa_nil))))
      pss_nil)
      (pss_one (ps_ret pe_non))))), ?_⟩
    obtain ⟨a, rfl, ha⟩ := iL_strs rv
    refine seq_cut (fun σ' H2 => ∃ (I1 H1 : Hp) (t s : Addr), σ' = [some (.ref a), some vo, some (.int (size : Int)), some (.ref s), none] ∧ Gr [] I H I1 H1 ∧ H1 s = none ∧ I1 t = some (.tup [.str "head"]) ∧ H2 = upd H1 s (.lst [.ref t])) (fun nx q => ?_) ?_
    · refine ⟨(by show 1 ≤ sizeLine; decide), fun t ht => ?_⟩
      have g1 := Gr.new (ms := []) (o := .tup [.str "head"]) s0 ht
      exact ⟨(by show 1 ≤ sizeLine; decide), fun s hs => q _ _ ⟨_, _, t, s, rfl, g1, hs, upd_same, rfl⟩⟩
    rintro σ' H2 ⟨I1, H1, t, s, rfl, g1, hs, ht, rfl⟩
    (try dsimp only)
    have hI1 := g1.ih.free hs
    have hsH := g1.none hs
    have S2 : Same I1 (upd H1 s (.lst [.ref t])) := g1.ih.trans (sNew hs)
    have G1 : Gr [s] I H I1 (upd H1 s (.lst [.ref t])) := g1.nil.trans (Gr.tmp g1.ih hs)
    have ha1 := g1.ii _ _ ha
    have rm1 := up g1.ii rm
    have done : ∀ {o : Option Nat} {I' H'}, runB size bs as [.hed] 0 lines = o → Gr [s] I H I' H' → Q (oInt o) H' := fun {o I' H'} e g => by
      have := k I' H' (g.drop hsH)
      rw [e] at this; exact this
    refine seq_cut (fun σ' H3 => ∃ (I3 : Hp) (ys : List V) (stk : List Op) (v4 : Option V), σ' = [some (.ref a), some vo, some (.int (size : Int)), some (.ref s), v4] ∧ Gr [s] I H I3 H3 ∧ H3 s = some (.lst ys) ∧ All2 (iIt I3) ys stk ∧ runB size bs as stk lines.length [] = runB size bs as [.hed] 0 lines) (fun nx q => ?_) ?_
    · refine ⟨_, rfl, _, lines.length, rfl, .inl ⟨_, SqL.of (S2 _ _ ha1), by rw [List.length_map]⟩, _, rfl, by omega, by omega, ?_⟩
      rw [Int.toNat_natCast]
      refine for_wk (D := { nx := nx, rt := Q }) (wk_range (I := I1))
        (fun σ' H3 => ∃ (I3 : Hp) (ys : List V) (stk : List Op) (v4 : Option V), σ' = [some (.ref a), some vo, some (.int (size : Int)), some (.ref s), v4] ∧ Gr [s] I H I3 H3 ∧ H3 s = some (.lst ys) ∧ All2 (iIt I3) ys stk ∧ runB size bs as stk lines.length [] = runB size bs as [.hed] 0 lines)
        (fun i σ' H3 => ∃ (I3 : Hp) (ys : List V) (stk : List Op) (v4 : Option V), σ' = [some (.ref a), some vo, some (.int (size : Int)), some (.ref s), v4] ∧ Gr [s] I H I3 H3 ∧ Same I1 I3 ∧ I3 s = none ∧ H3 s = some (.lst ys) ∧ All2 (iIt I3) ys stk ∧ Sk stk ∧ runB size bs as stk i (lines.drop i) = runB size bs as [.hed] 0 lines)
        (fun i σ' H' h => by obtain ⟨I4, _, _, _, _, gr, s1, _⟩ := h; exact s1.trans gr.ih)
        ⟨I1, _, [.hed], none, rfl, G1, Same.refl _, hI1, upd_same, .cons ⟨t, rfl, ht⟩ .nil, .inl rfl, rfl⟩ (fun nx qn i σ' H' hi h => ?_) (fun σ' H' h => ?_) ?_
      rotate_left
      · obtain ⟨I3, ys, stk, v4, rfl, g3, s3, hI3, hs3, a3, sk, er⟩ := h
        rw [List.drop_length] at er
        exact ⟨I3, ys, stk, v4, rfl, g3, hs3, a3, er⟩
      · exact fun σ' H' h => q σ' H' h
      obtain ⟨I3, ys, stk, v4, rfl, g3, s3, hI3, hs3, a3, sk, er⟩ := h
      have hli : lines[i]? = some lines[i] := List.getElem?_eq_getElem hi
      have lpx := lp _ (List.getElem_mem hi)
      rw [List.drop_eq_getElem_cons hi] at er
      generalize lines[i] = lx at hli lpx er
      have hx : (lines.map V.str)[i]? = some (.str lx) := by rw [List.getElem?_map, hli]; rfl
      have ha3 := g3.ih _ _ (g3.ii _ _ ha)
      rw [Int.zero_add]
      refine gName_of ?_
      (try dsimp only)
      have lys := a3.len
      have sl := sk.len
      refine ⟨_, rfl, _, _, rfl, .inl ⟨_, SqL.of hs3, rfl⟩, rfl, _, rfl, ifD (fun c => ?_) (fun c => ?_)⟩
      · have c : ((ys.length : Nat) : Int) = 0 := by simpa using c
        have e0 : stk = [] := List.eq_nil_of_length_eq_zero (by omega)
        subst e0
        rw [run_stop] at er
        exact ⟨_, rfl, done er.symm g3⟩
      have hne : stk ≠ [] := fun y => c (by rw [y] at lys; rw [lys]; rfl)
      rw [run_cons hne] at er
      refine ⟨_, rfl, _, rfl, _, rfl, _, rfl, _, rfl, _, _, _, _, rfl, rfl, SqL.of ha3, at_of (j := i) rfl hx, rfl, lx, " ", rfl, rfl, by decide +kernel, lpx.len, fun p hp => ?_⟩
      have g4 := Gr.new (ms := [s]) (o := .lst ((Txt.split lx " ").map V.str)) g3.ih hp
      refine ⟨_, s, vo, .ref p, A, size, bs, as, ys, stk, Txt.split lx " ", rfl, g4.ih, g4.out hI3 hs3, sNew hp _ _ hs3 , a3.up g4.ii, hne, by omega, up (s3.trans g4.ii) rm1, e3, e4, b0, b1, a0, a1, strs_iL upd_same, lpx.wl, lpx.wz, fun I5 H5 ys5 g5 hs5 => ?_⟩
      have G5 := g4.trans g5
      cases hst : stB size bs as stk (Txt.split lx " ") with
      | none =>
        rw [hst] at er
        exact ⟨_, rfl, iteT ⟨_, rfl, done er.symm (g3.trans G5)⟩⟩
      | some stk' =>
        rw [hst] at er
        intro a5
        refine ⟨_, rfl, iteF ?_⟩
        exact ⟨I5, ys5, stk', _, rfl, g3.trans G5, s3.trans G5.ii, G5.out hI3 hs3, hs5, a5, sk_step b1 a1 sk hst, er⟩
    rintro σ' H3 ⟨I3, ys, stk, v4, rfl, g3, hs3, a3, er⟩
    (try dsimp only)
    have lys := a3.len
    have ha3 := g3.ih _ _ (g3.ii _ _ ha)
    refine ⟨_, rfl, _, _, rfl, .inl ⟨_, SqL.of hs3, rfl⟩, _, _, rfl, rfl, _, rfl, ?_⟩
    cases a3 with
    | nil =>
      refine iteF (iteF ?_)
      have e2 : runB size bs as [.hed] 0 lines = none := by rw [← er]; simp [runB]
      exact done e2 g3
    | cons h3 t3 =>
      rename_i u o _ _
      refine ifT (decide_eq_true (by simp only [List.length_cons]; omega)) ?_
      obtain ⟨b, rfl, hb⟩ := id h3
      refine ⟨_, rfl, _, _, _, _, rfl, rfl, SqL.of hs3, at_of (j := 0) rfl rfl, (by show 1 ≤ sizeLine; decide), fun p hp => ?_⟩
      have q1 := dR_op (sNew (o := .tup [.str "pairs"]) hp _ _ (g3.ih _ _ (op_at hb)))
      have g4 := Gr.new (ms := [s]) (o := .tup [.str "pairs"]) g3.ih hp
      refine neD_of q1 (dR_op (o := .pairs) upd_same) (plain_op o) (plain_op .pairs) (dep_op o) (dep_op .pairs) ⟨_, rfl, ?_⟩
      by_cases c : o = .pairs
      · subst c
        refine ifF (by rw [(eqd_iff _ _).mpr rfl]; rfl) ?_
        have e2 : runB size bs as [.hed] 0 lines = none := by rw [← er]; simp [runB]
        exact done e2 (g3.trans g4)
      · refine ifT (by rw [eqd_op c]; rfl) ?_
        have e2 : runB size bs as [.hed] 0 lines = some lines.length := by rw [← er]; simp [runB, c]
        exact ⟨_, rfl, _, lines.length, rfl, .inl ⟨_, SqL.of (g4.ih _ _ (g4.ii _ _ (g3.ii _ _ ha))), by rw [List.length_map]⟩, done e2 (g3.trans g4)⟩
end
end K

set_option Elab.async false
set_option linter.all false
set_option maxRecDepth 100000
set_option maxHeartbeats 4000000
set_option exponentiation.threshold 5000
namespace K
open PySem PySem.Spec PyProof.Rows L2 Tk Hd Rd Mt TL

theorem strOk_tl {z : Str} (h : ∀ c ∈ tl z, c < 0x110000) : PyData.strOk z = true := by
  unfold PyData.strOk
  rw [← Array.all_toList, List.all_eq_true]
  intro c hc
  exact decide_eq_true (h c hc)
theorem dec_pw {n : Nat} (h : n ≤ 100) : Pw (dec n) := by
  refine ⟨by have := dec100 h; omega, fun y => ?_, dec_ok n⟩
  rw [tl_dec] at y
  have := numL_no y
  omega
theorem dec_ne (n : Nat) : dec n ≠ ("" : Str) := fun y => by
  have h := congrArg tl y
  rw [tl_dec] at h
  exact numL_ne n h
theorem mem_rtx {q : Rat} {c : Nat} (h : c ∈ tl (rtx q)) : c = 45 ∨ 47 ≤ c ∧ c ≤ 57 := by
  rw [tl_rtx] at h
  rcases List.mem_append.mp h with h | h
  · split at h
    · exact .inl (List.mem_singleton.mp h)
    · cases h
  · rcases List.mem_append.mp h with h | h
    · have := numL_no h; omega
    · split at h
      · cases h
      · rcases List.mem_cons.mp h with h | h
        · omega
        · have := numL_no h; omega
theorem rtx_ne (q : Rat) : rtx q ≠ ("" : Str) := fun y => by
  have h := congrArg tl y
  rw [tl_rtx] at h
  have h2 := (List.append_eq_nil_iff.mp h).2
  exact numL_ne _ (List.append_eq_nil_iff.mp h2).1
theorem rtx_pw {q : Rat} (h : Wide q) : Pw (rtx q) :=
  ⟨rtx_len h.1 h.2, fun y => by have := mem_rtx y; omega, strOk_tl fun c hc => by have := mem_rtx hc; omega⟩
theorem wrow_all {ws : List Str} (h : ∀ z ∈ ws, Pw z ∧ SmW z) : WRow 0 ws := by
  induction ws with
  | nil => exact .nil 0
  | cons z r ih => exact .sml (h z List.mem_cons_self).1 (h z List.mem_cons_self).2 (ih fun x hx => h x (List.mem_cons_of_mem _ hx))
theorem wordsOf_jn {ws : List Str} (h1 : ws ≠ []) (h2 : ∀ p ∈ ws, 32 ∉ tl p) (h3 : ("" : Str) ∉ ws) : wordsOf (jn ws) = ws := by
  have e := words_split h1 h2
  rcases words_or (jn ws) with h | ⟨h, _⟩
  · rw [h, e]
  · rw [h, split_empty] at e
    exact absurd (by rw [← e]; exact List.mem_cons_self) h3
theorem jn_wordsOf {l : Str} {ws : List Str} (h : wordsOf l = ws) (hn : ws ≠ []) : l = jn ws := by
  rcases words_or l with e | ⟨e, e2⟩
  · rw [← h, e, (split_sp l).1]
  · exact absurd (h.symm.trans e2) hn
theorem rtx_of : ∀ {ws : List Str} {qs : List Rat}, ws.map ratioOf = qs.map some → ws = qs.map rtx ∧ ∀ q ∈ qs, Wide q
  | [], [], _ => ⟨rfl, fun q hq => nomatch hq⟩
  | [], _ :: _, h => nomatch h
  | _ :: _, [], h => nomatch h
  | w :: ws, q :: qs, h => by
    rw [List.map_cons, List.map_cons] at h
    injection h with h1 h2
    obtain ⟨e1, e2⟩ := rtx_of h2
    obtain ⟨f1, f2, f3⟩ := ratioOf_some h1
    refine ⟨by rw [List.map_cons, ← e1, ← f1], fun x hx => ?_⟩
    rcases List.mem_cons.mp hx with rfl | hx
    · exact ⟨f2, f3⟩
    · exact e2 x hx
theorem joinL_mem {d : List Nat} : ∀ {ps : List (List Nat)} {c : Nat}, c ∈ joinL d ps → c ∈ d ∨ ∃ p ∈ ps, c ∈ p
  | [], c, h => by cases h
  | [p], c, h => .inr ⟨p, List.mem_cons_self, h⟩
  | p :: q :: r, c, h => by
    have h : c ∈ p ++ (d ++ joinL d (q :: r)) := h
    rcases List.mem_append.mp h with h | h
    · exact .inr ⟨p, List.mem_cons_self, h⟩
    · rcases List.mem_append.mp h with h | h
      · exact .inl h
      · rcases joinL_mem h with h | ⟨x, hx, h⟩
        · exact .inl h
        · exact .inr ⟨x, List.mem_cons_of_mem _ hx, h⟩
theorem strOk_mem {z : Str} (h : PyData.strOk z = true) {c : Nat} (hc : c ∈ tl z) : c < 0x110000 := by
  unfold PyData.strOk at h
  rw [← Array.all_toList, List.all_eq_true] at h
  exact of_decide_eq_true (h c hc)
theorem joinL_len {d e : List Nat} (hd : d.length = e.length) : ∀ {ps : List (List Nat)}, (joinL d ps).length = (joinL e ps).length
  | [] => rfl
  | [p] => rfl
  | p :: q :: r => by
    have h1 : joinL d (p :: q :: r) = p ++ (d ++ joinL d (q :: r)) := rfl
    have h2 : joinL e (p :: q :: r) = p ++ (e ++ joinL e (q :: r)) := rfl
    rw [h1, h2, List.length_append, List.length_append, List.length_append, List.length_append, joinL_len hd (ps := q :: r), hd]
/-! ### lines of plain words -/
structure LQ (l : Str) : Prop where
  wl : (Txt.split l " ").length ≤ 60
  pw : ∀ z ∈ Txt.split l " ", Pw z
theorem LQ.size {l : Str} (h : LQ l) : l.length ≤ 10000 := by
  have h1 := (split_sp l).1
  have h2 := jn_len (Txt.split l " ")
  have h3 := sum_le (l := Txt.split l " ") (b := 130) fun z hz => (h.pw z hz).len
  have h4 := h.wl
  rw [h1] at h2
  split at h2 <;> omega
theorem LQ.mem {l : Str} (h : LQ l) {c : Nat} (hc : c ∈ tl l) : c < 0x110000 := by
  have e := (split_sp l).1
  have e2 := congrArg tl e
  unfold jn at e2
  rw [TL.join_eq, tl_join, show tl (" " : Str) = [32] from by decide +kernel] at e2
  rw [← e2] at hc
  rcases joinL_mem hc with hc | ⟨p, hp, hc⟩
  · rw [List.mem_singleton.mp hc]; decide
  · obtain ⟨z, hz, rfl⟩ := List.mem_map.mp hp
    exact strOk_mem (h.pw z hz).ok hc
theorem LQ.lp {l : Str} (h : LQ l) : LP l := by
  have := h.size
  have := h.wl
  exact ⟨line_of (by omega), by omega, fun z hz => ⟨by have := (h.pw z hz).len; omega, (h.pw z hz).ok⟩, strOk_tl fun c hc => h.mem hc⟩
theorem lq_ln {k : Nat} {l : Str} (h : Ln k l) (hk : k ≤ 10) : LQ l := ⟨by have := h.len; omega, fun z hz => h.row.pw z hz⟩
theorem lq_jn {ws : List Str} (h0 : ws ≠ []) (h : ∀ z ∈ ws, Pw z) (hl : ws.length ≤ 60) : LQ (jn ws) := by
  have e := words_split h0 fun p hp => (h p hp).sp
  exact ⟨by rw [e]; exact hl, by rw [e]; exact h⟩
theorem lp_no {l : Str} (h : 32 ∉ tl l) (hl : l.length ≤ 40000) (hs : PyData.strOk l = true) : LP l := by
  have e : Txt.split l " " = [l] := by
    have := words_split (ws := [l]) (by simp) (fun p hp => by rw [List.mem_singleton.mp hp]; exact h)
    rw [jn_one] at this; exact this
  refine ⟨line_of (by omega), by rw [e]; simp, fun z hz => ?_, hs⟩
  rw [e] at hz
  rw [List.mem_singleton.mp hz]
  exact ⟨by omega, hs⟩
theorem LQ.tab {l : Str} (h : LQ l) : LP (Txt.replace l " " "\t") := by
  have sp := split_sp l
  have es : (" " : Str) = ⟨#[32]⟩ := by decide +kernel
  have et : tl ("\t" : Str) = [9] := by decide +kernel
  have e32 : tl (" " : Str) = [32] := by decide +kernel
  have e : Txt.replace l " " "\t" = Txt.join "\t" (Txt.split l " ") := by
    rw [es]; exact (PySem.StrLaws.replace_one l "\t" 32).trans (TL.join_eq "\t" _).symm
  have e1 : tl (Txt.replace l " " "\t") = joinL [9] ((Txt.split l " ").map tl) := by rw [e, join_eq, tl_join, et]
  have e2 : tl l = joinL [32] ((Txt.split l " ").map tl) := by
    have := congrArg tl sp.1
    unfold jn at this
    rw [join_eq, tl_join, e32] at this
    exact this.symm
  have hlen : (Txt.replace l " " "\t").length = l.length := by
    rw [TL.len_tl, TL.len_tl l, e1, e2]; exact joinL_len (d := [9]) (e := [32]) rfl
  have hs := h.size
  have mem : ∀ c ∈ tl (Txt.replace l " " "\t"), c = 9 ∨ ∃ p ∈ Txt.split l " ", c ∈ tl p := fun c hc => by
    rw [e1] at hc
    rcases joinL_mem hc with hc | ⟨p, hp, hc⟩
    · exact .inl (List.mem_singleton.mp hc)
    · obtain ⟨z, hz, rfl⟩ := List.mem_map.mp hp
      exact .inr ⟨z, hz, hc⟩
  refine lp_no (fun y => ?_) (by omega) (strOk_tl fun c hc => ?_)
  · rcases mem 32 y with y | ⟨p, hp, hc⟩
    · omega
    · exact sp.2.2 p hp hc
  · rcases mem c hc with rfl | ⟨p, hp, hc⟩
    · decide
    · exact strOk_mem (h.pw p hp).ok hc
theorem plk_of {lines : List Str} (hl : lines.length ≤ 1000) (h : ∀ l ∈ lines, LP l) : PLk lines := by
  refine ⟨hl, fun l hm => ⟨(h l hm).len, ?_⟩⟩
  have p := h l hm
  rcases words_or l with e | ⟨_, e⟩
  · rw [e]; exact ⟨p.wl, fun z hz => line_of (by have := (p.wz z hz).1; omega)⟩
  · rw [e]; exact ⟨by simp, fun z hz => nomatch hz⟩
/-! ### what the law draws -/
theorem ext_jn {a b : Str} (h : tl a = tl b) : a = b := ext_tl h
theorem tl_spc : tl spc = [32] := by decide +kernel
theorem tl_emp : tl Str.empty = [] := by decide +kernel
theorem stepL_jn (p : Nat × Nat) : stepL p = jn [dec p.1, dec p.2] := by
  have e3 : tl (" " : Str) = [32] := by decide +kernel
  refine ext_tl ?_
  unfold stepL
  rw [jn_cons, jn_one]
  simp only [tl_append, tl_spc, tl_emp, e3, List.nil_append, List.append_assoc]
theorem same_jn (m : Nat) : Str.empty ++ ("same " : Str) ++ dec m = jn [("same" : Str), dec m] := by
  have e3 : tl ("same " : Str) = tl ("same" : Str) ++ [32] := by decide +kernel
  refine ext_tl ?_
  rw [jn_cons, jn_one]
  simp only [tl_append, tl_spc, tl_emp, e3, List.nil_append, List.append_assoc]
theorem pw_same : Pw ("same" : Str) := pw_of (by decide +kernel)
theorem pw_apart : Pw ("apart" : Str) := pw_of (by decide +kernel)
theorem FoD.ls {n bs as : Nat} {F : Fo} (h : FoD n bs as F) (b1 : bs ≤ 4) (a1 : as ≤ 4) (hn : n ≤ 12) : Ls 0 (foLines F) := by
  cases h with
  | apart w hl hp =>
    show Ls 0 (("apart" : Str) :: w.map stepL)
    refine ⟨by rw [List.length_cons, List.length_map]; omega, fun l hm => ?_⟩
    rcases List.mem_cons.mp hm with rfl | hm
    · rw [← jn_one ("apart" : Str)]
      exact ln_jn (wrow_all fun z hz => by rw [List.mem_singleton.mp hz]; exact ⟨pw_apart, trivial⟩) (by simp)
    · obtain ⟨p, hp', rfl⟩ := List.mem_map.mp hm
      have := hp p hp'
      rw [stepL_jn]
      refine ln_jn (wrow_all fun z hz => ⟨?_, trivial⟩) (by simp)
      rcases List.mem_cons.mp hz with rfl | hz
      · exact dec_pw (by omega)
      · rw [List.mem_singleton.mp hz]; exact dec_pw (by omega)
  | same m vs st mv m0 m3 h1 h2 h3 r1 r2 hw =>
    show Ls 0 ((Str.empty ++ ("same " : Str) ++ dec vs.length) :: (vs ++ [st] ++ mv).map rowL)
    have mb1 : m * bs ≤ 3 * 4 := Nat.mul_le_mul m3 b1
    have mb2 : m * bs * as ≤ 3 * 4 * 4 := Nat.mul_le_mul mb1 a1
    refine ⟨by rw [List.length_cons, List.length_map]; simp; omega, fun l hm => ?_⟩
    rcases List.mem_cons.mp hm with rfl | hm
    · rw [same_jn]
      refine ln_jn (wrow_all fun z hz => ⟨?_, trivial⟩) (by simp)
      rcases List.mem_cons.mp hz with rfl | hz
      · exact pw_same
      · rw [List.mem_singleton.mp hz]; exact dec_pw (by omega)
    · obtain ⟨r, hr, rfl⟩ := List.mem_map.mp hm
      have hrl : r.length ≤ 12 := by
        rcases List.mem_append.mp hr with hr | hr
        · rcases List.mem_append.mp hr with hr | hr
          · rw [r1 r hr]; exact hn
          · rw [List.mem_singleton.mp hr]; omega
        · rw [r2 r hr]; omega
      unfold rowL
      refine ln_jn (wrow_all fun z hz => ⟨?_, trivial⟩) (by rw [List.length_map]; omega)
      obtain ⟨q, hq, rfl⟩ := List.mem_map.mp hz
      exact rtx_pw (hw r hr q hq)
/-! ### what is read is what is written -/
theorem step_some {l : Str} {f p : Nat × Nat} (h : stepOf (wordsOf l) f = some p) : l = stepL p ∧ p.1 ≤ f.1 ∧ p.2 ≤ f.2 := by
  generalize e : wordsOf l = ws at h
  match ws, h with
  | [a, b], h =>
    have h : (match numOf a f.1, numOf b f.2 with
      | some x, some y => some (x, y)
      | _, _ => none) = some p := h
    cases ea : numOf a f.1 with
    | none => rw [ea] at h; cases h
    | some x =>
      cases eb : numOf b f.2 with
      | none => rw [ea, eb] at h; cases h
      | some y =>
        rw [ea, eb] at h
        injection h with h
        subst h
        obtain ⟨a1, a2⟩ := numOf_some.mp ea
        obtain ⟨b1, b2⟩ := numOf_some.mp eb
        refine ⟨?_, a2, b2⟩
        rw [stepL_jn, ← a1, ← b1]
        exact jn_wordsOf e (by simp)
theorem row_some {l : Str} {f : Nat} {r : List Rat} (hf : 0 < f) (h : ratiosOf (wordsOf l) f = some r) : l = rowL r ∧ r.length = f ∧ ∀ q ∈ r, Wide q := by
  have hlen := ratiosOf_len h
  unfold ratiosOf at h
  by_cases c : (wordsOf l).length = f
  · rw [if_pos c] at h
    obtain ⟨e1, e2⟩ := rtx_of (allR_some.mp h)
    exact ⟨jn_wordsOf e1 (fun y => by rw [← e1] at y; rw [y] at c; simp at c; omega), by omega, e2⟩
  · rw [if_neg c] at h; cases h
theorem restG_some {β γ : Type} {rd : List Str → β → Option γ} (wr : γ → Str) (Rl : β → γ → Prop) : ∀ {ls : List Str} {fs : List β} {n : Nat} {ps : List γ}, (∀ l f p, f ∈ fs → rd (wordsOf l) f = some p → l = wr p ∧ Rl f p) → restG rd n ls fs = .ok ps → ls = ps.map wr ∧ ∀ p ∈ ps, ∃ f ∈ fs, Rl f p
  | [], [], _, _, _, h => by injection h with h; subst h; exact ⟨rfl, fun p hp => nomatch hp⟩
  | [], _ :: _, _, _, _, h => nomatch h
  | _ :: _, [], _, _, _, h => nomatch h
  | l :: ls, f :: fs, n, ps, hf, h => by
    unfold restG at h
    cases e : rd (wordsOf l) f with
    | none => rw [e] at h; cases h
    | some p =>
      rw [e] at h
      dsimp only at h
      cases e2 : restG rd (n + 1) ls fs with
      | error x => rw [e2] at h; cases h
      | ok qs =>
        rw [e2] at h
        injection h with h
        subst h
        obtain ⟨a1, a2⟩ := hf l f p List.mem_cons_self e
        obtain ⟨b1, b2⟩ := restG_some wr Rl (fun l' f' p' hm => hf l' f' p' (List.mem_cons_of_mem _ hm)) e2
        refine ⟨by rw [List.map_cons, ← b1, ← a1], fun x hx => ?_⟩
        rcases List.mem_cons.mp hx with rfl | hx
        · exact ⟨f, List.mem_cons_self, a2⟩
        · obtain ⟨g, hg, r⟩ := b2 x hx
          exact ⟨g, List.mem_cons_of_mem _ hg, r⟩
theorem paper_some {lines : List Str} {n1 n2 bs as : Nat} {F : Fo} (hl : lines.length ≤ 1000) (h1 : n1 ≤ 12) (h2 : n2 ≤ 12) (h0 : 0 < n1 + n2) (b1 : bs ≤ 4) (a1 : as ≤ 4) (h : readPaper lines n1 n2 bs as = .ok F) : foLines F = lines ∧ FoOk F := by
  cases lines with
  | nil => cases h
  | cons l0 ls =>
    unfold readPaper at h
    dsimp only at h
    by_cases ca : l0 = ("apart" : Str)
    · rw [if_pos ca] at h
      cases e : restG stepOf 1 ls (List.replicate ls.length (bs - 1, as - 1)) with
      | error x => rw [e] at h; cases h
      | ok w =>
        rw [e] at h
        injection h with h
        subst h
        obtain ⟨r1, r2⟩ := restG_some stepL (fun f p => p.1 ≤ f.1 ∧ p.2 ≤ f.2) (fun l f p _ hp => step_some hp) e
        have wl := restG_len e
        rw [List.length_replicate] at wl
        rw [List.length_cons] at hl
        refine ⟨?_, .apart w rfl rfl (by omega) fun p hp => ?_⟩
        · show ("apart" : Str) :: w.map stepL = l0 :: ls
          rw [ca, ← r1]
        · obtain ⟨f, hf, x1, x2⟩ := r2 p hp
          rw [(List.mem_replicate.mp hf).2] at x1 x2
          dsimp only at x1 x2
          omega
    · rw [if_neg ca] at h
      cases em : manyOf (wordsOf l0) with
      | none => rw [em] at h; cases h
      | some m =>
        rw [em] at h
        dsimp only at h
        obtain ⟨e0, m0, m1⟩ := manyOf_some em
        cases e : restG ratiosOf 1 ls (widthsOf n1 n2 m bs as) with
        | error x => rw [e] at h; cases h
        | ok rows =>
          rw [e] at h
          injection h with h
          subst h
          have wpos : ∀ f ∈ widthsOf n1 n2 m bs as, 0 < f ∧ f ≤ 24 := fun f hf => by
            unfold widthsOf at hf
            rcases List.mem_append.mp hf with hf | hf
            · rw [(List.mem_replicate.mp hf).2]; omega
            · rw [(List.mem_replicate.mp hf).2]; omega
          obtain ⟨r1, r2⟩ := restG_some rowL (fun f r => r.length = f ∧ ∀ q ∈ r, Wide q) (fun l f p hf hp => row_some (wpos f hf).1 hp) e
          have wl := restG_len e
          have wl2 : (widthsOf n1 n2 m bs as).length = m + (1 + m * bs * as) := by unfold widthsOf; simp
          rw [wl2] at wl
          have mb1 : m * bs ≤ 24 * 4 := Nat.mul_le_mul m1 b1
          have mb2 : m * bs * as ≤ 24 * 4 * 4 := Nat.mul_le_mul mb1 a1
          have er : rows.take m ++ [rows.getD m []] ++ rows.drop (m + 1) = rows := by
            have hm : m < rows.length := by omega
            have e1 : rows.getD m [] = rows[m] := by rw [List.getD_eq_getElem?_getD, List.getElem?_eq_getElem hm]; rfl
            rw [e1, List.append_assoc, List.singleton_append, ← List.drop_eq_getElem_cons hm, List.take_append_drop]
          have et : (rows.take m).length = m := by rw [List.length_take]; omega
          refine ⟨?_, .same rfl rfl (by rw [et]; omega) (by rw [List.length_drop]; omega) fun r hr => ?_⟩
          · show (Str.empty ++ ("same " : Str) ++ dec (rows.take m).length) :: (rows.take m ++ [rows.getD m []] ++ rows.drop (m + 1)).map rowL = l0 :: ls
            rw [er, et, same_jn, ← r1, ← jn_wordsOf e0 (by simp)]
          · have hr : r ∈ rows.take m ++ [rows.getD m []] ++ rows.drop (m + 1) := hr
            rw [er] at hr
            obtain ⟨f, hf, x1, x2⟩ := r2 r hr
            have := (wpos f hf).2
            exact ⟨by omega, x2⟩

end K

set_option Elab.async false
set_option linter.all false
set_option maxRecDepth 100000
set_option maxHeartbeats 4000000
namespace K
open PySem PySem.Spec PyProof.Rows L2 Tk Hd
section
variable {P : Program} {w : World} {K : PySem.W.Frag} {mg : Str → Option Value} {base : Heap}
def spSame0 : Sp := (fun vs H Q _ => ∃ (a d : V) (x y : Da), vs = [a, d] ∧ dR H a x ∧ dR H d y ∧ isT y "tuple" = false ∧ isT y "list" = false ∧ Q (.bl (eqd x y)) H)
theorem ok_sameHot (D : Dt K mg) : ∃ fd : FuncData, PySem.W.keepIn K (.ref (He.ga K "_law_same")) = true ∧ L2.Binds K fd ["actual", "due"] [] ∧ L2H.FnH P w K mg base (L2.CX P w) 1 (He.ga K "_law_same") fd ["actual", "due"] spSame0 := by
  obtain ⟨fd, F⟩ := fd__law_same D
  refine ⟨fd, F.kp, F.bindsN fun _ _ _ _ _ _ us hl => match us, hl with | [_, _], _ => rfl, fnHot F sc_same (fun vs H Q E h => ?_) (fun cdv A outer s H vs Q E p hr h => ?_)⟩
  · obtain ⟨a, d, x, y, rfl, _⟩ := h; rfl
  · obtain ⟨a, d, x, y, rfl, hx, hy, y1, y2, k⟩ := h
    refine ⟨_, (pss_cons (ps_if (PW.pt (pw_or (pt_val (pe_callB call_isi rfl (free_isinstance D) (by decide +kernel) (pa_cons (pv 1) (pa_cons (pe_bltn (v := .ty "tuple") rfl (free_tuple D) (by decide +kernel) rfl) pa_nil)))) (pw_or1 (pt_val (pe_callB call_isi rfl (free_isinstance D) (by decide +kernel) (pa_cons (pv 1) (pa_cons (pe_bltn (v := .ty "list") rfl (free_list D) (by decide +kernel) rfl) pa_nil))))))) pss_never pss_nil)
      (pss_cons (ps_if (PW.pt (pw_or (pt_cmpR op_isN (pv 1) pe_non (nomark _)) (pw_or1 (pt_val (pe_callB call_isi rfl (free_isinstance D) (by decide +kernel) (pa_cons (pv 1) (pa_cons (pe_bltn (v := .ty "bool") rfl (free_bool D) (by decide +kernel) rfl) pa_nil)))))))
      (pss_one (ps_ret (pe_and (pe_cmpR op_eq (pe_cmpR op_isN (pv 0) pe_non (nomark _)) (pe_cmpR op_isN (pv 1) pe_non (nomark _)) (nomark _)) (pe_and (pe_or (pe_cmpR op_isN (pv 1) pe_non (nomark _)) (pe_one (pe_callB call_isi rfl (free_isinstance D) (by decide +kernel) (pa_cons (pv 0) (pa_cons (pe_bltn (v := .ty "bool") rfl (free_bool D) (by decide +kernel) rfl) pa_nil))))) (pe_one (pe_cmpR op_eq (pv 0) (pv 1) (nomark _)))))))
      pss_nil)
      (pss_cons (ps_if (pt_val (pe_callB call_isi rfl (free_isinstance D) (by decide +kernel) (pa_cons (pv 1) (pa_cons (pe_bltn (v := .ty "int") rfl (free_int D) (by decide +kernel) rfl) pa_nil))))
      (pss_one (ps_ret (pe_and (pe_callB call_isi rfl (free_isinstance D) (by decide +kernel) (pa_cons (pv 0) (pa_cons (pe_bltn (v := .ty "int") rfl (free_int D) (by decide +kernel) rfl) pa_nil))) (pe_and (pe_not (pe_callB call_isi rfl (free_isinstance D) (by decide +kernel) (pa_cons (pv 0) (pa_cons (pe_bltn (v := .ty "bool") rfl (free_bool D) (by decide +kernel) rfl) pa_nil)))) (pe_one (pe_cmpR op_eq (pv 0) (pv 1) (nomark _)))))))
      pss_nil)
      (pss_one (ps_ret (pe_and (pe_callB call_isi rfl (free_isinstance D) (by decide +kernel) (pa_cons (pv 0) (pa_cons (pe_bltn (v := .ty "str") rfl (free_str D) (by decide +kernel) rfl) pa_nil))) (pe_one (pe_cmpR op_eq (pv 0) (pv 1) (nomark _))))))))), ?_⟩
    have cv : ∀ T : String, ClsV (.ty T) (.type T) := fun T => .ty T
    refine ⟨_, rfl, _, _, _, _, _, rfl, cv _, knd_ty hy, knd_tuple y, _, rfl, ifF y1 ?_⟩
    refine ⟨_, rfl, _, _, _, _, _, rfl, cv _, knd_ty hy, knd_list y, _, rfl, ifF y2 ?_⟩
    have nx := non_dec hx
    have ny := non_dec hy
    refine ⟨_, rfl, rfl, _, rfl, ?_⟩
    rw [ny]
    have finN : isNon y = true ∨ isT y "bool" = true → ∀ σ : L2.St, True := fun _ _ => trivial
    cases y with
    | lst l => simp [isT] at y2
    | tup l => simp [isT] at y1
    | non =>
      refine iteT ?_
      simp only [dR] at hy
      subst hy
      refine ⟨_, rfl, rfl, _, rfl, rfl, rfl, _, rfl, ?_⟩
      rw [nx, ny]
      cases x with
      | non =>
        simp only [dR] at hx; subst hx
        refine iteT ⟨_, rfl, rfl, _, rfl, iteT ⟨_, rfl, iteT ⟨_, rfl, _, rfl, rfl, ?_⟩⟩⟩
        exact k
      | _ => exact iteF k
    | bl b =>
      refine iteF ⟨_, rfl, _, _, _, _, _, rfl, cv _, knd_ty hy, knd_bool (.bl b), _, rfl, iteT ?_⟩
      refine ⟨_, rfl, rfl, _, rfl, rfl, rfl, _, rfl, ?_⟩
      rw [nx, ny]
      simp only [dR] at hy
      subst hy
      cases x with
      | non => exact iteF k
      | bl c =>
        refine iteT ⟨_, rfl, rfl, _, rfl, iteF ⟨_, rfl, _, _, _, _, _, rfl, cv _, knd_ty hx, knd_bool (.bl c), _, rfl, iteT ?_⟩⟩
        simp only [dR] at hx
        subst hx
        refine ⟨_, rfl, _, rfl, rfl, ?_⟩
        have e : decide (V.bl c = V.bl b) = eqd (.bl c) (.bl b) := by simp [eqd]
        rw [← e] at k; exact k
      | int i => exact iteT ⟨_, rfl, rfl, _, rfl, iteF ⟨_, rfl, _, _, _, _, _, rfl, cv _, knd_ty hx, knd_bool (.int i), _, rfl, iteF k⟩⟩
      | str i => exact iteT ⟨_, rfl, rfl, _, rfl, iteF ⟨_, rfl, _, _, _, _, _, rfl, cv _, knd_ty hx, knd_bool (.str i), _, rfl, iteF k⟩⟩
      | lst i => exact iteT ⟨_, rfl, rfl, _, rfl, iteF ⟨_, rfl, _, _, _, _, _, rfl, cv _, knd_ty hx, knd_bool (.lst i), _, rfl, iteF k⟩⟩
      | tup i => exact iteT ⟨_, rfl, rfl, _, rfl, iteF ⟨_, rfl, _, _, _, _, _, rfl, cv _, knd_ty hx, knd_bool (.tup i), _, rfl, iteF k⟩⟩
    | int b =>
      refine iteF ⟨_, rfl, _, _, _, _, _, rfl, cv _, knd_ty hy, knd_bool (.int b), _, rfl, iteF ?_⟩
      refine ⟨_, rfl, _, _, _, _, _, rfl, cv _, knd_ty hy, knd_int (.int b), _, rfl, iteT ?_⟩
      simp only [dR] at hy
      subst hy
      cases x with
      | int c =>
        refine ⟨_, rfl, _, _, _, _, _, rfl, cv _, knd_ty hx, knd_int (.int c), _, rfl, iteT ?_⟩
        refine ⟨_, rfl, _, _, _, _, _, rfl, cv _, knd_ty hx, knd_bool (.int c), _, rfl, _, rfl, iteT ?_⟩
        simp only [dR] at hx
        subst hx
        refine ⟨_, rfl, _, rfl, rfl, ?_⟩
        have e : decide (V.int c = V.int b) = eqd (.int c) (.int b) := by simp [eqd]
        rw [← e] at k; exact k
      | bl c =>
        refine ⟨_, rfl, _, _, _, _, _, rfl, cv _, knd_ty hx, knd_int (.bl c), _, rfl, iteT ?_⟩
        exact ⟨_, rfl, _, _, _, _, _, rfl, cv _, knd_ty hx, knd_bool (.bl c), _, rfl, _, rfl, iteF k⟩
      | non => exact ⟨_, rfl, _, _, _, _, _, rfl, cv _, knd_ty hx, knd_int .non, _, rfl, iteF k⟩
      | str c => exact ⟨_, rfl, _, _, _, _, _, rfl, cv _, knd_ty hx, knd_int (.str c), _, rfl, iteF k⟩
      | lst c => exact ⟨_, rfl, _, _, _, _, _, rfl, cv _, knd_ty hx, knd_int (.lst c), _, rfl, iteF k⟩
      | tup c => exact ⟨_, rfl, _, _, _, _, _, rfl, cv _, knd_ty hx, knd_int (.tup c), _, rfl, iteF k⟩
    | str b =>
      refine iteF ⟨_, rfl, _, _, _, _, _, rfl, cv _, knd_ty hy, knd_bool (.str b), _, rfl, iteF ?_⟩
      refine ⟨_, rfl, _, _, _, _, _, rfl, cv _, knd_ty hy, knd_int (.str b), _, rfl, iteF ?_⟩
      simp only [dR] at hy
      subst hy
      cases x with
      | str c =>
        refine ⟨_, rfl, _, _, _, _, _, rfl, cv _, knd_ty hx, knd_str (.str c), _, rfl, iteT ?_⟩
        simp only [dR] at hx
        subst hx
        refine ⟨_, rfl, _, rfl, rfl, ?_⟩
        have e : decide (V.str c = V.str b) = eqd (.str c) (.str b) := by simp [eqd]
        rw [← e] at k; exact k
      | bl c => exact ⟨_, rfl, _, _, _, _, _, rfl, cv _, knd_ty hx, knd_str (.bl c), _, rfl, iteF k⟩
      | non => exact ⟨_, rfl, _, _, _, _, _, rfl, cv _, knd_ty hx, knd_str .non, _, rfl, iteF k⟩
      | int c => exact ⟨_, rfl, _, _, _, _, _, rfl, cv _, knd_ty hx, knd_str (.int c), _, rfl, iteF k⟩
      | lst c => exact ⟨_, rfl, _, _, _, _, _, rfl, cv _, knd_ty hx, knd_str (.lst c), _, rfl, iteF k⟩
      | tup c => exact ⟨_, rfl, _, _, _, _, _, rfl, cv _, knd_ty hx, knd_str (.tup c), _, rfl, iteF k⟩
end
end K

set_option Elab.async false
set_option linter.all false
set_option maxRecDepth 100000
set_option maxHeartbeats 4000000
/-! A comprehension with a test, of which only an invariant is known. -/
namespace Tk
open PySem PySem.Spec PyProof.Rows L2
theorem lc_inv {β : Type} {J : It} {n : Nat} {xs : Nat → V} {I H1 : Hp} {g : TG} {tt : TT} {te : TE} {vs : List Nat} {σ : L2.St} {D : Addr} {Qd : Hp → Prop} (ms : List Addr) (Sy : Rp β) [Mono Sy] (Pz : Nat → List β → Prop) (Jv : Hp → Hp → Prop)
    (W : Wk J n xs I) (s0 : Same I H1) (hD : H1 D = none) (hm : D ∉ ms) (hn : n < sizeLine) (st : Stb Jv D) (j0 : Jv I H1) (p0 : Pz 0 [])
    (step : ∀ (i : Nat) (zs : List β) (I' H' : Hp) (Nx : Hp → Prop) (Qk : VK), i < n → Same I I' → Same I' H' → Jv I' H' → Pz i zs → (∀ I'' H'' y z, Gr ms I' H' I'' H'' → Jv I'' H'' → Sy I'' y z → Pz (i + 1) (zs ++ [z]) → Qk y H'') →
      (∀ I'' H'', Gr ms I' H' I'' H'' → Jv I'' H'' → Pz (i + 1) zs → Nx H'') →
      g (xs i) (wipe σ vs) H' fun σ2 H2 => wipe σ2 vs = wipe σ vs ∧ tt σ2 H2 fun b H3 => if b = true then te σ2 H3 Qk else Nx H3)
    (hd : ∀ I' H' ys zs, Gr ms I H1 I' H' → I' D = some (.lst ys) → All2 (Sy I') ys zs → Pz n zs → Jv I' H' → Qd H') :
    LcR J g tt te vs σ H1 D Qd := by
  refine ⟨fun i m H => m = n - i ∧ i ≤ n ∧ ∃ I' ys zs, Gr ms I H1 I' H ∧ I' D = none ∧ H D = some (.lst ys) ∧ All2 (Sy I') ys zs ∧ zs.length ≤ i ∧ Pz i zs ∧ Jv I' H,
    ⟨n, rfl, Nat.zero_le _, I, [], [], (Gr.tmp s0 hD), s0.free hD, upd_same, .nil, Nat.le_refl _, p0, st.chg (s0.free hD) j0⟩, ?_⟩
  rintro i m H ⟨rfl, hi, I', ys, zs, gr, hI, hH, a2, hl, rl, jv⟩
  have s : Same I H := gr.ii.trans gr.ih
  by_cases hlt : i < n
  · refine .inr ⟨W.go i H s hlt, fun H' => i + 1 ≤ n ∧ ∃ I' ys zs, Gr ms I H1 I' H' ∧ I' D = none ∧ H' D = some (.lst ys) ∧ All2 (Sy I') ys zs ∧ zs.length ≤ i + 1 ∧ Pz (i + 1) zs ∧ Jv I' H',
      fun H' p => ⟨n - (i + 1), by omega, rfl, p.1, p.2⟩, fun x H' y => ?_⟩
    obtain ⟨rfl, rfl⟩ := W.yld i H x H' s hlt y
    refine step i zs I' H' _ _ hlt gr.ii gr.ih jv rl (fun I'' H'' y z g2 jv2 sy r => ?_) (fun I'' H'' g2 jv2 r => ?_)
    · have hD2 : H'' D = some (.lst ys) := g2.at hH hm
      have hI2 : I'' D = none := g2.out hI hH
      refine ⟨ys, hD2, by rw [a2.len]; omega, hlt, I'', ys ++ [y], zs ++ [z], ?_, hI2, upd_same, (a2.mono fun _ _ => up g2.ii).snoc sy, by rw [List.length_append]; simp; omega, r, st.chg hI2 jv2⟩
      have g3 := gr.trans g2
      exact ((g3.mono (ns := D :: ms) fun _ z => List.mem_cons_of_mem _ z).trans (Gr.mut g3.ih hI2 List.mem_cons_self)).drop hD
    · exact ⟨hlt, I'', ys, zs, gr.trans g2, g2.out hI hH, g2.at hH hm, a2.mono fun _ _ => up g2.ii, by omega, r, jv2⟩
  · have e : i = n := by omega
    subst e
    refine .inl ⟨W.stop H s, hd (upd I' D (.lst ys)) H ys zs (gr.mono (fun _ z => List.mem_cons_of_mem _ z) |>.frz s0 hD hH) upd_same (a2.mono fun _ _ => up (sNew hI)) rl (st.frz hI jv)⟩
end Tk

set_option Elab.async false
set_option linter.all false
set_option maxRecDepth 100000
set_option maxHeartbeats 4000000
/-! A token that is out: str.replace with written texts within a law. -/
namespace Tk
open PySem PySem.Spec PyProof.Rows L2 CwR
section
variable {X : Cx} {e f : Expr} {te tf : TE} {u : TS} {rest : List Stmt}
/-- behind it a token is out -/
def PEG (X : Cx) (e : Expr) (t : TE) : Prop :=
  ∀ (pins : List (Addr × Obj)) (s : Shared) (σ : L2.St) (H : Hp) (Q : VK), Inv X pins σ H s → t σ H Q → wpAny (model X.prog X.w) X.A (eval e X.env) (fun v s' => EP X pins σ Q v s' ∧ 1 ≤ s'.toks) X.xe s
theorem peg_op {op : Operator} {r : R2} {k : Int} {j : Nat} {cp pos : Pos} (ho : OpR X (binaryOp op) r) (hb : PE X f tf) : PEG X (.BinOp (.Constant (.int k) j cp) op f pos) (tOp r (tC (.int k)) tf) := by
  intro pins s σ H Q I h
  refine wpAny_BinOp (wpAny_Constant_int ?_)
  refine wpAny_mono (PySem.wpAny_toks (hb.run pins _ σ H _ (I.tok (s.toks + 1)) h)) (fun v s2 q => ?_) fun _ _ z => z.2
  obtain ⟨hk, y, H2, I2, r2, q2⟩ := q
  have hk : s.toks + 1 ≤ s2.toks := hk
  refine wpAny_mono (PySem.wpAny_toks (ho pins s2 σ H2 (.int k) y _ v Q I2 ⟨_, rfl⟩ r2 q2)) (fun v s3 q => ?_) fun _ _ z => z.2
  exact ⟨q.2, Nat.le_trans (by omega) q.1⟩
theorem pss_tok {i : Nat} {x : Str} {pos' pos : Pos} (hN : X.N.Nodup) (hi : X.N[i]? = some x) (hx : Loc X.env.scope x) (he : PEG X e te) (h2 : PSsT X rest u)
    (hs : swapsWith e (some (.Name x pos')) pos.line X.env = pure false := by rfl) (hf : X.fn x = true ∨ X.env.scope.names.lookup x = some .local := by first | exact .inl rfl | exact .inr rfl | assumption) :
    PSs X (.Assign [.Name x pos'] e pos :: rest) (tSeq (tAsg te (gName i)) u) := by
  refine ⟨fun pins s σ H D I h => ?_⟩
  refine wpAny_execs_cons (wpAny_Assign_Name (wpAny_mono (he pins s σ H _ I h) (fun v s1 q => ?_) fun _ _ z => z) hs)
  obtain ⟨⟨y, H1, I1, r1, q1⟩, hk⟩ := q
  refine wpAny_mono (PySem.wpAny_toks (store_ok (Q := fun _ s2 => Inv X pins (σ.set i (some y)) H1 s2) I1 hN hi hx r1 (fun _ I2 => I2) hf)) (fun _ s2 q => ?_) fun _ _ z => z.2
  have : s1.toks ≤ s2.toks := q.1
  exact h2 pins s2 _ H1 D (by omega) q.2 q1
theorem pst_set {i : Nat} {x : Str} {pos' pos : Pos} (hN : X.N.Nodup) (hi : X.N[i]? = some x) (hx : Loc X.env.scope x) (he : PET X e te) (hs : swapsWith e (some (.Name x pos')) pos.line X.env = pure false := by rfl)
    (hf : X.fn x = true ∨ X.env.scope.names.lookup x = some .local := by first | exact .inl rfl | exact .inr rfl | assumption) : PST X (.Assign [.Name x pos'] e pos) (tAsg te (gName i)) := by
  intro pins s σ H D h0 I h
  refine wpAny_Assign_Name (thn (he pins s σ H _ h0 I h) fun v s1 ⟨y, H1, I1, r1, q1⟩ => ?_) hs
  exact store_ok I1 hN hi hx r1 (fun s2 I2 => ⟨_, H1, I2, q1⟩) hf
end
end Tk

set_option Elab.async false
set_option linter.all false
set_option maxRecDepth 100000
set_option maxHeartbeats 4000000
/-! A token that is out behind a test with a written number (TkT). -/
namespace Tk
open PySem PySem.Spec PyProof.Rows L2 CwR
section
variable {X : Cx} {a : Expr} {ta : TE} {tA tB' : TT} {t u : TS} {pos : Pos}
/-- behind the test a token is out -/
def PTT (X : Cx) (e : Expr) (t : TT) : Prop :=
  ∀ (pins : List (Addr × Obj)) (s : Shared) (σ : L2.St) (H : Hp) (Q : Bool → Hp → Prop), Inv X pins σ H s → t σ H Q → wpAny (model X.prog X.w) X.A (isTrue e X.env (eval e X.env)) (fun d s' => TP X pins σ Q d s' ∧ 1 ≤ s'.toks) X.xe s
theorem ptt_cmp {op : CmpOp} {r : R2} {k : Int} {j : Nat} {cp : Pos} (ho : OpR X (compareOp op) r) (ha : PE X a ta) (hm : behindInMarks op (.Constant (.int k) j cp) = false) : PTT X (.Compare a [op] [.Constant (.int k) j cp] pos) (tTest (tOp r ta (tC (.int k)))) := by
  intro pins s σ H Q I h
  refine wpAny_isTrue_Compare1 (thn (ha.run pins s σ H _ I h) fun v s1 ⟨x, H1, I1, r1, q1⟩ => wpAny_Constant_int (wpAny_mono (PySem.wpAny_toks (ho pins _ σ H1 x (.int k) v _ _ (I1.tok (s1.toks + 1)) r1 ⟨_, rfl⟩ q1)) (fun c s3 q => ?_) fun _ _ z => z.2)) hm
  obtain ⟨hk, z, H3, I3, r3, k', e, q3⟩ := q
  have hk : s1.toks + 1 ≤ s3.toks := hk
  subst e
  cases r3
  exact wpAny_truthy_bool ⟨⟨H3, I3, q3⟩, by omega⟩
theorem ptt_and {b : Expr} {rest : List Expr} (ha : PTT X a tA) (hb : PW X (.BoolOp .And (b :: rest) pos) tB') : PTT X (.BoolOp .And (a :: b :: rest) pos) (tAnd tA tB') := by
  intro pins s σ H Q I h
  refine isTrue_and (thn (ha pins s σ H _ I h) fun c s1 ⟨⟨H1, I1, q1⟩, hk⟩ => ?_)
  cases c with
  | true => exact wpAny_mono (PySem.wpAny_toks (hb.run _ pins s1 σ H1 Q I1 q1)) (fun d s2 q => ⟨q.2, Nat.le_trans hk q.1⟩) fun _ _ z => z.2
  | false => exact ⟨⟨H1, I1, q1⟩, hk⟩
theorem ps_ifT {c : Expr} {a b : List Stmt} {tc : TT} (hc : PTT X c tc) (ha : PSsT X a t) (hb : PSs X b u) : PS X (.If c a b pos) (tIfS tc t u) := by
  refine ⟨fun pins s σ H D I h => ?_⟩
  refine wpAny_If (thn (hc pins s σ H _ I h) fun d s1 q => ?_)
  obtain ⟨⟨H1, I1, q1⟩, hk⟩ := q
  cases d with
  | true => exact ha pins s1 σ H1 D hk I1 q1
  | false => exact hb.run pins s1 σ H1 D I1 q1
end
end Tk

set_option Elab.async false
set_option linter.all false
set_option maxRecDepth 100000
set_option maxHeartbeats 4000000
set_option exponentiation.threshold 5000
namespace K
open PySem PySem.Spec PyProof.Rows L2 Tk Hd Rd Mt TL CwR
theorem takesN0 {X : Cx} : L2N.Takes X (fun _ _ _ _ => False) := fun _ _ x => by
  obtain ⟨a, B, sI, pins, σ, H, cls, d, h1, h2, h3, h4, h5, h6, h7, h8, z⟩ := x
  exact z.elim
theorem kitBP {K : PySem.W.Frag} {mg : Str → Option Value} (D : Dt K mg) : PySem.W.kitAny K (.ref (CBP K)) [.ref (He.ga K "BadMachine"), .ref (He.ga K "BadRatio"), .ref (He.ga K "BadText"), .ref (He.ga K "TooLarge")] = some false := by
  simp only [PySem.W.kitAny, kit_BadPaper_BadMachine D, kit_BadPaper_BadRatio D, kit_BadPaper_BadText D, kit_BadPaper_TooLarge D]
section
variable {P : Program} {w : World} {K : PySem.W.Frag} {mg : Str → Option Value} {base : Heap}
theorem tame_strs : ∀ ws : List Str, tames (ws.map Da.str)
  | [] => by simp [tames]
  | w :: r => by simp only [List.map_cons, tames]; exact ⟨by simp [tame], tame_strs r⟩
theorem dep_strs : ∀ ws : List Str, deps (ws.map Da.str) = 0
  | [] => by simp [deps]
  | w :: r => by simp only [List.map_cons, deps, dep, dep_strs r]; rfl
theorem dRs_strs {H : Hp} : ∀ ws : List Str, dRs H (ws.map V.str) (ws.map Da.str)
  | [] => by simp [dRs]
  | w :: r => by simp only [List.map_cons, dRs]; exact ⟨_, _, rfl, by simp [dR], dRs_strs r⟩
/-- two lists of the same texts -/
theorem same_strs {H : Hp} {v u : V} {ws : List Str} {Q : VK} {E : XK} (rv : iL iS H v ws) (ru : iL iS H u ws) (hl : ws.length ≤ 1000) (k : Q (.bl true) H) : spSame 1 ([v, u] ++ []) H Q E := by
  obtain ⟨a, rfl, ha⟩ := iL_strs rv
  obtain ⟨b, rfl, hb⟩ := iL_strs ru
  refine ⟨.ref a, .ref b, .lst (ws.map Da.str), .lst (ws.map Da.str), rfl, ?_, ?_, by simp only [dep, dep_strs]; decide, ?_, ?_, ?_⟩
  · simp only [dR]; exact ⟨a, _, rfl, ha, dRs_strs ws⟩
  · simp only [dR]; exact ⟨b, _, rfl, hb, dRs_strs ws⟩
  · simp only [tame]; exact ⟨by rw [List.length_map]; omega, tame_strs ws⟩
  · simp only [tame]; exact ⟨by rw [List.length_map]; omega, tame_strs ws⟩
  · rw [(eqd_iff _ _).mpr rfl]; exact k
def spLaw (K : PySem.W.Frag) : Sp := fun vs H Q _ => ∃ (a : Addr) (ns : List Int), vs = [.ref a] ∧ SqL K H a (ns.map V.int) ∧ ns.length ≤ 63 ∧ ∀ H', Q (.bl true) H'
def Nlaw : List Str := ["script", "pool", "one", "other", "made", "lines", "count", "place", "bad", "again", "e"]
theorem sc_law : FnScope Nlaw ["script"] (defScope s_law) := ⟨rfl, rfl, rfl, by decide +kernel, rfl, by decide +kernel, by decide +kernel⟩
def lawP (D : Dt K mg) {cdv : Value} {A : Around} {outer : List Env} {s : Shared} {H : Hp} {E : XK} (hr : Room 19 (A.deeper (envOfC "law" (defScope s_law) s.heap.objs.size (He.ga K "law") cdv)))
    {fdH : FuncData} (kH : PySem.W.keepIn K (.ref (He.ga K "_law_same")) = true) (bH : L2.Binds K fdH ["actual", "due"] []) (H_sameH : L2H.FnH P w K mg base (L2.CX P w) 1 (He.ga K "_law_same") fdH ["actual", "due"] spSame0) :
    { t : TS // PSs (cxOf (L2.CX P w) P w K mg base Nlaw "law" (defScope s_law) (He.ga K "law") cdv A outer s H E).nox (defBody s_law) t } := by
  have H__law_pool := ok_pool (P := P) (w := w) (base := base) D
  have H__law_draw := ok_draw (P := P) (w := w) (base := base) D
  have H__law_machine := ok_lmach (P := P) (w := w) (base := base) D
  have H__law_pair := ok_pairL (P := P) (w := w) (base := base) D
  have H__law_drawn := ok_drawn (P := P) (w := w) (base := base) D
  have H__law_made := ok_lmade (P := P) (w := w) (base := base) D
  have H_read_paper := ok_rpaper (P := P) (w := w) (base := base) D
  have H_paper_lines := ok_plines (P := P) (w := w) (base := base) D
  have H__law_changed_lines := ok_lchg (P := P) (w := w) (base := base) D
  have H__law_bad := ok_lbad (P := P) (w := w) (base := base) D
  have H__law_same := ok_same (P := P) (w := w) (base := base) D 1
  exact ⟨_, (pss_cons (ps_set (i := 1) sc_law.nd rfl (Or.inl rfl) (pe_callH H__law_pool (hr.mono (by omega)) rfl (glo__law_pool D) passL (pa_cons (pv 0) (pa_cons pe_int pa_nil))))
      (pss_cons (ps_asg (pe_callH H__law_pair (hr.mono (by omega)) rfl (glo__law_pair D) passL (pa_cons (pv 1) (pa_cons pe_int pa_nil))) (pg_tupK K rfl (pgs_cons (pg_name (i := 2) sc_law.nd rfl (Or.inl rfl)) (pgs_cons (pg_name (i := 3) sc_law.nd rfl (Or.inl rfl)) pgs_nil))))
      (pss_cons (ps_set (i := 4) sc_law.nd rfl (Or.inl rfl) (pe_lst (pa_cons (pe_callH H__law_made (hr.mono (by omega)) rfl (glo__law_made D) passL (pa_cons (pv 2) pa_nil)) (pa_cons (pe_callH H__law_made (hr.mono (by omega)) rfl (glo__law_made D) passL (pa_cons (pv 3) pa_nil)) pa_nil))))
      (pss_cons (ps_set (i := 5) sc_law.nd rfl (Or.inl rfl) (pe_callH H__law_changed_lines (hr.mono (by omega)) rfl (glo__law_changed_lines D) passL (pa_cons (pv 1) (pa_cons (pe_ix (ix_tupK K) (pe_callH H__law_drawn (hr.mono (by omega)) rfl (glo__law_drawn D) passL (pa_cons (pv 1) (pa_cons (pv 2) (pa_cons (pv 3) pa_nil)))) pe_int (fun _ _ => rfl)) pa_nil))))
      (pss_cons (ps_if (pt_cmpR op_eq (pe_callH H__law_draw (hr.mono (by omega)) rfl (glo__law_draw D) passL (pa_cons (pv 1) (pa_cons pe_int pa_nil))) pe_int (nomark _))
      (pss_cons (ps_set (i := 2) sc_law.nd rfl (Or.inl rfl) (pe_callH H__law_machine (hr.mono (by omega)) rfl (glo__law_machine D) passL (pa_cons (pv 1) (pa_cons pe_int (pa_cons pe_int (pa_cons pe_int pa_nil))))))
      (pss_cons (ps_set (i := 3) sc_law.nd rfl (Or.inl rfl) (pe_callH H__law_machine (hr.mono (by omega)) rfl (glo__law_machine D) passL (pa_cons (pv 1) (pa_cons pe_int (pa_cons pe_int (pa_cons pe_int pa_nil))))))
      (pss_cons (ps_set (i := 4) sc_law.nd rfl (Or.inl rfl) (pe_lst (pa_cons (pe_callH H__law_made (hr.mono (by omega)) rfl (glo__law_made D) passL (pa_cons (pv 2) pa_nil)) (pa_cons (pe_callH H__law_made (hr.mono (by omega)) rfl (glo__law_made D) passL (pa_cons (pv 3) pa_nil)) pa_nil))))
      (pss_cons (ps_set (i := 6) sc_law.nd rfl (Or.inl rfl) (pe_op op_add pe_int (pe_callH H__law_draw (hr.mono (by omega)) rfl (glo__law_draw D) passL (pa_cons (pv 1) (pa_cons pe_int pa_nil)))))
      (pss_cons (ps_set (i := 5) sc_law.nd rfl (Or.inl rfl) (pe_op op_cat (pe_op op_cat (pe_lst (pa_cons (pe_op op_add_str pe_str (pe_callTy call_str_int rfl (free_str D) (by decide +kernel) (pa_cons (pv 6) pa_nil))) pa_nil)) (pe_op op_rep (pe_lst (pa_cons pe_str pa_nil)) (pv 6))) (pe_op op_rep (pe_lst (pa_cons (pe_bm PySem.F.plainAttrs_str PySem.F.slot_str_join PySem.F.type_str_join mt_join pe_str (pa_cons (pe_op op_rep (pe_lst (pa_cons pe_str pa_nil)) (pv 6)) pa_nil)) pa_nil)) (pe_op op_add (pv 6) pe_int))))
      (pss_one (ps_set (i := 5) sc_law.nd rfl (Or.inl rfl) (pe_op op_cat (pe_slice (sl_listK K) (pv 5) po_none (po_some (pe_op op_sub (pe_callB (call_lenK K) rfl (free_len D) PySem.boot_len (pa_cons (pv 5) pa_nil)) (pe_callH H__law_draw (hr.mono (by omega)) rfl (glo__law_draw D) passL (pa_cons (pv 1) (pa_cons pe_int pa_nil)))))) (pe_op op_rep (pe_lst (pa_cons pe_str pa_nil)) (pe_callTy call_int1 rfl (free_int D) (by decide +kernel) (pa_cons (pe_cmpR op_eq (pe_callH H__law_draw (hr.mono (by omega)) rfl (glo__law_draw D) passL (pa_cons (pv 1) (pa_cons pe_int pa_nil))) pe_int (nomark _)) pa_nil)))))))))))
      pss_nil)
      (pss_cons (ps_ifT (ptt_and (ptt_cmp op_gt (pe_callB (call_lenK K) rfl (free_len D) PySem.boot_len (pa_cons (pv 5) pa_nil)) (nomark _)) (pw_and1 (pt_cmpR op_eq (pe_callH H__law_draw (hr.mono (by omega)) rfl (glo__law_draw D) passL (pa_cons (pv 1) (pa_cons pe_int pa_nil))) pe_int (nomark _))))
      (psst_cons (PST.of (ps_set (i := 7) sc_law.nd rfl (Or.inl rfl) (pe_callH H__law_draw (hr.mono (by omega)) rfl (glo__law_draw D) passL (pa_cons (pv 1) (pa_cons (pe_callB (call_lenK K) rfl (free_len D) PySem.boot_len (pa_cons (pv 5) pa_nil)) pa_nil)))))
      (psst_one (pst_set (i := 5) sc_law.nd rfl (Or.inl rfl) (pet_op op_cat (pet_op op_cat (PET.of (pe_slice (sl_listK K) (pv 5) po_none (po_some (pv 7)))) (pet_lst (pat_cons (pet_replC (pe_ix (ix_listK K) (pv 5) (pv 7) (fun _ _ => rfl))) pat_nil))) (PET.of (pe_slice (sl_listK K) (pv 5) (po_some (pe_op op_add (pv 7) pe_int)) po_none))))))
      pss_nil)
      (pss_cons (ps_set (i := 8) sc_law.nd rfl (Or.inl rfl) (pe_callH H__law_bad (hr.mono (by omega)) rfl (glo__law_bad D) passL (pa_cons (pv 5) (pa_cons (pv 2) (pa_cons (pe_op op_add (pe_callB (call_lenK K) rfl (free_len D) PySem.boot_len (pa_cons (pe_ix (ix_tupK K) (pv 2) pe_int (fun _ _ => rfl)) pa_nil)) (pe_callB (call_lenK K) rfl (free_len D) PySem.boot_len (pa_cons (pe_ix (ix_tupK K) (pv 3) pe_int (fun _ _ => rfl)) pa_nil))) pa_nil)))))
      (pss_cons (L2N.ps_try_as (i := 10) (Wout := fun _ _ _ _ => False) rfl rfl sc_law.nd rfl rfl ⟨rfl, by decide, .inl (glo_TestError D)⟩ takesN0
      (fun W pn xe tk _ => pss_one (ps_set (i := 9) sc_law.nd rfl (Or.inl rfl) (pe_callH H_paper_lines (hr.mono (by omega)) rfl (glo_paper_lines D) passL (pa_cons (pe_callSHN H_read_paper (hr.mono (by omega)) rfl (glo_read_paper D) (fun σ => L2N.passAt tk σ) (pa_cons (pe_ix (ix_listK K) (pv 4) pe_int (fun _ _ => rfl)) (pa_cons (pe_ix (ix_listK K) (pv 4) pe_int (fun _ _ => rfl)) (pa_cons (pe_callTy (call_list_ofK K) rfl (free_list D) (by decide +kernel) (pa_cons (pv 5) pa_nil)) pa_nil)))) pa_nil))))
      (fun a oe cls d pn hz hf => pss_cons (ps_if (PW.pt (pw_or (pt_not (pt_val (pe_callB (call_isEd (isE_BadPaper D) hz.zc hf) rfl (free_isinstance D) (by decide +kernel) (pa_cons (pv 10) (pa_cons (pe_glob (v := .ref (He.ga K "BadPaper")) rfl (glo_BadPaper D) rfl) pa_nil))))) (pw_or1 (pt_val (pe_callB (call_isETd (isE_BadPaper D) hz.zc hf) rfl (free_isinstance D) (by decide +kernel) (pa_cons (pv 10) (pa_cons (pe_tup (pa_cons (pe_glob (v := .ref (He.ga K "BadMachine")) rfl (glo_BadMachine D) rfl) (pa_cons (pe_glob (v := .ref (He.ga K "BadRatio")) rfl (glo_BadRatio D) rfl) (pa_cons (pe_glob (v := .ref (He.ga K "BadText")) rfl (glo_BadText D) rfl) (pa_cons (pe_glob (v := .ref (He.ga K "TooLarge")) rfl (glo_TooLarge D) rfl) pa_nil))))) pa_nil)))))))
        (pss_one (ps_ret pe_bl))
        pss_nil)
        (pss_one (ps_ret (pe_and (pe_cmpR op_notN (pv 8) pe_non (nomark _)) (pe_one (L2H.pe_callH (E := fun _ => E0) H_sameH (L2H.roomH_mark (hr.mono (show 1 ≤ 19 by decide)) _) (hot_suite hz hf) rfl (glo__law_same D) kH bH (fun σ _ _ _ _ _ _ h => (cx_none h).elim) (pa_cons (pe_xf (oex_BadPaper D).xf (oex_BadPaper D).no hz.zc hf (pv 10)) (pa_cons (pv 8) pa_nil)))))))))
      (pss_one (ps_ret (pe_and (pe_cmpR op_isN (pv 8) pe_non (nomark _)) (pe_one (pe_callH H__law_same (hr.mono (by omega)) rfl (glo__law_same D) passL (pa_cons (pv 9) (pa_cons (pv 5) pa_nil)))))))))))))))⟩
end
end K

set_option Elab.async false
set_option linter.all false
set_option maxRecDepth 100000
set_option maxHeartbeats 4000000
set_option exponentiation.threshold 5000
namespace K
open PySem PySem.Spec PyProof.Rows L2 Tk Hd Rd Mt TL CwR
theorem strs_da {H : Hp} {v u : V} {ws : List Str} (rv : iL iS H v ws) (ru : iL iS H u ws) (hl : ws.length ≤ 1000) : ∃ x y : Da, dR H v x ∧ dR H u y ∧ dep y ≤ 1 ∧ tame x ∧ tame y ∧ eqd x y = true := by
  obtain ⟨a, rfl, ha⟩ := iL_strs rv
  obtain ⟨b, rfl, hb⟩ := iL_strs ru
  refine ⟨.lst (ws.map Da.str), .lst (ws.map Da.str), ?_, ?_, by simp only [dep, dep_strs]; decide, ?_, ?_, (eqd_iff _ _).mpr rfl⟩
  · simp only [dR]; exact ⟨a, _, rfl, ha, dRs_strs ws⟩
  · simp only [dR]; exact ⟨b, _, rfl, hb, dRs_strs ws⟩
  · simp only [tame]; exact ⟨by rw [List.length_map]; omega, tame_strs ws⟩
  · simp only [tame]; exact ⟨by rw [List.length_map]; omega, tame_strs ws⟩
section
variable {P : Program} {w : World} {K : PySem.W.Frag} {mg : Str → Option Value} {base : Heap}
/-- two machines of one alphabet -/
structure PrL (A B : Ma) (n1 n2 bs as : Nat) : Prop where
  e1 : A.1.length = n1
  e2 : B.1.length = n2
  e3 : A.2.length = bs
  e4 : (gl A.2 0).length = as
  p1 : 0 < n1
  p2 : 0 < n2
  q1 : n1 ≤ 12
  q2 : n2 ≤ 12
  sz : n1 + n2 ≤ 12
  b0 : 0 < bs
  b1 : bs ≤ 4
  a0 : 0 < as
  a1 : as ≤ 4
  okA : MOk A n1 bs as
  okB : MOk B n2 bs as
theorem PrL.of {A B : Ma} {n1 n2 bs as : Nat} (okA : MOk A n1 bs as) (okB : MOk B n2 bs as) (sz : n1 + n2 ≤ 12) : PrL A B n1 n2 bs as :=
  ⟨okA.l0, okB.l0, okA.l1, okA.l2 0 okA.b0, okA.n0, okB.n0, okA.n1, okB.n1, sz, okA.b0, okA.b1, okA.a0, okA.a1, okA, okB⟩
theorem rep_flat (z : Str) : ∀ n, (List.replicate n [V.str z]).flatten = (List.replicate n z).map V.str
  | 0 => rfl
  | n + 1 => by rw [List.replicate_succ, List.replicate_succ, List.flatten_cons, rep_flat z n]; rfl
theorem repS_of {I H : Hp} {a : Addr} {z : Str} {n : Nat} {Q : VK} (s : Same I H) (ha : I a = some (.lst [V.str z])) (hn : n ≤ 1000) (k : ∀ I' H' c, Gr [] I H I' H' → I' c = some (.lst ((List.replicate n z).map V.str)) → Q (.ref c) H') : rRep (.ref a) (.int (n : Int)) H Q := by
  refine ⟨a, (n : Int), _, rfl, rfl, s _ _ ha, by omega, by omega, ?_, fun l hl => k _ _ l (Gr.new s hl) ?_⟩
  · rw [Int.toNat_natCast]; exact Nat.le_of_lt (lt_line (by simp; omega))
  · rw [upd_same, Int.toNat_natCast, rep_flat]
theorem lq_ones : LQ ("1 1" : Str) := by
  have h1 : Pw ("1" : Str) := pw_of (by decide +kernel)
  have e : jn [("1" : Str), ("1" : Str)] = ("1 1" : Str) := by decide +kernel
  rw [← e]
  exact lq_jn (by simp) (fun z hz => by rcases List.mem_cons.mp hz with rfl | hz; exact h1; rw [List.mem_singleton.mp hz]; exact h1) (by simp)
theorem lq_zero : LQ ("0" : Str) := by
  have h1 : Pw ("0" : Str) := pw_of (by decide +kernel)
  rw [← jn_one ("0" : Str)]
  exact lq_jn (by simp) (fun z hz => by rw [List.mem_singleton.mp hz]; exact h1) (by simp)
theorem lq_zeros {n : Nat} (h0 : 0 < n) (hn : n ≤ 60) : LQ (Txt.join " " (List.replicate n ("0" : Str))) := by
  have h1 : Pw ("0" : Str) := pw_of (by decide +kernel)
  exact lq_jn (ws := List.replicate n ("0" : Str)) (by intro h; have := congrArg List.length h; simp at this; omega) (fun z hz => by rw [(List.mem_replicate.mp hz).2]; exact h1) (by simp; omega)
theorem lq_same {n : Nat} (hn : n ≤ 100) : LQ (("same " : Str) ++ dec n) := by
  have e := same_jn n
  rw [empty_app'] at e
  rw [e]
  exact lq_jn (by simp) (fun z hz => by rcases List.mem_cons.mp hz with rfl | hz; exact pw_same; rw [List.mem_singleton.mp hz]; exact dec_pw hn) (by simp)
theorem sum_rep (n : Nat) : ((List.replicate n ("0" : Str)).map fun x => x.length).sum = n := by
  have d : ("0" : Str).length = 1 := by decide +kernel
  rw [List.map_replicate, d]; simp
/-- before the lines are read -/
def Lst (K : PySem.W.Frag) (a p : Addr) (σ : L2.St) (H : Hp) : Prop := ∃ (I : Hp) (v2 v3 : V) (m c : Addr) (u1 u2 : V) (A B : Ma) (n1 n2 bs as : Nat) (L : List Str) (w6 w7 : Option V),
  σ = [some (.ref a), some (.ref p), some v2, some v3, some (.ref m), some (.ref c), w6, w7, none, none, none] ∧ Same I H ∧ PoolOk I H p ∧ iLM I v2 A ∧ iLM I v3 B ∧ PrL A B n1 n2 bs as ∧ I m = some (.lst [u1, u2]) ∧
  iM (CR K) (CM K) I u1 A ∧ iM (CR K) (CM K) I u2 B ∧ I c = some (.lst (L.map V.str)) ∧ L.length ≤ 200 ∧ ∀ l ∈ L, LQ l
theorem ok_law (D : Dt K mg) {fd : FuncData} (F : FnP K "law" "law" s_law [] (He.ga K "law") fd) : FnOk P w K mg base (L2.CX P w) 20 (He.ga K "law") fd ["script"] (spLaw K) := by
  obtain ⟨fdH, kH, bH, H_sameH⟩ := ok_sameHot (P := P) (w := w) (base := base) D
  refine fnN F sc_law (fun vs H Q E h => ?_) (fun cdv A outer s H vs Q E hr h => ?_)
  · obtain ⟨a, ns, rfl, _⟩ := h; rfl
  · obtain ⟨a, ns, rfl, hS, hl, k⟩ := h
    refine ⟨_, (lawP D hr kH bH H_sameH).2, ?_⟩
    unfold lawP
    (try dsimp only)
    refine seq_cut (fun σ' H1 => ∃ (I1 : Hp) (p : Addr), σ' = [some (.ref a), some (.ref p), none, none, none, none, none, none, none, none, none] ∧ Same I1 H1 ∧ PoolOk I1 H1 p) (fun nx q => ?_) ?_
    · refine ⟨_, rfl, fun _ => none, a, ns, 0, rfl, (fun _ _ h => nomatch h), hS, by omega, fun I1 H1 p g1 po1 _ => q _ _ ⟨I1, p, rfl, g1.ih, po1⟩⟩
    clear hS hl
    rintro σ' H1 ⟨I1, p, rfl, s1, po1⟩
    (try dsimp only)
    -- one, other
    refine seq_cut (fun σ' H2 => ∃ (I2 : Hp) (v2 v3 : V) (A B : Ma) (n1 n2 bs as : Nat), σ' = [some (.ref a), some (.ref p), some v2, some v3, none, none, none, none, none, none, none] ∧ Same I2 H2 ∧ PoolOk I2 H2 p ∧ iLM I2 v2 A ∧ iLM I2 v3 B ∧ PrL A B n1 n2 bs as ∧ n1 + n2 ≤ 6) (fun nx q => ?_) ?_
    · refine ⟨_, rfl, I1, p, 2, rfl, s1, po1, by omega, by omega, fun I2 H2 v A B n1 n2 bs as g2 po2 r2 pr => ?_⟩
      obtain ⟨t, x, y, rfl, ht, rx, ry⟩ := r2
      have sz := pr.sz
      exact ⟨t, _, rfl, SqT.of (g2.ih _ _ ht), rfl, _, _, rfl, _, _, rfl, rfl, q _ _ ⟨I2, x, y, A, B, n1, n2, bs, as, rfl, g2.ih, po2, rx, ry, PrL.of pr.one.ok pr.two.ok (by omega), by omega⟩⟩
    clear s1 po1 I1
    rintro σ' H2 ⟨I2, v2, v3, A, B, n1, n2, bs, as, rfl, s2, po2, rA, rB, pr, n6⟩
    (try dsimp only)
    -- made
    refine seq_cut (fun σ' H3 => ∃ (I3 : Hp) (m : Addr) (u1 u2 : V), σ' = [some (.ref a), some (.ref p), some v2, some v3, some (.ref m), none, none, none, none, none, none] ∧ Gr [] I2 H2 I3 H3 ∧ I3 m = some (.lst [u1, u2]) ∧ iM (CR K) (CM K) I3 u1 A ∧ iM (CR K) (CM K) I3 u2 B) (fun nx q => ?_) ?_
    · refine ⟨_, rfl, I2, v2, A, n1, bs, as, rfl, s2, rA, pr.okA, fun I3 H3 u1 g3 r3 => ⟨_, rfl, I3, v3, B, n2, bs, as, rfl, g3.ih, up g3.ii rB, pr.okB, fun I4 H4 u2 g4 r4 => ?_⟩⟩
      refine ⟨(by show 2 ≤ sizeLine; decide), fun l hl => ?_⟩
      have g5 := Gr.new (ms := []) (o := .lst [u1, u2]) g4.ih hl
      exact q _ _ ⟨_, l, u1, u2, rfl, (g3.trans g4).trans g5, upd_same, up (g4.ii.trans g5.ii) r3, up g5.ii r4⟩
    rintro σ' H3 ⟨I3, m, u1, u2, rfl, g3, hm3, ru1, ru2⟩
    (try dsimp only)
    have po3 := po2.up g3 (by simp)
    have s3 := g3.ih
    have rA := up g3.ii rA
    have rB := up g3.ii rB
    clear s2 po2 g3
    -- lines
    refine seq_cut (fun σ' H4 => ∃ (I4 : Hp) (c : Addr) (L : List Str), σ' = [some (.ref a), some (.ref p), some v2, some v3, some (.ref m), some (.ref c), none, none, none, none, none] ∧ Gr [p] I3 H3 I4 H4 ∧ PoolOk I4 H4 p ∧ I4 c = some (.lst (L.map V.str)) ∧ Ls 3 L) (fun nx q => ?_) ?_
    · refine ⟨_, rfl, _, rfl, _, rfl, _, rfl, I3, p, v2, v3, A, B, n1, n2, bs, as, rfl, s3, po3, rA, rB, pr.e1, pr.e2, pr.e3, pr.e4, pr.b0, pr.b1, pr.a0, pr.a1, pr.p1, by omega, fun I4 H4 v F g4 po4 dr fd => ?_⟩
      obtain ⟨t, vl, vw, vx, rfl, ht, rl, _⟩ := dr
      refine ⟨t, _, _, _, rfl, rfl, SqT.of (g4.ih _ _ ht), at_of (j := 0) rfl rfl, I4, p, vl, foLines F, rfl, g4.ih, po4, rl, fd.ls pr.b1 pr.a1 (by omega), fun I5 H5 v' L g5 po5 r5 ls => ?_⟩
      obtain ⟨c, rfl, hc⟩ := iL_strs r5
      exact q _ _ ⟨I5, c, L, rfl, g4.trans g5, po5, hc, ls⟩
    rintro σ' H4 ⟨I4, c, L, rfl, g4, po4, hc, ls⟩
    (try dsimp only)
    refine seq_cut (Lst K a p) (fun nx q => ?_) ?_
    · have s4 := g4.ih
      have q1 : ∀ {H5}, Gr [p] I4 H4 I4 H5 → PoolOk I4 H5 p → nx [some (.ref a), some (.ref p), some v2, some v3, some (.ref m), some (.ref c), none, none, none, none, none] H5 := fun {H5} g po => q _ _ ⟨I4, v2, v3, m, c, u1, u2, A, B, n1, n2, bs, as, L, none, none, rfl, g.ih, po, up g4.ii rA, up g4.ii rB, pr, g4.ii _ _ hm3, up g4.ii ru1, up g4.ii ru2, hc, by have := ls.len; omega, fun l hl => lq_ln (ls.ok l hl) (by decide)⟩
      refine ⟨_, rfl, I4, p, 8, rfl, s4, po4, by decide, by decide, fun x H5 a5 b5 g5 po5 => ⟨rfl, _, rfl, ?_⟩⟩
      refine ifB (fun cc => ?_) (fun cc => ?_)
      rotate_left
      · exact q1 g5 po5
      clear rA rB ru1 ru2 hm3 hc ls pr q1 s3 po3 n6
      refine seq_cut (fun σ' H6 => ∃ (I6 : Hp) (v2 : V) (A : Ma), σ' = [some (.ref a), some (.ref p), some v2, some v3, some (.ref m), some (.ref c), none, none, none, none, none] ∧ Same I6 H6 ∧ PoolOk I6 H6 p ∧ iLM I6 v2 A ∧ MOk A 1 1 1) (fun nx2 q2 => ?_) ?_
      · exact ⟨_, rfl, I4, p, 1, 1, 1, rfl, g5.ih, po5, ⟨by decide, by decide⟩, ⟨by decide, by decide⟩, ⟨by decide, by decide⟩, fun I6 H6 v M g6 po6 r6 ok => q2 _ _ ⟨I6, v, M, rfl, g6.ih, po6, r6, (ok.ml.up (m := 36) (by decide)).ok⟩⟩
      clear g5 po5 s4 g4 po4
      rintro σ' H6 ⟨I6, v2, A, rfl, s6, po6, rA, okA⟩
      (try dsimp only)
      refine seq_cut (fun σ' H7 => ∃ (I7 : Hp) (v3 : V) (B : Ma), σ' = [some (.ref a), some (.ref p), some v2, some v3, some (.ref m), some (.ref c), none, none, none, none, none] ∧ Same I7 H7 ∧ PoolOk I7 H7 p ∧ iLM I7 v2 A ∧ iLM I7 v3 B ∧ PrL A B 1 1 1 1) (fun nx2 q2 => ?_) ?_
      · exact ⟨_, rfl, I6, p, 1, 1, 1, rfl, s6, po6, ⟨by decide, by decide⟩, ⟨by decide, by decide⟩, ⟨by decide, by decide⟩, fun I7 H7 v M g7 po7 r7 ok => q2 _ _ ⟨I7, v, M, rfl, g7.ih, po7, up g7.ii rA, r7, PrL.of okA (ok.ml.up (m := 36) (by decide)).ok (by decide)⟩⟩
      clear s6 po6 rA okA
      rintro σ' H7 ⟨I7, v3, B, rfl, s7, po7, rA, rB, pr⟩
      (try dsimp only)
      refine seq_cut (fun σ' H3 => ∃ (I3 : Hp) (m : Addr) (u1 u2 : V), σ' = [some (.ref a), some (.ref p), some v2, some v3, some (.ref m), some (.ref c), none, none, none, none, none] ∧ Gr [] I7 H7 I3 H3 ∧ I3 m = some (.lst [u1, u2]) ∧ iM (CR K) (CM K) I3 u1 A ∧ iM (CR K) (CM K) I3 u2 B) (fun nx2 q2 => ?_) ?_
      · refine ⟨_, rfl, I7, v2, A, 1, 1, 1, rfl, s7, rA, pr.okA, fun I3 H3 u1 g3 r3 => ⟨_, rfl, I3, v3, B, 1, 1, 1, rfl, g3.ih, up g3.ii rB, pr.okB, fun I4 H4 u2 g4 r4 => ?_⟩⟩
        refine ⟨(by show 2 ≤ sizeLine; decide), fun l hl => ?_⟩
        have g5 := Gr.new (ms := []) (o := .lst [u1, u2]) g4.ih hl
        exact q2 _ _ ⟨_, l, u1, u2, rfl, (g3.trans g4).trans g5, upd_same, up (g4.ii.trans g5.ii) r3, up g5.ii r4⟩
      rintro σ' H8 ⟨I8, m, u1, u2, rfl, g8, hm8, ru1, ru2⟩
      (try dsimp only)
      have po8 := po7.up g8 (by simp)
      have s8 := g8.ih
      have rA := up g8.ii rA
      have rB := up g8.ii rB
      clear s7 po7 g8
      -- count
      refine seq_cut (fun σ' H9 => ∃ n : Nat, σ' = [some (.ref a), some (.ref p), some v2, some v3, some (.ref m), some (.ref c), some (.int (n : Int)), none, none, none, none] ∧ Gr [p] I8 H8 I8 H9 ∧ PoolOk I8 H9 p ∧ 0 < n ∧ n ≤ 25) (fun nx2 q2 => ?_) ?_
      · refine ⟨_, rfl, I8, p, 18, rfl, s8, po8, by decide, by decide, fun x H9 a9 b9 g9 po9 => ⟨_, _, rfl, rfl, ?_⟩⟩
        obtain ⟨z, rfl⟩ := Int.eq_ofNat_of_zero_le a9
        exact q2 _ _ ⟨8 + z, by rw [show ((8 + z : Nat) : Int) = 8 + (z : Int) from by omega]; rfl, g9, po9, by omega, by omega⟩
      rintro σ' H9 ⟨n, rfl, g9, po9, n0, n1⟩
      (try dsimp only)
      refine seq_cut (fun σ' H10 => ∃ (I10 : Hp) (c : Addr) (L : List Str), σ' = [some (.ref a), some (.ref p), some v2, some v3, some (.ref m), some (.ref c), some (.int (n : Int)), none, none, none, none] ∧ Gr [p] I8 H8 I10 H10 ∧ PoolOk I10 H10 p ∧ I10 c = some (.lst (L.map V.str)) ∧ L.length ≤ 100 ∧ ∀ l ∈ L, LQ l) (fun nx2 q2 => ?_) ?_
      · have e5 : ("same " : Str).length = 5 := by decide +kernel
        have dn := dec100 (st := n) (by omega)
        refine ⟨_, rfl, _, rfl, log100 (by omega), _, _, rfl, rfl, line_of (by show ("same " : Str).length + (dec n).length ≤ _; omega), (by show 1 ≤ sizeLine; decide), fun l1 hl1 => ?_⟩
        have h1 := Gr.new (ms := []) (o := .lst ([("same " : Str) ++ dec n].map V.str)) g9.ih hl1
        refine ⟨(by show 1 ≤ sizeLine; decide), fun l2 hl2 => ?_⟩
        have h2 := Gr.new (ms := []) (o := .lst [V.str ("1 1" : Str)]) h1.ih hl2
        refine ⟨_, rfl, repS_of (n := n) h2.ih upd_same (by omega) fun I3 H3 c3 h3 hc3 => ?_⟩
        refine catL_of (xs := [("same " : Str) ++ dec n]) h3.ih (h3.ii _ _ (h2.ii _ _ upd_same)) hc3 (by simp; omega) fun I4 H4 c4 h4 hc4 => ?_
        refine ⟨rfl, (by show 1 ≤ sizeLine; decide), fun l5 hl5 => ?_⟩
        have h5 := Gr.new (ms := []) (o := .lst [V.str ("0" : Str)]) h4.ih hl5
        refine ⟨_, rfl, repS_of (n := n) h5.ih upd_same (by omega) fun I6 H6 c6 h6 hc6 => ?_⟩
        refine ⟨" ", c6, List.replicate n ("0" : Str), rfl, rfl, .inl (SqL.of (h6.ih _ _ hc6)), ?_, (by show 1 ≤ sizeLine; decide), fun l7 hl7 => ?_⟩
        · rw [sum_rep, List.length_replicate, show (" " : Str).length = 1 from by decide +kernel]; omega
        have h7 := Gr.new (ms := []) (o := .lst [V.str (Txt.join " " (List.replicate n ("0" : Str)))]) h6.ih hl7
        refine ⟨_, rfl, _, _, rfl, rfl, ?_⟩
        (try dsimp only)
        rw [show (n : Int) + 1 = ((n + 1 : Nat) : Int) from by omega]
        refine repS_of (n := n + 1) h7.ih upd_same (by omega) fun I8' H8' c8 h8 hc8 => ?_
        have G := ((h5.trans h6).trans h7).trans h8
        refine catL_of h8.ih (G.ii _ _ hc4) hc8 (by simp; omega) fun I9 H9 c9 h9 hc9 => ?_
        have GG := g9.trans ((((h1.trans h2).trans h3).trans (h4.trans G)).trans h9).nil
        refine q2 _ _ ⟨I9, c9, _, rfl, GG, po9.up ((((h1.trans h2).trans h3).trans (h4.trans G)).trans h9) (by simp), hc9, by simp; omega, fun l hm => ?_⟩
        rcases List.mem_append.mp hm with hm | hm
        · rcases List.mem_append.mp hm with hm | hm
          · rw [List.mem_singleton.mp hm]; exact lq_same (by omega)
          · rw [(List.mem_replicate.mp hm).2]; exact lq_ones
        · rw [(List.mem_replicate.mp hm).2]; exact lq_zeros n0 (by omega)
      rintro σ' H10 ⟨I10, c, L, rfl, g10, po10, hc, hl, lq⟩
      (try dsimp only)
      refine ⟨_, rfl, ?_⟩
      (try dsimp only [tNoPart, tPart])
      refine ⟨_, rfl, _, _, rfl, .inl ⟨_, SqL.of (g10.ih _ _ hc), rfl⟩, _, rfl, I10, p, 2, rfl, g10.ih, po10, by decide, by decide, fun x H11 a11 b11 g11 po11 => ⟨_, _, rfl, rfl, _, rfl, ?_⟩⟩
      refine slL_of g11.ih hc fun I12 H12 c12 g12 hc12 => ?_
      refine ⟨(by show 1 ≤ sizeLine; decide), fun l13 hl13 => ?_⟩
      have g13 := Gr.new (ms := []) (o := .lst [V.str ("0" : Str)]) g12.ih hl13
      have po13 := (po11.up g12 (by simp)).up g13 (by simp)
      refine ⟨_, rfl, _, p, 4, rfl, g13.ih, po13, by decide, by decide, fun y H14 a14 b14 g14 po14 => ?_⟩
      refine ⟨rfl, .inr ⟨_, rfl, ?_⟩⟩
      obtain ⟨z, ez, hz⟩ : ∃ z : Nat, (if decide (V.int y = V.int 0) = true then (1 : Int) else 0) = (z : Int) ∧ z ≤ 1 := by
        by_cases c9 : decide (V.int y = V.int 0) = true
        · exact ⟨1, by rw [if_pos c9]; rfl, Nat.le_refl _⟩
        · exact ⟨0, by rw [if_neg c9]; rfl, Nat.zero_le _⟩
      (try dsimp only)
      rw [ez]
      refine repS_of (n := z) g14.ih (g14.ii _ _ upd_same) (by omega) fun I15 H15 c15 g15 hc15 => ?_
      have cl := cutW_le (ws := L) (lo := none) (hi := some ((L.map V.str).length - x))
      refine catL_of g15.ih (g15.ii _ _ (g14.ii _ _ (g13.ii _ _ hc12))) hc15 (by rw [List.length_replicate]; omega) fun I16 H16 c16 g16 hc16 => ?_
      have GG := (((g11.trans g12.nil).trans g13.nil).trans g14).trans (g15.trans g16).nil
      have Gi := g10.ii.trans GG.ii
      refine q _ _ ⟨I16, v2, v3, m, c16, u1, u2, A, B, 1, 1, 1, 1, _, _, _, rfl, GG.ih, po14.up (g15.trans g16) (by simp), up Gi rA, up Gi rB, pr, Gi _ _ hm8, up Gi ru1, up Gi ru2, hc16, by rw [List.length_append, List.length_replicate]; omega, fun l hm => ?_⟩
      rcases List.mem_append.mp hm with hm | hm
      · exact lq l (cutW_mem hm)
      · rw [(List.mem_replicate.mp hm).2]; exact lq_zero
    clear s3 po3 rA rB ru1 ru2 hm3 pr n6 g4 po4 hc ls
    rintro σ' H5 ⟨I5, v2, v3, m, c, u1, u2, A, B, n1, n2, bs, as, L1, w6, w7, rfl, s5, po5, rA, rB, pr, hm5, ru1, ru2, hc5, lL1, lq⟩
    (try dsimp only)
    -- tab
    refine seq_cut (fun σ' H12 => ∃ (I12 : Hp) (w7 : Option V) (c : Addr) (L : List Str), σ' = [some (.ref a), some (.ref p), some v2, some v3, some (.ref m), some (.ref c), w6, w7, none, none, none] ∧ Gr [p] I5 H5 I12 H12 ∧ I12 c = some (.lst (L.map V.str)) ∧ L.length ≤ 500 ∧ ∀ l ∈ L, LP l) (fun nx q => ?_) ?_
    · have qn : ∀ {I' H'} {w7 : Option V}, Gr [p] I5 H5 I' H' → nx [some (.ref a), some (.ref p), some v2, some v3, some (.ref m), some (.ref c), w6, w7, none, none, none] H' := fun {I' H'} {w7} g => q _ _ ⟨I', w7, c, L1, rfl, g, g.ii _ _ hc5, by omega, fun l hl => (lq l hl).lp⟩
      refine ⟨_, rfl, _, L1.length, rfl, .inl ⟨_, SqL.of (s5 _ _ hc5), by rw [List.length_map]⟩, _, _, rfl, rfl, _, rfl, ?_⟩
      refine ifB (fun c1 => ?_) (fun c1 => qn (Gr.refl s5))
      have c1 : 0 < L1.length := by simpa using c1
      refine ⟨_, rfl, I5, p, 6, rfl, s5, po5, by decide, by decide, fun v12 H12 a12 b12 g12 po12 => ?_⟩
      refine ⟨rfl, _, rfl, ?_⟩
      refine ifB (fun c2 => ?_) (fun c2 => qn g12)
      refine seq_cut (fun σ' H13 => ∃ (pl : Nat), σ' = [some (.ref a), some (.ref p), some v2, some v3, some (.ref m), some (.ref c), w6, some (.int (pl : Int)), none, none, none] ∧ Gr [p] I5 H5 I5 H13 ∧ pl < L1.length) (fun nx2 q2 => ?_) ?_
      · refine ⟨_, rfl, _, rfl, _, L1.length, rfl, .inl ⟨_, SqL.of (g12.ih _ _ hc5), by rw [List.length_map]⟩, I5, p, L1.length, rfl, g12.ih, po12, by omega, by omega, fun v13 H13 a13 b13 g13 po13 => ?_⟩
        obtain ⟨pl, rfl⟩ := Int.eq_ofNat_of_zero_le a13
        exact q2 _ _ ⟨pl, rfl, g12.trans g13, by omega⟩
      rintro σ' H13 ⟨pl, rfl, g13, hpl⟩
      (try dsimp only)
      have hc13 := hc5
      have hx1 : L1[pl]? = some L1[pl] := List.getElem?_eq_getElem hpl
      have hm1 := List.getElem_mem hpl
      generalize L1[pl] = lx at hx1 hm1
      have okx := lq lx hm1
      have hsx := okx.size
      have hxv : (L1.map V.str)[pl]? = some (.str lx) := by rw [List.getElem?_map, hx1]; rfl
      refine ⟨_, rfl, _, rfl, _, rfl, ?_⟩
      refine slL_of g13.ih hc13 fun I14 H14 cA g14 hcA => ?_
      refine ⟨_, rfl, _, rfl, _, _, _, _, rfl, rfl, SqL.of (g14.ih _ _ (g14.ii _ _ hc13)), at_of (j := pl) rfl hxv, lx, rfl, ?_, (by show 1 ≤ sizeLine; decide), fun d hd => ?_⟩
      · have : ("\t" : Str).length = 1 := by decide +kernel
        rw [this]
        omega
      have g15 := Gr.new (ms := []) (o := .lst ([Txt.replace lx " " "\t"].map V.str)) g14.ih hd
      refine catL_of g15.ih (g15.ii _ _ hcA) upd_same (by have := cutW_le (ws := L1) (lo := none) (hi := some (pl : Int)); simp; omega) fun I16 H16 cB g16 hcB => ?_
      have G := (g14.trans g15).trans g16
      refine ⟨_, rfl, _, rfl, _, _, rfl, rfl, _, rfl, ?_⟩
      (try dsimp only [tNoPart])
      refine slL_of G.ih (G.ii _ _ hc13) fun I17 H17 cC g17 hcC => ?_
      have q1 := cutW_le (ws := L1) (lo := none) (hi := some (pl : Int))
      have q3 := cutW_le (ws := L1) (lo := some ((pl : Int) + 1)) (hi := none)
      refine catL_of g17.ih (g17.ii _ _ hcB) hcC (by simp; omega) fun I18 H18 cD g18 hcD => ?_
      have G2 := (G.trans g17).trans g18
      refine q _ _ ⟨I18, _, cD, _, rfl, g13.trans G2.nil, hcD, by simp; omega, fun x hx => ?_⟩
      rcases List.mem_append.mp hx with hx | hx
      · rcases List.mem_append.mp hx with hx | hx
        · exact (lq x (cutW_mem hx)).lp
        · rw [List.mem_singleton.mp hx]; exact okx.tab
      · exact (lq x (cutW_mem hx)).lp
    rintro σ' H12 ⟨I12, w7', c', L, rfl, g12, hc12, ll12, lp⟩
    have rA := up g12.ii rA
    have rB := up g12.ii rB
    have ru1 := up g12.ii ru1
    have ru2 := up g12.ii ru2
    have hm12 := g12.ii _ _ hm5
    have s12 := g12.ih
    clear s5 po5 hm5 hc5 lL1 lq g12
    (try dsimp only)
    -- bad
    refine seq_cut (fun σ' H13 => ∃ (I13 : Hp), σ' = [some (.ref a), some (.ref p), some v2, some v3, some (.ref m), some (.ref c'), w6, w7', some (oInt (exN (readPaper L n1 n2 bs as))), none, none] ∧ Gr [] I12 H12 I13 H13) (fun nx q => ?_) ?_
    · obtain ⟨am, xm, ym, rfl, hma, rx, ry⟩ := id rA
      obtain ⟨am2, xm2, ym2, rfl, hma2, rx2, ry2⟩ := id rB
      have hrun := run_paper (n1 := n1) (n2 := n2) pr.b0 pr.b1 pr.a0 pr.a1 (by have := pr.p1; omega) L
      refine ⟨_, rfl, _, rfl, _, rfl, _, _, _, _, rfl, rfl, SqT.of (s12 _ _ hma), at_of (j := 0) rfl rfl, _, A.1.length, rfl, len_of (iA.l rx) s12, _, rfl, _, _, _, _, rfl, rfl, SqT.of (s12 _ _ hma2), at_of (j := 0) rfl rfl, _, B.1.length, rfl, len_of (iA.l rx2) s12, _, _, rfl, rfl, ?_⟩
      refine ⟨I12, .ref c', .ref am, A, L, n1 + n2, bs, as, by rw [pr.e1, pr.e2, Int.natCast_add]; rfl, s12, strs_iL hc12, by omega, lp, rA, pr.e3, pr.e4, pr.b0, pr.b1, pr.a0, pr.a1, fun I13 H13 g13 => ?_⟩
      rw [hrun]
      exact q _ _ ⟨I13, rfl, g13⟩
    rintro σ' H13 ⟨I13, rfl, g13⟩
    (try dsimp only)
    have hc13 := g13.ii _ _ hc12
    have rA := up g13.ii rA
    have rB := up g13.ii rB
    have ru1 := up g13.ii ru1
    have ru2 := up g13.ii ru2
    have hm13 := g13.ii _ _ hm12
    have s13 := g13.ih
    clear hc12 hm12 s12 g13
    refine seq_cut (fun σ' H15 => ∃ (I15 : Hp) (v9 : V), σ' = [some (.ref a), some (.ref p), some v2, some v3, some (.ref m), some (.ref c'), w6, w7', some .non, some v9, none] ∧ Gr [] I13 H13 I15 H15 ∧ iL iS I15 v9 L) (fun nx q => ?_) ?_
    · refine ⟨_, rfl, _, _, _, _, rfl, rfl, SqL.of (s13 _ _ hm13), at_of (j := 0) rfl rfl, _, rfl, _, _, _, _, rfl, rfl, SqL.of (s13 _ _ hm13), at_of (j := 1) rfl rfl, _, rfl, c', _, rfl, .inl (SqL.of (s13 _ _ hc13)), fun e he => ?_⟩
      have g14 := Gr.new (ms := []) (o := .lst (L.map V.str)) s13 he
      refine ⟨_, u1, u2, .ref e, A, B, L, n1, n2, bs, as, rfl, g14.ih, up g14.ii ru1, up g14.ii ru2, pr.e1, pr.e2, pr.e3, pr.e4, pr.q1, pr.q2, pr.b0, pr.b1, pr.a0, pr.a1, iA.l (strs_iL upd_same), plk_of (by omega) lp, ?_⟩
      cases er : readPaper L n1 n2 bs as with
      | ok F =>
        obtain ⟨t1, t2⟩ := paper_some (by omega) pr.q1 pr.q2 (by have := pr.p1; omega) pr.b1 pr.a1 er
        refine fun I15 H15 v15 g15 r15 => ⟨I15, v15, F, rfl, g15.ih, r15, t2, fun I16 H16 v16 g16 r16 => ?_⟩
        rw [t1] at r16
        exact q _ _ ⟨I16, v16, rfl, (g14.trans g15).trans g16, r16⟩
      | error n =>
        intro I' H' d g hd
        refine ⟨true, exm_BadPaper_TestError D, fun _ e9 he => ?_, fun q => nomatch q⟩
        refine ⟨_, rfl, rfl, ⟨d, _, rfl, hd⟩, _, _, true, rfl, (fun u r => r), kit_BadPaper_BadPaper D, _, rfl, ifF rfl ?_⟩
        refine ⟨_, rfl, (by show 4 ≤ sizeLine; decide), fun T hT => ?_⟩
        refine ⟨rfl, ⟨d, _, rfl, sNew hT _ _ hd⟩, T, _, _, false, rfl, upd_same, .cons (.own _) (.cons (.own _) (.cons (.own _) (.cons (.own _) .nil))), kitBP D, _, rfl, ifF rfl ?_⟩
        (try unfold tNext)
        (try dsimp only)
        refine ⟨_, rfl, rfl, _, rfl, ?_⟩
        refine ifT (by show (!decide (V.int (n : Int) = V.non)) = true; rw [decide_eq_false (fun h => by cases h)]; rfl) ?_
        refine ⟨_, rfl, rfl, rfl, d, _, .int (n : Int), rfl, sNew hT _ _ hd, rfl, _, rfl, .int (n : Int), .int (n : Int), .int (n : Int), .int (n : Int), rfl, by simp [dR], by simp [dR], rfl, rfl, ?_⟩
        rw [(eqd_iff _ _).mpr rfl]
        exact k _
    rintro σ' H15 ⟨I15, v9, rfl, g15, r9⟩
    (try dsimp only)
    refine ⟨_, rfl, rfl, _, rfl, ifT (decide_eq_true rfl) ?_⟩
    obtain ⟨x1, x2, e1, e2, e3, e4, e5, e6⟩ := strs_da (up g15.ih r9) (strs_iL (g15.ih _ _ (g15.ii _ _ hc13))) (by omega)
    refine ⟨_, rfl, _, rfl, _, _, x1, x2, rfl, e1, e2, e3, e4, e5, ?_⟩
    rw [e6]
    exact k _
end
end K

set_option Elab.async false
set_option linter.all false
set_option maxRecDepth 100000
namespace K
open PySem PySem.Spec PyProof.Rows L2 Tk Hd Rd
theorem facts {P : Program} {w : World} {K : PySem.W.Frag} {h : Heap} {mg : Str → Option Value} {f : Addr} (X : K.In h) (G : h.Ns mainGlobals mg) (hfa : mg ("law" : Str) = some (.ref f)) (c : SaysY ex fn K) :
    ∃ fd : FuncData, (∀ (s : Shared) (v : Value), BindsTo s fd ⟨[v], []⟩ [("script", v)]) ∧ ∀ base : Heap, K.In base → base.Ns mainGlobals mg → FnOk P w K mg base CX0 20 f fd ["script"] (fun vs H Q _ => spLaw K vs H Q E0) := by
  have D : Dt K mg := ⟨c, h, X, G⟩
  obtain ⟨fd, F⟩ := fd_law D
  have e := hfa.symm.trans (glo_law D)
  cases e
  have b := FunD.bindsA (ps := ["script"]) F fun _ _ _ _ _ _ us hl => match us, hl with | [_], _ => rfl
  exact ⟨fd, fun s v => b s [v] rfl, fun base _ _ => fn0 (ok_law D F)⟩
end K
open PySem PySem.W PySem.Calls PyProof.Rows
set_option maxHeartbeats 0 in
theorem PySem.Challenge.cw_notesttells_k61_whole_papers_are_read_ex_holds : PySem.Challenge.rw_notesttells_k61_whole_papers_are_read_ex.Holds := by
  w_on; o_law
  refine HandSHeadRun.head_imp (r := Hd.R) (q := Hd.vw) (H := Hd.hk) (ob := Hd.ob) (M := 20000) (loose := Hd.loose) (d := HandSHeadRun.topDef Hd.R.prog 67) (kwd := []) Hd.ob_eq Hd.run
    (by kernel_rfl) (by kernel_rfl) (by kernel_rfl) (by rfl) (by first | assumption | decide +kernel) (by decide +kernel) ⟨rfl, rfl, rfl, rfl, rfl, by decide +kernel⟩ ?hw ?hc
  case hw => w_witness2
  case hc =>
    refine L2.walk_ofE (l := PySem.Challenge.rw_notesttells_k61_whole_papers_are_read_ex) (n := 63) (k := 20) (x := "script") (CX := L2.CX0) rfl (by decide) (by kernel_rfl) ⟨rfl, by decide, by decide⟩ ?F (fun _ _ _ _ z => z)
    intro w mg fa h Y G hmg0
    obtain ⟨Kf, KX, c⟩ := Y
    have hmg : mg ("law" : PySem.Str) = some (.ref fa) := by
      have e : (HandSHeadRun.topDef Hd.R.prog 67).name = ("law" : PySem.Str) := by kernel_rfl
      rw [← e]
      exact hmg0
    obtain ⟨fd, hb, hF⟩ := K.facts (P := (PySem.Challenge.rw_notesttells_k61_whole_papers_are_read_ex).prog) (w := w) KX G hmg c
    exact ⟨Kf, fd, _, KX, hb, fun H a ns hl _ hS => ⟨a, ns, rfl, hS, hl, fun _ => rfl⟩, hF⟩

