import PyProof.Rows.All
import Wide.All
import OpenK.AllK
import Wide.FinOn
import KE.KCallOwn
import HandS.ForExc
import HandS.Gcd
import HandS.Wide
import HandS.Defaults
import HandS.ExcIs
import HandS.IsInst
import HandS.HeadEnd
import HandS.HeadHook2
import HandS.Head3
import HandS.MakeKwOnly
import HandS.MakeKw
import HandS.FStr
import HandS.CallSlots
import HandS.ForMost
import HandS.Comp
import HandS.Zip
import HandS.ForList
import KE.GoesMore
import KE.GoesZip
import HandS.TupAny
import PyProof.FitsInt
import PyProof.Rows.StrDigitsNeg
import HandS.OwnEq
import PySem.Challenge.RW_notesttells_k02_chances_of_ways
set_option Elab.async false
set_option linter.all false
set_option maxRecDepth 100000
set_option maxHeartbeats 4000000
namespace Tk
open PySem PySem.Spec PyProof.Rows L2

section
variable {X : Cx} {CXx : CXT} {k : Nat} {f C : Addr} {fd : FuncData} {ps : List Str} {sp : Sp} {E : XK}

/-- a def runs at any depth of this body -/
theorem runAt {A' : Around} {pins : List (Addr × Obj)} {σ : L2.St} {H : Hp} {s : Shared} {Q : VK} {us ds : List Value} {vs dvs : List V}
    (F : FnOk X.prog X.w X.K X.mg X.base CXx k f fd ps sp) (hr : Room k A') (he : Env0 X.prog X.w X.K X.mg X.base A' X.stack s H)
    (hb : Binds X.K fd ps ds) (hd : Vals dvs ds) (hx : Passes CXx X E) (I : Inv X pins σ H s) (r : Vals vs us) (h : sp (vs ++ dvs) H Q E) :
    wpAny (model X.prog X.w) A' (call (.ref f) us) (EP X pins σ Q) X.xe s := by
  have r2 := r.append hd
  have hl := r2.length.symm.trans (F.len _ _ _ _ h)
  refine wpAny_call (codeAny_mono (F.run A' X.stack s H ⟨us, []⟩ (us ++ ds) (vs ++ dvs) Q E hr he (hb s us I.kIn hl) r2 h) ?_)
  intro res s' z
  cases res with
  | error e => exact hx _ _ _ _ _ _ I z
  | ok fl => cases fl with
    | ret u => exact I.after z
    | _ => exact False.elim z

/-- what an operator of a class's own asks: both instances of it, the def's promise -/
def rOwn (C : Addr) (sp : Sp) (E : XK) : R2 := fun x y H Q => ∃ a b dx dy fs gs, x = .ref a ∧ y = .ref b ∧ H a = some (.ins C dx fs) ∧ H b = some (.ins C dy gs) ∧ sp [x, y] H Q E

theorem notNI {v : V} {u : Value} (r : RelV v u) : u ≠ .notImplemented := by
  intro e; subst e
  cases v with
  | non => cases (show Value.notImplemented = Value.none from r)
  | bl b => cases (show Value.notImplemented = Value.bool b from r)
  | int i => obtain ⟨t, e⟩ := (show ∃ t, Value.notImplemented = Value.int i t from r); cases e
  | str x => obtain ⟨t, e⟩ := (show ∃ t, Value.notImplemented = Value.str x t from r); cases e
  | byt b => obtain ⟨t, e⟩ := (show ∃ t, Value.notImplemented = Value.bytes b t from r); cases e
  | flt b => obtain ⟨t, e⟩ := (show ∃ t, Value.notImplemented = Value.float b t from r); cases e
  | ref a => cases (show Value.notImplemented = Value.ref a from r)
  | ty n => cases (show Value.notImplemented = Value.type n from r)
theorem cmpBack_of {Q : Value → Shared → Prop} {u : Value} {s : Shared} (n : u ≠ .notImplemented) (q : Q u s) : PySem.W.CmpBack Q u s := by
  cases u <;> first | exact absurd rfl n | exact q
theorem inst_of {pins : List (Addr × Obj)} {σ : L2.St} {H : Hp} {s : Shared} (I : Inv X pins σ H s) {a dx : Addr} {fs : List (Str × V)} (e : H a = some (.ins C dx fs)) : ∃ od, PySem.W.InstAt s.heap a (PySem.W.instObj C dx) C (some od) := by
  obtain ⟨mA, O, _⟩ := ins_get I.hok e
  obtain ⟨od, J, _⟩ := O.look
  exact ⟨od, J⟩

/-- a + b and the like by the class's own __add__ and the like -/
theorem op_own {op : Operator} (F : FnOk X.prog X.w X.K X.mg X.base CXx k f fd ps sp) (hr : Room k X.A) (hb : Binds X.K fd ps []) (hx : Passes CXx X E)
    (hc : PySem.W.selfFirst X.K C = true) (hs : PySem.W.findIn X.K (.ref C) (PySem.dunder op.info.2) = some (some (.ref f))) (hf : PySem.W.isFn X.K (.ref f) = true) :
    OpR X (binaryOp op) (rOwn C sp E) := by
  intro pins s σ H x y v u Q I rx ry h
  obtain ⟨a, b, dx, dy, fs, gs, rfl, rfl, ea, eb, h⟩ := h
  cases rx; cases ry
  obtain ⟨od, J⟩ := inst_of I ea
  obtain ⟨od', J'⟩ := inst_of I eb
  have KX := I.kIn
  obtain ⟨cd, hcd, hm⟩ := PySem.W.any_some hc
  obtain ⟨rest, hm⟩ : ∃ rest, cd.mro = .ref C :: rest := by
    cases q : cd.mro with
    | nil => rw [q] at hm; cases hm
    | cons z r => rw [q] at hm; rw [List.head?_cons] at hm; exact ⟨r, by rw [Option.some.inj (eq_of_beq hm)]⟩
  unfold binaryOp
  refine wpAny_holding (wpAny_bind ?_)
  unfold binaryOp1
  refine wpAny_bind (J.type.here (wpAny_bind (J'.type.here (wpAny_bind ((PySem.W.fills_K KX hcd hm hs).here ?_)))))
  simp only [beq_self_eq_true, if_true]
  refine wpAny_bind (wpAny_pure ?_)
  simp only [Bool.and_false, Bool.false_eq_true, if_false, Bool.false_and]
  refine wpAny_bind (wpAny_pure ?_)
  simp only [Bool.false_eq_true, if_false]
  refine wpAny_bind (m := tryMethod (.ref a) _ (.ref b)) ?_
  unfold tryMethod
  refine wpAny_bind (PySem.W.special_fn KX J hs (beq_iff_eq.mp hf) (wpAny_mono (runAt (vs := [.ref a, .ref b]) (dvs := []) F hr I.env0 hb .nil hx I (.cons rfl (.cons rfl .nil)) h) (fun r s' hv => ?_) fun _ _ e => e))
  obtain ⟨v', H', I', rv, q⟩ := hv
  have hn := notNI rv
  cases r <;> first | exact absurd rfl hn | exact wpAny_pure (wpAny_pure (wpAny_pure ⟨v', H', I', rv, q⟩))

/-- a == b by the class's own __eq__; b is of the same class -/
theorem rc_own {op : CmpOp} (F : FnOk X.prog X.w X.K X.mg X.base CXx k f fd ps sp) (hr : Room k X.A) (hb : Binds X.K fd ps []) (hx : Passes CXx X E)
    (hs : PySem.W.findIn X.K (.ref C) (cmpInfo op).2.1 = some (some (.ref f))) (hf : PySem.W.isFn X.K (.ref f) = true) :
    OpR X (richCompare op) (rOwn C sp E) := by
  intro pins s σ H x y v u Q I rx ry h
  obtain ⟨a, b, dx, dy, fs, gs, rfl, rfl, ea, eb, h⟩ := h
  cases rx; cases ry
  obtain ⟨od, J⟩ := inst_of I ea
  obtain ⟨od', J'⟩ := inst_of I eb
  have KX := I.kIn
  have one : wpAny (model X.prog X.w) X.A (tryCompare (.ref a) (cmpInfo op).2.1 (.ref b)) (fun r s' => ∃ v, r = some v ∧ EP X pins σ Q v s') X.xe s := by
    unfold tryCompare
    refine wpAny_bind (PySem.W.ifBound_K KX J hs hf (wpAny_mono (runAt (vs := [.ref a, .ref b]) (dvs := []) F hr I.env0 hb .nil hx I (.cons rfl (.cons rfl .nil)) h) (fun r s' hv => ?_) fun _ _ e => e))
    obtain ⟨v', H', I', rv, q⟩ := hv
    have hn := notNI rv
    cases r <;> first | exact absurd rfl hn | exact wpAny_pure ⟨_, rfl, v', H', I', rv, q⟩
  unfold richCompare
  simp only [oneThing_ref]
  refine wpAny_holding (wpAny_bind (wpAny_cRoomFor hr.units0 ?_))
  refine wpAny_bind (J.type.here (wpAny_bind (J'.type.here ?_)))
  split
  · rename_i q
    exact absurd q (by simp)
  · refine wpAny_bind (wpAny_pure ?_)
    simp only [Bool.false_eq_true, if_false]
    refine wpAny_bind (wpAny_mono one (fun r s' z => ?_) fun _ _ e => e)
    obtain ⟨v, rfl, hq⟩ := z
    exact wpAny_pure hq
theorem op_eqOwn (F : FnOk X.prog X.w X.K X.mg X.base CXx k f fd ps sp) (hr : Room k X.A) (hb : Binds X.K fd ps []) (hx : Passes CXx X E)
    (hs : PySem.W.findIn X.K (.ref C) "__eq__" = some (some (.ref f))) (hf : PySem.W.isFn X.K (.ref f) = true) : OpR X (compareOp .Eq) (rOwn C sp E) :=
  rc_own (op := .Eq) F hr hb hx hs hf

/-- str(x) by the class's own __str__, which hands back a text -/
def rStrOwn (C : Addr) (sp : Sp) (E : XK) : List V → Hp → VK → Prop := fun xs H Q => ∃ a dx fs, xs = [.ref a] ∧ H a = some (.ins C dx fs) ∧ sp [.ref a] H (fun v H' => (∃ z, v = .str z) ∧ Q v H') E
theorem call_strOwn (F : FnOk X.prog X.w X.K X.mg X.base CXx k f fd ps sp) (hr : Room (k + 2) X.A) (hb : Binds X.K fd ps []) (hx : Passes CXx X E)
    (hs : PySem.W.findIn X.K (.ref C) "__str__" = some (some (.ref f))) (hf : PySem.W.isFn X.K (.ref f) = true) : CallR X (.type "str") (rStrOwn C sp E) := by
  intro pins s σ H xs us Q I r h
  obtain ⟨a, dx, fs, rfl, ea, h⟩ := h
  obtain ⟨u, rfl, ru⟩ := vals1 r
  cases ru
  obtain ⟨od, J⟩ := inst_of I ea
  have r1 : Room (k + 1) X.A.in1 := hr.in1
  have r2 : Room k X.A.in1.in1 := r1.in1
  refine PySem.W.kso_call r2.units0 I.kIn J hs hf (wpAny_mono (runAt (vs := [.ref a]) (dvs := []) F r2 I.env0.in1.in1 hb .nil hx I (.cons rfl .nil) h) (fun r s' hv => ?_) fun _ _ e => e)
  obtain ⟨v', H', I', rv, ⟨z, rfl⟩, q⟩ := hv
  obtain ⟨t, rfl⟩ := rv
  exact ⟨.str z, H', I', ⟨t, rfl⟩, q⟩
end
end Tk

set_option Elab.async false
set_option linter.all false
set_option maxRecDepth 100000
set_option maxHeartbeats 4000000
/-! Heaps that grow: I is the part that never changes again, H all of it; ms may change. -/
namespace Tk
open PySem PySem.Spec PyProof.Rows L2

structure Gr (ms : List Addr) (I H I' H' : Hp) : Prop where
  ii : Same I I'
  ih : Same I' H'
  hh : ∀ a o, a ∉ ms → H a = some o → H' a = some o
  th : ∀ a o, H a = some o → ∃ o', H' a = some o'
  nw : ∀ a o, I a = none → H a = some o → I' a = none
section
variable {ms ns : List Addr} {I H I' H' I'' H'' : Hp} {p m : Addr} {o o' : HO}
theorem sNew (h : H p = none) : Same H (upd H p o) := fun a u e => by rw [upd_ne (ne_of_none e h)]; exact e
theorem sBoth (s : Same I H) : Same (upd I p o) (upd H p o) := fun a u e => by
  by_cases q : a = p
  · subst q; rw [upd_same] at e ⊢; exact e
  · rw [upd_ne q] at e ⊢; exact s a u e
theorem sUnder (s : Same I H) (h : I p = none) : Same I (upd H p o) := fun a u e => by
  rw [upd_ne (ne_of_none e h)]; exact s a u e
theorem sNone (s : Same I H) (h : H p = none) : I p = none := s.free h
theorem Gr.refl (s : Same I H) : Gr ms I H I H := ⟨Same.refl I, s, fun _ _ _ e => e, fun _ o e => ⟨o, e⟩, fun _ _ e _ => e⟩
theorem Gr.trans (a : Gr ms I H I' H') (b : Gr ms I' H' I'' H'') : Gr ms I H I'' H'' :=
  ⟨a.ii.trans b.ii, b.ih, fun x o n e => b.hh x o n (a.hh x o n e), fun x o e => by obtain ⟨u, q⟩ := a.th x o e; exact b.th x u q,
    fun x o e1 e2 => by obtain ⟨u, q⟩ := a.th x o e2; exact b.nw x u (a.nw x o e1 e2) q⟩
theorem Gr.mono (a : Gr ms I H I' H') (h : ∀ x ∈ ms, x ∈ ns) : Gr ns I H I' H' := ⟨a.ii, a.ih, fun x o n e => a.hh x o (fun z => n (h x z)) e, a.th, a.nw⟩
theorem Gr.nil (a : Gr [] I H I' H') : Gr ms I H I' H' := a.mono (fun _ z => nomatch z)
/-- a new thing that stays as it is -/
theorem Gr.new (s : Same I H) (h : H p = none) : Gr ms I H (upd I p o) (upd H p o) :=
  ⟨sNew (s.free h), sBoth s, fun _ _ _ e => sNew h _ _ e, fun _ u e => ⟨u, sNew h _ _ e⟩, fun a u e1 e2 => by rw [upd_ne (ne_of_none e2 h)]; exact e1⟩
/-- a new thing that may change -/
theorem Gr.tmp (s : Same I H) (h : H p = none) : Gr ms I H I (upd H p o) :=
  ⟨Same.refl I, sUnder s (s.free h), fun _ _ _ e => sNew h _ _ e, fun _ u e => ⟨u, sNew h _ _ e⟩, fun a u e1 _ => e1⟩
/-- a change -/
theorem Gr.mut (s : Same I H) (hi : I m = none) (hm : m ∈ ms) : Gr ms I H I (upd H m o) :=
  ⟨Same.refl I, sUnder s hi, fun a u n e => by rw [upd_ne (fun (z : a = m) => n (z ▸ hm))]; exact e,
    fun a u e => by
      by_cases q : a = m
      · subst q; exact ⟨_, upd_same⟩
      · exact ⟨u, by rw [upd_ne q]; exact e⟩, fun a u e1 _ => e1⟩
/-- what was new and may have changed stays from here on as it is -/
theorem Gr.frz (g : Gr (m :: ms) I H I' H') (s : Same I H) (h : H m = none) (e : H' m = some o) : Gr ms I H (upd I' m o) H' := by
  have h1 : ∀ a u, H a = some u → a ≠ m := fun a u q => ne_of_none q h
  refine ⟨fun a u q => ?_, fun a u q => ?_, fun a u n q => ?_, g.th, fun a u e1 e2 => ?_⟩
  · rw [upd_ne (h1 a u (s a u q))]; exact g.ii a u q
  · by_cases z : a = m
    · subst z; rw [upd_same] at q; rw [← q]; exact e
    · rw [upd_ne z] at q; exact g.ih a u q
  · exact g.hh a u (fun z => (List.mem_cons.mp z).elim (h1 a u q) n) q
  · rw [upd_ne (h1 a u e2)]; exact g.nw a u e1 e2
/-- a mutable thing that is not in I stays out of it -/
theorem Gr.out (g : Gr ms I H I' H') (hi : I m = none) (h : H m = some o) : I' m = none := g.nw m o hi h
theorem Gr.at (g : Gr ms I H I' H') (h : H m = some o) (n : m ∉ ms) : H' m = some o := g.hh m o n h
end

/-! What a value is, by the part that stays. -/
abbrev Rp (α : Type) := Hp → V → α → Prop
class Mono {α : Type} (R : Rp α) : Prop where
  up : ∀ {H H' : Hp} {v : V} {x : α}, Same H H' → R H v x → R H' v x
section
variable {α β : Type}
def iI : Rp Int := fun _ v i => v = .int i
def iN : Rp Nat := fun _ v i => v = .int (i : Int)
def iB : Rp Bool := fun _ v b => v = .bl b
def iS : Rp Str := fun _ v z => v = .str z
/-- a list, a tuple of things of one kind -/
inductive All2 (R : V → α → Prop) : List V → List α → Prop where
  | nil : All2 R [] []
  | cons {v : V} {x : α} {vs : List V} {xs : List α} (h : R v x) (t : All2 R vs xs) : All2 R (v :: vs) (x :: xs)
def iL (R : Rp α) : Rp (List α) := fun H v xs => ∃ a vs, v = .ref a ∧ H a = some (.lst vs) ∧ All2 (R H) vs xs
def iT (R : Rp α) : Rp (List α) := fun H v xs => ∃ a vs, v = .ref a ∧ H a = some (.tup vs) ∧ All2 (R H) vs xs
def iP (R : Rp α) (S : Rp β) : Rp (α × β) := fun H v p => ∃ a x y, v = .ref a ∧ H a = some (.tup [x, y]) ∧ R H x p.1 ∧ S H y p.2
theorem All2.mono {R S : V → α → Prop} (h : ∀ v x, R v x → S v x) : ∀ {vs : List V} {xs : List α}, All2 R vs xs → All2 S vs xs
  | _, _, .nil => .nil
  | _, _, .cons a t => .cons (h _ _ a) (t.mono h)
theorem All2.len {R : V → α → Prop} : ∀ {vs : List V} {xs : List α}, All2 R vs xs → vs.length = xs.length
  | _, _, .nil => rfl
  | _, _, .cons _ t => congrArg Nat.succ t.len
theorem All2.get {R : V → α → Prop} : ∀ {vs : List V} {xs : List α} {i : Nat} {v : V}, All2 R vs xs → vs[i]? = some v → ∃ x, xs[i]? = some x ∧ R v x
  | _, _, _, _, .nil, e => by simp at e
  | _, _, 0, _, .cons a t, e => by simp at e; subst e; exact ⟨_, rfl, a⟩
  | _, _, i + 1, v, .cons a t, e => by
    obtain ⟨x, h1, h2⟩ := All2.get (i := i) (v := v) t (by simpa using e)
    exact ⟨x, by simpa using h1, h2⟩
theorem All2.get' {R : V → α → Prop} : ∀ {vs : List V} {xs : List α} {i : Nat} {x : α}, All2 R vs xs → xs[i]? = some x → ∃ v, vs[i]? = some v ∧ R v x
  | _, _, _, _, .nil, e => by simp at e
  | _, _, 0, _, .cons a t, e => by simp at e; subst e; exact ⟨_, rfl, a⟩
  | _, _, i + 1, v, .cons a t, e => by
    obtain ⟨x, h1, h2⟩ := All2.get' (i := i) (x := v) t (by simpa using e)
    exact ⟨x, by simpa using h1, h2⟩
theorem All2.append {R : V → α → Prop} : ∀ {vs ws : List V} {xs ys : List α}, All2 R vs xs → All2 R ws ys → All2 R (vs ++ ws) (xs ++ ys)
  | _, _, _, _, .nil, h => h
  | _, _, _, _, .cons a t, h => .cons a (t.append h)
theorem All2.set {R : V → α → Prop} : ∀ {vs : List V} {xs : List α} (i : Nat) {v : V} {x : α}, All2 R vs xs → R v x → All2 R (vs.set i v) (xs.set i x)
  | _, _, _, _, _, .nil, _ => .nil
  | _, _, 0, _, _, .cons _ t, h => .cons h t
  | _, _, i + 1, _, _, .cons a t, h => .cons a (t.set i h)
theorem All2.ints : ∀ {xs : List Int} {vs : List V}, All2 (fun v x => v = V.int x) vs xs → vs = xs.map V.int
  | _, _, .nil => rfl
  | _, _, .cons a t => by rw [a, t.ints]; rfl
theorem All2.ofInts {H : Hp} : ∀ (xs : List Int), All2 (iI H) (xs.map V.int) xs
  | [] => .nil
  | x :: r => .cons rfl (All2.ofInts r)
instance : Mono iI := ⟨fun _ h => h⟩
instance : Mono iN := ⟨fun _ h => h⟩
instance : Mono iB := ⟨fun _ h => h⟩
instance : Mono iS := ⟨fun _ h => h⟩
instance {R : Rp α} [m : Mono R] : Mono (iL R) := ⟨fun s ⟨a, vs, e, h, t⟩ => ⟨a, vs, e, s _ _ h, t.mono fun _ _ => m.up s⟩⟩
instance {R : Rp α} [m : Mono R] : Mono (iT R) := ⟨fun s ⟨a, vs, e, h, t⟩ => ⟨a, vs, e, s _ _ h, t.mono fun _ _ => m.up s⟩⟩
instance {R : Rp α} {S : Rp β} [m : Mono R] [n : Mono S] : Mono (iP R S) := ⟨fun s ⟨a, x, y, e, h, p, q⟩ => ⟨a, x, y, e, s _ _ h, m.up s p, n.up s q⟩⟩
theorem up {R : Rp α} [m : Mono R] {H H' : Hp} {v : V} {x : α} (s : Same H H') (h : R H v x) : R H' v x := m.up s h
end
end Tk

set_option Elab.async false
set_option linter.all false
set_option maxRecDepth 100000
set_option maxHeartbeats 4000000
/-! The head: what the top leaves, told by one Bool and the defs' own texts. -/
namespace Tk
open PySem PySem.Spec PyProof.Rows L2
def obsY (ex : PySem.W.Frag → Bool) (fn : List He.DefD) (K : PySem.W.Frag) : He.AlD := (ex K && fn.all fun d => d.ok K, fn.map fun d => He.fnW K d.at_)
def SaysY (ex : PySem.W.Frag → Bool) (fn : List He.DefD) (K : PySem.W.Frag) : Prop := obsY ex fn K = He.valD fn
def obsYG (n : Nat) (ex : PySem.W.Frag → Bool) (fn : List He.DefD) (g : Addr → Option Obj) : He.AlD := obsY ex fn (He.frG g (He.asD g n))
def hookY (n : Nat) (ex : PySem.W.Frag → Bool) (fn : List He.DefD) : PySem.W.Hook :=
  { α := He.AlD, obs := fun s => obsYG n ex fn s.heap.get?, val := fun _ => He.valD fn, says := fun _ h => ∃ K : PySem.W.Frag, K.In h ∧ SaysY ex fn K,
    of := fun _ _ e => ⟨_, He.frG_in, e⟩, keeps := fun _ _ _ z k => by obtain ⟨K, hK, c⟩ := z; exact ⟨K, PySem.W.Frag.In.keeps hK k, c⟩ }
theorem obsYG_eq {n : Nat} {ex : PySem.W.Frag → Bool} {fn : List He.DefD} {g : Addr → Option Obj} {s : Shared} (h : ∀ a, g a = s.heap.get? a) : obsYG n ex fn g = (hookY n ex fn).obs s := by
  rw [show g = s.heap.get? from funext h]; rfl
section
variable {ex : PySem.W.Frag → Bool} {fn : List He.DefD} {K : PySem.W.Frag}
theorem SaysY.more (c : SaysY ex fn K) : ex K = true := (He.ba (show (ex K && fn.all fun d => d.ok K) = true from congrArg (fun z : He.AlD => z.1) c)).1
theorem SaysY.get (c : SaysY ex fn K) (i : Nat) {d : He.DefD} (h : fn[i]? = some d := by rfl) : ∃ fd, FunD K d.name d.qual d.params d.body d.scope (d.dvs K) (d.kws K) (He.fAd K d.at_) fd := by
  have c2 := (He.ba (show (ex K && fn.all fun d => d.ok K) = true from congrArg (fun z : He.AlD => z.1) c)).2
  have e : fn.map (fun d => He.fnW K d.at_) = fn.map He.DefD.val := congrArg (fun z : He.AlD => z.2) c
  have e2 := congrArg (fun l : List He.FnW => l[i]?) e
  simp only [List.getElem?_map, h] at e2
  exact He.DefD.funD (Option.some.inj e2) (List.all_eq_true.mp c2 d (List.mem_of_getElem? h))
end
def blB (K : PySem.W.Frag) (x : Str) (id : String) : Bool := He.eqO (PySem.W.nsIn K mainGlobals x) (some (some (.builtin id)))
def instB (K : PySem.W.Frag) (x : Str) : Bool :=
  He.eqO (PySem.W.findIn K (.ref (He.ga K x)) "__class__") (some (some (.builtin "object.__class__"))) &&
  (He.eqO (PySem.W.specialIn K (.builtin "object.__class__") "__get__") (some (some (.builtin "getset_descriptor.__get__"))) &&
  (decide (PySem.W.takesIn K (.builtin "object.__class__") = some true) && decide (PySem.W.mroIn K (He.ga K x) (.type "object") = some true)))
def isEB (K : PySem.W.Frag) (x : Str) : Bool :=
  He.eqO (PySem.W.findIn K (.ref (He.ga K x)) "__getattribute__") (some (some (.builtin "BaseException.__getattribute__"))) &&
  (He.eqO (PySem.W.findIn K (.ref (He.ga K x)) "__getattr__") (some none) &&
  (decide (PySem.W.subIn K (.ref (He.ga K x)) (.type "BaseException") = some true) && (PySem.W.hasDictIn K (He.ga K x) && instB K x)))
section
variable {K : PySem.W.Frag} {h : Heap} {mg : Str → Option Value} {x : Str} {id : String}
theorem blB_ok (X : K.In h) (G : h.Ns mainGlobals mg) (c : blB K x id = true) : mg x = some (.builtin id) := PySem.W.mg_of X G (He.eqO_ok c)
structure InstC (K : PySem.W.Frag) (C : Addr) : Prop where
  ha : PySem.W.findIn K (.ref C) "__class__" = some (some (.builtin "object.__class__"))
  hn : PySem.W.specialIn K (.builtin "object.__class__") "__get__" = some (some (.builtin "getset_descriptor.__get__"))
  ht : PySem.W.takesIn K (.builtin "object.__class__") = some true
  hm : PySem.W.mroIn K C (.type "object") = some true
theorem instB_ok (c : instB K x = true) : InstC K (He.ga K x) := by
  obtain ⟨c1, c⟩ := He.ba c
  obtain ⟨c2, c⟩ := He.ba c
  obtain ⟨c3, c4⟩ := He.ba c
  exact ⟨He.eqO_ok c1, He.eqO_ok c2, of_decide_eq_true c3, of_decide_eq_true c4⟩
theorem isEB_ok (c : isEB K x = true) : ExcC K (He.ga K x) := by
  obtain ⟨c1, c⟩ := He.ba c
  obtain ⟨c2, c⟩ := He.ba c
  obtain ⟨c3, c⟩ := He.ba c
  obtain ⟨c4, c5⟩ := He.ba c
  have i := instB_ok c5
  exact { hg := He.eqO_ok c1, hk := He.eqO_ok c2, hs := of_decide_eq_true c3, hd := c4, ha := i.ha, hn := i.hn, ht := i.ht, hm := i.hm }
theorem InstC.ty {H : Hp} {C a dx : Addr} {fs : List (Str × V)} (i : InstC K C) (cl : Cls K C) (e : H a = some (.ins C dx fs)) : TyX K H (.ref a) (.ref C) := .base (.ins e cl i.ha i.hn i.ht i.hm)
end
end Tk

set_option Elab.async false
set_option linter.all false
set_option maxRecDepth 100000
set_option maxHeartbeats 4000000
/-! A def that stands and keeps its promise; how it is called. -/
namespace Tk
open PySem PySem.Spec PyProof.Rows L2
def Has (P : Program) (w : World) (K : PySem.W.Frag) (mg : Str → Option Value) (base : Heap) (k : Nat) (f : Addr) (ps : List Str) (dvs : List V) (sp : Sp) : Prop :=
  PySem.W.keepIn K (.ref f) = true ∧ ∃ (fd : FuncData) (ds : List Value), Vals dvs ds ∧ Binds K fd ps ds ∧ FnOk P w K mg base (L2.CX P w) k f fd ps sp
theorem Has.mono {P : Program} {w : World} {K : PySem.W.Frag} {mg : Str → Option Value} {base : Heap} {j k : Nat} {f : Addr} {ps : List Str} {dvs : List V} {sp : Sp} (h : Has P w K mg base j f ps dvs sp) (l : j ≤ k) : Has P w K mg base k f ps dvs sp := by
  obtain ⟨a, fd, ds, b, c, F⟩ := h
  exact ⟨a, fd, ds, b, c, F.mono l⟩
section
variable {X : Cx} {k : Nat} {f C : Addr} {ps : List Str} {sp : Sp} {dvs : List V} {E : XK} {x m : Str} {p pos apos : Pos} {e o : Expr} {es : List Expr} {ta : TE} {t : TA}
abbrev HasX (X : Cx) := Has X.prog X.w X.K X.mg X.base
theorem pe_callH (h : HasX X k f ps dvs sp) (hr : Room k X.A) (hg : Gl X x) (hm : X.mg x = some (.ref f)) (hx : Passes (L2.CX X.prog X.w) X E) (ha : PA X (e :: es) t)
    (hdb : (x == ("__debug__" : Str)) = false := by decide) (he : starEach (e :: es) X.env = (false, eval e X.env) :: starEach es X.env := by rfl) (hpl : (backTo pos (starEach es X.env)).any (·.1) = false := by rfl) :
    PE X (.Call (.Name x p) (e :: es) [] pos) (tCall sp dvs E t) := by
  obtain ⟨hk, fd, ds, hd, hb, F⟩ := h
  exact pe_call F hr hg hm hk hb hd hx ha hdb he hpl
theorem pe_methH {pl : Sem Bool} (he : PE X o ta) (c : Cls X.K C) (hm : Meth X.K C m f) (h : HasX X k f ps dvs sp) (hr : Room k X.A) (hx : Passes (L2.CX X.prog X.w) X E) (ha : PA X (e :: es) t)
    (hst : starEach (e :: es) X.env = (false, eval e X.env) :: starEach es X.env := by rfl) (hpl : (backTo pos (starEach es X.env)).any (·.1) = false := by rfl)
    (ht : eval (.Call (.Attribute o m apos) (e :: es) [] pos) X.env = (do
      let ov ← eval o X.env
      standAt apos.atName
      let (f, first) ← holding [ov] (getMethod ov m pl)
      callWith pos f first (backTo pos (starEach (e :: es) X.env)) (backToKw pos (keywordEach [] X.env))) := by rfl) :
    PE X (.Call (.Attribute o m apos) (e :: es) [] pos) (tMeth C m sp dvs E ta t) := by
  obtain ⟨hk, fd, ds, hd, hb, F⟩ := h
  exact pe_meth (pl := pl) he c hm F hr hb hd hx ha hst hpl ht
theorem pe_makeH (M : Mk X.K C f) (h : HasX X k f ps dvs sp) (hr : Room (k + 1) X.A) (hg : Gl X x) (hm : X.mg x = some (.ref C)) (hx : Passes (L2.CX X.prog X.w) X E) (ha : PA X (e :: es) t)
    (hdb : (x == ("__debug__" : Str)) = false := by decide) (he : starEach (e :: es) X.env = (false, eval e X.env) :: starEach es X.env := by rfl) (hpl : (backTo pos (starEach es X.env)).any (·.1) = false := by rfl) :
    PE X (.Call (.Name x p) (e :: es) [] pos) (tMake C sp dvs E t) := by
  obtain ⟨hk, fd, ds, hd, hb, F⟩ := h
  exact pe_make M F hr hg hm hb hd hx ha hdb he hpl
theorem op_ownH {op : Operator} (h : HasX X k f ps [] sp) (hr : Room k X.A) (hx : Passes (L2.CX X.prog X.w) X E)
    (hc : PySem.W.selfFirst X.K C = true) (hm : Meth X.K C (PySem.dunder op.info.2) f) : OpR X (binaryOp op) (rOwn C sp E) := by
  obtain ⟨hk, fd, ds, hd, hb, F⟩ := h
  cases hd
  exact op_own F hr hb hx hc hm.at_ hm.fn
theorem op_eqOwnH (h : HasX X k f ps [] sp) (hr : Room k X.A) (hx : Passes (L2.CX X.prog X.w) X E) (hm : Meth X.K C "__eq__" f) : OpR X (compareOp .Eq) (rOwn C sp E) := by
  obtain ⟨hk, fd, ds, hd, hb, F⟩ := h
  cases hd
  exact op_eqOwn F hr hb hx hm.at_ hm.fn
theorem call_strOwnH (h : HasX X k f ps [] sp) (hr : Room (k + 2) X.A) (hx : Passes (L2.CX X.prog X.w) X E) (hm : Meth X.K C "__str__" f) : CallR X (.type "str") (rStrOwn C sp E) := by
  obtain ⟨hk, fd, ds, hd, hb, F⟩ := h
  cases hd
  exact call_strOwn F hr hb hx hm.at_ hm.fn
/-- a class called with keywords alone -/
def HasK (P : Program) (w : World) (K : PySem.W.Frag) (mg : Str → Option Value) (base : Heap) (k : Nat) (f : Addr) (ps : List Str) (n : Nat) (ks : List Str) (gV : List V → List V → List V) (sp : Sp) : Prop :=
  ∃ (fd : FuncData) (g : List Value → List Value → List Value), KBn K fd ps n ks g gV ∧ FnOk P w K mg base (L2.CX P w) k f fd ps sp
/-- the law's own def, as the end wants it -/
def IsLaw (P : Program) (w : World) (K : PySem.W.Frag) (mg : Str → Option Value) (base : Heap) (k : Nat) (f : Addr) (fd : FuncData) (ps : List Str) (sp : Sp) : Prop := FnOk P w K mg base (L2.CX P w) k f fd ps sp
end

/-! a def of no defaults: from its body to what it is -/
section
variable {P : Program} {w : World} {K : PySem.W.Frag} {mg : Str → Option Value} {base : Heap} {x qual : Str} {st : Stmt} {f : Addr} {fd : FuncData} {N ps : List Str} {k : Nat} {sp : Sp}
abbrev FnQ (K : PySem.W.Frag) (x q : Str) (st : Stmt) (ds : List V) (f : Addr) (fd : FuncData) : Prop := FunD K x q (defArgs st) (defBody st) (defScope st) ds [] f fd
/-- nothing is raised -/
theorem hasN (F : FnQ K x qual st [] f fd) (b : Binds K fd ps []) (S : FnScope N ps (defScope st)) (len : ∀ vs H Q E, sp vs H Q E → vs.length = ps.length)
    (hbody : ∀ (cdv : Value) (A : Around) (outer : List Env) (s : Shared) (H : Hp) (vs : List V) (Q : VK) (E : XK), Room k (A.deeper (envOfC qual (defScope st) s.heap.objs.size f cdv)) → sp vs H Q E →
      ∃ t, PSs (cxOf (L2.CX P w) P w K mg base N qual (defScope st) f cdv A outer s H E).nox (defBody st) t ∧ t { nx := fun _ H' => Q .non H', rt := Q } (start N vs) H) :
    Has P w K mg base (k + 1) f ps [] sp :=
  ⟨F.kp, fd, [], .nil, b, F.ok S len fun cdv A outer s H vs Q E hr h => by obtain ⟨t, h1, h2⟩ := hbody cdv A outer s H vs Q E hr h; exact ⟨t, h1.nox, h2⟩⟩
theorem hasX (F : FnQ K x qual st [] f fd) (b : Binds K fd ps []) (S : FnScope N ps (defScope st)) (len : ∀ vs H Q E, sp vs H Q E → vs.length = ps.length)
    (hbody : ∀ (cdv : Value) (A : Around) (outer : List Env) (s : Shared) (H : Hp) (vs : List V) (Q : VK) (E : XK), Room k (A.deeper (envOfC qual (defScope st) s.heap.objs.size f cdv)) → sp vs H Q E →
      ∃ t, PSs (cxOf (L2.CX P w) P w K mg base N qual (defScope st) f cdv A outer s H E) (defBody st) t ∧ t { nx := fun _ H' => Q .non H', rt := Q } (start N vs) H) :
    Has P w K mg base (k + 1) f ps [] sp :=
  ⟨F.kp, fd, [], .nil, b, F.ok S len hbody⟩
end

/-! one step of a reading -/
theorem ifT {c : Bool} {A B : Prop} (hc : c = true) (h : A) : if c = true then A else B := by rw [if_pos hc]; exact h
theorem ifF {c : Bool} {A B : Prop} (hc : c = false) (h : B) : if c = true then A else B := by rw [hc]; exact iteF h
theorem ifD {p : Prop} [Decidable p] {A B : Prop} (h1 : p → A) (h2 : ¬ p → B) : if (decide p) = true then A else B := by
  by_cases h : p
  · rw [if_pos (decide_eq_true h)]; exact h1 h
  · rw [if_neg (by rw [decide_eq_false h]; exact Bool.false_ne_true)]; exact h2 h
theorem ifB {c : Bool} {A B : Prop} (h1 : c = true → A) (h2 : c = false → B) : if c = true then A else B := by
  cases c with
  | true => exact iteT (h1 rfl)
  | false => exact iteF (h2 rfl)
end Tk

set_option Elab.async false
set_option linter.all false
set_option maxRecDepth 100000
set_option maxHeartbeats 4000000
/-! Cuts: what holds between two statements, behind a loop. -/
namespace Tk
open PySem PySem.Spec PyProof.Rows L2
theorem seq_cut {s1 s2 : TS} {D : Ends} {σ : L2.St} {H : Hp} (Mid : L2.St → Hp → Prop) (h1 : ∀ nx : L2.St → Hp → Prop, (∀ σ' H', Mid σ' H' → nx σ' H') → s1 { D with nx := nx } σ H) (h2 : ∀ σ' H', Mid σ' H' → s2 D σ' H') : tSeq s1 s2 D σ H :=
  h1 (s2 D) h2
theorem for_rangeP {lo : Int} {n : Nat} {g : TG} {tb : TS} {D : Ends} {σ : L2.St} {H : Hp} (Post : L2.St → Hp → Prop) (Pv : Nat → L2.St → Hp → Prop) (h0 : Pv 0 σ H)
    (hs : ∀ nx : L2.St → Hp → Prop, (∀ σ' H', Post σ' H' → nx σ' H') → ∀ i σ H, i < n → Pv i σ H → g (.int (lo + i)) σ H fun σ2 H2 => tb { D with nx := Pv (i + 1), ct := Pv (i + 1), bk := nx } σ2 H2)
    (hd : ∀ σ H, Pv n σ H → Post σ H) (fin : ∀ σ' H', Post σ' H' → D.nx σ' H') :
    ∃ W : Nat → Nat → L2.St → Hp → Prop, (∃ m, W 0 m σ H) ∧ ∀ i m σ H, W i m σ H →
      ((Itr lo n).stop i H ∧ D.nx σ H) ∨ ((Itr lo n).go i H ∧ ∃ N : L2.St → Hp → Prop, (∀ σ' H', N σ' H' → ∃ m', m' < m ∧ W (i + 1) m' σ' H') ∧ ∀ x H', (Itr lo n).yld i H x H' → g x σ H' fun σ2 H2 => tb { D with nx := N, ct := N, bk := D.nx } σ2 H2) :=
  for_range Pv h0 (hs D.nx fin) (fun σ H p => fin σ H (hd σ H p))
theorem ix_l {K : PySem.W.Frag} {H : Hp} {a : Addr} {xs : List V} {j : Nat} {v : V} {i : Int} {Q : VK} (h : SqL K H a xs) (e : i = (j : Int)) (hj : xs[j]? = some v) (k : Q v H) : rIxL K (.ref a) (.int i) H Q := ⟨a, xs, i, v, rfl, rfl, h, at_of e hj, k⟩
theorem ix_t {K : PySem.W.Frag} {H : Hp} {a : Addr} {xs : List V} {j : Nat} {v : V} {i : Int} {Q : VK} (h : SqT K H a xs) (e : i = (j : Int)) (hj : xs[j]? = some v) (k : Q v H) : rIxT K (.ref a) (.int i) H Q := ⟨a, xs, i, v, rfl, rfl, h, at_of e hj, k⟩
end Tk
namespace Tk
open PySem PySem.Spec PyProof.Rows L2
section
variable {P : Program} {w : World} {K : PySem.W.Frag} {mg : Str → Option Value} {base : Heap} {x qual : Str} {st : Stmt} {f : Addr} {fd : FuncData} {N ps : List Str} {k : Nat} {sp sp' : Sp} {CX : CXT}
theorem fnOr (A : FnOk P w K mg base CX k f fd ps sp) (B : FnOk P w K mg base CX k f fd ps sp') : FnOk P w K mg base CX k f fd ps (fun vs H Q E => sp vs H Q E ∨ sp' vs H Q E) :=
  ⟨fun vs H Q E h => h.elim (A.len vs H Q E) (B.len vs H Q E), fun A' outer s H args us vs Q E hr he hb hv h => h.elim (A.run A' outer s H args us vs Q E hr he hb hv) (B.run A' outer s H args us vs Q E hr he hb hv)⟩
theorem fnN (F : FnQ K x qual st [] f fd) (S : FnScope N ps (defScope st)) (len : ∀ vs H Q E, sp vs H Q E → vs.length = ps.length)
    (hbody : ∀ (cdv : Value) (A : Around) (outer : List Env) (s : Shared) (H : Hp) (vs : List V) (Q : VK) (E : XK), Room k (A.deeper (envOfC qual (defScope st) s.heap.objs.size f cdv)) → sp vs H Q E →
      ∃ t, PSs (cxOf (L2.CX P w) P w K mg base N qual (defScope st) f cdv A outer s H E).nox (defBody st) t ∧ t { nx := fun _ H' => Q .non H', rt := Q } (start N vs) H) :
    FnOk P w K mg base (L2.CX P w) (k + 1) f fd ps sp :=
  F.ok S len fun cdv A outer s H vs Q E hr h => by obtain ⟨t, h1, h2⟩ := hbody cdv A outer s H vs Q E hr h; exact ⟨t, h1.nox, h2⟩
end
end Tk

set_option Elab.async false
set_option linter.all false
set_option maxRecDepth 100000
set_option maxHeartbeats 4000000
/-! Errors: calls in a try, isinstance of what was caught. -/
namespace Tk
open PySem PySem.Spec PyProof.Rows L2
section
variable {X : Cx} {k : Nat} {f C : Addr} {ps : List Str} {sp : Sp} {dvs : List V} {E : L2.St → XK} {x m : Str} {p pos apos : Pos} {e o : Expr} {es : List Expr} {ta : TE} {t : TA}
/-- C(e, ..) in a try: what is raised is wished for at the slots as they are -/
def tMakeS (C : Addr) (sp : Sp) (dvs : List V) (E : L2.St → XK) (t : TA) : TE := fun σ H Q => t σ H fun vs H1 => ∀ x dx, H1 x = none → H1 dx = none → dx ≠ x →
  sp (.ref x :: (vs ++ dvs)) (upd (upd H1 dx (.own x)) x (.ins C dx [])) (fun v H2 => v = .non ∧ Q (.ref x) H2) (E σ)
theorem pe_makeSH (M : Mk X.K C f) (h : HasX X k f ps dvs sp) (hr : Room (k + 1) X.A) (hg : Gl X x) (hm : X.mg x = some (.ref C)) (hx : ∀ σ, PassesAt (L2.CX X.prog X.w) X σ (E σ)) (ha : PA X (e :: es) t)
    (hdb : (x == ("__debug__" : Str)) = false := by decide) (he : starEach (e :: es) X.env = (false, eval e X.env) :: starEach es X.env := by rfl) (hpl : (backTo pos (starEach es X.env)).any (·.1) = false := by rfl) :
    PE X (.Call (.Name x p) (e :: es) [] pos) (tMakeS C sp dvs E t) := by
  obtain ⟨_, fd, ds, hd, hb, F⟩ := h
  constructor
  intro pins s σ H Q I hq0
  refine wpAny_Call_Name_kw (ld_glob I hg hm (PySem.W.callWith_K (h₀ := X.base) I.ok.mod.kin M.kp (thn (ha.run pos pins s σ H _ I hq0) ?_) he hpl) hdb)
  rintro us s1 ⟨vs, H1, I1, r, q⟩
  refine ⟨I1.kIn, ?_⟩
  have q' := q (s1.heap.objs.size + 1) s1.heap.objs.size (I1.hok.fresh (Nat.le_succ _)) (I1.hok.fresh (Nat.le_refl _)) (Nat.ne_of_lt (Nat.lt_succ_self _))
  have I2 := Inv.made (C := C) I1
  have rr : Vals (V.ref (s1.heap.objs.size + 1) :: (vs ++ dvs)) (Value.ref (s1.heap.objs.size + 1) :: us ++ ds) := .cons rfl (r.append hd)
  have hl := rr.length.symm.trans (F.len _ _ _ _ q')
  have go := F.run _ X.stack _ _ ⟨Value.ref (s1.heap.objs.size + 1) :: us, []⟩ _ _ _ _ (hr.make C us []) (I2.env0.make C us []) (hb _ _ I2.kIn hl) rr q'
  refine wpAny_call (make_map (f := f) I1.kIn M.makes M.init (beq_iff_eq.mp M.fn) (codeAny_mono go ?_))
  intro res s' z
  cases res with
  | error err => exact hx σ pins _ _ err s' I2 z
  | ok fl => cases fl with
    | ret u =>
      obtain ⟨v, H', I3, rv, ev, q3⟩ := I2.after z
      subst ev
      exact ⟨rv, V.ref (s1.heap.objs.size + 1), H', I3, rfl, q3⟩
    | _ => exact False.elim z
/-- o.m(e, ..) in a try -/
def tMethS (C : Addr) (m : Str) (sp : Sp) (dvs : List V) (E : L2.St → XK) (ta : TE) (t : TA) : TE := fun σ H Q => ta σ H fun x H1 => ∃ a dx fs, x = .ref a ∧ H1 a = some (.ins C dx fs) ∧ fs.lookup m = none ∧
  t σ H1 fun vs H2 => sp (x :: (vs ++ dvs)) H2 Q (E σ)
theorem pe_methSH {pl : Sem Bool} (he : PE X o ta) (c : Cls X.K C) (hm : Meth X.K C m f) (h : HasX X k f ps dvs sp) (hr : Room k X.A) (hx : ∀ σ, PassesAt (L2.CX X.prog X.w) X σ (E σ)) (ha : PA X (e :: es) t)
    (hst : starEach (e :: es) X.env = (false, eval e X.env) :: starEach es X.env := by rfl) (hpl : (backTo pos (starEach es X.env)).any (·.1) = false := by rfl)
    (ht : eval (.Call (.Attribute o m apos) (e :: es) [] pos) X.env = (do
      let ov ← eval o X.env
      standAt apos.atName
      let (f, first) ← holding [ov] (getMethod ov m pl)
      callWith pos f first (backTo pos (starEach (e :: es) X.env)) (backToKw pos (keywordEach [] X.env))) := by rfl) :
    PE X (.Call (.Attribute o m apos) (e :: es) [] pos) (tMethS C m sp dvs E ta t) := by
  obtain ⟨_, fd, ds, hd, hb, F⟩ := h
  constructor
  intro pins s σ H Q I hq0
  refine PySem.W.methodCall_KW (pl := pl) (thn (he.run pins s σ H _ I hq0) ?_) ht
  rintro u s1 ⟨x, H1, I1, rx, a, dx, fs, rfl, ea, l, q⟩
  cases rx
  refine getmeth_ok I1 ea c hm l (PySem.W.callWith_K (first := [.ref a]) (h₀ := X.base) I.ok.mod.kin hm.kp (thn (ha.run pos pins s1 σ H1 _ I1 q) ?_) hst hpl)
  rintro us s2 ⟨vs, H2, I2, r, q2⟩
  exact ⟨I2.kIn, run_fnSD (us := .ref a :: us) (vs := .ref a :: vs) F hr hb hd (hx σ) I2 (.cons rfl r) q2⟩
/-- isinstance of the caught exception, its class D (no fields) told by the reading -/
def rIsEq (K : PySem.W.Frag) (D a : Addr) (cls : Value) (d : Option Addr) : List V → Hp → VK → Prop := fun xs H Q => cls = .ref D ∧ d = none ∧ rIsE K D a xs H Q
theorem call_isEq {a D : Addr} {oe : Obj} {cls : Value} {d : Option Addr} {pn : List (Addr × Obj)} (c : ExcC X.K D) (hz : Zc cls d oe) (hf : ∃ vs, oe.data = .fields vs) : CallR (X.suite a ((a, oe) :: pn)) (.builtin "isinstance") (rIsEq X.K D a cls d) := by
  intro pins s σ H xs us Q I r h
  obtain ⟨rfl, rfl, h⟩ := h
  exact call_isE (X := X) (a := a) (oe := oe) (pn := pn) c hz hf pins s σ H xs us Q I r h
def rIsET (K : PySem.W.Frag) (D a : Addr) (cls : Value) (d : Option Addr) : List V → Hp → VK → Prop := fun xs H Q => cls = .ref D ∧ d = none ∧ ∃ (tp : Addr) (cs : List V) (us : List Value) (b : Bool), xs = [.ref a, .ref tp] ∧ H tp = some (.tup cs) ∧ Paired ClsV cs us ∧ PySem.W.kitAny K (.ref D) us = some b ∧ Q (.bl b) H
theorem call_isET {a D : Addr} {oe : Obj} {cls : Value} {d : Option Addr} {pn : List (Addr × Obj)} (c : ExcC X.K D) (hz : Zc cls d oe) (hf : ∃ vs, oe.data = .fields vs) : CallR (X.suite a ((a, oe) :: pn)) (.builtin "isinstance") (rIsET X.K D a cls d) := by
  intro pins s σ H xs us Q I r h
  obtain ⟨rfl, rfl, tp, cs, ws, b, rfl, htp, hcs, e, q⟩ := h
  obtain ⟨u1, u2, rfl, r1, r2⟩ := vals2 r
  cases r1; cases r2
  obtain ⟨hget, _⟩ := I.pin (a, oe) (List.mem_append.mpr (.inl List.mem_cons_self))
  obtain ⟨vs, hv⟩ := hf
  have J : PySem.W.InstAt s.heap a oe D none := by
    obtain ⟨oc, od, oda, osl⟩ := oe
    obtain ⟨h1, h2⟩ := hz
    dsimp only at h1 h2 hv
    subst h1 h2 hv
    exact ⟨hget, rfl, rfl, trivial⟩
  have ob : ObjOk X.prog X.w H s.heap tp (.tup cs) := I.hok tp _ htp
  obtain ⟨_, its, rv, ⟨oc, od, oda, osl⟩, g1, g2, n, g3⟩ := ob
  dsimp only at g2 g3
  subst g2 g3
  have ew := ClsV.all hcs rv
  subst ew
  exact PySem.W.kia_tup (PySem.W.handS_kitx_exc c.hg c.hk c.hs c.hd c.ha c.hn c.ht c.hm) I.kIn J g1 e (fun z => nomatch z) fun tk => ⟨.bl b, H, I.kept (t' := tk) fun _ _ z => z, rfl, q⟩
end
end Tk
namespace Tk
open PySem PySem.Spec PyProof.Rows L2
theorem cx_none {P : Program} {w : World} {outer : List Env} {H : Hp} {s s' : Shared} {e : Value} (h : L2.CX P w outer H s E0 e s') : False := by
  obtain ⟨_, _, _, _, _, _, _, _, _, _, _, _, z⟩ := h
  exact z
/-- a def that raises nothing, seen so -/
theorem fn0 {P : Program} {w : World} {K : PySem.W.Frag} {mg : Str → Option Value} {base : Heap} {k : Nat} {f : Addr} {fd : FuncData} {ps : List Str} {sp : Sp} (F : FnOk P w K mg base (L2.CX P w) k f fd ps sp) :
    FnOk P w K mg base CX0 k f fd ps (fun vs H Q _ => sp vs H Q E0) :=
  ⟨fun vs H Q _ h => F.len vs H Q E0 h, fun A outer s H args us vs Q E hr he hb hv h => codeAny_mono (F.run A outer s H args us vs Q E0 hr he hb hv h) (fun r s' z => by
    cases r with
    | error e => exact (cx_none z).elim
    | ok fl => cases fl <;> exact z)⟩
end Tk

set_option Elab.async false
set_option linter.all false
set_option maxRecDepth 100000
set_option maxHeartbeats 4000000
/-! Walks over things that stay; the lists that comprehensions make of them. -/
namespace Tk
open PySem PySem.Spec PyProof.Rows L2
/-- a thing walked in n turns, at turn i the value xs i -/
structure Wk (J : It) (n : Nat) (xs : Nat → V) (I : Hp) : Prop where
  go : ∀ i H, Same I H → i < n → J.go i H
  stop : ∀ H, Same I H → J.stop n H
  yld : ∀ i H x H', Same I H → i < n → J.yld i H x H' → x = xs i ∧ H' = H
def gv (vs : List V) (i : Nat) : V := vs.getD i .non
theorem gv_at {vs : List V} {i : Nat} (h : i < vs.length) : vs[i]? = some (gv vs i) := by
  unfold gv; rw [List.getD_eq_getElem?_getD, List.getElem?_eq_getElem h]; rfl
theorem gv_of {vs : List V} {i : Nat} {v : V} (h : vs[i]? = some v) : gv vs i = v := by
  unfold gv; rw [List.getD_eq_getElem?_getD, h]; rfl
section
variable {K : PySem.W.Frag} {I : Hp} {a : Addr} {vs : List V}
theorem wk_list (h : I a = some (.lst vs)) : Wk (Itl K a) vs.length (gv vs) I :=
  ⟨fun i H s hi => ⟨vs, _, SqL.of (s _ _ h), gv_at hi⟩, fun H s => ⟨vs, SqL.of (s _ _ h), Nat.le_refl _⟩,
    fun i H x H' s hi y => ⟨(gv_of (y.2 vs (SqL.of (s _ _ h)))).symm, y.1⟩⟩
theorem wk_tup (h : I a = some (.tup vs)) : Wk (Itt K a) vs.length (gv vs) I :=
  ⟨fun i H s hi => ⟨vs, _, SqT.of (s _ _ h), gv_at hi⟩, fun H s => ⟨vs, SqT.of (s _ _ h), Nat.le_refl _⟩,
    fun i H x H' s hi y => ⟨(gv_of (y.2 vs (SqT.of (s _ _ h)))).symm, y.1⟩⟩
theorem wk_range {lo : Int} {n : Nat} : Wk (Itr lo n) n (fun i => .int (lo + i)) I :=
  ⟨fun i H s hi => hi, fun H s => Nat.le_refl _, fun i H x H' s hi y => ⟨y.2, y.1⟩⟩
/-- a list or a tuple -/
def LtR (K : PySem.W.Frag) (x : V) (H1 : Hp) (R : It → Hp → Prop) : Prop := ∃ a, x = .ref a ∧ (((∃ xs, SqL K H1 a xs) ∧ R (Itl K a) H1) ∨ ((∃ xs, SqT K H1 a xs) ∧ R (Itt K a) H1))
def iLT (K : PySem.W.Frag) (tl : TE) : TI := fun σ H R => tl σ H fun x H1 => LtR K x H1 R
theorem pi_lt {X : Cx} {tg l : Expr} {tl : TE} (hl : PE X l tl) : PI X tg l (iLT X.K tl) := by
  refine ⟨fun pins s σ H R Iv h => ?_⟩
  refine thn (hl.run pins s σ H _ Iv h) fun v s1 q => ?_
  obtain ⟨x, H1, I1, r1, b, rfl, q⟩ := q
  cases r1
  rcases q with ⟨⟨xs, hq⟩, q⟩ | ⟨⟨xs, hq⟩, q⟩
  · have z : ∀ (te : TE) (v : V), True := fun _ _ => trivial
    obtain ⟨its, rv, p, hz⟩ := I1.list hq
    refine wpAny_pyIter_list p.isList ?_
    have ne : ∀ b' o, s1.heap.get? b' = some o → (s1.heap.push { cls := .type "list_iterator", data := .fields #[.ref b, .int 0 0] }).get? b' = some o := fun b' o e => Heap.get?_push_of_some _ e
    refine ⟨s1.heap.objs.size, [s1.heap.objs.size], _, _, H1, rfl, I1.kept (t' := s1.toks) ne, turn_list b s1.heap.objs.size, ⟨_, Heap.get?_push_size _ rfl, rfl, rfl⟩, fun b' hb => ?_, q⟩
    have e : b' = s1.heap.objs.size := by simpa using hb
    subst e
    exact I1.fpOk (Nat.le_refl _) (I1.hok.fresh (Nat.le_refl _))
  · obtain ⟨its, rv, p, hz⟩ := I1.tuple hq
    refine wpAny_pyIter_tuple p ?_
    have ne : ∀ b' o, s1.heap.get? b' = some o → (s1.heap.push { cls := .type "tuple_iterator", data := .fields #[.ref b, .int 0 0] }).get? b' = some o := fun b' o e => Heap.get?_push_of_some _ e
    refine ⟨s1.heap.objs.size, [s1.heap.objs.size], _, _, H1, rfl, I1.kept (t' := s1.toks) ne, turn_tuple b s1.heap.objs.size, ⟨_, Heap.get?_push_size _ rfl, rfl, rfl⟩, fun b' hb => ?_, q⟩
    have e : b' = s1.heap.objs.size := by simpa using hb
    subst e
    exact I1.fpOk (Nat.le_refl _) (I1.hok.fresh (Nat.le_refl _))
end
theorem lt_of {K : PySem.W.Frag} {I H : Hp} {a : Addr} {vs : List V} {R : It → Hp → Prop} (h : I a = some (.lst vs) ∨ I a = some (.tup vs)) (s : Same I H) (k : ∀ J, Wk J vs.length (gv vs) I → R J H) : LtR K (.ref a) H R :=
  ⟨a, rfl, h.elim (fun h => .inl ⟨⟨vs, SqL.of (s _ _ h)⟩, k _ (wk_list h)⟩) fun h => .inr ⟨⟨vs, SqT.of (s _ _ h)⟩, k _ (wk_tup h)⟩⟩
/-- a loop over such a thing -/
theorem for_wk {J : It} {n : Nat} {xs : Nat → V} {I : Hp} {g : TG} {tb : TS} {D : Ends} {σ : L2.St} {H : Hp} (W : Wk J n xs I) (Post : L2.St → Hp → Prop) (Pv : Nat → L2.St → Hp → Prop) (hS : ∀ i σ H, Pv i σ H → Same I H) (h0 : Pv 0 σ H)
    (hs : ∀ nx : L2.St → Hp → Prop, (∀ σ' H', Post σ' H' → nx σ' H') → ∀ i σ H, i < n → Pv i σ H → g (xs i) σ H fun σ2 H2 => tb { D with nx := Pv (i + 1), ct := Pv (i + 1), bk := nx } σ2 H2)
    (hd : ∀ σ H, Pv n σ H → Post σ H) (fin : ∀ σ' H', Post σ' H' → D.nx σ' H') :
    ∃ Wz : Nat → Nat → L2.St → Hp → Prop, (∃ m, Wz 0 m σ H) ∧ ∀ i m σ H, Wz i m σ H →
      (J.stop i H ∧ D.nx σ H) ∨ (J.go i H ∧ ∃ N : L2.St → Hp → Prop, (∀ σ' H', N σ' H' → ∃ m', m' < m ∧ Wz (i + 1) m' σ' H') ∧ ∀ x H', J.yld i H x H' → g x σ H' fun σ2 H2 => tb { D with nx := N, ct := N, bk := D.nx } σ2 H2) := by
  refine ⟨fun i m σ H => m = n - i ∧ i ≤ n ∧ Pv i σ H, ⟨n, rfl, Nat.zero_le _, h0⟩, ?_⟩
  rintro i m σ H ⟨rfl, hi, p⟩
  have s := hS i σ H p
  by_cases hlt : i < n
  · refine .inr ⟨W.go i H s hlt, Pv (i + 1), fun σ' H' p' => ⟨n - (i + 1), by omega, rfl, hlt, p'⟩, fun x H' y => ?_⟩
    obtain ⟨rfl, rfl⟩ := W.yld i H x H' s hlt y
    exact hs D.nx fin i σ _ hlt p
  · have e : i = n := by omega
    subst e
    exact .inl ⟨W.stop H s, fin σ H (hd σ H p)⟩
/-- the rest of a comprehension's reading, behind its iterator -/
abbrev LcR (J : It) (g : TG) (tt : TT) (te : TE) (vs : List Nat) (σ : L2.St) (H1 : Hp) (D : Addr) (Qd : Hp → Prop) : Prop :=
  ∃ W : Nat → Nat → Hp → Prop, (∃ m, W 0 m (upd H1 D (.lst []))) ∧ ∀ i m H, W i m H →
      (J.stop i H ∧ Qd H) ∨ (J.go i H ∧ ∃ Nx : Hp → Prop, (∀ H', Nx H' → ∃ m', m' < m ∧ W (i + 1) m' H') ∧ ∀ x H', J.yld i H x H' → g x (wipe σ vs) H' fun σ2 H2 => wipe σ2 vs = wipe σ vs ∧ tt σ2 H2 fun b H3 =>
        if b = true then te σ2 H3 fun y H4 => ∃ acc, H4 D = some (.lst acc) ∧ acc.length < sizeLine ∧ Nx (upd H4 D (.lst (acc ++ [y]))) else Nx H3)
theorem All2.snoc {α : Type} {R : V → α → Prop} {vs : List V} {xs : List α} {v : V} {x : α} (h : All2 R vs xs) (r : R v x) : All2 R (vs ++ [v]) (xs ++ [x]) := h.append (.cons r .nil)
/-- what a heap's own rule bears: the list under way at D, and that it stays from then on -/
structure Stb (Jv : Hp → Hp → Prop) (D : Addr) : Prop where
  chg : ∀ {I H : Hp} {l : List V}, I D = none → Jv I H → Jv I (upd H D (.lst l))
  frz : ∀ {I H : Hp} {o : HO}, I D = none → Jv I H → Jv (upd I D o) H
theorem stb_true {D : Addr} : Stb (fun _ _ => True) D := ⟨fun _ _ => trivial, fun _ _ => trivial⟩
theorem Gr.drop {m : Addr} {ms : List Addr} {I H I' H' : Hp} (g : Gr (m :: ms) I H I' H') (h : H m = none) : Gr ms I H I' H' :=
  ⟨g.ii, g.ih, fun a o n e => g.hh a o (fun z => (List.mem_cons.mp z).elim (fun q => by rw [q, h] at e; cases e) n) e, g.th, g.nw⟩
/-- a comprehension without tests over such a thing: one element a turn, what it is told by Rl -/
theorem lc_wk {β : Type} {J : It} {n : Nat} {xs : Nat → V} {I H1 : Hp} {g : TG} {tt : TT} {te : TE} {vs : List Nat} {σ : L2.St} {D : Addr} {Qd : Hp → Prop} (ms : List Addr) (Sy : Rp β) [Mono Sy] (Rl : Nat → β → Prop) (Jv : Hp → Hp → Prop)
    (W : Wk J n xs I) (s0 : Same I H1) (hD : H1 D = none) (hm : D ∉ ms) (hn : n < sizeLine) (st : Stb Jv D) (j0 : Jv I H1)
    (step : ∀ (i : Nat) (I' H' : Hp) (Nx : Hp → Prop) (Qk : VK), i < n → Same I I' → Same I' H' → Jv I' H' → (∀ I'' H'' y z, Gr ms I' H' I'' H'' → Jv I'' H'' → Sy I'' y z → Rl i z → Qk y H'') →
      g (xs i) (wipe σ vs) H' fun σ2 H2 => wipe σ2 vs = wipe σ vs ∧ tt σ2 H2 fun b H3 => if b = true then te σ2 H3 Qk else Nx H3)
    (hd : ∀ I' H' ys zs, Gr ms I H1 I' H' → I' D = some (.lst ys) → All2 (Sy I') ys zs → zs.length = n → (∀ i z, zs[i]? = some z → Rl i z) → Jv I' H' → Qd H') :
    LcR J g tt te vs σ H1 D Qd := by
  refine ⟨fun i m H => m = n - i ∧ i ≤ n ∧ ∃ I' ys zs, Gr ms I H1 I' H ∧ I' D = none ∧ H D = some (.lst ys) ∧ All2 (Sy I') ys zs ∧ zs.length = i ∧ (∀ i z, zs[i]? = some z → Rl i z) ∧ Jv I' H,
    ⟨n, rfl, Nat.zero_le _, I, [], [], (Gr.tmp s0 hD), s0.free hD, upd_same, .nil, rfl, fun i z h => by simp at h, st.chg (s0.free hD) j0⟩, ?_⟩
  rintro i m H ⟨rfl, hi, I', ys, zs, gr, hI, hH, a2, hl, rl, jv⟩
  have s : Same I H := gr.ii.trans gr.ih
  by_cases hlt : i < n
  · refine .inr ⟨W.go i H s hlt, fun H' => i + 1 ≤ n ∧ ∃ I' ys zs, Gr ms I H1 I' H' ∧ I' D = none ∧ H' D = some (.lst ys) ∧ All2 (Sy I') ys zs ∧ zs.length = i + 1 ∧ (∀ i z, zs[i]? = some z → Rl i z) ∧ Jv I' H',
      fun H' p => ⟨n - (i + 1), by omega, rfl, p.1, p.2⟩, fun x H' y => ?_⟩
    obtain ⟨rfl, rfl⟩ := W.yld i H x H' s hlt y
    refine step i I' H' _ _ hlt gr.ii gr.ih jv fun I'' H'' y z g2 jv2 sy r => ?_
    have hD2 : H'' D = some (.lst ys) := g2.at hH hm
    have hI2 : I'' D = none := g2.out hI hH
    refine ⟨ys, hD2, by rw [a2.len, hl]; omega, hlt, I'', ys ++ [y], zs ++ [z], ?_, hI2, upd_same, (a2.mono fun _ _ => up g2.ii).snoc sy, by rw [List.length_append, hl]; rfl, fun j u hu => ?_, st.chg hI2 jv2⟩
    · have g3 := gr.trans g2
      exact ((g3.mono (ns := D :: ms) fun _ z => List.mem_cons_of_mem _ z).trans (Gr.mut g3.ih hI2 List.mem_cons_self)).drop hD
    · by_cases hj : j < zs.length
      · rw [List.getElem?_append_left hj] at hu; exact rl j u hu
      · rw [List.getElem?_append_right (by omega)] at hu
        have : j - zs.length = 0 := by
          rcases Nat.eq_zero_or_pos (j - zs.length) with h | h
          · exact h
          · rw [List.getElem?_eq_none (by simp; omega)] at hu; cases hu
        rw [this] at hu
        simp at hu
        subst hu
        have : j = i := by omega
        rw [this]; exact r
  · have e : i = n := by omega
    subst e
    refine .inl ⟨W.stop H s, hd (upd I' D (.lst ys)) H ys zs (gr.mono (fun _ z => List.mem_cons_of_mem _ z) |>.frz s0 hD hH) upd_same (a2.mono fun _ _ => up (sNew hI)) hl rl (st.frz hI jv)⟩
end Tk

set_option Elab.async false
set_option linter.all false
set_option maxRecDepth 100000
set_option maxHeartbeats 4000000
/-! zip of a list or a tuple with a tuple. -/
namespace Tk
open PySem PySem.Spec PyProof.Rows L2
def SqB (K : PySem.W.Frag) (l : Bool) (H : Hp) (a : Addr) (xs : List V) : Prop := match l with
  | true => SqL K H a xs
  | false => SqT K H a xs
def ItB (l : Bool) (h : Heap) (i a : Addr) (k : Nat) : Prop := match l with
  | true => h.IsListIter i a k
  | false => h.IsTupleIter i a k
def IsB (l : Bool) (h : Heap) (a : Addr) (its : Array Value) : Prop := match l with
  | true => h.IsList a its
  | false => h.IsTuple a its
theorem ItB.fld {l : Bool} {h : Heap} {i a : Addr} {k : Nat} (t : ItB l h i a k) : ∃ o, h.get? i = some o ∧ ∀ v, o.data ≠ .cell v := by
  cases l with
  | true => obtain ⟨o, e, _, d⟩ := t; exact ⟨o, e, fun v q => by rw [d] at q; cases q⟩
  | false => obtain ⟨o, e, _, d⟩ := t; exact ⟨o, e, fun v q => by rw [d] at q; cases q⟩
theorem ItB.keep {l : Bool} {h h' : Heap} {i a : Addr} {k : Nat} (t : ItB l h i a k) (e : ∀ o, h.get? i = some o → h'.get? i = some o) : ItB l h' i a k := by
  cases l with
  | true => exact Heap.IsListIter.at t e
  | false => exact Heap.IsTupleIter.at t e
theorem drawsB {prog : Program} {w : World} {A : Around} (hh : A.handled = none) (l : Bool) (it a : Addr) (hne : a ≠ it) (its : Array Value) :
    Draws prog w A it [it, a] its.size (fun i v => its[i]? = some v) (fun i h => ItB l h it a i ∧ IsB l h a its) := by
  cases l with
  | true => exact Draws.list hh it a hne its
  | false => exact Draws.tuple hh it a hne its
section
variable {X : Cx} {pins : List (Addr × Obj)} {σ : L2.St} {H : Hp} {s : Shared}
theorem sqB_at {l : Bool} {a : Addr} {xs : List V} (I : Inv X pins σ H s) (h : SqB X.K l H a xs) : ∃ its : List Value, Vals xs its ∧ IsB l s.heap a its.toArray ∧ a < s.heap.objs.size := by
  cases l with
  | true => obtain ⟨its, r, p, _⟩ := I.list h; exact ⟨its, r, p.isList, p.lt⟩
  | false =>
    obtain ⟨its, r, p, _⟩ := I.tuple h
    obtain ⟨o, e, _⟩ := id p
    exact ⟨its, r, p, Heap.lt_size e⟩
theorem sqB_inj {l : Bool} {a : Addr} {xs ys : List V} (I : Inv X pins σ H s) (h : SqB X.K l H a xs) (k : SqB X.K l H a ys) : xs = ys := by
  cases l with
  | true => exact I.list_inj h k
  | false => exact I.tuple_inj h k
end
/-- new pairs of what stands at a and at b -/
def ItzM (K : PySem.W.Frag) (l m : Bool) (a b : Addr) : It :=
  ⟨fun i H => ∃ xs ys x y, (SqB K l H a xs ∧ xs[i]? = some x) ∧ SqB K m H b ys ∧ ys[i]? = some y,
    fun i H v H' => ∃ t x y, v = .ref t ∧ H t = none ∧ H' = upd H t (.tup [x, y]) ∧ (∀ xs, SqB K l H a xs → xs[i]? = some x) ∧ ∀ ys, SqB K m H b ys → ys[i]? = some y,
    fun i H => ∃ xs ys, SqB K l H a xs ∧ SqB K m H b ys ∧ i ≤ xs.length ∧ i ≤ ys.length ∧ (i = xs.length ∨ i = ys.length)⟩
/-- where the five objects of a zip lie -/
structure Zs (z TI TO i1 i2 a b : Addr) : Prop where
  sep : ZipSep2 z TI TO i1 i2 [i1, a] [i2, b]
  a1 : a ≠ i1
  b2 : b ≠ i2
theorem two_not {c x y : Addr} (h1 : c ≠ x) (h2 : c ≠ y) : c ∉ [x, y] := fun h => by
  rcases List.mem_cons.mp h with e | h
  · exact h1 e
  · rcases List.mem_cons.mp h with e | h
    · exact h2 e
    · exact nomatch h
theorem zs_new {n a b : Addr} (ha : a < n) (hb : b < n) : Zs (n + 4) (n + 2) (n + 3) n (n + 1) a b := by
  have D := PySem.W.ktu_apart n a b ha hb
  exact ⟨⟨D.TIz, D.TOz, D.TITO, D.TIi1, List.mem_cons_self, two_not D.i1z.symm D.l1z.symm, two_not D.TOi1 D.l1TO.symm, D.TIi2, List.mem_cons_self, two_not D.i2z.symm D.l2z.symm, two_not D.TOi2 D.l2TO.symm, two_not D.i12 D.l2i1.symm, two_not D.i12.symm D.l1i2.symm⟩, D.l1i1, D.l2i2⟩
theorem turn_zipM {P : Program} {w : World} {K : PySem.W.Frag} {elts : List Expr} {kk : Nat} {tpos : Pos} {l m : Bool} {a b z TI TO i1 i2 : Addr} (Z : Zs z TI TO i1 i2 a b) :
    Turn P w K (.Tuple elts kk tpos) (ItzM K l m a b) [z, TI, TO, i1, i2] z (fun i h => (IsZip h z TI TO .none ∧ IsPair h TI (.ref i1) (.ref i2) ∧ ∃ x y, IsPair h TO x y) ∧ ItB l h i1 a i ∧ ItB m h i2 b i) where
  mem := List.mem_cons_self
  obj := fun i h ⟨⟨hz, hI, x, y, hO⟩, h1, h2⟩ c hc => by
    simp only [List.mem_cons, List.not_mem_nil, or_false] at hc
    rcases hc with rfl | rfl | rfl | rfl | rfl
    · exact ⟨_, hz, nofun⟩
    · exact ⟨_, hI, nofun⟩
    · exact ⟨_, hO, nofun⟩
    · exact h1.fld
    · exact h2.fld
  keep := fun i h h' ⟨⟨hz, hI, x, y, hO⟩, h1, h2⟩ k =>
    ⟨⟨k _ (by simp) _ hz, k _ (by simp) _ hI, x, y, k _ (by simp) _ hO⟩, h1.keep (k _ (by simp)), h2.keep (k _ (by simp))⟩
  item := by
    rintro X rfl rfl rfl hc i pins s σ H E Iv hf ⟨⟨hz, hI, x0, y0, hO⟩, h1, h2⟩ ⟨xs, ys, x, y, ⟨qx, hx⟩, qy, hy⟩
    obtain ⟨its, rv, p1, _⟩ := sqB_at Iv qx
    obtain ⟨jts, rw', p2, _⟩ := sqB_at Iv qy
    obtain ⟨u, hu, ru⟩ := rv.get hx
    obtain ⟨u2, hu2, ru2⟩ := rw'.get hy
    have hh : X.A.in1.handled = none := Iv.ok.hd hc
    have lz := Heap.lt_size hz
    have b1 : i < its.toArray.size := by
      have := (List.getElem?_eq_some_iff.mp hu).1; simpa using this
    have b2 : i < jts.toArray.size := by
      have := (List.getElem?_eq_some_iff.mp hu2).1; simpa using this
    refine wpAny_pyNext_zipD2_item Z.sep (drawsB (A := X.A.in1) hh l i1 a Z.a1 its.toArray) (drawsB (A := X.A.in1) hh m i2 b Z.b2 jts.toArray) hz hI hO ⟨h1, p1⟩ ⟨h2, p2⟩ b1 b2 fun v1 v2 h' tk e1 e2 z' O' d1 d2 hT hs hk => ?_
    have e1' : u = v1 := by
      have : its.toArray[i]? = some u := by simpa using hu
      rw [this] at e1; exact Option.some.inj e1
    have e2' : u2 = v2 := by
      have : jts.toArray[i]? = some u2 := by simpa using hu2
      rw [this] at e2; exact Option.some.inj e2
    subst e1' e2'
    refine ⟨_, rfl, wpAny_letOwnedTupleGo_zip (s := { s with heap := h', toks := tk }) z' fun h'' z'' sb => ?_⟩
    have hT2 : h''.get? s.heap.objs.size = some { cls := .type "tuple", data := .seq #[u, u2] } := (sb.2 _ (Nat.ne_of_gt lz)).trans hT
    have hn : H s.heap.objs.size = none := Iv.hok.fresh (Nat.le_refl _)
    have kp : ∀ c o, c ∉ [z, TI, TO, i1, i2] → s.heap.get? c = some o → h''.get? c = some o := fun c o hcn q => by
      simp only [List.mem_cons, List.not_mem_nil, or_false, not_or] at hcn
      exact (sb.2 c hcn.1).trans (hk c o hcn.1 hcn.2.2.1 hcn.2.2.2.1 hcn.2.2.2.2 q)
    have I1 : Inv X pins σ (upd H s.heap.objs.size (.tup [x, y])) { s with heap := h'', toks := tk } :=
      Iv.turnedNew (t' := tk) (ch := [z, TI, TO, i1, i2]) kp hf (Nat.le_refl _) ⟨by show 2 ≤ sizeLine; decide, [u, u2], .cons ru (.cons ru2 .nil), ⟨_, hT2, rfl, _, rfl⟩⟩
    have S := Z.sep
    refine ⟨.ref s.heap.objs.size, _, I1, rfl, ⟨_, x, y, rfl, hn, rfl, fun l hl => by rw [sqB_inj Iv hl qx]; exact hx, fun l hl => by rw [sqB_inj Iv hl qy]; exact hy⟩,
      ⟨⟨z'', (sb.2 _ S.TIz).trans (hk _ _ S.TIz S.TITO S.TIi1 S.TIi2 hI), u, u2, (sb.2 _ S.TOz).trans O'⟩, d1.1.keep fun o q => (sb.2 _ S.zi1.symm).trans q, d2.1.keep fun o q => (sb.2 _ S.zi2.symm).trans q⟩, fun c hcm => ?_⟩
    have hlt : c ≠ s.heap.objs.size := by
      simp only [List.mem_cons, List.not_mem_nil, or_false] at hcm
      rcases hcm with rfl | rfl | rfl | rfl | rfl
      · exact Nat.ne_of_lt lz
      · exact Nat.ne_of_lt (Heap.lt_size hI)
      · exact Nat.ne_of_lt (Heap.lt_size hO)
      · obtain ⟨_, e, _⟩ := h1.fld; exact Nat.ne_of_lt (Heap.lt_size e)
      · obtain ⟨_, e, _⟩ := h2.fld; exact Nat.ne_of_lt (Heap.lt_size e)
    rw [upd_ne hlt]
    exact (hf c hcm).1
  done := by
    rintro X rfl rfl rfl hc i pins s σ H E Iv hf ⟨⟨hz, hI, x0, y0, hO⟩, h1, h2⟩ ⟨xs, ys, qx, qy, l1, l2, hend⟩
    obtain ⟨its, rv, p1, _⟩ := sqB_at Iv qx
    obtain ⟨jts, rw', p2, _⟩ := sqB_at Iv qy
    have hh : X.A.in1.handled = none := Iv.ok.hd hc
    have n1 := rv.length
    have n2 := rw'.length
    refine wpAny_pyNext_zipD2_end Z.sep (drawsB (A := X.A.in1) hh l i1 a Z.a1 its.toArray) (drawsB (A := X.A.in1) hh m i2 b Z.b2 jts.toArray) hz hI hO ⟨h1, p1⟩ ⟨h2, p2⟩ (by simp; omega) (by simp; omega)
      (by simp only [List.size_toArray]; omega) fun h' tk hk => ⟨rfl, Iv.turnedL (t' := tk) (ch := [z, TI, TO, i1, i2]) (fun c o hcn q => ?_) hf⟩
    simp only [List.mem_cons, List.not_mem_nil, or_false, not_or] at hcn
    exact hk c o hcn.1 hcn.2.2.1 hcn.2.2.2.1 hcn.2.2.2.2 q
  self := fun A i s Q E st h => wpAny_pyIter_zip st.1.1 h
def iZipM (K : PySem.W.Frag) (ta : TA) : TI := fun σ H R => ta σ H fun vs H1 => ∃ (l m : Bool) (a b : Addr) (xs ys : List V), vs = [.ref a, .ref b] ∧ SqB K l H1 a xs ∧ SqB K m H1 b ys ∧ R (ItzM K l m a b) H1
theorem beginsB (l : Bool) (a : Addr) (its : Array Value) : ∃ o : Obj, Begins (.ref a) o (fun h => IsB l h a its) ∧ ∀ h i, h.get? i = some o → ItB l h i a 0 := by
  cases l with
  | true => exact ⟨_, begins_list a its, fun h i e => ⟨_, e, rfl, rfl⟩⟩
  | false => exact ⟨_, begins_tuple a its, fun h i e => ⟨_, e, rfl, rfl⟩⟩
theorem pi_zipM {X : Cx} {e e2 : Expr} {ta : TA} {p pos tpos : Pos} {elts : List Expr} {kk : Nat} (hg : Gl X "zip") (hm : X.mg "zip" = none) (ha : PA X [e, e2] ta)
    (hs : starEach [e, e2] X.env = (false, eval e X.env) :: starEach [e2] X.env := by rfl) (hpl : (backTo pos (starEach [e2] X.env)).any (·.1) = false := by rfl) :
    PI X (.Tuple elts kk tpos) (.Call (.Name "zip" p) [e, e2] [] pos) (iZipM X.K ta) := by
  refine ⟨fun pins s σ H R Iv h => ?_⟩
  refine Call_ (ld_blt Iv hg hm PyProof.Rows.boot_zip (PyProof.Rows.callWith_type1 (thn (ha.run pos pins s σ H _ Iv h) fun us s1 q1 => ?_) hs hpl))
  obtain ⟨vs, H1, I1, r1, l, m, a, b, xs, ys, rfl, qx, qy, q⟩ := q1
  cases r1 with
  | cons ra rr =>
    cases rr with
    | cons rb rr =>
      cases rr
      cases ra
      cases rb
      obtain ⟨its, _, p1, la⟩ := sqB_at I1 qx
      obtain ⟨jts, _, p2, lb⟩ := sqB_at I1 qy
      obtain ⟨o1, B1, k1⟩ := beginsB l a its.toArray
      obtain ⟨o2, B2, k2⟩ := beginsB m b jts.toArray
      refine zip_begins2 B1 B2 p1 p2 fun h' hz hI hO g1 g2 hsz hk => wpAny_pyIter_zip hz ?_
      refine ⟨_, _, _, _, H1, rfl, I1.kept (t' := s1.toks) hk, turn_zipM (zs_new la lb), ⟨⟨hz, hI, _, _, hO⟩, k1 _ _ g1, k2 _ _ g2⟩, fun c hcm => ?_, q⟩
      have hle : s1.heap.objs.size ≤ c := by
        simp only [List.mem_cons, List.not_mem_nil, or_false] at hcm
        rcases hcm with rfl | rfl | rfl | rfl | rfl
        · exact Nat.le_add_right _ _
        · exact Nat.le_add_right _ _
        · exact Nat.le_add_right _ _
        · exact Nat.le_refl _
        · exact Nat.le_add_right _ _
      exact I1.fpOk hle (I1.hok.fresh hle)
end Tk

set_option Elab.async false
set_option linter.all false
set_option maxRecDepth 100000
set_option maxHeartbeats 4000000
/-! Rules that name K itself (in a comprehension's block the context's K is no name that the reading could keep). -/
namespace Tk
open PySem PySem.Spec PyProof.Rows L2
structure rTup (K : PySem.W.Frag) (xs : List V) (H : Hp) (Q : VK) : Prop where
  h : ∃ p ys, xs = [.ref p] ∧ ((SqL K H p ys ∧ ∀ l, H l = none → Q (.ref l) (upd H l (.tup ys))) ∨ (SqT K H p ys ∧ Q (.ref p) H))
section
variable {X : Cx} (K : PySem.W.Frag) {e l : Expr} {ta : TE} {f : Str} {pos p tpos : Pos} {tg : Expr} {tl : TE}
theorem pe_fldK (he : PE X e ta) (hb : attributeBase e f X.env (eval e X.env) = eval e X.env) (hK : X.K = K := by rfl) : PE X (.Attribute e f pos) (tFld K ta f) := hK ▸ pe_fld he hb
theorem ix_listK (hK : X.K = K := by rfl) : IxR X (rIxL K) := hK ▸ ix_list
theorem ix_tupK (hK : X.K = K := by rfl) : IxR X (rIxT K) := hK ▸ ix_tup
theorem sl_listK (hK : X.K = K := by rfl) : SlR X (rSlL K) := hK ▸ sl_list
theorem call_lenK (hK : X.K = K := by rfl) : CallR X (.builtin "len") (fun xs H Q => ∃ x n, xs = [x] ∧ LenV K x H n ∧ Q (.int n) H) := hK ▸ call_len
theorem call_list_ofK (hK : X.K = K := by rfl) : CallR X (.type "list") (fun xs H Q => ∃ p ys, xs = [.ref p] ∧ (SqL K H p ys ∨ SqT K H p ys) ∧ ∀ l, H l = none → Q (.ref l) (upd H l (.lst ys))) := hK ▸ call_list_of
theorem call_tuple_ofK (hK : X.K = K := by rfl) : CallR X (.type "tuple") (rTup K) := by
  subst hK
  intro pins s σ H vs us Q I r h
  exact call_tuple_of pins s σ H vs us Q I r h.h
theorem op_catTK (hK : X.K = K := by rfl) : OpR X (binaryOp .Add) (rCatT K) := hK ▸ op_catT
theorem op_neDK (hu : X.A.units + 64 < cLine) (hK : X.K = K := by rfl) : OpR X (compareOp .NotEq) (rNeD K) := hK ▸ op_neD hu
theorem op_eqDK (hu : X.A.units + 64 < cLine) (hK : X.K = K := by rfl) : OpR X (compareOp .Eq) (rEqD K) := hK ▸ op_eqD hu
theorem pg_tupK {es : List Expr} {k : Nat} {t : TGs} {n : Nat} (hc : X.calm = true) (h : PGs X es t) (hK : X.K = K := by rfl)
    (hn : (assignEach es X.env).length = n := by rfl) (hst : (assignEach es X.env).findIdx? (·.1) = none := by rfl) : PG X (.Tuple es k pos) (gTup K n t) := hK ▸ pg_tup hc h hn hst
theorem pi_listK (hl : PE X l tl) (hK : X.K = K := by rfl) : PI X tg l (iList K tl) := hK ▸ pi_list hl
theorem pi_tupK (hl : PE X l tl) (hK : X.K = K := by rfl) : PI X tg l (iTup K tl) := hK ▸ pi_tup hl
theorem pi_ltK (hl : PE X l tl) (hK : X.K = K := by rfl) : PI X tg l (iLT K tl) := hK ▸ pi_lt hl
theorem pi_zipMK {e2 : Expr} {t2 : TA} {elts : List Expr} {kk : Nat} (hg : Gl X "zip") (hm : X.mg "zip" = none) (ha : PA X [e, e2] t2) (hK : X.K = K := by rfl)
    (hs : starEach [e, e2] X.env = (false, eval e X.env) :: starEach [e2] X.env := by rfl) (hpl : (backTo pos (starEach [e2] X.env)).any (·.1) = false := by rfl) :
    PI X (.Tuple elts kk tpos) (.Call (.Name "zip" p) [e, e2] [] pos) (iZipM K t2) := hK ▸ pi_zipM hg hm ha hs hpl
theorem cr_allK (hc : X.calm = true) (hK : X.K = K := by rfl) : CallR X (.builtin "all") (rAll K) := hK ▸ cr_all hc
theorem cr_anyK (hc : X.calm = true) (hK : X.K = K := by rfl) : CallR X (.builtin "any") (rAny K) := hK ▸ cr_any hc
theorem cr_sumK (hc : X.calm = true) (hK : X.K = K := by rfl) : CallR X (.builtin "sum") (rSum K) := hK ▸ cr_sum hc
theorem call_isiK (hK : X.K = K := by rfl) : CallR X (.builtin "isinstance") (rIsi K) := hK ▸ call_isi
end
end Tk

set_option Elab.async false
set_option linter.all false
set_option maxRecDepth 100000
set_option maxHeartbeats 4000000
/-! Two clauses: all elements in one list. -/
namespace Tk
open PySem PySem.Spec PyProof.Rows L2
def flat {β : Type} (ks : Nat → Nat) (f : Nat → Nat → β) (n : Nat) : List β := (List.range n).flatMap fun i => (List.range (ks i)).map (f i)
theorem flat_succ {β : Type} {ks : Nat → Nat} {f : Nat → Nat → β} {n : Nat} : flat ks f (n + 1) = flat ks f n ++ (List.range (ks n)).map (f n) := by
  unfold flat; rw [List.range_succ, List.flatMap_append]; simp
theorem flat_le {β : Type} {ks : Nat → Nat} {f : Nat → Nat → β} {i n : Nat} (h : i ≤ n) : (flat ks f i).length ≤ (flat ks f n).length := by
  induction n with
  | zero => have : i = 0 := by omega
            subst this; exact Nat.le_refl _
  | succ n ih =>
    by_cases e : i = n + 1
    · subst e; exact Nat.le_refl _
    · refine Nat.le_trans (ih (by omega)) ?_
      rw [flat_succ, List.length_append]; omega
theorem flat_lt {β : Type} {ks : Nat → Nat} {f : Nat → Nat → β} {i j n : Nat} (h : i < n) (hj : j < ks i) : (flat ks f i ++ (List.range j).map (f i)).length < (flat ks f n).length := by
  have := flat_le (ks := ks) (f := f) (i := i + 1) (n := n) h
  rw [flat_succ] at this
  simp only [List.length_append, List.length_map, List.length_range] at this ⊢
  omega
abbrev LcR2 (J : It) (g : TG) (tt : TT) (wi1 : TI) (g1 : TG) (tt1 : TT) (te : TE) (vs vs1 : List Nat) (σ : L2.St) (H1 : Hp) (D : Addr) (Qd : Hp → Prop) : Prop :=
  ∃ W : Nat → Nat → Hp → Prop, (∃ m, W 0 m (upd H1 D (.lst []))) ∧ ∀ i m H, W i m H →
  (J.stop i H ∧ Qd H) ∨ (J.go i H ∧ ∃ Nx : Hp → Prop, (∀ H', Nx H' → ∃ m', m' < m ∧ W (i + 1) m' H') ∧ ∀ x H', J.yld i H x H' → g x (wipe σ vs) H' fun σ2 H2 => wipe σ2 vs = wipe σ vs ∧ tt σ2 H2 fun b H3 =>
    if b = true then wi1 σ2 H3 fun J1 H4 => ∃ W1 : Nat → Nat → Hp → Prop, (∃ m, W1 0 m H4) ∧ ∀ j k H, W1 j k H →
      (J1.stop j H ∧ Nx H) ∨ (J1.go j H ∧ ∃ Nx1 : Hp → Prop, (∀ H', Nx1 H' → ∃ k', k' < k ∧ W1 (j + 1) k' H') ∧ ∀ x H', J1.yld j H x H' → g1 x (wipe σ2 vs1) H' fun σ3 H5 => wipe σ3 vs1 = wipe σ2 vs1 ∧ tt1 σ3 H5 fun b H6 =>
        if b = true then te σ3 H6 fun y H7 => ∃ acc, H7 D = some (.lst acc) ∧ acc.length < sizeLine ∧ Nx1 (upd H7 D (.lst (acc ++ [y]))) else Nx1 H6)
    else Nx H3)
theorem lc2_wk {β : Type} {J : It} {n : Nat} {xs : Nat → V} {I H1 : Hp} {g g1 : TG} {tt tt1 : TT} {te : TE} {wi1 : TI} {vs vs1 : List Nat} {σ : L2.St} {D : Addr} {Qd : Hp → Prop} (Sy : Rp β) [Mono Sy] (ks : Nat → Nat) (f : Nat → Nat → β)
    (W : Wk J n xs I) (s0 : Same I H1) (hD : H1 D = none) (hn : (flat ks f n).length ≤ sizeLine)
    (step : ∀ (i : Nat) (I' H' : Hp) (Nx : Hp → Prop) (R2 : L2.St → It → Hp → Prop), i < n → Same I I' → Same I' H' →
      (∀ (σ2 : L2.St) (J1 : It) (xs1 : Nat → V), Wk J1 (ks i) xs1 I' →
        (∀ (j : Nat) (I2 H2 : Hp) (Nx1 : Hp → Prop) (Qk : VK), j < ks i → Same I' I2 → Same I2 H2 → (∀ I'' H'' y, Gr [] I2 H2 I'' H'' → Sy I'' y (f i j) → Qk y H'') →
          g1 (xs1 j) (wipe σ2 vs1) H2 fun σ3 H5 => wipe σ3 vs1 = wipe σ2 vs1 ∧ tt1 σ3 H5 fun b H6 => if b = true then te σ3 H6 Qk else Nx1 H6) → R2 σ2 J1 H') →
      g (xs i) (wipe σ vs) H' fun σ2 H2 => wipe σ2 vs = wipe σ vs ∧ tt σ2 H2 fun b H3 => if b = true then wi1 σ2 H3 (R2 σ2) else Nx H3)
    (hd : ∀ I' H' ys, Gr [] I H1 I' H' → I' D = some (.lst ys) → All2 (Sy I') ys (flat ks f n) → Qd H') :
    LcR2 J g tt wi1 g1 tt1 te vs vs1 σ H1 D Qd := by
  let Mid : List β → Hp → Prop := fun zs H => ∃ I' ys, Gr [] I H1 I' H ∧ I' D = none ∧ H D = some (.lst ys) ∧ All2 (Sy I') ys zs
  refine ⟨fun i m H => m = n - i ∧ i ≤ n ∧ Mid (flat ks f i) H, ⟨n, rfl, Nat.zero_le _, I, [], (Gr.tmp s0 hD), s0.free hD, upd_same, .nil⟩, ?_⟩
  rintro i m H ⟨rfl, hi, I', ys, gr, hI, hH, a2⟩
  have s : Same I H := gr.ii.trans gr.ih
  by_cases hlt : i < n
  · refine .inr ⟨W.go i H s hlt, fun H' => i + 1 ≤ n ∧ Mid (flat ks f (i + 1)) H', fun H' p => ⟨n - (i + 1), by omega, rfl, p.1, p.2⟩, fun x H' y => ?_⟩
    obtain ⟨rfl, rfl⟩ := W.yld i H x H' s hlt y
    refine step i I' H' _ (fun σ2 J1 H4 => ∃ W1 : Nat → Nat → Hp → Prop, (∃ m, W1 0 m H4) ∧ ∀ j k H, W1 j k H → _) hlt gr.ii gr.ih fun σ2 J1 xs1 W1 st => ?_
    refine ⟨fun j k H => k = ks i - j ∧ j ≤ ks i ∧ ∃ I2 ys, Gr [] I H1 I2 H ∧ Same I' I2 ∧ I2 D = none ∧ H D = some (.lst ys) ∧ All2 (Sy I2) ys (flat ks f i ++ (List.range j).map (f i)),
      ⟨ks i, rfl, Nat.zero_le _, I', ys, gr, Same.refl _, hI, hH, by simpa using a2⟩, ?_⟩
    rintro j k H2 ⟨rfl, hj, I2, ys2, gr2, s2, hI2, hH2, a22⟩
    by_cases hjl : j < ks i
    · refine .inr ⟨W1.go j H2 (s2.trans gr2.ih) hjl, fun H => j + 1 ≤ ks i ∧ ∃ I2 ys, Gr [] I H1 I2 H ∧ Same I' I2 ∧ I2 D = none ∧ H D = some (.lst ys) ∧ All2 (Sy I2) ys (flat ks f i ++ (List.range (j + 1)).map (f i)),
        fun H p => ⟨ks i - (j + 1), by omega, rfl, p.1, p.2⟩, fun x H3 y => ?_⟩
      obtain ⟨rfl, rfl⟩ := W1.yld j H2 x H3 (s2.trans gr2.ih) hjl y
      refine st j I2 H3 _ _ hjl s2 gr2.ih fun I3 H4 y g3 sy => ?_
      have hD4 := g3.at hH2 (by simp)
      have hI3 := g3.out hI2 hH2
      have ll := a22.len
      refine ⟨ys2, hD4, Nat.lt_of_lt_of_le (by rw [ll]; exact flat_lt hlt hjl) hn, hjl, I3, ys2 ++ [y], ?_, s2.trans g3.ii, hI3, upd_same, ?_⟩
      · have g4 := gr2.trans g3
        exact ((g4.mono (ns := [D]) fun _ z => nomatch z).trans (Gr.mut g4.ih hI3 List.mem_cons_self)).drop hD
      · rw [List.range_succ, List.map_append, ← List.append_assoc]
        exact (a22.mono fun _ _ => up g3.ii).snoc sy
    · have e : j = ks i := by omega
      subst e
      exact .inl ⟨W1.stop H2 (s2.trans gr2.ih), hlt, I2, ys2, gr2, hI2, hH2, by rw [flat_succ]; exact a22⟩
  · have e : i = n := by omega
    subst e
    exact .inl ⟨W.stop H s, hd (upd I' D (.lst ys)) H ys (gr.mono (ns := [D]) (fun _ z => nomatch z) |>.frz s0 hD hH) upd_same (a2.mono fun _ _ => up (sNew hI))⟩
end Tk
namespace Tk
open PySem PySem.Spec PyProof.Rows L2
section
variable {α β : Type} {K : PySem.W.Frag}
def iA (R : Rp α) : Rp (List α) := fun H v xs => ∃ a vs, v = .ref a ∧ (H a = some (.lst vs) ∨ H a = some (.tup vs)) ∧ All2 (R H) vs xs
instance {R : Rp α} [m : Mono R] : Mono (iA R) := ⟨fun s ⟨a, vs, e, h, t⟩ => ⟨a, vs, e, h.elim (fun h => .inl (s _ _ h)) (fun h => .inr (s _ _ h)), t.mono fun _ _ => m.up s⟩⟩
theorem iA.l {R : Rp α} {H : Hp} {v : V} {xs : List α} (h : iL R H v xs) : iA R H v xs := by
  obtain ⟨a, vs, e, h, t⟩ := h; exact ⟨a, vs, e, .inl h, t⟩
theorem iA.t {R : Rp α} {H : Hp} {v : V} {xs : List α} (h : iT R H v xs) : iA R H v xs := by
  obtain ⟨a, vs, e, h, t⟩ := h; exact ⟨a, vs, e, .inr h, t⟩
theorem All2.imp {R S : V → α → Prop} {vs : List V} {xs : List α} (h : All2 R vs xs) (k : ∀ v x, R v x → S v x) : All2 S vs xs := h.mono k
theorem gv2 {R : V → α → Prop} {vs : List V} {xs : List α} {i : Nat} {x : α} (h : All2 R vs xs) (e : xs[i]? = some x) : R (gv vs i) x := by
  obtain ⟨v, h1, h2⟩ := h.get' e
  rw [gv_of h1]; exact h2
/-- tuple(v) -/
theorem tup_of {R : Rp α} [Mono R] {I H : Hp} {v : V} {xs : List α} {Q : VK} (h : iA R I v xs) (s : Same I H) (k : ∀ I' H' v', Gr [] I H I' H' → iT R I' v' xs → Q v' H') :
    rTup K [v] H Q := by
  obtain ⟨a, vs, rfl, h, t⟩ := h
  refine ⟨⟨a, vs, rfl, h.elim (fun h => .inl ⟨SqL.of (s _ _ h), fun l hl => ?_⟩) (fun h => .inr ⟨SqT.of (s _ _ h), k _ _ _ (Gr.refl s) ⟨a, vs, rfl, h, t⟩⟩)⟩⟩
  have g := Gr.new (ms := []) (o := .tup vs) s hl
  exact k _ _ _ g ⟨l, vs, rfl, upd_same, t.mono fun _ _ => up g.ii⟩
theorem len_of {R : Rp α} {I H : Hp} {v : V} {xs : List α} (h : iA R I v xs) (s : Same I H) : LenV K v H xs.length := by
  obtain ⟨a, vs, rfl, h, t⟩ := h
  rw [← t.len]
  exact h.elim (fun h => .inl ⟨_, SqL.of (s _ _ h), rfl⟩) fun h => .inr ⟨_, SqT.of (s _ _ h), rfl⟩
/-- a new list of what stands for the same things -/
theorem lc_id {J : It} {R Sy : Rp α} [Mono R] [Mono Sy] {vs : List V} {xs : List α} {I H1 : Hp} {g : TG} {tt : TT} {te : TE} {vz : List Nat} {σ : L2.St} {D : Addr} {Qd : Hp → Prop}
    (W : Wk J vs.length (gv vs) I) (a2 : All2 (R I) vs xs) (s0 : Same I H1) (hD : H1 D = none) (hn : xs.length < sizeLine)
    (step : ∀ (i : Nat) (x : α) (I' H' : Hp) (Nx : Hp → Prop) (Qk : VK), xs[i]? = some x → R I' (gv vs i) x → Same I' H' → (∀ I'' H'' y, Gr [] I' H' I'' H'' → Sy I'' y x → Qk y H'') →
      g (gv vs i) (wipe σ vz) H' fun σ2 H2 => wipe σ2 vz = wipe σ vz ∧ tt σ2 H2 fun b H3 => if b = true then te σ2 H3 Qk else Nx H3)
    (hd : ∀ I' H', Gr [] I H1 I' H' → iL Sy I' (.ref D) xs → Qd H') : LcR J g tt te vz σ H1 D Qd := by
  have hl := a2.len
  refine lc_wk [] Sy (fun i z => xs[i]? = some z) (fun _ _ => True) W s0 hD (by simp) (by rw [hl]; exact hn) stb_true trivial (fun i I' H' Nx Qk hi s1 s2 _ kk => ?_) (fun I' H' ys zs g1 hD' b2 hz rl _ => ?_)
  · obtain ⟨x, hx⟩ : ∃ x, xs[i]? = some x := ⟨xs[i]'(by omega), List.getElem?_eq_getElem (by omega)⟩
    exact step i x I' H' Nx Qk hx (up s1 (gv2 a2 hx)) s2 fun I'' H'' y g2 sy => kk _ _ _ _ g2 trivial sy hx
  · have e : zs = xs := by
      refine List.ext_getElem? fun i => ?_
      by_cases hi : i < zs.length
      · rw [rl i _ (List.getElem?_eq_getElem hi), List.getElem?_eq_getElem hi]
      · rw [List.getElem?_eq_none (by omega), List.getElem?_eq_none (by omega)]
    subst e
    exact hd I' H' g1 ⟨D, ys, rfl, hD', b2⟩
theorem map_of {xs : List α} {zs : List β} {f : α → β} (h : zs.length = xs.length) (r : ∀ (i : Nat) (z : β), zs[i]? = some z → ∃ x, xs[i]? = some x ∧ z = f x) : zs = xs.map f := by
  refine List.ext_getElem? fun i => ?_
  by_cases hi : i < zs.length
  · obtain ⟨x, h1, h2⟩ := r i _ (List.getElem?_eq_getElem hi)
    rw [List.getElem?_map, h1, List.getElem?_eq_getElem hi, h2]; rfl
  · rw [List.getElem?_eq_none (by omega), List.getElem?_eq_none (by simp; omega)]
end
end Tk
namespace Tk
open PySem PySem.Spec PyProof.Rows L2
section
variable {α : Type} {K : PySem.W.Frag}
theorem bls_of {H : Hp} : ∀ {vs : List V} {bs : List Bool}, All2 (iB H) vs bs → vs = bs.map V.bl
  | _, _, .nil => rfl
  | _, _, .cons a t => by rw [a, bls_of t]; rfl
theorem all_any {bs : List Bool} {xs : List α} {p : α → Prop} [DecidablePred p] (h : bs.length = xs.length) (r : ∀ (i : Nat) (b : Bool), bs[i]? = some b → ∃ x, xs[i]? = some x ∧ b = decide (p x)) :
    bs.all id = decide (∀ x ∈ xs, p x) ∧ bs.any id = decide (∃ x ∈ xs, p x) := by
  have e : bs = xs.map fun x => decide (p x) := map_of h r
  subst e
  constructor
  · rw [Bool.eq_iff_iff, List.all_eq_true, decide_eq_true_iff]
    simp
  · rw [Bool.eq_iff_iff, List.any_eq_true, decide_eq_true_iff]
    simp
theorem lc_bool {J : It} {R : Rp α} [Mono R] {p : α → Prop} [DecidablePred p] {vs : List V} {xs : List α} {I H1 : Hp} {g : TG} {tt : TT} {te : TE} {vz : List Nat} {σ : L2.St} {D : Addr} {Qd : Hp → Prop}
    (W : Wk J vs.length (gv vs) I) (a2 : All2 (R I) vs xs) (s0 : Same I H1) (hD : H1 D = none) (hn : xs.length < sizeLine)
    (step : ∀ (i : Nat) (x : α) (I' H' : Hp) (Nx : Hp → Prop) (Qk : VK), xs[i]? = some x → R I' (gv vs i) x → Same I I' → Same I' H' → (∀ I'' H'', Gr [] I' H' I'' H'' → Qk (.bl (decide (p x))) H'') →
      g (gv vs i) (wipe σ vz) H' fun σ2 H2 => wipe σ2 vz = wipe σ vz ∧ tt σ2 H2 fun b H3 => if b = true then te σ2 H3 Qk else Nx H3)
    (hd : ∀ I' H' (bs : List Bool), Gr [] I H1 I' H' → SqL K H' D (bs.map V.bl) → bs.all id = decide (∀ x ∈ xs, p x) → bs.any id = decide (∃ x ∈ xs, p x) → Qd H') : LcR J g tt te vz σ H1 D Qd := by
  have hl := a2.len
  refine lc_wk [] iB (fun i b => ∃ x, xs[i]? = some x ∧ b = decide (p x)) (fun _ _ => True) W s0 hD (by simp) (by rw [hl]; exact hn) stb_true trivial (fun i I' H' Nx Qk hi s1 s2 _ kk => ?_) (fun I' H' ys zs g1 hD' b2 hz rl _ => ?_)
  · obtain ⟨x, hx⟩ : ∃ x, xs[i]? = some x := ⟨xs[i]'(by omega), List.getElem?_eq_getElem (by omega)⟩
    exact step i x I' H' Nx Qk hx (up s1 (gv2 a2 hx)) s1 s2 fun I'' H'' g2 => kk _ _ _ _ g2 trivial rfl ⟨x, hx, rfl⟩
  · have e := all_any (p := p) (by rw [hz, hl]) rl
    exact hd I' H' zs g1 (SqL.of (g1.ih _ _ (by rw [← bls_of b2]; exact hD'))) e.1 e.2
end
end Tk
namespace Tk
open PySem PySem.Spec PyProof.Rows L2
theorem All2.up {α : Type} {R : Rp α} [Mono R] {I I' : Hp} {vs : List V} {xs : List α} (h : All2 (R I) vs xs) (s : Same I I') : All2 (R I') vs xs := h.mono fun _ _ => Tk.up s
end Tk
namespace Tk
open PySem PySem.Spec PyProof.Rows L2
section
variable {β : Type} {K : PySem.W.Frag}
theorem range_of {n : Nat} {f : Nat → β} {zs : List β} (hl : zs.length = n) (r : ∀ (i : Nat) (z : β), zs[i]? = some z → z = f i) : zs = (List.range n).map f := by
  refine map_of (by rw [hl, List.length_range]) fun i z h => ⟨i, ?_, r i z h⟩
  have : i < zs.length := (List.getElem?_eq_some_iff.mp h).1
  rw [List.getElem?_range (by omega)]
/-- over a zip: new pairs -/
theorem lc_zip {l m : Bool} {a b : Addr} {vs us : List V} {n : Nat} {I H1 : Hp} {g : TG} {tt : TT} {te : TE} {vz : List Nat} {σ : L2.St} {D : Addr} {Qd : Hp → Prop} (Sy : Rp β) [Mono Sy] (f : Nat → β)
    (qa : ∀ H, Same I H → SqB K l H a vs) (qb : ∀ H, Same I H → SqB K m H b us) (la : vs.length = n) (lb : us.length = n) (s0 : Same I H1) (hD : H1 D = none) (hn : n < sizeLine)
    (step : ∀ (i : Nat) (t : Addr) (I' H' : Hp) (Nx : Hp → Prop) (Qk : VK), i < n → Same I I' → Same I' H' → H' t = some (.tup [gv vs i, gv us i]) → (∀ I'' H'' y, Gr [] I' H' I'' H'' → Sy I'' y (f i) → Qk y H'') →
      g (.ref t) (wipe σ vz) H' fun σ2 H2 => wipe σ2 vz = wipe σ vz ∧ tt σ2 H2 fun b H3 => if b = true then te σ2 H3 Qk else Nx H3)
    (hd : ∀ I' H', Gr [] I H1 I' H' → iL Sy I' (.ref D) ((List.range n).map f) → Qd H') : LcR (ItzM K l m a b) g tt te vz σ H1 D Qd := by
  refine ⟨fun i k H => k = n - i ∧ i ≤ n ∧ ∃ I' ys zs, Gr [] I H1 I' H ∧ I' D = none ∧ H D = some (.lst ys) ∧ All2 (Sy I') ys zs ∧ zs.length = i ∧ ∀ i z, zs[i]? = some z → z = f i,
    ⟨n, rfl, Nat.zero_le _, I, [], [], (Gr.tmp s0 hD), s0.free hD, upd_same, .nil, rfl, fun i z h => by simp at h⟩, ?_⟩
  rintro i k H ⟨rfl, hi, I', ys, zs, gr, hI, hH, a2, hl, rl⟩
  have s : Same I H := gr.ii.trans gr.ih
  by_cases hlt : i < n
  · refine .inr ⟨⟨vs, us, _, _, ⟨qa H s, gv_at (by omega)⟩, qb H s, gv_at (by omega)⟩, fun H' => i + 1 ≤ n ∧ ∃ I' ys zs, Gr [] I H1 I' H' ∧ I' D = none ∧ H' D = some (.lst ys) ∧ All2 (Sy I') ys zs ∧ zs.length = i + 1 ∧ ∀ i z, zs[i]? = some z → z = f i,
      fun H' p => ⟨n - (i + 1), by omega, rfl, p.1, p.2⟩, fun x H' y => ?_⟩
    obtain ⟨t, u, v, rfl, ht, rfl, y1, y2⟩ := y
    have e1 := gv_of (y1 vs (qa H s))
    have e2 := gv_of (y2 us (qb H s))
    subst e1 e2
    have g1 : Gr [] I' H I' (upd H t (.tup [gv vs i, gv us i])) := Gr.tmp gr.ih ht
    refine step i t I' _ _ _ hlt gr.ii g1.ih upd_same fun I'' H'' y g2 sy => ?_
    have g3 := g1.trans g2
    have hD2 : H'' D = some (.lst ys) := g3.at hH (by simp)
    have hI2 : I'' D = none := g3.out hI hH
    refine ⟨ys, hD2, by rw [a2.len, hl]; omega, hlt, I'', ys ++ [y], zs ++ [f i], ?_, hI2, upd_same, (a2.mono fun _ _ => up g2.ii).snoc sy, by rw [List.length_append, hl]; rfl, fun j w hw => ?_⟩
    · have g4 := gr.trans g3
      exact ((g4.mono (ns := [D]) fun _ z => nomatch z).trans (Gr.mut g4.ih hI2 List.mem_cons_self)).drop hD
    · by_cases hj : j < zs.length
      · rw [List.getElem?_append_left hj] at hw; exact rl j w hw
      · rw [List.getElem?_append_right (by omega)] at hw
        have h0 : j - zs.length = 0 := by
          rcases Nat.eq_zero_or_pos (j - zs.length) with h | h
          · exact h
          · rw [List.getElem?_eq_none (by simp; omega)] at hw; cases hw
        rw [h0] at hw
        simp at hw
        have : j = i := by omega
        rw [this]; exact hw.symm
  · have e : i = n := by omega
    subst e
    refine .inl ⟨⟨vs, us, qa H s, qb H s, by omega, by omega, .inl la.symm⟩, hd (upd I' D (.lst ys)) H (gr.mono (ns := [D]) (fun _ z => nomatch z) |>.frz s0 hD hH) ⟨D, ys, rfl, upd_same, ?_⟩⟩
    rw [← range_of hl rl]
    exact a2.mono fun _ _ => up (sNew hI)
/-- over numbers: what is told of each -/
theorem lc_range1 {lo : Int} {n : Nat} {I H1 : Hp} {g : TG} {tt : TT} {te : TE} {vz : List Nat} {σ : L2.St} {D : Addr} {Qd : Hp → Prop} (Sy : Rp β) [Mono Sy] (f : Nat → β) (s0 : Same I H1) (hD : H1 D = none) (hn : n < sizeLine)
    (step : ∀ (i : Nat) (I' H' : Hp) (Nx : Hp → Prop) (Qk : VK), i < n → Same I I' → Same I' H' → (∀ I'' H'' y, Gr [] I' H' I'' H'' → Sy I'' y (f i) → Qk y H'') →
      g (.int (lo + i)) (wipe σ vz) H' fun σ2 H2 => wipe σ2 vz = wipe σ vz ∧ tt σ2 H2 fun b H3 => if b = true then te σ2 H3 Qk else Nx H3)
    (hd : ∀ I' H', Gr [] I H1 I' H' → iL Sy I' (.ref D) ((List.range n).map f) → Qd H') : LcR (Itr lo n) g tt te vz σ H1 D Qd := by
  refine lc_wk [] Sy (fun i z => z = f i) (fun _ _ => True) (wk_range (I := I)) s0 hD (by simp) hn stb_true trivial (fun i I' H' Nx Qk hi s1 s2 _ kk => ?_) (fun I' H' ys zs g1 hD' b2 hz rl _ => ?_)
  · exact step i I' H' Nx Qk hi s1 s2 fun I'' H'' y g2 sy => kk _ _ _ _ g2 trivial sy rfl
  · exact hd I' H' g1 ⟨D, ys, rfl, hD', by rw [← range_of hz rl]; exact b2⟩
end
end Tk

set_option Elab.async false
set_option linter.all false
set_option maxRecDepth 100000
set_option maxHeartbeats 4000000
namespace Tk
open PySem PySem.Spec PyProof.Rows L2
section
variable {α β : Type} {K : PySem.W.Frag}
/-- a new list of what is made of each -/
theorem lc_map {J : It} {R : Rp α} {Sy : Rp β} [Mono R] [Mono Sy] (f : α → β) {vs : List V} {xs : List α} {I H1 : Hp} {g : TG} {tt : TT} {te : TE} {vz : List Nat} {σ : L2.St} {D : Addr} {Qd : Hp → Prop}
    (W : Wk J vs.length (gv vs) I) (a2 : All2 (R I) vs xs) (s0 : Same I H1) (hD : H1 D = none) (hn : xs.length < sizeLine)
    (step : ∀ (i : Nat) (x : α) (I' H' : Hp) (Nx : Hp → Prop) (Qk : VK), xs[i]? = some x → R I' (gv vs i) x → Same I I' → Same I' H' → (∀ I'' H'' y, Gr [] I' H' I'' H'' → Sy I'' y (f x) → Qk y H'') →
      g (gv vs i) (wipe σ vz) H' fun σ2 H2 => wipe σ2 vz = wipe σ vz ∧ tt σ2 H2 fun b H3 => if b = true then te σ2 H3 Qk else Nx H3)
    (hd : ∀ I' H', Gr [] I H1 I' H' → iL Sy I' (.ref D) (xs.map f) → Qd H') : LcR J g tt te vz σ H1 D Qd := by
  have hl := a2.len
  refine lc_wk [] Sy (fun i z => ∃ x, xs[i]? = some x ∧ z = f x) (fun _ _ => True) W s0 hD (by simp) (by rw [hl]; exact hn) stb_true trivial (fun i I' H' Nx Qk hi s1 s2 _ kk => ?_) (fun I' H' ys zs g1 hD' b2 hz rl _ => ?_)
  · obtain ⟨x, hx⟩ : ∃ x, xs[i]? = some x := ⟨xs[i]'(by omega), List.getElem?_eq_getElem (by omega)⟩
    exact step i x I' H' Nx Qk hx (up s1 (gv2 a2 hx)) s1 s2 fun I'' H'' y g2 sy => kk _ _ _ _ g2 trivial sy ⟨x, hx, rfl⟩
  · have e : zs = xs.map f := map_of (by rw [hz, hl]) rl
    subst e
    exact hd I' H' g1 ⟨D, ys, rfl, hD', b2⟩
theorem All2.cut {R : V → α → Prop} : ∀ {vs : List V} {xs : List α} (a n : Nat), All2 R vs xs → All2 R ((vs.drop a).take n) ((xs.drop a).take n)
  | _, _, a, n, .nil => by simp; exact .nil
  | v :: vs, x :: xs, 0, 0, .cons h t => by simp; exact .nil
  | v :: vs, x :: xs, 0, n + 1, .cons h t => by
    have := All2.cut 0 n t
    simp only [List.drop_zero] at this ⊢
    exact .cons h this
  | v :: vs, x :: xs, a + 1, n, .cons h t => by
    have := All2.cut a n t
    simpa using this
theorem cutV_nat {xs : List V} {a n : Nat} (h : a + n ≤ xs.length) : cutV xs (some (a : Int)) (some ((a : Int) + n)) = (xs.drop a).take n := by
  unfold cutV
  rw [show ((a : Int) + n) = ((a + n : Nat) : Int) from by omega, HT.sIx_nat, HT.sIx_nat]
  congr 1
  · omega
  · congr 1; omega
theorem slice_of {R : Rp α} [Mono R] {I H : Hp} {v : V} {xs : List α} {a n : Nat} {Q : VK} (h : iL R I v xs) (s : Same I H) (hn : a + n ≤ xs.length) (k : ∀ I' H' v', Gr [] I H I' H' → iL R I' v' ((xs.drop a).take n) → Q v' H') :
    rSlL K v (some (a : Int)) (some ((a : Int) + n)) H Q := by
  obtain ⟨p, vs, rfl, hp, a2⟩ := h
  refine ⟨p, vs, rfl, SqL.of (s _ _ hp), fun l hl => ?_⟩
  rw [cutV_nat (by rw [a2.len]; exact hn)]
  have g := Gr.new (ms := []) (o := .lst ((vs.drop a).take n)) s hl
  exact k _ _ _ g ⟨l, _, rfl, upd_same, (a2.cut a n).up g.ii⟩
end
end Tk
namespace Tk
open PySem PySem.Spec PyProof.Rows L2
theorem Gr.none {ms : List Addr} {I H I' H' : Hp} {a : Addr} (g : Gr ms I H I' H') (h : H' a = Option.none) : H a = Option.none := by
  cases e : H a with
  | none => rfl
  | some o => obtain ⟨o', e'⟩ := g.th a o e; rw [h] at e'; cases e'
end Tk
namespace Tk
open PySem PySem.Spec PyProof.Rows L2
section
variable {α β : Type} {K : PySem.W.Frag}
/-- over numbers, with tests; the list stays open -/
theorem lc_flt {lo : Int} {n : Nat} {I H1 : Hp} {g : TG} {tt : TT} {te : TE} {vz : List Nat} {σ : L2.St} {D : Addr} {Qd : Hp → Prop} (Sy : Rp β) [Mono Sy] (p : Nat → Bool) (f : Nat → β) (s0 : Same I H1) (hD : H1 D = none) (hn : n < sizeLine)
    (step : ∀ (i : Nat) (I' H' : Hp) (Nx : Hp → Prop) (Qk : VK), i < n → Same I I' → Same I' H' → (p i = true → ∀ I'' H'' y, Gr [] I' H' I'' H'' → Sy I'' y (f i) → Qk y H'') → (p i = false → Nx H') →
      g (.int (lo + i)) (wipe σ vz) H' fun σ2 H2 => wipe σ2 vz = wipe σ vz ∧ tt σ2 H2 fun b H3 => if b = true then te σ2 H3 Qk else Nx H3)
    (hd : ∀ I' H' ys, Gr [] I H1 I' H' → I' D = none → H' D = some (.lst ys) → All2 (Sy I') ys (((List.range n).filter p).map f) → Qd H') : LcR (Itr lo n) g tt te vz σ H1 D Qd := by
  let Mid : Nat → Hp → Prop := fun i H => ∃ I' ys, Gr [] I H1 I' H ∧ I' D = none ∧ H D = some (.lst ys) ∧ All2 (Sy I') ys (((List.range i).filter p).map f)
  refine ⟨fun i m H => m = n - i ∧ i ≤ n ∧ Mid i H, ⟨n, rfl, Nat.zero_le _, I, [], (Gr.tmp s0 hD), s0.free hD, upd_same, .nil⟩, ?_⟩
  rintro i m H ⟨rfl, hi, I', ys, gr, hI, hH, a2⟩
  by_cases hlt : i < n
  · refine .inr ⟨hlt, fun H' => i + 1 ≤ n ∧ Mid (i + 1) H', fun H' z => ⟨n - (i + 1), by omega, rfl, z.1, z.2⟩, fun x H' y => ?_⟩
    obtain ⟨rfl, rfl⟩ := y
    refine step i I' _ _ _ hlt gr.ii gr.ih (fun hp I'' H'' y g2 sy => ?_) (fun hp => ⟨hlt, I', ys, gr, hI, hH, ?_⟩)
    · have hD2 := g2.at hH (by simp)
      have hI2 := g2.out hI hH
      have ll : ys.length ≤ i := by
        rw [a2.len, List.length_map]
        exact Nat.le_trans (List.length_filter_le _ _) (by simp)
      refine ⟨ys, hD2, by omega, hlt, I'', ys ++ [y], ?_, hI2, upd_same, ?_⟩
      · have g3 := gr.trans g2
        exact ((g3.mono (ns := [D]) fun _ z => nomatch z).trans (Gr.mut g3.ih hI2 List.mem_cons_self)).drop hD
      · rw [List.range_succ, List.filter_append, List.filter_cons_of_pos hp, List.filter_nil, List.map_append]
        exact (a2.up g2.ii).snoc sy
    · rw [List.range_succ, List.filter_append, List.filter_cons_of_neg (by rw [hp]; exact Bool.false_ne_true), List.filter_nil, List.append_nil]
      exact a2
  · have e : i = n := by omega
    subst e
    exact .inl ⟨Nat.le_refl _, hd I' H ys gr hI hH a2⟩
theorem All2.unsnoc {R : V → α → Prop} : ∀ {xs : List α} {vs : List V} {x : α}, All2 R vs (xs ++ [x]) → ∃ us u, vs = us ++ [u] ∧ All2 R us xs ∧ R u x
  | [], _, x, .cons h .nil => ⟨[], _, rfl, .nil, h⟩
  | y :: r, _, x, .cons h t => by
    obtain ⟨us, u, rfl, t2, hu⟩ := All2.unsnoc t
    exact ⟨_ :: us, u, rfl, .cons h t2, hu⟩
end
end Tk
namespace Tk
open PySem PySem.Spec PyProof.Rows L2
theorem op_catAK {X : Cx} (K : PySem.W.Frag) (hK : X.K = K := by rfl) : OpR X (binaryOp .Add) (rCatA K) := hK ▸ op_catA
end Tk

set_option Elab.async false
set_option linter.all false
set_option maxRecDepth 100000
set_option maxHeartbeats 4000000
/-! Data as the law compares it. -/
namespace Tk
open PySem PySem.Spec PyProof.Rows L2
inductive Da where
  | non | bl (b : Bool) | int (i : Int) | str (s : Str) | lst (l : List Da) | tup (l : List Da)
mutual
def eqd : Da → Da → Bool
  | .non, .non => true
  | .bl a, .bl b => decide (a = b)
  | .int a, .int b => decide (a = b)
  | .str a, .str b => decide (a = b)
  | .lst a, .lst b => eqds a b
  | .tup a, .tup b => eqds a b
  | _, _ => false
def eqds : List Da → List Da → Bool
  | [], [] => true
  | a :: r, b :: s => eqd a b && eqds r s
  | _, _ => false
end
mutual
def dep : Da → Nat
  | .lst l => deps l + 1
  | .tup l => deps l + 1
  | _ => 0
def deps : List Da → Nat
  | [] => 0
  | a :: r => max (dep a) (deps r)
end
mutual
def tame : Da → Prop
  | .lst l => l.length ≤ 100000 ∧ tames l
  | .tup l => l.length ≤ 100000 ∧ tames l
  | _ => True
def tames : List Da → Prop
  | [] => True
  | a :: r => tame a ∧ tames r
end
mutual
def dR (H : Hp) : V → Da → Prop
  | v, .non => v = .non
  | v, .bl b => v = .bl b
  | v, .int i => v = .int i
  | v, .str s => v = .str s
  | v, .lst l => ∃ a vs, v = .ref a ∧ H a = some (.lst vs) ∧ dRs H vs l
  | v, .tup l => ∃ a vs, v = .ref a ∧ H a = some (.tup vs) ∧ dRs H vs l
def dRs (H : Hp) : List V → List Da → Prop
  | vs, [] => vs = []
  | vs, d :: ds => ∃ v r, vs = v :: r ∧ dR H v d ∧ dRs H r ds
end
mutual
theorem dR_up {H H' : Hp} (s : Same H H') : ∀ (v : V) (d : Da), dR H v d → dR H' v d
  | v, .non, h => h
  | v, .bl _, h => h
  | v, .int _, h => h
  | v, .str _, h => h
  | v, .lst l, h => by
    simp only [dR] at h ⊢
    obtain ⟨a, vs, e, h1, h2⟩ := h
    exact ⟨a, vs, e, s _ _ h1, dRs_up s vs l h2⟩
  | v, .tup l, h => by
    simp only [dR] at h ⊢
    obtain ⟨a, vs, e, h1, h2⟩ := h
    exact ⟨a, vs, e, s _ _ h1, dRs_up s vs l h2⟩
theorem dRs_up {H H' : Hp} (s : Same H H') : ∀ (vs : List V) (ds : List Da), dRs H vs ds → dRs H' vs ds
  | vs, [], h => by simp only [dRs] at h ⊢; exact h
  | vs, d :: ds, h => by
    simp only [dRs] at h ⊢
    obtain ⟨v, r, e, h1, h2⟩ := h
    exact ⟨v, r, e, dR_up s v d h1, dRs_up s r ds h2⟩
end
theorem dRs_len {H : Hp} : ∀ {vs : List V} {ds : List Da}, dRs H vs ds → vs.length = ds.length
  | vs, [], h => by simp only [dRs] at h; subst h; rfl
  | vs, d :: ds, h => by
    simp only [dRs] at h
    obtain ⟨v, r, rfl, _, h2⟩ := h
    simp [dRs_len h2]
theorem dRs_at {H : Hp} : ∀ {vs : List V} {ds : List Da} {i : Nat} {d : Da}, dRs H vs ds → ds[i]? = some d → ∃ v, vs[i]? = some v ∧ dR H v d
  | _, [], _, _, _, e => by simp at e
  | vs, d :: ds, 0, x, h, e => by
    simp only [dRs] at h
    obtain ⟨v, r, rfl, h1, _⟩ := h
    simp at e; subst e
    exact ⟨v, rfl, h1⟩
  | vs, d :: ds, i + 1, x, h, e => by
    simp only [dRs] at h
    obtain ⟨v, r, rfl, _, h2⟩ := h
    obtain ⟨u, h3, h4⟩ := dRs_at (i := i) (d := x) h2 (by simpa using e)
    exact ⟨u, by simpa using h3, h4⟩
theorem tames_at : ∀ {ds : List Da} {i : Nat} {d : Da}, tames ds → ds[i]? = some d → tame d
  | [], _, _, _, e => by simp at e
  | d :: ds, 0, x, h, e => by simp at e; subst e; exact h.1
  | d :: ds, i + 1, x, h, e => tames_at (ds := ds) (i := i) h.2 (by simpa using e)
theorem deps_at : ∀ {ds : List Da} {i : Nat} {d : Da}, ds[i]? = some d → dep d ≤ deps ds
  | [], _, _, e => by simp at e
  | d :: ds, 0, x, e => by simp at e; subst e; simp only [deps]; omega
  | d :: ds, i + 1, x, e => by
    have := deps_at (ds := ds) (i := i) (d := x) (by simpa using e)
    simp only [deps]; omega
mutual
theorem eqd_iff : ∀ a b : Da, eqd a b = true ↔ a = b
  | .non, b => by cases b <;> simp [eqd]
  | .bl x, b => by cases b <;> simp [eqd]
  | .int x, b => by cases b <;> simp [eqd]
  | .str x, b => by cases b <;> simp [eqd]
  | .lst x, b => by cases b <;> simp [eqd]; exact eqds_iff _ _
  | .tup x, b => by cases b <;> simp [eqd]; exact eqds_iff _ _
theorem eqds_iff : ∀ a b : List Da, eqds a b = true ↔ a = b
  | [], b => by cases b <;> simp [eqds]
  | a :: r, b => by
    cases b with
    | nil => simp [eqds]
    | cons b s => simp [eqds, eqd_iff a b, eqds_iff r s]
end
theorem eqds_len : ∀ {a b : List Da}, a.length ≠ b.length → eqds a b = false
  | [], [], h => absurd rfl h
  | [], _ :: _, _ => rfl
  | _ :: _, [], _ => rfl
  | a :: r, b :: s, h => by
    have := eqds_len (a := r) (b := s) (by simpa using h)
    simp [eqds, this]
theorem eqds_false : ∀ {a b : List Da} {i : Nat} {x y : Da}, a[i]? = some x → b[i]? = some y → eqd x y = false → eqds a b = false
  | [], _, _, _, _, h, _, _ => by simp at h
  | _ :: _, [], _, _, _, _, h, _ => by simp at h
  | a :: r, b :: s, 0, x, y, h1, h2, h3 => by simp at h1 h2; subst h1 h2; simp [eqds, h3]
  | a :: r, b :: s, i + 1, x, y, h1, h2, h3 => by
    have := eqds_false (a := r) (b := s) (i := i) (by simpa using h1) (by simpa using h2) h3
    simp [eqds, this]
theorem eqds_true : ∀ {a b : List Da}, a.length = b.length → (∀ (i : Nat) (x y : Da), a[i]? = some x → b[i]? = some y → eqd x y = true) → eqds a b = true
  | [], [], _, _ => rfl
  | [], _ :: _, h, _ => by simp at h
  | _ :: _, [], h, _ => by simp at h
  | a :: r, b :: s, h, k => by
    simp only [eqds, Bool.and_eq_true]
    exact ⟨k 0 a b rfl rfl, eqds_true (by simpa using h) fun i x y h1 h2 => k (i + 1) x y (by simpa using h1) (by simpa using h2)⟩
/-- its kind -/
def knd : Da → String
  | .non => "NoneType" | .bl _ => "bool" | .int _ => "int" | .str _ => "str" | .lst _ => "list" | .tup _ => "tuple"
def isT : Da → String → Bool
  | .non, _ => false
  | .bl _, T => T == "bool" || T == "int"
  | .int _, T => T == "int"
  | .str _, T => T == "str"
  | .lst _, T => T == "list"
  | .tup _, T => T == "tuple"
theorem knd_ty {K : PySem.W.Frag} {H : Hp} {v : V} {d : Da} (h : dR H v d) : TyX K H v (.type (knd d)) := by
  cases d with
  | non => simp only [dR] at h; subst h; exact .base .non
  | bl b => simp only [dR] at h; subst h; exact .base (.bl b)
  | int b => simp only [dR] at h; subst h; exact .base (.int b)
  | str b => simp only [dR] at h; subst h; exact .base (.str b)
  | lst l => simp only [dR] at h; obtain ⟨a, vs, rfl, h1, _⟩ := h; exact .base (.lst h1)
  | tup l => simp only [dR] at h; obtain ⟨a, vs, rfl, h1, _⟩ := h; exact .base (.tup h1)
theorem knd_tuple {K : PySem.W.Frag} (d : Da) : PySem.W.kitOne K (.type (knd d)) (.type "tuple") = some (isT d "tuple") := by cases d <;> rfl
theorem knd_list {K : PySem.W.Frag} (d : Da) : PySem.W.kitOne K (.type (knd d)) (.type "list") = some (isT d "list") := by cases d <;> rfl
theorem knd_bool {K : PySem.W.Frag} (d : Da) : PySem.W.kitOne K (.type (knd d)) (.type "bool") = some (isT d "bool") := by cases d <;> rfl
theorem knd_int {K : PySem.W.Frag} (d : Da) : PySem.W.kitOne K (.type (knd d)) (.type "int") = some (isT d "int") := by cases d <;> rfl
theorem knd_str {K : PySem.W.Frag} (d : Da) : PySem.W.kitOne K (.type (knd d)) (.type "str") = some (isT d "str") := by cases d <;> rfl
def isNon : Da → Bool
  | .non => true
  | _ => false
theorem non_dec {H : Hp} {v : V} {d : Da} (h : dR H v d) : decide (v = V.non) = isNon d := by
  cases d with
  | non => simp only [dR] at h; subst h; rfl
  | bl b => simp only [dR] at h; subst h; rfl
  | int b => simp only [dR] at h; subst h; rfl
  | str b => simp only [dR] at h; subst h; rfl
  | lst l => simp only [dR] at h; obtain ⟨a, vs, rfl, h1, _⟩ := h; rfl
  | tup l => simp only [dR] at h; obtain ⟨a, vs, rfl, h1, _⟩ := h; rfl
end Tk

set_option linter.all false
/-! Fractions: what the program and the law make of a numerator and a denominator. -/
namespace Mt
abbrev rt (n d : Int) : Rat := Rat.divInt n d
def gz (n d : Int) : Int := (Nat.gcd n.natAbs d.natAbs : Nat)
theorem gz_pos {n d : Int} (h : 0 < d) : 0 < gz n d := by
  unfold gz
  have : 0 < Nat.gcd n.natAbs d.natAbs := Nat.gcd_pos_of_pos_right _ (by omega)
  omega
theorem gz_le {n d : Int} (h : 0 < d) : gz n d ≤ d := by
  unfold gz
  have : Nat.gcd n.natAbs d.natAbs ≤ d.natAbs := Nat.le_of_dvd (by omega) (Nat.gcd_dvd_right _ _)
  omega
theorem rt_num {n d : Int} (h : 0 < d) : (rt n d).num = n / gz n d := by
  unfold rt gz
  rw [Rat.num_divInt, Int.sign_eq_one_of_pos h, Int.one_mul]
  congr 1
  rw [Int.gcd_comm]; rfl
theorem rt_den {n d : Int} (h : 0 < d) : ((rt n d).den : Int) = d / gz n d := by
  unfold rt gz
  rw [Rat.den_divInt, if_neg (by omega)]
  have e : d.gcd n = Nat.gcd n.natAbs d.natAbs := by rw [Int.gcd_comm]; rfl
  rw [e]
  have : ((d.natAbs : Nat) : Int) = d := by omega
  rw [Int.natCast_ediv, this]
theorem rt_self (q : Rat) : rt q.num q.den = q := Rat.num_divInt_den q
theorem den_pos (q : Rat) : 0 < (q.den : Int) := by have := q.den_nz; omega

/-- Euclid, so many turns -/
def eu : Nat → Int → Int → Int
  | 0, a, _ => a
  | k + 1, a, b => if b = 0 then a else eu k b (a % b)
theorem eu_zero (k : Nat) (a : Int) : eu k a 0 = a := by cases k <;> simp [eu]
theorem gcd_step (a b : Int) (ha : 0 ≤ a) (hb : 0 < b) : Nat.gcd a.natAbs b.natAbs = Nat.gcd b.natAbs (a % b).natAbs := by
  have e : (a % b).natAbs = a.natAbs % b.natAbs := by
    obtain ⟨x, rfl⟩ := Int.eq_ofNat_of_zero_le ha
    obtain ⟨y, rfl⟩ := Int.eq_ofNat_of_zero_le (Int.le_of_lt hb)
    rw [← Int.natCast_emod]; rfl
  rw [e, Nat.gcd_comm, Nat.gcd_rec, Nat.gcd_comm]
theorem half (b r s : Int) (h0 : 0 < r) (h1 : r < b) (hs : s = b % r) : 2 * s < b := by
  subst hs
  have h2 := Int.emod_lt_of_pos b h0
  have h3 := Int.emod_nonneg b (by omega : r ≠ 0)
  have h4 := Int.mul_ediv_add_emod b r
  have h5 : 1 ≤ b / r := by
    have := Int.le_ediv_of_mul_le h0 (by omega : 1 * r ≤ b)
    exact this
  have h6 : r ≤ r * (b / r) := by
    have := Int.mul_le_mul_of_nonneg_left h5 (Int.le_of_lt h0)
    omega
  omega
theorem eu_gcd : ∀ (m k : Nat) (a b : Int), 0 ≤ a → 0 ≤ b → b < 2 ^ m → 2 * m + 2 ≤ k → eu k a b = (Nat.gcd a.natAbs b.natAbs : Nat)
  | m, k, a, b, ha, hb, hm, hk => by
    by_cases h0 : b = 0
    · subst h0; rw [eu_zero]; simp; omega
    · obtain ⟨k, rfl⟩ : ∃ j, k = j + 2 := ⟨k - 2, by omega⟩
      have hb' : 0 < b := by omega
      rw [gcd_step a b ha hb']
      have hr0 := Int.emod_nonneg a h0
      have hr1 := Int.emod_lt_of_pos a hb'
      show (if b = 0 then a else eu (k + 1) b (a % b)) = _
      rw [if_neg h0]
      by_cases h1 : a % b = 0
      · rw [h1, eu_zero]; simp; omega
      · have hr' : 0 < a % b := by omega
        rw [gcd_step b (a % b) hb hr']
        show (if a % b = 0 then b else eu k (a % b) (b % (a % b))) = _
        rw [if_neg h1]
        have hh := half b (a % b) _ hr' hr1 rfl
        cases m with
        | zero => simp at hm; omega
        | succ m =>
          have : b % (a % b) < 2 ^ m := by rw [Int.pow_succ] at hm; omega
          exact eu_gcd m k _ _ (by omega) (Int.emod_nonneg _ h1) this (by omega)
theorem eu_gz {n d : Int} (h : 0 < d) (hd : d < 2 ^ 1999) : eu 4000 (if n < 0 then -n else n) d = gz n d := by
  rw [eu_gcd 1999 4000 _ d (by split <;> omega) (by omega) hd (by omega)]
  unfold gz
  congr 2
  split <;> omega
/-! sizes -/
/-- the fraction's denominator divides N, the fraction lies between -B and B -/
def Sz (N B : Nat) (q : Rat) : Prop := q.den ∣ N ∧ q.num.natAbs ≤ B * q.den
end Mt

set_option linter.all false
/-! Sums of fractions; chances of machines. -/
namespace Mt
/-- a natural number of N-ths, at most B in all -/
def Gd (N B : Nat) (q : Rat) : Prop := 0 < N ∧ ∃ a : Nat, a ≤ B * N ∧ q = rt a N
theorem rt_addN (a b : Int) {n : Int} (h : n ≠ 0) : rt a n + rt b n = rt (a + b) n := by
  unfold rt
  rw [Rat.divInt_add_divInt _ _ h h, ← Int.add_mul]
  exact Rat.divInt_mul_right h
theorem Gd.zero {N : Nat} (h : 0 < N) : Gd N 0 0 := ⟨h, 0, by omega, by simp [rt]⟩
theorem Gd.add {N B C : Nat} {p q : Rat} (h : Gd N B p) (k : Gd N C q) : Gd N (B + C) (p + q) := by
  obtain ⟨n, a, ha, rfl⟩ := h
  obtain ⟨_, b, hb, rfl⟩ := k
  exact ⟨n, a + b, by rw [Nat.add_mul]; omega, by rw [rt_addN _ _ (by omega)]; rfl⟩
theorem Gd.mul {N M B C : Nat} {p q : Rat} (h : Gd N B p) (k : Gd M C q) : Gd (N * M) (B * C) (p * q) := by
  obtain ⟨n, a, ha, rfl⟩ := h
  obtain ⟨m, b, hb, rfl⟩ := k
  refine ⟨Nat.mul_pos n m, a * b, ?_, ?_⟩
  · have := Nat.mul_le_mul ha hb
    calc a * b ≤ B * N * (C * M) := this
      _ = B * C * (N * M) := by grind
  · unfold rt; rw [Rat.divInt_mul_divInt]; simp
theorem Gd.mono {N B C : Nat} {q : Rat} (h : Gd N B q) (l : B ≤ C) : Gd N C q := by
  obtain ⟨n, a, ha, rfl⟩ := h
  exact ⟨n, a, Nat.le_trans ha (Nat.mul_le_mul_right _ l), rfl⟩
theorem Gd.scale {N B : Nat} {q : Rat} (h : Gd N B q) {M : Nat} (m : 0 < M) : Gd (N * M) B q := by
  obtain ⟨n, a, ha, rfl⟩ := h
  refine ⟨Nat.mul_pos n m, a * M, ?_, ?_⟩
  · rw [← Nat.mul_assoc]; exact Nat.mul_le_mul_right _ ha
  · unfold rt
    have := Rat.divInt_mul_right (n := (a : Int)) (d := (N : Int)) (a := (M : Int)) (by omega)
    rw [← this]; simp
theorem Gd.nonneg {N B : Nat} {q : Rat} (h : Gd N B q) : 0 ≤ q.num := by
  obtain ⟨n, a, ha, rfl⟩ := h
  rw [rt_num (by omega)]
  exact Int.ediv_nonneg (by omega) (by have := gz_pos (n := (a : Int)) (d := (N : Int)) (by omega); omega)
theorem Gd.size {N B : Nat} {q : Rat} (h : Gd N B q) : q.num.natAbs ≤ B * N ∧ q.den ≤ N := by
  obtain ⟨n, a, ha, rfl⟩ := h
  have g := gz_pos (n := (a : Int)) (d := (N : Int)) (by omega)
  have e1 := rt_num (n := (a : Int)) (d := (N : Int)) (by omega)
  have e2 := rt_den (n := (a : Int)) (d := (N : Int)) (by omega)
  have l1 : (a : Int) / gz a N ≤ a := Int.ediv_le_self _ (by omega)
  have l2 : (N : Int) / gz a N ≤ N := Int.ediv_le_self _ (by omega)
  have l3 : 0 ≤ (a : Int) / gz a N := Int.ediv_nonneg (by omega) (by omega)
  rw [← e1] at l1 l3
  rw [← e2] at l2
  omega
/-- a sum of n -/
def S : Nat → (Nat → Rat) → Rat
  | 0, _ => 0
  | n + 1, f => S n f + f n
theorem S_congr {n : Nat} {f g : Nat → Rat} (h : ∀ i, i < n → f i = g i) : S n f = S n g := by
  induction n with
  | zero => rfl
  | succ n ih => simp only [S]; rw [ih fun i hi => h i (by omega), h n (by omega)]
theorem S_add (n : Nat) (f g : Nat → Rat) : S n (fun i => f i + g i) = S n f + S n g := by
  induction n with
  | zero => simp only [S]; grind
  | succ n ih => simp only [S]; rw [ih]; grind
theorem S_mul (n : Nat) (c : Rat) (f : Nat → Rat) : S n (fun i => c * f i) = c * S n f := by
  induction n with
  | zero => simp only [S]; grind
  | succ n ih => simp only [S]; rw [ih]; grind
theorem S_mulr (n : Nat) (c : Rat) (f : Nat → Rat) : S n (fun i => f i * c) = S n f * c := by
  induction n with
  | zero => simp only [S]; grind
  | succ n ih => simp only [S]; rw [ih]; grind
theorem S_zero (n : Nat) : S n (fun _ => 0) = 0 := by
  induction n with
  | zero => rfl
  | succ n ih => simp only [S]; rw [ih]; grind
theorem S_comm (m n : Nat) (f : Nat → Nat → Rat) : S m (fun i => S n (fun j => f i j)) = S n (fun j => S m (fun i => f i j)) := by
  induction m with
  | zero => simp only [S]; rw [S_zero]
  | succ m ih => simp only [S]; rw [ih, ← S_add]
theorem S_app (m n : Nat) (f : Nat → Rat) : S (m + n) f = S m f + S n (fun i => f (m + i)) := by
  induction n with
  | zero => simp only [S, Nat.add_zero]; grind
  | succ n ih => rw [← Nat.add_assoc]; simp only [S]; rw [ih]; grind
theorem S_blocks (m n : Nat) (f : Nat → Rat) : S (m * n) f = S m (fun a => S n (fun k => f (a * n + k))) := by
  induction m with
  | zero => simp [S]
  | succ m ih => rw [Nat.succ_mul, S_app, ih]; rfl
theorem S_gd {N B n : Nat} {f : Nat → Rat} (hN : 0 < N) (h : ∀ i, i < n → Gd N B (f i)) : Gd N (n * B) (S n f) := by
  induction n with
  | zero => simp only [S, Nat.zero_mul]; exact Gd.zero hN
  | succ n ih => simp only [S]; rw [Nat.succ_mul]; exact (ih fun i hi => h i (by omega)).add (h n (by omega))
abbrev gq (l : List Rat) (i : Nat) : Rat := l.getD i 0
/-- the sum of a list -/
def tot (l : List Rat) : Rat := S l.length (gq l)
theorem gq_lt {l : List Rat} {i : Nat} (h : i < l.length) : l[i]? = some (gq l i) := by
  unfold gq; rw [List.getD_eq_getElem?_getD, List.getElem?_eq_getElem h]; rfl
theorem gq_of {l : List Rat} {i : Nat} {q : Rat} (h : l[i]? = some q) : gq l i = q := by
  unfold gq; rw [List.getD_eq_getElem?_getD, h]; rfl
theorem tot_app (a b : List Rat) : tot (a ++ b) = tot a + tot b := by
  unfold tot
  rw [List.length_append, S_app]
  congr 1
  · refine S_congr fun i hi => ?_
    unfold gq; rw [List.getD_eq_getElem?_getD, List.getD_eq_getElem?_getD, List.getElem?_append_left hi]
  · refine S_congr fun i hi => ?_
    unfold gq; rw [List.getD_eq_getElem?_getD, List.getD_eq_getElem?_getD, List.getElem?_append_right (by omega)]
    congr 2; omega
theorem tot_gd {N B : Nat} {l : List Rat} (hN : 0 < N) (h : ∀ q ∈ l, Gd N B q) : Gd N (l.length * B) (tot l) :=
  S_gd hN fun i hi => h _ (List.mem_of_getElem? (gq_lt hi))
end Mt

set_option linter.all false
/-! Machines of fractions, the chances of their ways. -/
namespace Mt
abbrev Rows := List (List Rat)
abbrev Ma := List Rat × List (List Rows)
abbrev gl {α : Type} (l : List (List α)) (i : Nat) : List α := l.getD i []
theorem gl_lt {α : Type} {l : List (List α)} {i : Nat} (h : i < l.length) : l[i]? = some (gl l i) := by
  unfold gl; rw [List.getD_eq_getElem?_getD, List.getElem?_eq_getElem h]; rfl
theorem gl_of {α : Type} {l : List (List α)} {i : Nat} {q : List α} (h : l[i]? = some q) : gl l i = q := by
  unfold gl; rw [List.getD_eq_getElem?_getD, h]; rfl
def wt (M : Ma) (b a s k : Nat) : Rat := gq (gl (gl (gl M.2 b) a) s) k
def nzl (l : List Rat) : Nat := l.countP (fun q => decide (q ≠ 0))
structure MOk (M : Ma) (n bs as : Nat) : Prop where
  n0 : 0 < n
  n1 : n ≤ 5
  b0 : 0 < bs
  b1 : bs ≤ 4
  a0 : 0 < as
  a1 : as ≤ 4
  l0 : M.1.length = n
  l1 : M.2.length = bs
  l2 : ∀ b, b < bs → (gl M.2 b).length = as
  l3 : ∀ b a, b < bs → a < as → (gl (gl M.2 b) a).length = n
  l4 : ∀ b a s, b < bs → a < as → s < n → (gl (gl (gl M.2 b) a) s).length = n
  g0 : ∀ s, s < n → Gd 60 1 (gq M.1 s)
  g1 : ∀ b a s k, b < bs → a < as → s < n → k < n → Gd 60 1 (wt M b a s k)
  s0 : tot M.1 = 1
  s1 : ∀ b s, b < bs → s < n → S as (fun a => S n (wt M b a s)) = 1
  z : ∀ b a s, b < bs → a < as → s < n → nzl (gl (gl (gl M.2 b) a) s) ≤ 3
abbrev Way := List (Nat × Nat)
def stp (M : Ma) (n : Nat) (w : Nat → Rat) (x : Nat × Nat) : Nat → Rat := fun k => S n (fun s => w s * wt M x.1 x.2 s k)
def adv (M : Ma) (n : Nat) (w : Nat → Rat) : Way → Nat → Rat
  | [] => w
  | x :: r => adv M n (stp M n w x) r
def chq (M : Ma) (n : Nat) (way : Way) : Rat := S n (adv M n (gq M.1) way)
def vl (M : Ma) (n : Nat) : Way → Nat → Rat
  | [], _ => 1
  | x :: r, s => S n (fun k => wt M x.1 x.2 s k * vl M n r k)
theorem adv_vl (M : Ma) (n : Nat) : ∀ (way : Way) (w : Nat → Rat), S n (adv M n w way) = S n (fun s => w s * vl M n way s)
  | [], w => by
    refine S_congr fun i _ => ?_
    simp only [adv, vl]; grind
  | x :: r, w => by
    show S n (adv M n (stp M n w x) r) = _
    rw [adv_vl M n r (stp M n w x)]
    have e1 : S n (fun s => stp M n w x s * vl M n r s) = S n (fun k => S n (fun s => w s * (wt M x.1 x.2 s k * vl M n r k))) := by
      refine S_congr fun k _ => ?_
      show S n _ * _ = _
      rw [← S_mulr]
      exact S_congr fun s _ => by grind
    rw [e1, S_comm]
    refine S_congr fun s _ => ?_
    rw [S_mul]; rfl
theorem adv_snoc (M : Ma) (n : Nat) (x : Nat × Nat) : ∀ (way : Way) (w : Nat → Rat), adv M n w (way ++ [x]) = stp M n (adv M n w way) x
  | [], w => rfl
  | y :: r, w => by
    show adv M n (stp M n w y) (r ++ [x]) = _
    rw [adv_snoc M n x r]; rfl
/-- the chances of all answers to one more press -/
theorem one_more {M : Ma} {n bs as : Nat} (ok : MOk M n bs as) (way : Way) {b : Nat} (hb : b < bs) : S as (fun a => chq M n (way ++ [(b, a)])) = chq M n way := by
  unfold chq
  have e : ∀ a, S n (adv M n (gq M.1) (way ++ [(b, a)])) = S n (fun s => adv M n (gq M.1) way s * S n (wt M b a s)) := fun a => by
    rw [adv_snoc]
    unfold stp
    rw [S_comm]
    exact S_congr fun s _ => by rw [S_mul]
  have e2 : S as (fun a => S n (adv M n (gq M.1) (way ++ [(b, a)]))) = S as (fun a => S n (fun s => adv M n (gq M.1) way s * S n (wt M b a s))) := S_congr fun a _ => e a
  rw [e2, S_comm]
  refine S_congr fun s hs => ?_
  rw [S_mul, ok.s1 b s hb hs]; grind
/-- sizes on the way -/
theorem adv_gd {M : Ma} {n bs as : Nat} (ok : MOk M n bs as) : ∀ (way : Way) (N B : Nat) (w : Nat → Rat), 0 < N → (∀ x ∈ way, x.1 < bs ∧ x.2 < as) → (∀ s, s < n → Gd N B (w s)) →
    ∀ s, s < n → Gd (N * 60 ^ way.length) (5 ^ way.length * B) (adv M n w way s)
  | [], N, B, w, hN, hw, hg, s, hs => by simpa [adv] using hg s hs
  | x :: r, N, B, w, hN, hw, hg, s, hs => by
    have hx := hw x List.mem_cons_self
    have g : ∀ s, s < n → Gd (N * 60) (5 * B) (stp M n w x s) := fun s hs => by
      have := S_gd (N := N * 60) (B := B * 1) (n := n) (f := fun t => w t * wt M x.1 x.2 t s) (by omega) fun t ht => (hg t ht).mul (ok.g1 x.1 x.2 t s hx.1 hx.2 ht hs)
      exact this.mono (by have := ok.n1; rw [Nat.mul_one]; exact Nat.mul_le_mul_right _ this)
    have := adv_gd ok r (N * 60) (5 * B) _ (by omega) (fun y hy => hw y (List.mem_cons_of_mem _ hy)) g s hs
    show Gd (N * 60 ^ (r.length + 1)) (5 ^ (r.length + 1) * B) (adv M n (stp M n w x) r s)
    rw [Nat.pow_succ, Nat.pow_succ, Nat.mul_comm (60 ^ r.length) 60, ← Nat.mul_assoc, Nat.mul_assoc (5 ^ r.length)]
    exact this
/-- turns for so many presses to come -/
def T : Nat → Nat
  | 0 => 1
  | k + 1 => 1 + 3 * T k
/-- something left: its part, its state, how many presses are done -/
abbrev It3 := Rat × Nat × Nat
def val3 (M : Ma) (n : Nat) (way : Way) (x : It3) : Rat := x.1 * vl M n (way.drop x.2.2) x.2.1
def tim (way : Way) (x : It3) : Nat := T (way.length - x.2.2)
def timS (way : Way) (l : List It3) : Nat := (l.map (tim way)).sum
theorem timS_app (way : Way) (a b : List It3) : timS way (a ++ b) = timS way a + timS way b := by unfold timS; rw [List.map_append, List.sum_append]
theorem tot_one (q : Rat) : tot [q] = q := by
  show (0 : Rat) + gq [q] 0 = q
  show (0 : Rat) + q = q
  grind
theorem tot_snoc (l : List Rat) (q : Rat) : tot (l ++ [q]) = tot l + q := by rw [tot_app, tot_one]
theorem drop_at {way : Way} {t : Nat} {x : Nat × Nat} (h : way[t]? = some x) : way.drop t = x :: way.drop (t + 1) := by
  obtain ⟨hl, e⟩ := List.getElem?_eq_some_iff.mp h
  rw [List.drop_eq_getElem_cons hl, e]
theorem nz_take {l : List Rat} {i : Nat} (h : i < l.length) : nzl (l.take (i + 1)) = nzl (l.take i) + (if gq l i = 0 then 0 else 1) := by
  unfold nzl
  rw [List.take_succ_eq_append_getElem h, List.countP_append]
  have e : gq l i = l[i] := gq_of (List.getElem?_eq_getElem h)
  rw [e]
  by_cases hz : l[i] = 0 <;> simp [hz]
theorem T_le : ∀ {j k : Nat}, j ≤ k → T j ≤ T k
  | 0, 0, _ => Nat.le_refl _
  | 0, k + 1, _ => by simp only [T]; omega
  | j + 1, k + 1, h => by have := T_le (j := j) (k := k) (by omega); simp only [T]; omega
/-- what _law_cells makes -/
structure Cells (c : Nat) (l : List Rat) : Prop where
  len : l.length = c
  gd : ∀ q ∈ l, Gd 60 1 q
  tot : tot l = 1
  nz : nzl l ≤ 3
theorem tot_cons (q : Rat) (l : List Rat) : Mt.tot (q :: l) = q + Mt.tot l := by
  rw [show q :: l = [q] ++ l from rfl, tot_app, tot_one]
theorem tot_rt {W : Nat} (hW : 0 < W) : ∀ ws : List Nat, Mt.tot (ws.map fun w : Nat => rt w W) = rt (ws.sum : Nat) W
  | [] => by simp [Mt.tot, S, rt]
  | w :: r => by
    rw [List.map_cons, tot_cons, tot_rt hW r, rt_addN _ _ (by omega), List.sum_cons]
    congr 1
theorem rt_zero_iff {w W : Nat} (hW : 0 < W) : rt w W = 0 ↔ w = 0 := by
  constructor
  · intro h
    have e := rt_num (n := (w : Int)) (d := (W : Int)) (by omega)
    rw [h] at e
    have g := gz_pos (n := (w : Int)) (d := (W : Int)) (by omega)
    have hd : gz (w : Int) (W : Int) ∣ (w : Int) := by unfold gz; exact Int.ofNat_dvd_left.mpr (Nat.gcd_dvd_left _ _)
    obtain ⟨m, hm⟩ := hd
    have e2 := Int.ediv_mul_cancel (a := (w : Int)) (b := gz w W) ⟨m, hm⟩
    rw [← e] at e2
    have e3 : (0 : Rat).num = 0 := rfl
    rw [e3] at e2; omega
  · rintro rfl; simp [rt]
theorem rt_same {n : Int} (h : 0 < n) : rt n n = 1 := by
  have e1 := rt_num (n := n) h
  have e2 := rt_den (n := n) h
  have g : gz n n = n := by unfold gz; rw [Nat.gcd_self]; omega
  rw [g, Int.ediv_self (by omega)] at e1 e2
  exact Rat.ext e1 (by have : (1 : Rat).den = 1 := rfl; omega)
theorem gd_part {w W : Nat} (h0 : 0 < W) (h1 : W ≤ 6) (h2 : w ≤ W) : Gd 60 1 (rt w W) := by
  have hd : W ∣ 60 := by
    have : W = 1 ∨ W = 2 ∨ W = 3 ∨ W = 4 ∨ W = 5 ∨ W = 6 := by omega
    rcases this with rfl | rfl | rfl | rfl | rfl | rfl <;> decide
  obtain ⟨m, hm⟩ := hd
  have g : Gd W 1 (rt w W) := ⟨h0, w, by omega, rfl⟩
  have m0 : 0 < m := by rcases Nat.eq_zero_or_pos m with h | h; · rw [h] at hm; simp at hm
                        · exact h
  have := g.scale m0
  rw [← hm] at this
  exact this
theorem le_sum_of_mem : ∀ {l : List Nat} {w : Nat}, w ∈ l → w ≤ l.sum
  | a :: r, w, h => by
    rw [List.sum_cons]
    rcases List.mem_cons.mp h with rfl | h
    · omega
    · have := le_sum_of_mem h; omega
theorem cells_of {ws : List Nat} {c k : Nat} (hl : ws.length = c) (h0 : 0 < ws.sum) (h1 : ws.sum ≤ 6) (hz : ws.countP (fun w => decide (w ≠ 0)) ≤ k) (hk : k ≤ 3) : Cells c (ws.map fun w : Nat => rt w (ws.sum : Nat)) := by
  refine ⟨by rw [List.length_map]; exact hl, fun q hq => ?_, ?_, ?_⟩
  · obtain ⟨w, hw, rfl⟩ := List.mem_map.mp hq
    exact gd_part h0 h1 (le_sum_of_mem hw)
  · rw [tot_rt h0]
    exact rt_same (by omega)
  · unfold nzl
    rw [List.countP_map]
    refine Nat.le_trans (Nat.le_of_eq ?_) (Nat.le_trans hz hk)
    refine List.countP_congr fun w _ => ?_
    simp only [Function.comp, decide_eq_true_eq]
    exact not_congr (rt_zero_iff h0)
theorem sum_set : ∀ {l : List Nat} {i v : Nat} (h : i < l.length), (l.set i v).sum + l[i] = l.sum + v
  | a :: r, 0, v, h => by simp; omega
  | a :: r, i + 1, v, h => by
    have := sum_set (l := r) (i := i) (v := v) (by simpa using h)
    simp only [List.set_cons_succ, List.sum_cons, List.getElem_cons_succ]
    omega
theorem nz_set {l : List Nat} {i v : Nat} (h : i < l.length) : (l.set i v).countP (fun w => decide (w ≠ 0)) ≤ l.countP (fun w => decide (w ≠ 0)) + 1 := by
  rw [List.countP_set h]
  split <;> split <;> omega
/-- rows cut into answers -/
theorem cut_gq {l : List Rat} {n a k : Nat} (h : k < n) : gq ((l.drop (a * n)).take n) k = gq l (a * n + k) := by
  unfold gq
  rw [List.getD_eq_getElem?_getD, List.getD_eq_getElem?_getD, List.getElem?_take_of_lt h, List.getElem?_drop]
theorem cut_sum {l : List Rat} {n as : Nat} (h : l.length = as * n) : S as (fun a => S n (gq ((l.drop (a * n)).take n))) = tot l := by
  unfold tot
  rw [h, S_blocks]
  exact S_congr fun a _ => S_congr fun k hk => cut_gq hk
theorem cut_nz (l : List Rat) (a n : Nat) : nzl ((l.drop a).take n) ≤ nzl l := ((List.take_sublist _ _).trans (List.drop_sublist _ _)).countP_le
end Mt

set_option linter.all false
namespace Mt
structure BOk (n as : Nat) (p : List Rows) : Prop where
  l2 : p.length = as
  l3 : ∀ a, a < as → (gl p a).length = n
  l4 : ∀ a s, a < as → s < n → (gl (gl p a) s).length = n
  g1 : ∀ a s k, a < as → s < n → k < n → Gd 60 1 (gq (gl (gl p a) s) k)
  z : ∀ a s, a < as → s < n → nzl (gl (gl p a) s) ≤ 3
  s1 : ∀ s, s < n → S as (fun a => S n (gq (gl (gl p a) s))) = 1
theorem gl_range {α : Type} {n k : Nat} {f : Nat → List α} (h : k < n) : gl ((List.range n).map f) k = f k := gl_of (by rw [List.getElem?_map, List.getElem?_range h]; rfl)
theorem gl_map {α β : Type} {l : List (List α)} {k : Nat} {f : List α → List β} (h : k < l.length) : gl (l.map f) k = f (gl l k) := gl_of (by rw [List.getElem?_map, gl_lt h]; rfl)
def cuts (n as : Nat) (rows : Rows) : List Rows := (List.range as).map fun a => rows.map fun r => (r.drop (a * n)).take n
theorem blk_le {a as n : Nat} (h : a < as) : a * n + n ≤ as * n := by
  have := Nat.mul_le_mul_right n (show a + 1 ≤ as from h)
  rw [Nat.succ_mul] at this; exact this
theorem cuts_ok {n as : Nat} {rows : Rows} (hl : rows.length = n) (hc : ∀ r ∈ rows, Cells (as * n) r) : BOk n as (cuts n as rows) := by
  have row : ∀ s, s < n → Cells (as * n) (gl rows s) := fun s hs => hc _ (List.mem_of_getElem? (gl_lt (by omega)))
  have e1 : ∀ a, a < as → gl (cuts n as rows) a = rows.map fun r => (r.drop (a * n)).take n := fun a ha => gl_range ha
  have e2 : ∀ a s, a < as → s < n → gl (gl (cuts n as rows) a) s = ((gl rows s).drop (a * n)).take n := fun a s ha hs => by rw [e1 a ha, gl_map (by omega)]
  refine ⟨by unfold cuts; simp, fun a ha => by rw [e1 a ha, List.length_map, hl], fun a s ha hs => ?_, fun a s k ha hs hk => ?_, fun a s ha hs => ?_, fun s hs => ?_⟩
  · rw [e2 a s ha hs, List.length_take, List.length_drop, (row s hs).len]
    have := blk_le (n := n) ha
    omega
  · rw [e2 a s ha hs, cut_gq hk]
    refine (row s hs).gd _ (List.mem_of_getElem? (gq_lt ?_))
    rw [(row s hs).len]
    have := blk_le (n := n) ha
    omega
  · rw [e2 a s ha hs]
    exact Nat.le_trans (cut_nz _ _ _) (row s hs).nz
  · rw [← (row s hs).tot, ← cut_sum (row s hs).len]
    exact S_congr fun a ha => by rw [e2 a s ha hs]
theorem mok_of {n bs as : Nat} {st : List Rat} {ms : List (List Rows)} (n0 : 0 < n) (n1 : n ≤ 5) (b0 : 0 < bs) (b1 : bs ≤ 4) (a0 : 0 < as) (a1 : as ≤ 4) (hs : Cells n st) (hl : ms.length = bs) (hb : ∀ b, b < bs → BOk n as (gl ms b)) : MOk (st, ms) n bs as :=
  ⟨n0, n1, b0, b1, a0, a1, hs.len, hl, fun b h => (hb b h).l2, fun b a h h2 => (hb b h).l3 a h2, fun b a s h h2 h3 => (hb b h).l4 a s h2 h3, fun s h => hs.gd _ (List.mem_of_getElem? (gq_lt (by rw [hs.len]; exact h))),
    fun b a s k h h2 h3 h4 => (hb b h).g1 a s k h2 h3 h4, hs.tot, fun b s h h2 => (hb b h).s1 s h2, fun b a s h h2 h3 => (hb b h).z a s h2 h3⟩
theorem gl_snoc_lt {α : Type} {l : List (List α)} {x : List α} {i : Nat} (h : i < l.length) : gl (l ++ [x]) i = gl l i := gl_of (by rw [List.getElem?_append_left h]; exact gl_lt h)
theorem gl_snoc {α : Type} {l : List (List α)} {x : List α} : gl (l ++ [x]) l.length = x := gl_of (by simp)
end Mt

set_option linter.all false
namespace Mt
theorem T_pos (k : Nat) : 1 ≤ T k := by cases k <;> simp only [T] <;> omega
theorem timS_nil {way : Way} : ∀ {l : List It3}, timS way l = 0 → l = []
  | [], _ => rfl
  | x :: r, h => by
    unfold timS at h
    rw [List.map_cons, List.sum_cons] at h
    have := T_pos (way.length - x.2.2)
    unfold tim at h
    omega
theorem tot_filter (p : Nat → Bool) (f : Nat → Rat) : ∀ n, tot (((List.range n).filter p).map f) = S n (fun k => if p k = true then f k else 0)
  | 0 => by simp [tot, S]
  | n + 1 => by
    rw [List.range_succ, List.filter_append, List.map_append, tot_app, tot_filter p f n]
    show _ = S n _ + (if p n = true then f n else 0)
    congr 1
    by_cases h : p n = true
    · simp only [List.filter_cons, h, if_true, List.filter_nil, List.map_cons, List.map_nil]
      exact tot_one _
    · simp only [List.filter_cons, h, if_false, List.filter_nil, List.map_nil]
      rfl
theorem filter_nz {l : List Rat} : ∀ n, n ≤ l.length → ((List.range n).filter fun k => decide ((gq l k).num ≠ 0)).length = nzl (l.take n)
  | 0, _ => by simp [nzl]
  | n + 1, h => by
    rw [List.range_succ, List.filter_append, List.length_append, filter_nz n (by omega), nz_take (by omega)]
    congr 1
    have e : (gq l n).num = 0 ↔ gq l n = 0 := Rat.num_eq_zero
    by_cases hz : gq l n = 0
    · rw [if_pos hz, List.filter_cons_of_neg (by simp [-List.getD_eq_getElem?_getD]; exact hz)]; rfl
    · rw [if_neg hz, List.filter_cons_of_pos (by simp only [decide_eq_true_eq]; exact fun h => hz (e.mp h))]; rfl
def exs (M : Ma) (n : Nat) (q : Rat) (s a : Nat) (x : Nat × Nat) : List It3 :=
  ((List.range n).filter fun k => decide ((wt M x.1 x.2 s k).num ≠ 0)).map fun k => (q * wt M x.1 x.2 s k, k, a + 1)
theorem exs_val {M : Ma} {n : Nat} {way : Way} {q : Rat} {s a : Nat} {x : Nat × Nat} (h : way[a]? = some x) : tot ((exs M n q s a x).map (val3 M n way)) = val3 M n way (q, s, a) := by
  unfold exs
  rw [List.map_map, tot_filter]
  unfold val3
  show _ = q * vl M n (way.drop a) s
  rw [drop_at h]
  show _ = q * S n (fun k => wt M x.1 x.2 s k * vl M n (way.drop (a + 1)) k)
  rw [← S_mul]
  refine S_congr fun k _ => ?_
  by_cases hz : (wt M x.1 x.2 s k).num = 0
  · have : wt M x.1 x.2 s k = 0 := Rat.num_eq_zero.mp hz
    simp only [this]
    simp
  · simp only [ne_eq, hz, not_false_eq_true, decide_true, if_true, Function.comp]
    grind
theorem exs_tim {M : Ma} {n bs as : Nat} (ok : MOk M n bs as) {way : Way} {q : Rat} {s a : Nat} {x : Nat × Nat} (h : way[a]? = some x) (hb : x.1 < bs) (ha : x.2 < as) (hs : s < n) : timS way (exs M n q s a x) + 1 ≤ tim way (q, s, a) := by
  have hlt : a < way.length := (List.getElem?_eq_some_iff.mp h).1
  have hc : ((List.range n).filter fun k => decide ((wt M x.1 x.2 s k).num ≠ 0)).length ≤ 3 := by
    have h4 := ok.l4 x.1 x.2 s hb ha hs
    have := filter_nz (l := gl (gl (gl M.2 x.1) x.2) s) n (by omega)
    unfold wt
    rw [this]
    refine Nat.le_trans ?_ (ok.z x.1 x.2 s hb ha hs)
    exact (List.take_sublist _ _).countP_le
  unfold timS exs
  rw [List.map_map]
  have e : (tim way ∘ fun k => (q * wt M x.1 x.2 s k, k, a + 1)) = fun _ => T (way.length - (a + 1)) := by funext k; rfl
  rw [e]
  have e2 : ∀ l : List Nat, (l.map fun _ => T (way.length - (a + 1))).sum = l.length * T (way.length - (a + 1)) := by
    intro l
    induction l with
    | nil => simp
    | cons y r ih => rw [List.map_cons, List.sum_cons, ih, List.length_cons, Nat.succ_mul]; omega
  rw [e2]
  unfold tim
  show _ ≤ T (way.length - a)
  have e3 : way.length - a = (way.length - (a + 1)) + 1 := by omega
  rw [e3]
  show _ ≤ 1 + 3 * T (way.length - (a + 1))
  have := Nat.mul_le_mul_right (T (way.length - (a + 1))) hc
  omega
theorem start_val {M : Ma} {n : Nat} {way : Way} : tot (((List.range n).map fun s => (gq M.1 s, s, 0)).map (val3 M n way)) = chq M n way := by
  rw [List.map_map]
  unfold chq
  rw [adv_vl]
  have : ((List.range n).map (val3 M n way ∘ fun s => (gq M.1 s, s, 0))) = (List.range n).map fun s => gq M.1 s * vl M n way s := by
    refine List.map_congr_left fun s _ => ?_
    rfl
  rw [this]
  unfold tot
  rw [List.length_map, List.length_range]
  refine S_congr fun i hi => gq_of ?_
  rw [List.getElem?_map, List.getElem?_range hi]; rfl
theorem start_tim {M : Ma} {n : Nat} {way : Way} (hn : n ≤ 5) (hw : way.length ≤ 6) : timS way ((List.range n).map fun s => (gq M.1 s, s, 0)) ≤ 5465 := by
  unfold timS
  rw [List.map_map]
  have e2 : ∀ l : List Nat, (l.map (tim way ∘ fun s => (gq M.1 s, s, 0))).sum = l.length * T way.length := by
    intro l
    induction l with
    | nil => simp
    | cons y r ih => rw [List.map_cons, List.sum_cons, ih, List.length_cons, Nat.succ_mul]; show T (way.length - 0) + _ = _; rw [Nat.sub_zero]; omega
  rw [e2, List.length_range]
  have h1 : T way.length ≤ T 6 := T_le hw
  have h2 : T 6 = 1093 := by decide
  have := Nat.mul_le_mul hn h1
  omega
end Mt
namespace Mt
theorem len_tim {way : Way} : ∀ l : List It3, l.length ≤ timS way l
  | [] => by simp
  | x :: r => by
    have := len_tim (way := way) r
    have tp := T_pos (way.length - x.2.2)
    unfold timS at this ⊢
    rw [List.map_cons, List.sum_cons, List.length_cons]
    unfold tim at this ⊢
    omega
theorem exs_mem {M : Ma} {n : Nat} {q : Rat} {s a : Nat} {x : Nat × Nat} {y : It3} (h : y ∈ exs M n q s a x) : ∃ k, k < n ∧ y = (q * wt M x.1 x.2 s k, k, a + 1) := by
  unfold exs at h
  obtain ⟨k, hk, rfl⟩ := List.mem_map.mp h
  exact ⟨k, List.mem_range.mp (List.mem_filter.mp hk).1, rfl⟩
end Mt

set_option Elab.async false
set_option linter.all false
set_option maxRecDepth 100000
set_option maxHeartbeats 0
/-! ### the text by places, the head -/
namespace Hd
open PySem PySem.Spec PyProof.Rows L2 Tk
def top (i : Nat) : Stmt := PySem.Challenge.pw_notesttells_k02_chances_of_ways.main.body.getD i (.Pass ⟨0, 0, 0, 0⟩)
abbrev s__wall : Stmt := top 1
abbrev s__digits : Stmt := top 8
abbrev s_total : Stmt := top 10
abbrev s_are_lots : Stmt := top 11
abbrev s__table : Stmt := top 17
abbrev s__fault : Stmt := top 18
abbrev s__out_of : Stmt := top 19
abbrev s__is_square : Stmt := top 20
abbrev s__leads_on : Stmt := top 21
abbrev s_moved : Stmt := top 22
abbrev s_chance : Stmt := top 23
abbrev s__law_pool : Stmt := top 25
abbrev s__law_draw : Stmt := top 26
abbrev s__law_same : Stmt := top 27
abbrev s__law_less : Stmt := top 28
abbrev s__law_plus : Stmt := top 29
abbrev s__law_times : Stmt := top 30
abbrev s__law_sum : Stmt := top 31
abbrev s__law_is : Stmt := top 32
abbrev s__law_cells : Stmt := top 33
abbrev s__law_machine : Stmt := top 34
abbrev s__law_made : Stmt := top 35
abbrev s__law_through : Stmt := top 36
abbrev s__law_single : Stmt := top 37
abbrev s_law : Stmt := top 38
abbrev s_BadMachine_init : Stmt := inClass (top 4) 0
abbrev s_Ratio_init : Stmt := inClass (top 9) 0
abbrev s_Ratio_add : Stmt := inClass (top 9) 1
abbrev s_Ratio_sub : Stmt := inClass (top 9) 2
abbrev s_Ratio_mul : Stmt := inClass (top 9) 3
abbrev s_Ratio_eq : Stmt := inClass (top 9) 4
abbrev s_Ratio_str : Stmt := inClass (top 9) 5
abbrev s_Ratio_less : Stmt := inClass (top 9) 6
abbrev s_Ratio_by : Stmt := inClass (top 9) 7
abbrev s_Machine_init : Stmt := inClass (top 16) 0
abbrev s_Machine_eq : Stmt := inClass (top 16) 1
abbrev s_Machine_states : Stmt := inClass (top 16) 2
abbrev s_Machine_buttons : Stmt := inClass (top 16) 3
abbrev s_Machine_answers : Stmt := inClass (top 16) 4
abbrev FnP (K : PySem.W.Frag) (x q : Str) (st : Stmt) (ds : List V) (f : Addr) (fd : FuncData) : Prop := FunD K x q (defArgs st) (defBody st) (defScope st) ds [] f fd
def d__wall : He.DefD := ⟨("_wall", none), "_wall", "_wall", defArgs s__wall, defBody s__wall, defScope s__wall, [], []⟩
def d__digits : He.DefD := ⟨("_digits", none), "_digits", "_digits", defArgs s__digits, defBody s__digits, defScope s__digits, [], []⟩
def d_total : He.DefD := ⟨("total", none), "total", "total", defArgs s_total, defBody s_total, defScope s_total, [], []⟩
def d_are_lots : He.DefD := ⟨("are_lots", none), "are_lots", "are_lots", defArgs s_are_lots, defBody s_are_lots, defScope s_are_lots, [], []⟩
def d__table : He.DefD := ⟨("_table", none), "_table", "_table", defArgs s__table, defBody s__table, defScope s__table, [], []⟩
def d__fault : He.DefD := ⟨("_fault", none), "_fault", "_fault", defArgs s__fault, defBody s__fault, defScope s__fault, [], []⟩
def d__out_of : He.DefD := ⟨("_out_of", none), "_out_of", "_out_of", defArgs s__out_of, defBody s__out_of, defScope s__out_of, [], []⟩
def d__is_square : He.DefD := ⟨("_is_square", none), "_is_square", "_is_square", defArgs s__is_square, defBody s__is_square, defScope s__is_square, [], []⟩
def d__leads_on : He.DefD := ⟨("_leads_on", none), "_leads_on", "_leads_on", defArgs s__leads_on, defBody s__leads_on, defScope s__leads_on, [], []⟩
def d_moved : He.DefD := ⟨("moved", none), "moved", "moved", defArgs s_moved, defBody s_moved, defScope s_moved, [], []⟩
def d_chance : He.DefD := ⟨("chance", none), "chance", "chance", defArgs s_chance, defBody s_chance, defScope s_chance, [], []⟩
def d__law_pool : He.DefD := ⟨("_law_pool", none), "_law_pool", "_law_pool", defArgs s__law_pool, defBody s__law_pool, defScope s__law_pool, [], []⟩
def d__law_draw : He.DefD := ⟨("_law_draw", none), "_law_draw", "_law_draw", defArgs s__law_draw, defBody s__law_draw, defScope s__law_draw, [], []⟩
def d__law_same : He.DefD := ⟨("_law_same", none), "_law_same", "_law_same", defArgs s__law_same, defBody s__law_same, defScope s__law_same, [], []⟩
def d__law_less : He.DefD := ⟨("_law_less", none), "_law_less", "_law_less", defArgs s__law_less, defBody s__law_less, defScope s__law_less, [], []⟩
def d__law_plus : He.DefD := ⟨("_law_plus", none), "_law_plus", "_law_plus", defArgs s__law_plus, defBody s__law_plus, defScope s__law_plus, [], []⟩
def d__law_times : He.DefD := ⟨("_law_times", none), "_law_times", "_law_times", defArgs s__law_times, defBody s__law_times, defScope s__law_times, [], []⟩
def d__law_sum : He.DefD := ⟨("_law_sum", none), "_law_sum", "_law_sum", defArgs s__law_sum, defBody s__law_sum, defScope s__law_sum, [], []⟩
def d__law_is : He.DefD := ⟨("_law_is", none), "_law_is", "_law_is", defArgs s__law_is, defBody s__law_is, defScope s__law_is, [], []⟩
def d__law_cells : He.DefD := ⟨("_law_cells", none), "_law_cells", "_law_cells", defArgs s__law_cells, defBody s__law_cells, defScope s__law_cells, [], []⟩
def d__law_machine : He.DefD := ⟨("_law_machine", none), "_law_machine", "_law_machine", defArgs s__law_machine, defBody s__law_machine, defScope s__law_machine, [], []⟩
def d__law_made : He.DefD := ⟨("_law_made", none), "_law_made", "_law_made", defArgs s__law_made, defBody s__law_made, defScope s__law_made, [], []⟩
def d__law_through : He.DefD := ⟨("_law_through", none), "_law_through", "_law_through", defArgs s__law_through, defBody s__law_through, defScope s__law_through, [], []⟩
def d__law_single : He.DefD := ⟨("_law_single", none), "_law_single", "_law_single", defArgs s__law_single, defBody s__law_single, defScope s__law_single, [], []⟩
def d_law : He.DefD := ⟨("law", none), "law", "law", defArgs s_law, defBody s_law, defScope s_law, [], []⟩
def d_BadMachine_init : He.DefD := ⟨("BadMachine", some "__init__"), "__init__", "BadMachine.__init__", defArgs s_BadMachine_init, defBody s_BadMachine_init, defScope s_BadMachine_init, [], []⟩
def d_Ratio_init : He.DefD := ⟨("Ratio", some "__init__"), "__init__", "Ratio.__init__", defArgs s_Ratio_init, defBody s_Ratio_init, defScope s_Ratio_init, [.int 1], []⟩
def d_Ratio_add : He.DefD := ⟨("Ratio", some "__add__"), "__add__", "Ratio.__add__", defArgs s_Ratio_add, defBody s_Ratio_add, defScope s_Ratio_add, [], []⟩
def d_Ratio_sub : He.DefD := ⟨("Ratio", some "__sub__"), "__sub__", "Ratio.__sub__", defArgs s_Ratio_sub, defBody s_Ratio_sub, defScope s_Ratio_sub, [], []⟩
def d_Ratio_mul : He.DefD := ⟨("Ratio", some "__mul__"), "__mul__", "Ratio.__mul__", defArgs s_Ratio_mul, defBody s_Ratio_mul, defScope s_Ratio_mul, [], []⟩
def d_Ratio_eq : He.DefD := ⟨("Ratio", some "__eq__"), "__eq__", "Ratio.__eq__", defArgs s_Ratio_eq, defBody s_Ratio_eq, defScope s_Ratio_eq, [], []⟩
def d_Ratio_str : He.DefD := ⟨("Ratio", some "__str__"), "__str__", "Ratio.__str__", defArgs s_Ratio_str, defBody s_Ratio_str, defScope s_Ratio_str, [], []⟩
def d_Ratio_less : He.DefD := ⟨("Ratio", some "less"), "less", "Ratio.less", defArgs s_Ratio_less, defBody s_Ratio_less, defScope s_Ratio_less, [], []⟩
def d_Ratio_by : He.DefD := ⟨("Ratio", some "by"), "by", "Ratio.by", defArgs s_Ratio_by, defBody s_Ratio_by, defScope s_Ratio_by, [], []⟩
def d_Machine_init : He.DefD := ⟨("Machine", some "__init__"), "__init__", "Machine.__init__", defArgs s_Machine_init, defBody s_Machine_init, defScope s_Machine_init, [], []⟩
def d_Machine_eq : He.DefD := ⟨("Machine", some "__eq__"), "__eq__", "Machine.__eq__", defArgs s_Machine_eq, defBody s_Machine_eq, defScope s_Machine_eq, [], []⟩
def d_Machine_states : He.DefD := ⟨("Machine", some "states"), "states", "Machine.states", defArgs s_Machine_states, defBody s_Machine_states, defScope s_Machine_states, [], []⟩
def d_Machine_buttons : He.DefD := ⟨("Machine", some "buttons"), "buttons", "Machine.buttons", defArgs s_Machine_buttons, defBody s_Machine_buttons, defScope s_Machine_buttons, [], []⟩
def d_Machine_answers : He.DefD := ⟨("Machine", some "answers"), "answers", "Machine.answers", defArgs s_Machine_answers, defBody s_Machine_answers, defScope s_Machine_answers, [], []⟩
def fn : List He.DefD := [d__wall, d__digits, d_total, d_are_lots, d__table, d__fault, d__out_of, d__is_square, d__leads_on, d_moved, d_chance, d__law_pool, d__law_draw, d__law_same, d__law_less, d__law_plus, d__law_times, d__law_sum, d__law_is, d__law_cells, d__law_machine, d__law_made, d__law_through, d__law_single, d_law, d_BadMachine_init, d_Ratio_init, d_Ratio_add, d_Ratio_sub, d_Ratio_mul, d_Ratio_eq, d_Ratio_str, d_Ratio_less, d_Ratio_by, d_Machine_init, d_Machine_eq, d_Machine_states, d_Machine_buttons, d_Machine_answers]
def fas (K : PySem.W.Frag) : List Bool := [(He.Fa.free "ValueError").ok K,
  (He.Fa.free "abs").ok K,
  (He.Fa.free "all").ok K,
  (He.Fa.free "any").ok K,
  (He.Fa.free "bool").ok K,
  (He.Fa.free "divmod").ok K,
  (He.Fa.free "int").ok K,
  (He.Fa.free "isinstance").ok K,
  (He.Fa.free "len").ok K,
  (He.Fa.free "list").ok K,
  (He.Fa.free "range").ok K,
  (He.Fa.free "str").ok K,
  (He.Fa.free "sum").ok K,
  (He.Fa.free "tuple").ok K,
  (He.Fa.free "zip").ok K,
  (He.Fa.glo "_wall").ok K,
  (He.Fa.glo "_digits").ok K,
  (He.Fa.glo "total").ok K,
  (He.Fa.glo "are_lots").ok K,
  (He.Fa.glo "_table").ok K,
  (He.Fa.glo "_fault").ok K,
  (He.Fa.glo "_out_of").ok K,
  (He.Fa.glo "_is_square").ok K,
  (He.Fa.glo "_leads_on").ok K,
  (He.Fa.glo "moved").ok K,
  (He.Fa.glo "chance").ok K,
  (He.Fa.glo "_law_pool").ok K,
  (He.Fa.glo "_law_draw").ok K,
  (He.Fa.glo "_law_same").ok K,
  (He.Fa.glo "_law_less").ok K,
  (He.Fa.glo "_law_plus").ok K,
  (He.Fa.glo "_law_times").ok K,
  (He.Fa.glo "_law_sum").ok K,
  (He.Fa.glo "_law_is").ok K,
  (He.Fa.glo "_law_cells").ok K,
  (He.Fa.glo "_law_machine").ok K,
  (He.Fa.glo "_law_made").ok K,
  (He.Fa.glo "_law_through").ok K,
  (He.Fa.glo "_law_single").ok K,
  (He.Fa.glo "law").ok K,
  blB K "gcd" "math.gcd",
  (He.Fa.int "PART_END" (10000000000000000000000000000000000000000000000000000000000000000)).ok K,
  (He.Fa.int "MOST_STATES" (12)).ok K,
  (He.Fa.int "MOST_BUTTONS" (4)).ok K,
  (He.Fa.int "MOST_ANSWERS" (4)).ok K,
  (He.Fa.glo "TestError").ok K,
  (He.Fa.keep "TestError").ok K,
  (He.Fa.exc "TestError").ok K,
  isEB K "TestError",
  (He.Fa.glo "BadMachine").ok K,
  (He.Fa.keep "BadMachine").ok K,
  isEB K "BadMachine",
  (He.Fa.glo "BadRatio").ok K,
  (He.Fa.keep "BadRatio").ok K,
  (He.Fa.exc "BadRatio").ok K,
  isEB K "BadRatio",
  (He.Fa.glo "Ratio").ok K,
  (He.Fa.keep "Ratio").ok K,
  (He.Fa.cls "Ratio").ok K,
  instB K "Ratio",
  (He.Fa.mkr "Ratio").ok K,
  PySem.W.selfFirst K (He.ga K "Ratio"),
  (He.Fa.meth "Ratio" "__init__").ok K,
  (He.Fa.meth "Ratio" "__add__").ok K,
  (He.Fa.meth "Ratio" "__sub__").ok K,
  (He.Fa.meth "Ratio" "__mul__").ok K,
  (He.Fa.meth "Ratio" "__eq__").ok K,
  (He.Fa.meth "Ratio" "__str__").ok K,
  (He.Fa.meth "Ratio" "less").ok K,
  (He.Fa.meth "Ratio" "by").ok K,
  (He.Fa.noat "Ratio" "num").ok K,
  (He.Fa.noat "Ratio" "den").ok K,
  (He.Fa.glo "Machine").ok K,
  (He.Fa.keep "Machine").ok K,
  (He.Fa.cls "Machine").ok K,
  instB K "Machine",
  (He.Fa.mkr "Machine").ok K,
  PySem.W.selfFirst K (He.ga K "Machine"),
  (He.Fa.meth "Machine" "__init__").ok K,
  (He.Fa.meth "Machine" "__eq__").ok K,
  (He.Fa.meth "Machine" "states").ok K,
  (He.Fa.meth "Machine" "buttons").ok K,
  (He.Fa.meth "Machine" "answers").ok K,
  (He.Fa.noat "Machine" "start").ok K,
  (He.Fa.noat "Machine" "moves").ok K,
  decide (PySem.W.kitOne K (.ref (He.ga K "BadMachine")) (.type "ValueError") = some true),
  decide (PySem.W.kitOne K (.ref (He.ga K "BadMachine")) (.ref (He.ga K "TestError")) = some true),
  decide (PySem.W.exmOne K (.ref (He.ga K "BadMachine")) (.ref (He.ga K "TestError")) = some true),
  decide (PySem.W.kitOne K (.ref (He.ga K "BadMachine")) (.ref (He.ga K "BadMachine")) = some true),
  decide (PySem.W.exmOne K (.ref (He.ga K "BadMachine")) (.ref (He.ga K "BadMachine")) = some true),
  decide (PySem.W.kitOne K (.ref (He.ga K "BadMachine")) (.ref (He.ga K "BadRatio")) = some false),
  decide (PySem.W.exmOne K (.ref (He.ga K "BadMachine")) (.ref (He.ga K "BadRatio")) = some false),
  decide (PySem.W.kitOne K (.ref (He.ga K "BadRatio")) (.type "ValueError") = some true),
  decide (PySem.W.kitOne K (.ref (He.ga K "BadRatio")) (.ref (He.ga K "TestError")) = some true),
  decide (PySem.W.exmOne K (.ref (He.ga K "BadRatio")) (.ref (He.ga K "TestError")) = some true),
  decide (PySem.W.kitOne K (.ref (He.ga K "BadRatio")) (.ref (He.ga K "BadMachine")) = some false),
  decide (PySem.W.exmOne K (.ref (He.ga K "BadRatio")) (.ref (He.ga K "BadMachine")) = some false),
  decide (PySem.W.kitOne K (.ref (He.ga K "BadRatio")) (.ref (He.ga K "BadRatio")) = some true),
  decide (PySem.W.exmOne K (.ref (He.ga K "BadRatio")) (.ref (He.ga K "BadRatio")) = some true)]
def ex (K : PySem.W.Frag) : Bool := (fas K).all id
theorem fas_at {K : PySem.W.Frag} (c : ex K = true) (i : Nat) {b : Bool} (h : (fas K)[i]? = some b) : b = true := List.all_eq_true.mp c b (List.mem_of_getElem? h)
structure Dt (K : PySem.W.Frag) (mg : Str → Option Value) : Prop where
  s : SaysY ex fn K
  n : ∃ h : Heap, K.In h ∧ h.Ns mainGlobals mg
section
variable {K : PySem.W.Frag} {mg : Str → Option Value}
theorem free_ValueError (D : Dt K mg) : mg "ValueError" = none := by obtain ⟨h, X, G⟩ := D.n; exact He.free_ok X G (fas_at D.s.more 0 rfl)
theorem free_abs (D : Dt K mg) : mg "abs" = none := by obtain ⟨h, X, G⟩ := D.n; exact He.free_ok X G (fas_at D.s.more 1 rfl)
theorem free_all (D : Dt K mg) : mg "all" = none := by obtain ⟨h, X, G⟩ := D.n; exact He.free_ok X G (fas_at D.s.more 2 rfl)
theorem free_any (D : Dt K mg) : mg "any" = none := by obtain ⟨h, X, G⟩ := D.n; exact He.free_ok X G (fas_at D.s.more 3 rfl)
theorem free_bool (D : Dt K mg) : mg "bool" = none := by obtain ⟨h, X, G⟩ := D.n; exact He.free_ok X G (fas_at D.s.more 4 rfl)
theorem free_divmod (D : Dt K mg) : mg "divmod" = none := by obtain ⟨h, X, G⟩ := D.n; exact He.free_ok X G (fas_at D.s.more 5 rfl)
theorem free_int (D : Dt K mg) : mg "int" = none := by obtain ⟨h, X, G⟩ := D.n; exact He.free_ok X G (fas_at D.s.more 6 rfl)
theorem free_isinstance (D : Dt K mg) : mg "isinstance" = none := by obtain ⟨h, X, G⟩ := D.n; exact He.free_ok X G (fas_at D.s.more 7 rfl)
theorem free_len (D : Dt K mg) : mg "len" = none := by obtain ⟨h, X, G⟩ := D.n; exact He.free_ok X G (fas_at D.s.more 8 rfl)
theorem free_list (D : Dt K mg) : mg "list" = none := by obtain ⟨h, X, G⟩ := D.n; exact He.free_ok X G (fas_at D.s.more 9 rfl)
theorem free_range (D : Dt K mg) : mg "range" = none := by obtain ⟨h, X, G⟩ := D.n; exact He.free_ok X G (fas_at D.s.more 10 rfl)
theorem free_str (D : Dt K mg) : mg "str" = none := by obtain ⟨h, X, G⟩ := D.n; exact He.free_ok X G (fas_at D.s.more 11 rfl)
theorem free_sum (D : Dt K mg) : mg "sum" = none := by obtain ⟨h, X, G⟩ := D.n; exact He.free_ok X G (fas_at D.s.more 12 rfl)
theorem free_tuple (D : Dt K mg) : mg "tuple" = none := by obtain ⟨h, X, G⟩ := D.n; exact He.free_ok X G (fas_at D.s.more 13 rfl)
theorem free_zip (D : Dt K mg) : mg "zip" = none := by obtain ⟨h, X, G⟩ := D.n; exact He.free_ok X G (fas_at D.s.more 14 rfl)
theorem glo__wall (D : Dt K mg) : mg "_wall" = some (.ref (He.ga K "_wall")) := by obtain ⟨h, X, G⟩ := D.n; exact He.glo_ok X G (fas_at D.s.more 15 rfl)
theorem glo__digits (D : Dt K mg) : mg "_digits" = some (.ref (He.ga K "_digits")) := by obtain ⟨h, X, G⟩ := D.n; exact He.glo_ok X G (fas_at D.s.more 16 rfl)
theorem glo_total (D : Dt K mg) : mg "total" = some (.ref (He.ga K "total")) := by obtain ⟨h, X, G⟩ := D.n; exact He.glo_ok X G (fas_at D.s.more 17 rfl)
theorem glo_are_lots (D : Dt K mg) : mg "are_lots" = some (.ref (He.ga K "are_lots")) := by obtain ⟨h, X, G⟩ := D.n; exact He.glo_ok X G (fas_at D.s.more 18 rfl)
theorem glo__table (D : Dt K mg) : mg "_table" = some (.ref (He.ga K "_table")) := by obtain ⟨h, X, G⟩ := D.n; exact He.glo_ok X G (fas_at D.s.more 19 rfl)
theorem glo__fault (D : Dt K mg) : mg "_fault" = some (.ref (He.ga K "_fault")) := by obtain ⟨h, X, G⟩ := D.n; exact He.glo_ok X G (fas_at D.s.more 20 rfl)
theorem glo__out_of (D : Dt K mg) : mg "_out_of" = some (.ref (He.ga K "_out_of")) := by obtain ⟨h, X, G⟩ := D.n; exact He.glo_ok X G (fas_at D.s.more 21 rfl)
theorem glo__is_square (D : Dt K mg) : mg "_is_square" = some (.ref (He.ga K "_is_square")) := by obtain ⟨h, X, G⟩ := D.n; exact He.glo_ok X G (fas_at D.s.more 22 rfl)
theorem glo__leads_on (D : Dt K mg) : mg "_leads_on" = some (.ref (He.ga K "_leads_on")) := by obtain ⟨h, X, G⟩ := D.n; exact He.glo_ok X G (fas_at D.s.more 23 rfl)
theorem glo_moved (D : Dt K mg) : mg "moved" = some (.ref (He.ga K "moved")) := by obtain ⟨h, X, G⟩ := D.n; exact He.glo_ok X G (fas_at D.s.more 24 rfl)
theorem glo_chance (D : Dt K mg) : mg "chance" = some (.ref (He.ga K "chance")) := by obtain ⟨h, X, G⟩ := D.n; exact He.glo_ok X G (fas_at D.s.more 25 rfl)
theorem glo__law_pool (D : Dt K mg) : mg "_law_pool" = some (.ref (He.ga K "_law_pool")) := by obtain ⟨h, X, G⟩ := D.n; exact He.glo_ok X G (fas_at D.s.more 26 rfl)
theorem glo__law_draw (D : Dt K mg) : mg "_law_draw" = some (.ref (He.ga K "_law_draw")) := by obtain ⟨h, X, G⟩ := D.n; exact He.glo_ok X G (fas_at D.s.more 27 rfl)
theorem glo__law_same (D : Dt K mg) : mg "_law_same" = some (.ref (He.ga K "_law_same")) := by obtain ⟨h, X, G⟩ := D.n; exact He.glo_ok X G (fas_at D.s.more 28 rfl)
theorem glo__law_less (D : Dt K mg) : mg "_law_less" = some (.ref (He.ga K "_law_less")) := by obtain ⟨h, X, G⟩ := D.n; exact He.glo_ok X G (fas_at D.s.more 29 rfl)
theorem glo__law_plus (D : Dt K mg) : mg "_law_plus" = some (.ref (He.ga K "_law_plus")) := by obtain ⟨h, X, G⟩ := D.n; exact He.glo_ok X G (fas_at D.s.more 30 rfl)
theorem glo__law_times (D : Dt K mg) : mg "_law_times" = some (.ref (He.ga K "_law_times")) := by obtain ⟨h, X, G⟩ := D.n; exact He.glo_ok X G (fas_at D.s.more 31 rfl)
theorem glo__law_sum (D : Dt K mg) : mg "_law_sum" = some (.ref (He.ga K "_law_sum")) := by obtain ⟨h, X, G⟩ := D.n; exact He.glo_ok X G (fas_at D.s.more 32 rfl)
theorem glo__law_is (D : Dt K mg) : mg "_law_is" = some (.ref (He.ga K "_law_is")) := by obtain ⟨h, X, G⟩ := D.n; exact He.glo_ok X G (fas_at D.s.more 33 rfl)
theorem glo__law_cells (D : Dt K mg) : mg "_law_cells" = some (.ref (He.ga K "_law_cells")) := by obtain ⟨h, X, G⟩ := D.n; exact He.glo_ok X G (fas_at D.s.more 34 rfl)
theorem glo__law_machine (D : Dt K mg) : mg "_law_machine" = some (.ref (He.ga K "_law_machine")) := by obtain ⟨h, X, G⟩ := D.n; exact He.glo_ok X G (fas_at D.s.more 35 rfl)
theorem glo__law_made (D : Dt K mg) : mg "_law_made" = some (.ref (He.ga K "_law_made")) := by obtain ⟨h, X, G⟩ := D.n; exact He.glo_ok X G (fas_at D.s.more 36 rfl)
theorem glo__law_through (D : Dt K mg) : mg "_law_through" = some (.ref (He.ga K "_law_through")) := by obtain ⟨h, X, G⟩ := D.n; exact He.glo_ok X G (fas_at D.s.more 37 rfl)
theorem glo__law_single (D : Dt K mg) : mg "_law_single" = some (.ref (He.ga K "_law_single")) := by obtain ⟨h, X, G⟩ := D.n; exact He.glo_ok X G (fas_at D.s.more 38 rfl)
theorem glo_law (D : Dt K mg) : mg "law" = some (.ref (He.ga K "law")) := by obtain ⟨h, X, G⟩ := D.n; exact He.glo_ok X G (fas_at D.s.more 39 rfl)
theorem blt_gcd (D : Dt K mg) : mg "gcd" = some (.builtin "math.gcd") := by obtain ⟨h, X, G⟩ := D.n; exact blB_ok X G (fas_at D.s.more 40 rfl)
theorem int_PART_END (D : Dt K mg) : ∃ t, mg "PART_END" = some (.int (10000000000000000000000000000000000000000000000000000000000000000) t) := by obtain ⟨h, X, G⟩ := D.n; exact He.int_ok X G (fas_at D.s.more 41 rfl)
theorem int_MOST_STATES (D : Dt K mg) : ∃ t, mg "MOST_STATES" = some (.int (12) t) := by obtain ⟨h, X, G⟩ := D.n; exact He.int_ok X G (fas_at D.s.more 42 rfl)
theorem int_MOST_BUTTONS (D : Dt K mg) : ∃ t, mg "MOST_BUTTONS" = some (.int (4) t) := by obtain ⟨h, X, G⟩ := D.n; exact He.int_ok X G (fas_at D.s.more 43 rfl)
theorem int_MOST_ANSWERS (D : Dt K mg) : ∃ t, mg "MOST_ANSWERS" = some (.int (4) t) := by obtain ⟨h, X, G⟩ := D.n; exact He.int_ok X G (fas_at D.s.more 44 rfl)
theorem glo_TestError (D : Dt K mg) : mg "TestError" = some (.ref (He.ga K "TestError")) := by obtain ⟨h, X, G⟩ := D.n; exact He.glo_ok X G (fas_at D.s.more 45 rfl)
theorem kp_TestError (D : Dt K mg) : PySem.W.keepIn K (.ref (He.ga K "TestError")) = true := He.keep_ok (fas_at D.s.more 46 rfl)
theorem exc_TestError (D : Dt K mg) : PySem.W.excIn K (He.ga K "TestError") He.veBase "ValueError.__new__" = true ∧ PySem.W.keepIn K (.ref (He.ga K "TestError")) = true ∧ PySem.W.subIn K (.ref (He.ga K "TestError")) (.type "BaseException") = some true ∧ PySem.W.typeIn K (.ref (He.ga K "TestError")) = some (.type "type") := He.exc_ok (fas_at D.s.more 47 rfl)
theorem isE_TestError (D : Dt K mg) : ExcC K (He.ga K "TestError") := isEB_ok (fas_at D.s.more 48 rfl)
theorem glo_BadMachine (D : Dt K mg) : mg "BadMachine" = some (.ref (He.ga K "BadMachine")) := by obtain ⟨h, X, G⟩ := D.n; exact He.glo_ok X G (fas_at D.s.more 49 rfl)
theorem kp_BadMachine (D : Dt K mg) : PySem.W.keepIn K (.ref (He.ga K "BadMachine")) = true := He.keep_ok (fas_at D.s.more 50 rfl)
theorem isE_BadMachine (D : Dt K mg) : ExcC K (He.ga K "BadMachine") := isEB_ok (fas_at D.s.more 51 rfl)
theorem glo_BadRatio (D : Dt K mg) : mg "BadRatio" = some (.ref (He.ga K "BadRatio")) := by obtain ⟨h, X, G⟩ := D.n; exact He.glo_ok X G (fas_at D.s.more 52 rfl)
theorem kp_BadRatio (D : Dt K mg) : PySem.W.keepIn K (.ref (He.ga K "BadRatio")) = true := He.keep_ok (fas_at D.s.more 53 rfl)
theorem exc_BadRatio (D : Dt K mg) : PySem.W.excIn K (He.ga K "BadRatio") He.veBase "ValueError.__new__" = true ∧ PySem.W.keepIn K (.ref (He.ga K "BadRatio")) = true ∧ PySem.W.subIn K (.ref (He.ga K "BadRatio")) (.type "BaseException") = some true ∧ PySem.W.typeIn K (.ref (He.ga K "BadRatio")) = some (.type "type") := He.exc_ok (fas_at D.s.more 54 rfl)
theorem isE_BadRatio (D : Dt K mg) : ExcC K (He.ga K "BadRatio") := isEB_ok (fas_at D.s.more 55 rfl)
theorem glo_Ratio (D : Dt K mg) : mg "Ratio" = some (.ref (He.ga K "Ratio")) := by obtain ⟨h, X, G⟩ := D.n; exact He.glo_ok X G (fas_at D.s.more 56 rfl)
theorem kp_Ratio (D : Dt K mg) : PySem.W.keepIn K (.ref (He.ga K "Ratio")) = true := He.keep_ok (fas_at D.s.more 57 rfl)
theorem cls_Ratio (D : Dt K mg) : Cls K (He.ga K "Ratio") := He.cls_ok (fas_at D.s.more 58 rfl)
theorem inst_Ratio (D : Dt K mg) : InstC K (He.ga K "Ratio") := instB_ok (fas_at D.s.more 59 rfl)
theorem mkr_Ratio (D : Dt K mg) : Mk K (He.ga K "Ratio") (He.ma K (He.ga K "Ratio") "__init__") := He.mkr_ok (fas_at D.s.more 60 rfl)
theorem self_Ratio (D : Dt K mg) : PySem.W.selfFirst K (He.ga K "Ratio") = true := fas_at D.s.more 61 rfl
theorem me_Ratio_init (D : Dt K mg) : Meth K (He.ga K "Ratio") "__init__" (He.ma K (He.ga K "Ratio") "__init__") := He.meth_ok (fas_at D.s.more 62 rfl)
theorem me_Ratio_add (D : Dt K mg) : Meth K (He.ga K "Ratio") "__add__" (He.ma K (He.ga K "Ratio") "__add__") := He.meth_ok (fas_at D.s.more 63 rfl)
theorem me_Ratio_sub (D : Dt K mg) : Meth K (He.ga K "Ratio") "__sub__" (He.ma K (He.ga K "Ratio") "__sub__") := He.meth_ok (fas_at D.s.more 64 rfl)
theorem me_Ratio_mul (D : Dt K mg) : Meth K (He.ga K "Ratio") "__mul__" (He.ma K (He.ga K "Ratio") "__mul__") := He.meth_ok (fas_at D.s.more 65 rfl)
theorem me_Ratio_eq (D : Dt K mg) : Meth K (He.ga K "Ratio") "__eq__" (He.ma K (He.ga K "Ratio") "__eq__") := He.meth_ok (fas_at D.s.more 66 rfl)
theorem me_Ratio_str (D : Dt K mg) : Meth K (He.ga K "Ratio") "__str__" (He.ma K (He.ga K "Ratio") "__str__") := He.meth_ok (fas_at D.s.more 67 rfl)
theorem me_Ratio_less (D : Dt K mg) : Meth K (He.ga K "Ratio") "less" (He.ma K (He.ga K "Ratio") "less") := He.meth_ok (fas_at D.s.more 68 rfl)
theorem me_Ratio_by (D : Dt K mg) : Meth K (He.ga K "Ratio") "by" (He.ma K (He.ga K "Ratio") "by") := He.meth_ok (fas_at D.s.more 69 rfl)
theorem na_Ratio_num (D : Dt K mg) : NoAttr K (He.ga K "Ratio") "num" := He.noat_ok (fas_at D.s.more 70 rfl)
theorem na_Ratio_den (D : Dt K mg) : NoAttr K (He.ga K "Ratio") "den" := He.noat_ok (fas_at D.s.more 71 rfl)
theorem glo_Machine (D : Dt K mg) : mg "Machine" = some (.ref (He.ga K "Machine")) := by obtain ⟨h, X, G⟩ := D.n; exact He.glo_ok X G (fas_at D.s.more 72 rfl)
theorem kp_Machine (D : Dt K mg) : PySem.W.keepIn K (.ref (He.ga K "Machine")) = true := He.keep_ok (fas_at D.s.more 73 rfl)
theorem cls_Machine (D : Dt K mg) : Cls K (He.ga K "Machine") := He.cls_ok (fas_at D.s.more 74 rfl)
theorem inst_Machine (D : Dt K mg) : InstC K (He.ga K "Machine") := instB_ok (fas_at D.s.more 75 rfl)
theorem mkr_Machine (D : Dt K mg) : Mk K (He.ga K "Machine") (He.ma K (He.ga K "Machine") "__init__") := He.mkr_ok (fas_at D.s.more 76 rfl)
theorem self_Machine (D : Dt K mg) : PySem.W.selfFirst K (He.ga K "Machine") = true := fas_at D.s.more 77 rfl
theorem me_Machine_init (D : Dt K mg) : Meth K (He.ga K "Machine") "__init__" (He.ma K (He.ga K "Machine") "__init__") := He.meth_ok (fas_at D.s.more 78 rfl)
theorem me_Machine_eq (D : Dt K mg) : Meth K (He.ga K "Machine") "__eq__" (He.ma K (He.ga K "Machine") "__eq__") := He.meth_ok (fas_at D.s.more 79 rfl)
theorem me_Machine_states (D : Dt K mg) : Meth K (He.ga K "Machine") "states" (He.ma K (He.ga K "Machine") "states") := He.meth_ok (fas_at D.s.more 80 rfl)
theorem me_Machine_buttons (D : Dt K mg) : Meth K (He.ga K "Machine") "buttons" (He.ma K (He.ga K "Machine") "buttons") := He.meth_ok (fas_at D.s.more 81 rfl)
theorem me_Machine_answers (D : Dt K mg) : Meth K (He.ga K "Machine") "answers" (He.ma K (He.ga K "Machine") "answers") := He.meth_ok (fas_at D.s.more 82 rfl)
theorem na_Machine_start (D : Dt K mg) : NoAttr K (He.ga K "Machine") "start" := He.noat_ok (fas_at D.s.more 83 rfl)
theorem na_Machine_moves (D : Dt K mg) : NoAttr K (He.ga K "Machine") "moves" := He.noat_ok (fas_at D.s.more 84 rfl)
theorem kitV_BadMachine (D : Dt K mg) : PySem.W.kitOne K (.ref (He.ga K "BadMachine")) (.type "ValueError") = some true := of_decide_eq_true (fas_at D.s.more 85 rfl)
theorem kit_BadMachine_TestError (D : Dt K mg) : PySem.W.kitOne K (.ref (He.ga K "BadMachine")) (.ref (He.ga K "TestError")) = some true := of_decide_eq_true (fas_at D.s.more 86 rfl)
theorem exm_BadMachine_TestError (D : Dt K mg) : PySem.W.exmOne K (.ref (He.ga K "BadMachine")) (.ref (He.ga K "TestError")) = some true := of_decide_eq_true (fas_at D.s.more 87 rfl)
theorem kit_BadMachine_BadMachine (D : Dt K mg) : PySem.W.kitOne K (.ref (He.ga K "BadMachine")) (.ref (He.ga K "BadMachine")) = some true := of_decide_eq_true (fas_at D.s.more 88 rfl)
theorem exm_BadMachine_BadMachine (D : Dt K mg) : PySem.W.exmOne K (.ref (He.ga K "BadMachine")) (.ref (He.ga K "BadMachine")) = some true := of_decide_eq_true (fas_at D.s.more 89 rfl)
theorem kit_BadMachine_BadRatio (D : Dt K mg) : PySem.W.kitOne K (.ref (He.ga K "BadMachine")) (.ref (He.ga K "BadRatio")) = some false := of_decide_eq_true (fas_at D.s.more 90 rfl)
theorem exm_BadMachine_BadRatio (D : Dt K mg) : PySem.W.exmOne K (.ref (He.ga K "BadMachine")) (.ref (He.ga K "BadRatio")) = some false := of_decide_eq_true (fas_at D.s.more 91 rfl)
theorem kitV_BadRatio (D : Dt K mg) : PySem.W.kitOne K (.ref (He.ga K "BadRatio")) (.type "ValueError") = some true := of_decide_eq_true (fas_at D.s.more 92 rfl)
theorem kit_BadRatio_TestError (D : Dt K mg) : PySem.W.kitOne K (.ref (He.ga K "BadRatio")) (.ref (He.ga K "TestError")) = some true := of_decide_eq_true (fas_at D.s.more 93 rfl)
theorem exm_BadRatio_TestError (D : Dt K mg) : PySem.W.exmOne K (.ref (He.ga K "BadRatio")) (.ref (He.ga K "TestError")) = some true := of_decide_eq_true (fas_at D.s.more 94 rfl)
theorem kit_BadRatio_BadMachine (D : Dt K mg) : PySem.W.kitOne K (.ref (He.ga K "BadRatio")) (.ref (He.ga K "BadMachine")) = some false := of_decide_eq_true (fas_at D.s.more 95 rfl)
theorem exm_BadRatio_BadMachine (D : Dt K mg) : PySem.W.exmOne K (.ref (He.ga K "BadRatio")) (.ref (He.ga K "BadMachine")) = some false := of_decide_eq_true (fas_at D.s.more 96 rfl)
theorem kit_BadRatio_BadRatio (D : Dt K mg) : PySem.W.kitOne K (.ref (He.ga K "BadRatio")) (.ref (He.ga K "BadRatio")) = some true := of_decide_eq_true (fas_at D.s.more 97 rfl)
theorem exm_BadRatio_BadRatio (D : Dt K mg) : PySem.W.exmOne K (.ref (He.ga K "BadRatio")) (.ref (He.ga K "BadRatio")) = some true := of_decide_eq_true (fas_at D.s.more 98 rfl)
theorem fd__wall (D : Dt K mg) : ∃ fd, FnP K "_wall" "_wall" s__wall [] (He.ga K "_wall") fd := D.s.get 0 (d := d__wall) rfl
theorem fd__digits (D : Dt K mg) : ∃ fd, FnP K "_digits" "_digits" s__digits [] (He.ga K "_digits") fd := D.s.get 1 (d := d__digits) rfl
theorem fd_total (D : Dt K mg) : ∃ fd, FnP K "total" "total" s_total [] (He.ga K "total") fd := D.s.get 2 (d := d_total) rfl
theorem fd_are_lots (D : Dt K mg) : ∃ fd, FnP K "are_lots" "are_lots" s_are_lots [] (He.ga K "are_lots") fd := D.s.get 3 (d := d_are_lots) rfl
theorem fd__table (D : Dt K mg) : ∃ fd, FnP K "_table" "_table" s__table [] (He.ga K "_table") fd := D.s.get 4 (d := d__table) rfl
theorem fd__fault (D : Dt K mg) : ∃ fd, FnP K "_fault" "_fault" s__fault [] (He.ga K "_fault") fd := D.s.get 5 (d := d__fault) rfl
theorem fd__out_of (D : Dt K mg) : ∃ fd, FnP K "_out_of" "_out_of" s__out_of [] (He.ga K "_out_of") fd := D.s.get 6 (d := d__out_of) rfl
theorem fd__is_square (D : Dt K mg) : ∃ fd, FnP K "_is_square" "_is_square" s__is_square [] (He.ga K "_is_square") fd := D.s.get 7 (d := d__is_square) rfl
theorem fd__leads_on (D : Dt K mg) : ∃ fd, FnP K "_leads_on" "_leads_on" s__leads_on [] (He.ga K "_leads_on") fd := D.s.get 8 (d := d__leads_on) rfl
theorem fd_moved (D : Dt K mg) : ∃ fd, FnP K "moved" "moved" s_moved [] (He.ga K "moved") fd := D.s.get 9 (d := d_moved) rfl
theorem fd_chance (D : Dt K mg) : ∃ fd, FnP K "chance" "chance" s_chance [] (He.ga K "chance") fd := D.s.get 10 (d := d_chance) rfl
theorem fd__law_pool (D : Dt K mg) : ∃ fd, FnP K "_law_pool" "_law_pool" s__law_pool [] (He.ga K "_law_pool") fd := D.s.get 11 (d := d__law_pool) rfl
theorem fd__law_draw (D : Dt K mg) : ∃ fd, FnP K "_law_draw" "_law_draw" s__law_draw [] (He.ga K "_law_draw") fd := D.s.get 12 (d := d__law_draw) rfl
theorem fd__law_same (D : Dt K mg) : ∃ fd, FnP K "_law_same" "_law_same" s__law_same [] (He.ga K "_law_same") fd := D.s.get 13 (d := d__law_same) rfl
theorem fd__law_less (D : Dt K mg) : ∃ fd, FnP K "_law_less" "_law_less" s__law_less [] (He.ga K "_law_less") fd := D.s.get 14 (d := d__law_less) rfl
theorem fd__law_plus (D : Dt K mg) : ∃ fd, FnP K "_law_plus" "_law_plus" s__law_plus [] (He.ga K "_law_plus") fd := D.s.get 15 (d := d__law_plus) rfl
theorem fd__law_times (D : Dt K mg) : ∃ fd, FnP K "_law_times" "_law_times" s__law_times [] (He.ga K "_law_times") fd := D.s.get 16 (d := d__law_times) rfl
theorem fd__law_sum (D : Dt K mg) : ∃ fd, FnP K "_law_sum" "_law_sum" s__law_sum [] (He.ga K "_law_sum") fd := D.s.get 17 (d := d__law_sum) rfl
theorem fd__law_is (D : Dt K mg) : ∃ fd, FnP K "_law_is" "_law_is" s__law_is [] (He.ga K "_law_is") fd := D.s.get 18 (d := d__law_is) rfl
theorem fd__law_cells (D : Dt K mg) : ∃ fd, FnP K "_law_cells" "_law_cells" s__law_cells [] (He.ga K "_law_cells") fd := D.s.get 19 (d := d__law_cells) rfl
theorem fd__law_machine (D : Dt K mg) : ∃ fd, FnP K "_law_machine" "_law_machine" s__law_machine [] (He.ga K "_law_machine") fd := D.s.get 20 (d := d__law_machine) rfl
theorem fd__law_made (D : Dt K mg) : ∃ fd, FnP K "_law_made" "_law_made" s__law_made [] (He.ga K "_law_made") fd := D.s.get 21 (d := d__law_made) rfl
theorem fd__law_through (D : Dt K mg) : ∃ fd, FnP K "_law_through" "_law_through" s__law_through [] (He.ga K "_law_through") fd := D.s.get 22 (d := d__law_through) rfl
theorem fd__law_single (D : Dt K mg) : ∃ fd, FnP K "_law_single" "_law_single" s__law_single [] (He.ga K "_law_single") fd := D.s.get 23 (d := d__law_single) rfl
theorem fd_law (D : Dt K mg) : ∃ fd, FnP K "law" "law" s_law [] (He.ga K "law") fd := D.s.get 24 (d := d_law) rfl
theorem fd_BadMachine_init (D : Dt K mg) : ∃ fd, FnP K "__init__" "BadMachine.__init__" s_BadMachine_init [] (He.ma K (He.ga K "BadMachine") "__init__") fd := D.s.get 25 (d := d_BadMachine_init) rfl
theorem fd_Ratio_init (D : Dt K mg) : ∃ fd, FnP K "__init__" "Ratio.__init__" s_Ratio_init [V.int 1] (He.ma K (He.ga K "Ratio") "__init__") fd := D.s.get 26 (d := d_Ratio_init) rfl
theorem fd_Ratio_add (D : Dt K mg) : ∃ fd, FnP K "__add__" "Ratio.__add__" s_Ratio_add [] (He.ma K (He.ga K "Ratio") "__add__") fd := D.s.get 27 (d := d_Ratio_add) rfl
theorem fd_Ratio_sub (D : Dt K mg) : ∃ fd, FnP K "__sub__" "Ratio.__sub__" s_Ratio_sub [] (He.ma K (He.ga K "Ratio") "__sub__") fd := D.s.get 28 (d := d_Ratio_sub) rfl
theorem fd_Ratio_mul (D : Dt K mg) : ∃ fd, FnP K "__mul__" "Ratio.__mul__" s_Ratio_mul [] (He.ma K (He.ga K "Ratio") "__mul__") fd := D.s.get 29 (d := d_Ratio_mul) rfl
theorem fd_Ratio_eq (D : Dt K mg) : ∃ fd, FnP K "__eq__" "Ratio.__eq__" s_Ratio_eq [] (He.ma K (He.ga K "Ratio") "__eq__") fd := D.s.get 30 (d := d_Ratio_eq) rfl
theorem fd_Ratio_str (D : Dt K mg) : ∃ fd, FnP K "__str__" "Ratio.__str__" s_Ratio_str [] (He.ma K (He.ga K "Ratio") "__str__") fd := D.s.get 31 (d := d_Ratio_str) rfl
theorem fd_Ratio_less (D : Dt K mg) : ∃ fd, FnP K "less" "Ratio.less" s_Ratio_less [] (He.ma K (He.ga K "Ratio") "less") fd := D.s.get 32 (d := d_Ratio_less) rfl
theorem fd_Ratio_by (D : Dt K mg) : ∃ fd, FnP K "by" "Ratio.by" s_Ratio_by [] (He.ma K (He.ga K "Ratio") "by") fd := D.s.get 33 (d := d_Ratio_by) rfl
theorem fd_Machine_init (D : Dt K mg) : ∃ fd, FnP K "__init__" "Machine.__init__" s_Machine_init [] (He.ma K (He.ga K "Machine") "__init__") fd := D.s.get 34 (d := d_Machine_init) rfl
theorem fd_Machine_eq (D : Dt K mg) : ∃ fd, FnP K "__eq__" "Machine.__eq__" s_Machine_eq [] (He.ma K (He.ga K "Machine") "__eq__") fd := D.s.get 35 (d := d_Machine_eq) rfl
theorem fd_Machine_states (D : Dt K mg) : ∃ fd, FnP K "states" "Machine.states" s_Machine_states [] (He.ma K (He.ga K "Machine") "states") fd := D.s.get 36 (d := d_Machine_states) rfl
theorem fd_Machine_buttons (D : Dt K mg) : ∃ fd, FnP K "buttons" "Machine.buttons" s_Machine_buttons [] (He.ma K (He.ga K "Machine") "buttons") fd := D.s.get 37 (d := d_Machine_buttons) rfl
theorem fd_Machine_answers (D : Dt K mg) : ∃ fd, FnP K "answers" "Machine.answers" s_Machine_answers [] (He.ma K (He.ga K "Machine") "answers") fd := D.s.get 38 (d := d_Machine_answers) rfl
end
abbrev R : PySem.W.OpenRow := PySem.W.OpenLaw.row PySem.Challenge.rw_notesttells_k02_chances_of_ways
abbrev hk : PySem.W.Hook := hookY 4 ex fn
def ob (s : PySem.W.SharedT) : He.AlD := obsYG 4 ex fn (HandSHeadRun.getT s)
theorem ob_eq (s : PySem.W.SharedT) : ob s = hk.obs s.abs := obsYG_eq (HandSHeadRun.getT_eq s)
def loose0 : List Str := ["_wall", "__name__", "TestError", "BadMachine", "BadRatio", "PART_END", "_digits", "Ratio", "total", "are_lots", "MOST_STATES", "MOST_BUTTONS", "MOST_ANSWERS", "Machine", "_table", "_fault", "_out_of", "_is_square", "_leads_on", "moved"]
def loose1 : List Str := ["chance", "_law_pool", "_law_draw", "_law_same", "_law_less", "_law_plus", "_law_times", "_law_sum", "_law_is", "_law_cells", "_law_machine", "_law_made", "_law_through", "_law_single"]
def loose : List Str := loose0 ++ loose1
abbrev vw : Program := PySem.W.view R.prog [0, 38]
theorem run (w : World) : HandSHeadRun.RunEqI R vw hk ob 20000 loose w := by
  unfold HandSHeadRun.RunEqI
  kernel_rfl
end Hd


set_option Elab.async false
set_option linter.all false
set_option maxRecDepth 100000
set_option maxHeartbeats 4000000
namespace K
open PySem PySem.Spec PyProof.Rows L2 Tk Hd Mt
/-! ### a fraction as it stands -/
theorem nd_ : ¬ (("num" : Str) = "den") := by decide +kernel
def rf (q : Rat) : List (Str × V) := putF "den" (.int q.den) (putF "num" (.int q.num) [])
theorem rf_num (q : Rat) : (rf q).lookup ("num" : Str) = some (.int q.num) := by
  unfold rf; rw [lookup_putF, if_neg nd_, lookup_putF, if_pos rfl]
theorem rf_den (q : Rat) : (rf q).lookup ("den" : Str) = some (.int q.den) := by
  unfold rf; rw [lookup_putF, if_pos rfl]
theorem rf_no (q : Rat) {m : Str} (h1 : ¬ m = "den") (h2 : ¬ m = "num") : (rf q).lookup m = none := by
  unfold rf; rw [lookup_putF, if_neg h1, lookup_putF, if_neg h2]; rfl
abbrev CR (K : PySem.W.Frag) : Addr := He.ga K "Ratio"
abbrev CB (K : PySem.W.Frag) : Addr := He.ga K "BadRatio"
def iR (C : Addr) : Rp Rat := fun H v q => ∃ a dx, v = .ref a ∧ H a = some (.ins C dx (rf q))
instance {C : Addr} : Mono (iR C) := ⟨fun s ⟨a, dx, e, h⟩ => ⟨a, dx, e, s _ _ h⟩⟩
/-- numbers that // still takes -/
def Sm (i : Int) : Prop := i.natAbs < 2 ^ 2000
theorem Sm.div {n d : Int} (h : 0 < d) (hd : Sm d) : CDivW n (gz n d) :=
  wide_div (gz_pos h) (Nat.lt_of_le_of_lt (by have := gz_le (n := n) h; have := gz_pos (n := n) h; omega) hd) (by decide) (by decide)
theorem Sm.mul {a b : Int} (ha : Sm a) (hb : Sm b) : CMulW a b := wide_mul ha hb (by decide) (by decide) (by decide)
theorem sm_of {i : Int} (h1 : -(2 ^ 1999) < i) (h2 : i < 2 ^ 1999) : Sm i := by
  have : i.natAbs < 2 ^ 1999 := by omega
  exact Nat.lt_trans this (Nat.pow_lt_pow_right (by decide) (by decide))

/-- Ratio.__init__ -/
def spInit (C B : Addr) : Sp := fun vs H Q E => ∃ (x dx : Addr) (n d : Int), vs = [.ref x, .int n, .int d] ∧ H x = some (.ins C dx []) ∧ Sm d ∧
  (0 < d → Q .non (upd H x (.ins C dx (rf (rt n d))))) ∧ (d ≤ 0 → E (.ref B) none H)
section
variable {P : Program} {w : World} {K : PySem.W.Frag} {mg : Str → Option Value} {base : Heap}
theorem sc_init : FnScope ["self", "num", "den", "common"] ["self", "num", "den"] (defScope s_Ratio_init) := ⟨rfl, rfl, rfl, by decide +kernel, rfl, by decide +kernel, by decide +kernel⟩
theorem ok_init (D : Dt K mg) {fd : FuncData} (F : FnP K "__init__" "Ratio.__init__" s_Ratio_init [.int 1] (He.ma K (CR K) "__init__") fd) :
    FnOk P w K mg base (L2.CX P w) 1 (He.ma K (CR K) "__init__") fd ["self", "num", "den"] (spInit (CR K) (CB K)) := by
  refine F.ok sc_init (fun vs H Q E h => ?_) (fun cdv A outer s H vs Q E hr h => ?_)
  · obtain ⟨x, dx, n, d, rfl, _⟩ := h; rfl
  · obtain ⟨x, dx, n, d, rfl, hx, hd, k1, k2⟩ := h
    obtain ⟨xP, kP, bP, tP⟩ := exc_BadRatio D
    refine ⟨_, pss_cons (ps_if (pt_cmpR op_le (pv 2) pe_int (nomark _)) (pss_one (ps_raise rfl (takes_of rfl rfl rfl rfl) (pmk_own PySem.F.excBase_ValueError xP (glo_BadRatio D) kP (raises_own bP tP) rfl))) pss_nil)
      (pss_cons (ps_set (i := 3) sc_init.nd rfl (Or.inl rfl) (pe_callBfun cr_gcd rfl (blt_gcd D) (pa_cons (pv 1) (pa_cons (pv 2) pa_nil))))
      (pss_cons (ps_fld (pv 0) (pe_op op_fdivW (pv 1) (pv 3)) rfl) (pss_one (ps_fld (pv 0) (pe_op op_fdivW (pv 2) (pv 3)) rfl)))), ?_⟩
    refine ⟨_, rfl, _, _, rfl, rfl, _, rfl, ifD (fun hle => ?_) (fun hgt => ?_)⟩
    · exact k2 hle
    · have h0 : 0 < d := by omega
      refine ⟨_, rfl, _, rfl, n, d, rfl, ?_⟩
      refine ⟨_, rfl, _, rfl, _, _, rfl, rfl, Sm.div h0 hd, _, rfl, x, _, dx, _, rfl, hx, cls_Ratio D, na_Ratio_num D, (by show 0 < 1000; decide), ?_⟩
      refine ⟨_, rfl, _, rfl, _, _, rfl, rfl, Sm.div h0 hd, _, rfl, x, _, dx, _, rfl, upd_same, cls_Ratio D, na_Ratio_den D, (by show 1 < 1000; decide), ?_⟩
      have e1 := rt_num (n := n) h0
      have e2 := rt_den (n := n) h0
      have e3 : putF "den" (V.int (d / gz n d)) (putF "num" (V.int (n / gz n d)) []) = rf (rt n d) := by rw [← e1, ← e2]; rfl
      rw [upd_upd]
      have := k1 h0
      rw [← e3] at this
      exact this
theorem has_init (D : Dt K mg) : Has P w K mg base 1 (He.ma K (CR K) "__init__") ["self", "num", "den"] [] (spInit (CR K) (CB K)) := by
  obtain ⟨fd, F⟩ := fd_Ratio_init D
  obtain ⟨ds, h1, h2⟩ := FunD.binds1 (ps := ["self", "num", "den"]) F 3 1 (by simp) rfl (fun T kV doc pm an cdv ct us its hu hi => match us, hu, its, hi with | [_, _, _], _, [_], _ => ⟨_, rfl, rfl⟩)
  exact ⟨F.kp, fd, ds, h1, h2, ok_init D F⟩
theorem has_init1 (D : Dt K mg) : Has P w K mg base 1 (He.ma K (CR K) "__init__") ["self", "num", "den"] [.int 1] (spInit (CR K) (CB K)) := by
  obtain ⟨fd, F⟩ := fd_Ratio_init D
  obtain ⟨ds, h1, h2⟩ := FunD.binds1 (ps := ["self", "num", "den"]) F 2 0 (by simp) rfl (fun T kV doc pm an cdv ct us its hu hi => match us, hu, its, hi with | [_, _], _, [_], _ => ⟨_, rfl, rfl⟩)
  exact ⟨F.kp, fd, ds, h1, h2, ok_init D F⟩
end
end K

set_option Elab.async false
set_option linter.all false
set_option maxRecDepth 100000
set_option maxHeartbeats 4000000
set_option exponentiation.threshold 5000
namespace K
open PySem PySem.Spec PyProof.Rows L2 Tk Hd Mt
/-- what is wanted of a def that hands back an x and leaves all else -/
def Ret {α : Type} (ms : List Addr) (I H : Hp) (R : Rp α) (x : α) (Q : VK) : Prop := ∀ I' H' v, Gr ms I H I' H' → R I' v x → Q v H'
theorem upd3 {H : Hp} {x : Addr} {a b c : HO} : upd (upd (upd H x a) x b) x c = upd H x c := by rw [upd_upd, upd_upd]
theorem rat_new {ms : List Addr} {I H : Hp} {x dx C : Addr} {q : Rat} (s : Same I H) (nx : H x = none) (nd : H dx = none) (ne : dx ≠ x) :
    Gr ms I H (upd (upd I dx (.own x)) x (.ins C dx (rf q))) (upd (upd (upd H dx (.own x)) x (.ins C dx [])) x (.ins C dx (rf q))) ∧ iR C (upd (upd I dx (.own x)) x (.ins C dx (rf q))) (.ref x) q := by
  rw [upd_upd]
  refine ⟨(Gr.new s nd).trans (Gr.new (sBoth s) ?_), x, dx, rfl, upd_same⟩
  rw [upd_ne (Ne.symm ne)]; exact nx
def Fit (q : Rat) : Prop := q.num.natAbs < 2 ^ 900 ∧ q.den < 2 ^ 900
theorem fit_lt {a b : Int} {m n k : Nat} (ha : a.natAbs < 2 ^ m) (hb : b.natAbs < 2 ^ n) (h : m + n ≤ k) : (a * b).natAbs < 2 ^ k :=
  Nat.lt_of_lt_of_le (wide_lt ha hb) (Nat.pow_le_pow_right (by decide) h)
theorem Fit.mul_n {p q : Rat} (hp : Fit p) (hq : Fit q) : CMulW p.num q.den := wide_mul hp.1 (show (q.den : Int).natAbs < 2 ^ 900 from hq.2) (by decide) (by decide) (by decide)
theorem Fit.mul_d {p q : Rat} (hp : Fit p) (hq : Fit q) : CMulW p.den q.den := wide_mul (show (p.den : Int).natAbs < 2 ^ 900 from hp.2) (show (q.den : Int).natAbs < 2 ^ 900 from hq.2) (by decide) (by decide) (by decide)
theorem Fit.mul_nn {p q : Rat} (hp : Fit p) (hq : Fit q) : CMulW p.num q.num := wide_mul hp.1 hq.1 (by decide) (by decide) (by decide)
theorem Fit.sm_dd {p q : Rat} (hp : Fit p) (hq : Fit q) : Sm ((p.den : Int) * q.den) := fit_lt (m := 900) (n := 900) (show (p.den : Int).natAbs < 2 ^ 900 from hp.2) (show (q.den : Int).natAbs < 2 ^ 900 from hq.2) (by decide)
theorem dd_pos (p q : Rat) : 0 < (p.den : Int) * q.den := Int.mul_pos (den_pos p) (den_pos q)
theorem rt_add (p q : Rat) : rt (p.num * q.den + q.num * p.den) (p.den * q.den) = p + q := by
  have h1 : (p.den : Int) ≠ 0 := by have := den_pos p; omega
  have h2 : (q.den : Int) ≠ 0 := by have := den_pos q; omega
  unfold rt
  rw [← Rat.divInt_add_divInt _ _ h1 h2, Rat.num_divInt_den, Rat.num_divInt_den]
theorem rt_sub (p q : Rat) : rt (p.num * q.den - q.num * p.den) (p.den * q.den) = p - q := by
  have h1 : (p.den : Int) ≠ 0 := by have := den_pos p; omega
  have h2 : (q.den : Int) ≠ 0 := by have := den_pos q; omega
  have e : p - q = rt p.num p.den + rt (-q.num) q.den := by
    rw [rt_self, show rt (-q.num) q.den = -q from by rw [show rt (-q.num) q.den = -(rt q.num q.den) from by unfold rt; rw [Rat.neg_divInt], rt_self]]
    exact Rat.sub_eq_add_neg p q
  rw [e]; unfold rt
  rw [Rat.divInt_add_divInt _ _ h1 h2]
  congr 1
  rw [Int.neg_mul]; omega
theorem rt_mul (p q : Rat) : rt (p.num * q.num) (p.den * q.den) = p * q := by
  unfold rt
  rw [← Rat.divInt_mul_divInt, Rat.num_divInt_den, Rat.num_divInt_den]

section
variable {P : Program} {w : World} {K : PySem.W.Frag} {mg : Str → Option Value} {base : Heap}
/-- an operator that makes a new fraction of two -/
def spBin (C : Addr) (g : Rat → Rat → Rat) : Sp := fun vs H Q _ => ∃ (I : Hp) (a b : V) (p q : Rat), vs = [a, b] ∧ Same I H ∧ iR C I a p ∧ iR C I b q ∧ Fit p ∧ Fit q ∧ Ret [] I H (iR C) (g p q) Q
theorem bin2 {f : Addr} {fd : FuncData} {st : Stmt} {x qual : Str} (F : FnP K x qual st [] f fd)
    (h : ∀ (kV doc pm : Value) (an : Option Addr) (cdv ct : Value) (us : List Value), us.length = 2 → bindArgs (PySem.W.fnOf x qual (defArgs st) (defBody st) (defScope st) .none kV doc pm an cdv ct) ⟨us, []⟩ = pure ((["self", "other"] : List Str).zip us)) : Binds K fd ["self", "other"] [] := FunD.bindsN F h
theorem sc_add : FnScope ["self", "other"] ["self", "other"] (defScope s_Ratio_add) := ⟨rfl, rfl, rfl, by decide +kernel, rfl, by decide +kernel, by decide +kernel⟩
theorem ok_add (D : Dt K mg) : Has P w K mg base 3 (He.ma K (CR K) "__add__") ["self", "other"] [] (spBin (CR K) (· + ·)) := by
  obtain ⟨fd, F⟩ := fd_Ratio_add D
  have H_Ratio_init := has_init (P := P) (w := w) (base := base) D
  refine hasN F (F.bindsN fun _ _ _ _ _ _ us hl => match us, hl with | [_, _], _ => rfl) sc_add (fun vs H Q E h => ?_) (fun cdv A outer s H vs Q E hr h => ?_)
  · obtain ⟨I, a, b, p, q, rfl, _⟩ := h; rfl
  · obtain ⟨I, va, vb, p, q, rfl, s0, ⟨a, dx, rfl, ha⟩, ⟨b, dy, rfl, hb⟩, fp, fq, k⟩ := h
    have ha' := s0 _ _ ha
    have hb' := s0 _ _ hb
    refine ⟨_, (pss_one (ps_ret (pe_makeH (mkr_Ratio D) H_Ratio_init (hr.mono (by decide)) rfl (glo_Ratio D) passL (pa_cons (pe_op op_add (pe_op op_mulW (pe_fld (pv 0) rfl) (pe_fld (pv 1) rfl)) (pe_op op_mulW (pe_fld (pv 1) rfl) (pe_fld (pv 0) rfl))) (pa_cons (pe_op op_mulW (pe_fld (pv 0) rfl) (pe_fld (pv 1) rfl)) pa_nil))))), ?_⟩
    refine ⟨_, rfl, _, _, _, _, _, rfl, ha', cls_Ratio D, na_Ratio_num D, rf_num p, _, rfl, _, _, _, _, _, rfl, hb', cls_Ratio D, na_Ratio_den D, rf_den q, _, _, rfl, rfl, fp.mul_n fq, _, rfl, _, _, _, _, _, rfl, hb', cls_Ratio D, na_Ratio_num D, rf_num q, _, rfl, _, _, _, _, _, rfl, ha', cls_Ratio D, na_Ratio_den D, rf_den p, _, _, rfl, rfl, fq.mul_n fp, _, _, rfl, rfl, ?_⟩
    refine ⟨_, rfl, _, _, _, _, _, rfl, ha', cls_Ratio D, na_Ratio_den D, rf_den p, _, rfl, _, _, _, _, _, rfl, hb', cls_Ratio D, na_Ratio_den D, rf_den q, _, _, rfl, rfl, fp.mul_d fq, fun x dx nx nd ne => ?_⟩
    refine ⟨x, dx, _, _, rfl, upd_same, fp.sm_dd fq, fun _ => ⟨rfl, ?_⟩, fun hle => absurd (dd_pos p q) (by omega)⟩
    obtain ⟨g, r⟩ := rat_new (ms := []) (q := rt (p.num * q.den + q.num * p.den) (p.den * q.den)) s0 nx nd ne
    rw [rt_add] at r g
    rw [rt_add]
    exact k _ _ _ g r
theorem sc_mul : FnScope ["self", "other"] ["self", "other"] (defScope s_Ratio_mul) := ⟨rfl, rfl, rfl, by decide +kernel, rfl, by decide +kernel, by decide +kernel⟩
theorem ok_mul (D : Dt K mg) : Has P w K mg base 3 (He.ma K (CR K) "__mul__") ["self", "other"] [] (spBin (CR K) (· * ·)) := by
  obtain ⟨fd, F⟩ := fd_Ratio_mul D
  have H_Ratio_init := has_init (P := P) (w := w) (base := base) D
  refine hasN F (F.bindsN fun _ _ _ _ _ _ us hl => match us, hl with | [_, _], _ => rfl) sc_mul (fun vs H Q E h => ?_) (fun cdv A outer s H vs Q E hr h => ?_)
  · obtain ⟨I, a, b, p, q, rfl, _⟩ := h; rfl
  · obtain ⟨I, va, vb, p, q, rfl, s0, ⟨a, dx, rfl, ha⟩, ⟨b, dy, rfl, hb⟩, fp, fq, k⟩ := h
    have ha' := s0 _ _ ha
    have hb' := s0 _ _ hb
    refine ⟨_, (pss_one (ps_ret (pe_makeH (mkr_Ratio D) H_Ratio_init (hr.mono (by decide)) rfl (glo_Ratio D) passL (pa_cons (pe_op op_mulW (pe_fld (pv 0) rfl) (pe_fld (pv 1) rfl)) (pa_cons (pe_op op_mulW (pe_fld (pv 0) rfl) (pe_fld (pv 1) rfl)) pa_nil))))), ?_⟩
    refine ⟨_, rfl, _, _, _, _, _, rfl, ha', cls_Ratio D, na_Ratio_num D, rf_num p, _, rfl, _, _, _, _, _, rfl, hb', cls_Ratio D, na_Ratio_num D, rf_num q, _, _, rfl, rfl, fp.mul_nn fq, _, rfl, _, _, _, _, _, rfl, ha', cls_Ratio D, na_Ratio_den D, rf_den p, _, rfl, _, _, _, _, _, rfl, hb', cls_Ratio D, na_Ratio_den D, rf_den q, _, _, rfl, rfl, fp.mul_d fq, fun x dx nx nd ne => ?_⟩
    refine ⟨x, dx, _, _, rfl, upd_same, fp.sm_dd fq, fun _ => ⟨rfl, ?_⟩, fun hle => absurd (dd_pos p q) (by omega)⟩
    obtain ⟨g, r⟩ := rat_new (ms := []) (q := rt (p.num * q.num) (p.den * q.den)) s0 nx nd ne
    rw [rt_mul] at r g
    rw [rt_mul]
    exact k _ _ _ g r
end
end K

set_option Elab.async false
set_option linter.all false
set_option maxRecDepth 100000
set_option maxHeartbeats 4000000
set_option exponentiation.threshold 5000
namespace K
open PySem PySem.Spec PyProof.Rows L2 Tk Hd Mt
theorem rt_div_pos (p q : Rat) : rt (p.num * q.den) (q.num * p.den) = p / q := by
  unfold rt
  rw [Rat.div_def, Rat.inv_def, Int.mul_comm q.num]
  rw [← Rat.divInt_mul_divInt, Rat.num_divInt_den]
theorem rt_div_neg (p q : Rat) : rt (-p.num * q.den) (-q.num * p.den) = p / q := by
  rw [← rt_div_pos]; unfold rt
  rw [Int.neg_mul, Int.neg_mul, Rat.neg_divInt_neg]
theorem kit_self {K : PySem.W.Frag} {t : Value} : PySem.W.kitOne K t t = some true := by
  unfold PySem.W.kitOne; rw [if_pos (by simp)]
theorem str_app (a b : String) : (PySem.Str.ofString (a ++ b)) = PySem.Str.ofString a ++ PySem.Str.ofString b := by
  rw [PySem.Str.ofString_eq_toList, PySem.Str.ofString_eq_toList, PySem.Str.ofString_eq_toList, String.toList_append, List.map_append]
  show _ = PySem.Str.append _ _
  simp [PySem.Str.append]
theorem empty_app (a : Str) : Str.empty ++ a = a := by
  show PySem.Str.append _ _ = _
  simp [PySem.Str.append, PySem.Str.empty]
/-- str of a fraction -/
def rtext (q : Rat) : Str := if (q.den : Int) > 1 then (PySem.Str.ofString (toString q.num)) ++ ("/" : Str) ++ (PySem.Str.ofString (toString (q.den : Int))) else PySem.Str.ofString (toString q.num)
def Few (i : Int) : Prop := i.natAbs < 10 ^ 64
theorem Few.log {i : Int} (h : Few i) : i.natAbs.log2 < 1920 := by
  by_cases h0 : i.natAbs = 0
  · rw [h0]; decide
  · exact (Nat.log2_lt h0).mpr (Nat.lt_of_lt_of_le h (by decide +kernel))
theorem txt_len {i : Int} (h : Few i) : (PySem.Str.ofString (toString i)).length ≤ 1000 := by
  have e := int_text_length_le10 (a := i) (k := 64) (by decide) h
  rw [PySem.ofString_length]; omega
theorem app_len (a b : Str) : (a ++ b).length = a.length + b.length := by
  show (PySem.Str.append a b).length = _
  simp [PySem.Str.append, PySem.Str.length]
theorem line_of {n : Nat} (h : n ≤ 100000) : n ≤ sizeLine := Nat.le_trans h (by decide)
theorem neg_text {n : Int} (h : n < 0) : Str.empty ++ ("-" : Str) ++ PySem.Str.ofString (toString (-n)) = PySem.Str.ofString (toString n) := by
  rw [toString_neg h, str_app, empty_app, Int.zero_sub]
section
variable {P : Program} {w : World} {K : PySem.W.Frag} {mg : Str → Option Value} {base : Heap}
def spEq (C : Addr) : Sp := fun vs H Q _ => ∃ (I : Hp) (a b : V) (p q : Rat), vs = [a, b] ∧ Same I H ∧ iR C I a p ∧ iR C I b q ∧ Q (.bl (decide (p = q))) H
def spLess (C : Addr) : Sp := fun vs H Q _ => ∃ (I : Hp) (a b : V) (p q : Rat), vs = [a, b] ∧ Same I H ∧ iR C I a p ∧ iR C I b q ∧ Fit p ∧ Fit q ∧ Q (.bl (decide (p < q))) H
def spBy (C B : Addr) : Sp := fun vs H Q E => ∃ (I : Hp) (a b : V) (p q : Rat), vs = [a, b] ∧ Same I H ∧ iR C I a p ∧ iR C I b q ∧ Fit p ∧ Fit q ∧ (q ≠ 0 → Ret [] I H (iR C) (p / q) Q) ∧ (q = 0 → E (.ref B) none H)
def spStr (C : Addr) : Sp := fun vs H Q _ => ∃ (I : Hp) (a : V) (p : Rat), vs = [a] ∧ Same I H ∧ iR C I a p ∧ Few p.num ∧ Few p.den ∧ Q (.str (rtext p)) H
def spDig : Sp := fun vs H Q _ => ∃ n : Int, vs = [.int n] ∧ Few n ∧ Q (.str (PySem.Str.ofString (toString n))) H
theorem sc_eq : FnScope ["self", "other"] ["self", "other"] (defScope s_Ratio_eq) := ⟨rfl, rfl, rfl, by decide +kernel, rfl, by decide +kernel, by decide +kernel⟩
theorem eq_parts (p q : Rat) : (p = q) ↔ (p.num = q.num ∧ (p.den : Int) = q.den) := by
  constructor
  · rintro rfl; exact ⟨rfl, rfl⟩
  · rintro ⟨h1, h2⟩
    exact Rat.ext h1 (by omega)
theorem ok_eq (D : Dt K mg) : Has P w K mg base 1 (He.ma K (CR K) "__eq__") ["self", "other"] [] (spEq (CR K)) := by
  obtain ⟨fd, F⟩ := fd_Ratio_eq D
  refine hasN F (F.bindsN fun _ _ _ _ _ _ us hl => match us, hl with | [_, _], _ => rfl) sc_eq (fun vs H Q E h => ?_) (fun cdv A outer s H vs Q E hr h => ?_)
  · obtain ⟨I, a, b, p, q, rfl, _⟩ := h; rfl
  · obtain ⟨I, va, vb, p, q, rfl, s0, ⟨a, dx, rfl, ha⟩, ⟨b, dy, rfl, hb⟩, k⟩ := h
    have ha' := s0 _ _ ha
    have hb' := s0 _ _ hb
    refine ⟨_, (pss_one (ps_ret (pe_and (pe_callB call_isi rfl (free_isinstance D) (by decide +kernel) (pa_cons (pv 1) (pa_cons (pe_glob (v := .ref (He.ga K "Ratio")) rfl (glo_Ratio D) rfl) pa_nil))) (pe_and (pe_cmpR op_eq (pe_fld (pv 0) rfl) (pe_fld (pv 1) rfl) (nomark _)) (pe_one (pe_cmpR op_eq (pe_fld (pv 0) rfl) (pe_fld (pv 1) rfl) (nomark _))))))), ?_⟩
    refine ⟨_, rfl, _, _, _, _, true, rfl, .own _, (inst_Ratio D).ty (cls_Ratio D) hb', kit_self, _, rfl, iteT ?_⟩
    refine ⟨_, rfl, _, _, _, _, _, rfl, ha', cls_Ratio D, na_Ratio_num D, rf_num p, _, rfl, _, _, _, _, _, rfl, hb', cls_Ratio D, na_Ratio_num D, rf_num q, rfl, _, rfl, ?_⟩
    have e : decide (p = q) = (decide (V.int p.num = V.int q.num) && decide (V.int (p.den : Int) = V.int q.den)) := by
      rw [← Bool.decide_and]; exact decide_eq_decide.mpr (by rw [eq_parts]; simp)
    rw [e] at k
    refine ifB (fun c => ?_) (fun c => ?_)
    · refine ⟨_, rfl, _, _, _, _, _, rfl, ha', cls_Ratio D, na_Ratio_den D, rf_den p, _, rfl, _, _, _, _, _, rfl, hb', cls_Ratio D, na_Ratio_den D, rf_den q, rfl, ?_⟩
      rw [c, Bool.true_and] at k
      exact k
    · rw [c, Bool.false_and] at k
      exact k
end
end K

set_option Elab.async false
set_option linter.all false
set_option maxRecDepth 100000
set_option maxHeartbeats 4000000
set_option exponentiation.threshold 5000
namespace K
open PySem PySem.Spec PyProof.Rows L2 Tk Hd Mt
/-! ### the law's draws -/
def plist (c : Addr) (pos : Nat) (big seed left bud : Int) : List V := [.ref c, .int pos, .int big, .int seed, .int left, .int bud]
def PoolOk (I H : Hp) (p : Addr) : Prop := I p = none ∧ ∃ (c : Addr) (cells : List Int) (pos : Nat) (big seed left bud : Int), I c = some (.lst (cells.map V.int)) ∧ cells.length ≤ 100000 ∧ pos ≤ cells.length ∧ H p = some (.lst (plist c pos big seed left bud))
theorem PoolOk.up {ms : List Addr} {I H I' H' : Hp} {p : Addr} (h : PoolOk I H p) (g : Gr ms I H I' H') (n : p ∉ ms) : PoolOk I' H' p := by
  obtain ⟨i, c, cells, pos, b, s, l, u, h1, h2, h3, h4⟩ := h
  exact ⟨g.out i h4, c, cells, pos, b, s, l, u, g.ii _ _ h1, h2, h3, g.at h4 n⟩
section
variable {P : Program} {w : World} {K : PySem.W.Frag} {mg : Str → Option Value} {base : Heap}
def spPool (K : PySem.W.Frag) : Sp := fun vs H Q _ => ∃ (I : Hp) (a : Addr) (ns : List Int) (b : Int), vs = [.ref a, .int b] ∧ Same I H ∧ SqL K H a (ns.map V.int) ∧ ns.length ≤ 100000 ∧
  ∀ I' H' p, Gr [] I H I' H' → PoolOk I' H' p → H p = none → Q (.ref p) H'
theorem sc_pool : FnScope ["script", "budget"] ["script", "budget"] (defScope s__law_pool) := ⟨rfl, rfl, rfl, by decide +kernel, rfl, by decide +kernel, by decide +kernel⟩
theorem ok_pool (D : Dt K mg) : Has P w K mg base 1 (He.ga K "_law_pool") ["script", "budget"] [] (spPool K) := by
  obtain ⟨fd, F⟩ := fd__law_pool D
  refine hasN F (F.bindsN fun _ _ _ _ _ _ us hl => match us, hl with | [_, _], _ => rfl) sc_pool (fun vs H Q E h => ?_) (fun cdv A outer s H vs Q E hr h => ?_)
  · obtain ⟨I, a, ns, b, rfl, _⟩ := h; rfl
  · obtain ⟨I, a, ns, b, rfl, s0, hS, hl, k⟩ := h
    refine ⟨_, (pss_one (ps_ret (pe_lst (pa_cons (pe_callTy call_list_of rfl (free_list D) (by decide +kernel) (pa_cons (pv 0) pa_nil)) (pa_cons pe_int (pa_cons pe_int (pa_cons pe_int (pa_cons pe_int (pa_cons (pv 1) pa_nil))))))))), ?_⟩
    refine ⟨_, rfl, a, _, rfl, .inl hS, fun c hc => ?_⟩
    refine ⟨_, rfl, (by show 6 ≤ sizeLine; decide), fun p hp => ?_⟩
    have npc : p ≠ c := fun e => by rw [e, upd_same] at hp; cases hp
    have hp0 : H p = none := by rw [upd_ne npc] at hp; exact hp
    have g : Gr [] I H (upd I c (.lst (ns.map V.int))) (upd (upd H c (.lst (ns.map V.int))) p (.lst (plist c 0 0 1 0 b))) := (Gr.new s0 hc).trans (Gr.tmp (sBoth s0) hp)
    exact k _ _ p g ⟨by rw [upd_ne npc]; exact s0.free hp0, c, ns, 0, 0, 1, 0, b, upd_same, hl, Nat.zero_le _, upd_same⟩ hp0
def spDraw : Sp := fun vs H Q _ => ∃ (I : Hp) (p : Addr) (n : Int), vs = [.ref p, .int n] ∧ Same I H ∧ PoolOk I H p ∧ 0 < n ∧ n < 2 ^ 64 ∧
  ∀ (v : Int) H', 0 ≤ v → v < n → Gr [p] I H I H' → PoolOk I H' p → Q (.int v) H'
theorem sc_draw : FnScope ["pool", "size", "cell", "value"] ["pool", "size"] (defScope s__law_draw) := ⟨rfl, rfl, rfl, by decide +kernel, rfl, by decide +kernel, by decide +kernel⟩
theorem mulc {i : Int} {j : Int} (h1 : -(2 ^ 64) < j) (h2 : j < 2 ^ 64) : CMul i j := .inr ⟨h1, h2⟩
theorem ok_draw (D : Dt K mg) : Has P w K mg base 1 (He.ga K "_law_draw") ["pool", "size"] [] spDraw := by
  obtain ⟨fd, F⟩ := fd__law_draw D
  refine hasN F (F.bindsN fun _ _ _ _ _ _ us hl => match us, hl with | [_, _], _ => rfl) sc_draw (fun vs H Q E h => ?_) (fun cdv A outer s H vs Q E hr h => ?_)
  · obtain ⟨I, p, n, rfl, _⟩ := h; rfl
  · obtain ⟨I, p, n, rfl, s0, ⟨hI, c, cells, pos, big, seed, left, bud, hc, hl, hpos, hp⟩, hn0, hn1, k⟩ := h
    refine ⟨_, (pss_cons (ps_if (PW.pt (pw_and (pt_cmpR op_le (pe_ix ix_list (pv 0) pe_int (fun _ _ => rfl)) pe_int (nomark _)) (pw_and (pt_cmpR op_le (pe_ix ix_list (pv 0) pe_int (fun _ _ => rfl)) pe_int (nomark _)) (pw_and1 (pt_cmpR op_lt (pe_ix ix_list (pv 0) pe_int (fun _ _ => rfl)) (pe_callB call_len rfl (free_len D) PySem.boot_len (pa_cons (pe_ix ix_list (pv 0) pe_int (fun _ _ => rfl)) pa_nil)) (nomark _))))))
      (pss_cons (ps_set (i := 2) sc_draw.nd rfl (Or.inl rfl) (pe_ix ix_list (pe_ix ix_list (pv 0) pe_int (fun _ _ => rfl)) (pe_ix ix_list (pv 0) pe_int (fun _ _ => rfl)) (fun _ _ => rfl)))
      (pss_cons (ps_asg (pe_op op_add (pe_ix ix_list (pv 0) pe_int (fun _ _ => rfl)) pe_int) (pg_sub (pv 0) pe_int set_list))
      (pss_cons (ps_asg (pe_op op_mod (pe_callTy call_int1 rfl (free_int D) (by decide +kernel) (pa_cons (pe_op op_add (pe_op op_mul (pe_ix ix_list (pv 0) pe_int (fun _ _ => rfl)) pe_int) (pv 2)) pa_nil)) pe_int) (pg_sub (pv 0) pe_int set_list))
      (pss_cons (ps_asg pe_int (pg_sub (pv 0) pe_int set_list))
      (pss_one (ps_if (pt_cmpR op_ge (pv 2) (pe_op op_pow pe_int pe_int) (nomark _))
      (pss_one (ps_asg (pv 2) (pg_sub (pv 0) pe_int set_list)))
      pss_nil))))))
      pss_nil)
      (pss_cons (ps_if (pt_cmpR op_gt (pe_ix ix_list (pv 0) pe_int (fun _ _ => rfl)) pe_int (nomark _))
      (pss_cons (ps_set (i := 3) sc_draw.nd rfl (Or.inl rfl) (pe_op op_mod (pe_callTy call_int1 rfl (free_int D) (by decide +kernel) (pa_cons (pe_ix ix_list (pv 0) pe_int (fun _ _ => rfl)) pa_nil)) (pv 1)))
      (pss_cons (ps_asg (pe_op op_fdivW (pe_ix ix_list (pv 0) pe_int (fun _ _ => rfl)) (pv 1)) (pg_sub (pv 0) pe_int set_list))
      (pss_cons (ps_asg pe_int (pg_sub (pv 0) pe_int set_list))
      (pss_one (ps_ret (pv 3))))))
      pss_nil)
      (pss_cons (ps_asg (pe_op op_sub (pe_ix ix_list (pv 0) pe_int (fun _ _ => rfl)) pe_int) (pg_sub (pv 0) pe_int set_list))
      (pss_cons (ps_asg (pe_op op_mod (pe_callTy call_int1 rfl (free_int D) (by decide +kernel) (pa_cons (pe_op op_add (pe_op op_mul (pe_ix ix_list (pv 0) pe_int (fun _ _ => rfl)) pe_int) pe_int) pa_nil)) pe_int) (pg_sub (pv 0) pe_int set_list))
      (pss_one (ps_ret (pe_op op_mod (pe_op op_mod (pe_callTy call_int1 rfl (free_int D) (by decide +kernel) (pa_cons (pe_op op_add (pe_op op_mul (pe_ix ix_list (pv 0) pe_int (fun _ _ => rfl)) pe_int) pe_int) pa_nil)) pe_int) (pv 1)))))))), ?_⟩
    refine seq_cut (fun σ' H' => ∃ (v : Option V) (pos' : Nat) (big' seed' left' : Int), σ' = [some (.ref p), some (.int n), v, none] ∧ Gr [p] I H I H' ∧ pos' ≤ cells.length ∧ H' p = some (.lst (plist c pos' big' seed' left' bud))) (fun nx q => ?_) ?_
    · have hc' := s0 _ _ hc
      have stay : nx [some (.ref p), some (.int n), none, none] H := q _ _ ⟨none, pos, big, seed, left, rfl, Gr.refl s0, hpos, hp⟩
      refine ⟨_, rfl, _, _, _, _, rfl, rfl, SqL.of hp, at_of (j := 2) rfl rfl, _, _, rfl, rfl, _, rfl, ifD (fun _ => ?_) (fun _ => iteF stay)⟩
      refine ⟨_, rfl, _, _, _, _, rfl, rfl, SqL.of hp, at_of (j := 4) rfl rfl, _, _, rfl, rfl, _, rfl, ifD (fun _ => ?_) (fun _ => iteF stay)⟩
      refine ⟨_, rfl, _, _, _, _, rfl, rfl, SqL.of hp, at_of (j := 1) rfl rfl, _, rfl, _, _, _, _, rfl, rfl, SqL.of hp, at_of (j := 0) rfl rfl, _, cells.length, rfl, .inl ⟨_, SqL.of hc', by simp⟩, _, _, rfl, rfl, _, rfl, ?_⟩
      refine ifD (fun hlt => ?_) (fun _ => stay)
      have hlt' : pos < cells.length := by omega
      have hcell : (cells.map V.int)[pos]? = some (.int cells[pos]) := by rw [List.getElem?_map, List.getElem?_eq_getElem hlt']; rfl
      refine ⟨_, rfl, _, _, _, _, rfl, rfl, SqL.of hp, at_of (j := 0) rfl rfl, _, rfl, _, _, _, _, rfl, rfl, SqL.of hp, at_of (j := 1) rfl rfl, _, _, _, _, rfl, rfl, SqL.of hc', at_of rfl hcell, ?_⟩
      refine ⟨_, rfl, _, _, _, _, rfl, rfl, SqL.of hp, at_of (j := 1) rfl rfl, _, _, rfl, rfl, _, rfl, _, _, _, _, rfl, rfl, hp, (show ixN _ _ = some 1 from rfl), ?_⟩
      refine ⟨_, rfl, _, _, _, _, rfl, rfl, SqL.of upd_same, at_of (j := 3) rfl rfl, _, _, rfl, rfl, mulc (by decide) (by decide), _, rfl, _, _, rfl, rfl, .inl ⟨_, rfl, _, _, rfl, rfl, (by show (0 : Int) < 2147483647; decide), _, rfl, _, _, _, _, rfl, rfl, upd_same, (show ixN _ _ = some 3 from rfl), ?_⟩⟩
      refine ⟨_, rfl, _, _, _, _, rfl, rfl, upd_same, (show ixN _ _ = some 4 from rfl), ?_⟩
      have hg : ∀ l : List V, Gr [p] I H I (upd H p (.lst l)) := fun l => Gr.mut s0 hI (by simp)
      refine ⟨_, rfl, _, _, rfl, rfl, ⟨by decide, by decide, by decide⟩, _, _, rfl, rfl, _, rfl, ifD (fun _ => ?_) (fun _ => ?_)⟩
      · refine ⟨_, rfl, _, rfl, _, _, _, _, rfl, rfl, upd_same, (show ixN _ _ = some 2 from rfl), ?_⟩
        refine q _ _ ⟨some (.int cells[pos]), pos + 1, cells[pos], (seed * 31 + cells[pos]) % 2147483647, 7, rfl, ?_, by omega, ?_⟩
        · rw [upd_upd, upd_upd, upd_upd]; exact hg _
        · rw [upd_same]; rfl
      · refine q _ _ ⟨some (.int cells[pos]), pos + 1, big, (seed * 31 + cells[pos]) % 2147483647, 7, rfl, ?_, by omega, ?_⟩
        · rw [upd_upd, upd_upd]; exact hg _
        · rw [upd_same]; rfl
    · rintro σ' H' ⟨v, pos, big, seed, left, rfl, g, hpos, hp⟩
      have s1 : Same I H' := g.ih
      refine ⟨_, rfl, _, _, _, _, rfl, rfl, SqL.of hp, at_of (j := 2) rfl rfl, _, _, rfl, rfl, _, rfl, ifD (fun _ => ?_) (fun _ => ?_)⟩
      · refine ⟨_, rfl, _, _, _, _, rfl, rfl, SqL.of hp, at_of (j := 2) rfl rfl, .inl ⟨_, rfl, _, rfl, _, _, rfl, rfl, hn0, ?_⟩⟩
        refine ⟨_, rfl, _, _, _, _, rfl, rfl, SqL.of hp, at_of (j := 2) rfl rfl, _, rfl, _, _, rfl, rfl, wide_div hn0 (b := 64) (by omega) (by decide) (by decide), _, rfl, _, _, _, _, rfl, rfl, hp, (show ixN _ _ = some 2 from rfl), ?_⟩
        refine ⟨_, rfl, _, _, _, _, rfl, rfl, upd_same, (show ixN _ _ = some 4 from rfl), _, rfl, ?_⟩
        have hm := Int.emod_nonneg big (by omega : n ≠ 0)
        have hm2 := Int.emod_lt_of_pos big hn0
        rw [upd_upd]
        exact k _ _ hm hm2 (g.trans (Gr.mut s1 hI (by simp))) ⟨hI, c, cells, pos, big / n, seed, 0, bud, hc, hl, hpos, upd_same⟩
      · refine ⟨_, rfl, _, _, _, _, rfl, rfl, SqL.of hp, at_of (j := 4) rfl rfl, _, _, rfl, rfl, _, rfl, _, _, _, _, rfl, rfl, hp, (show ixN _ _ = some 4 from rfl), ?_⟩
        refine ⟨_, rfl, _, _, _, _, rfl, rfl, SqL.of upd_same, at_of (j := 3) rfl rfl, _, _, rfl, rfl, mulc (by decide) (by decide), _, _, rfl, rfl, .inl ⟨_, rfl, _, _, rfl, rfl, (by show (0 : Int) < 2147483647; decide), _, rfl, _, _, _, _, rfl, rfl, upd_same, (show ixN _ _ = some 3 from rfl), ?_⟩⟩
        refine ⟨_, rfl, _, _, _, _, rfl, rfl, SqL.of upd_same, at_of (j := 3) rfl rfl, _, _, rfl, rfl, mulc (by decide) (by decide), _, _, rfl, rfl, .inl ⟨_, rfl, _, _, rfl, rfl, (by show (0 : Int) < 2147483647; decide), _, rfl, _, _, rfl, rfl, hn0, ?_⟩⟩
        rw [upd_upd]
        exact k _ _ (Int.emod_nonneg _ (by omega)) (Int.emod_lt_of_pos _ hn0) (g.trans (Gr.mut s1 hI (by simp))) ⟨hI, c, cells, pos, big, _, left - 1, bud, hc, hl, hpos, upd_same⟩
/-! ### the law's own fractions -/
def iQ : Rp Rat := fun H v q => ∃ a, v = .ref a ∧ H a = some (.tup [.int q.num, .int q.den])
instance : Mono iQ := ⟨fun s ⟨a, e, h⟩ => ⟨a, e, s _ _ h⟩⟩
def spLs : Sp := fun vs H Q _ => ∃ (I : Hp) (n d : Int), vs = [.int n, .int d] ∧ Same I H ∧ 0 < d ∧ d < 2 ^ 1999 ∧ Ret [] I H iQ (rt n d) Q
theorem sc_less_ : FnScope ["num", "den", "a", "b", "k"] ["num", "den"] (defScope s__law_less) := ⟨rfl, rfl, rfl, by decide +kernel, rfl, by decide +kernel, by decide +kernel⟩
theorem ok_ls (D : Dt K mg) : Has P w K mg base 1 (He.ga K "_law_less") ["num", "den"] [] spLs := by
  obtain ⟨fd, F⟩ := fd__law_less D
  refine hasN F (F.bindsN fun _ _ _ _ _ _ us hl => match us, hl with | [_, _], _ => rfl) sc_less_ (fun vs H Q E h => ?_) (fun cdv A outer s H vs Q E hr h => ?_)
  · obtain ⟨I, n, d, rfl, _⟩ := h; rfl
  · obtain ⟨I, n, d, rfl, s0, hd, hd2, k⟩ := h
    refine ⟨_, (pss_cons (ps_set (i := 2) sc_less_.nd rfl (Or.inl rfl) (pe_callB call_abs rfl (free_abs D) (by decide +kernel) (pa_cons (pv 0) pa_nil)))
      (pss_cons (ps_set (i := 3) sc_less_.nd rfl (Or.inl rfl) (pv 1))
      (pss_cons (ps_for PassesOwn.never rfl (pi_range1 rfl (free_range D) (pa_cons pe_int pa_nil)) (pg_name (i := 4) sc_less_.nd rfl (Or.inl rfl))
      (pss_cons (ps_if (pt_cmpR op_eq (pv 3) pe_int (nomark _))
      (pss_one ps_break)
      pss_nil)
      (pss_one (ps_par (i := 2) (j := 3) rfl sc_less_.nd rfl rfl (by decide) rfl rfl (pa_cons (pv 3) (pa_cons (pe_op op_mod (pe_callTy call_int1 rfl (free_int D) (by decide +kernel) (pa_cons (pv 2) pa_nil)) (pv 3)) pa_nil)) rfl))))
      (pss_one (ps_ret (pe_tup (pa_cons (pe_op op_fdivW (pv 0) (pv 2)) (pa_cons (pe_op op_fdivW (pv 1) (pv 2)) pa_nil)))))))), ?_⟩
    refine ⟨_, rfl, _, rfl, _, rfl, 4000, rfl, by decide, by decide, ?_⟩
    refine for_rangeP (n := 4000) (fun σ' H' => ∃ (b v : Option V), σ' = [some (.int n), some (.int d), some (.int (gz n d)), b, v] ∧ H' = H)
      (fun i σ' H' => ∃ (a b : Int) (v : Option V), σ' = [some (.int n), some (.int d), some (.int a), some (.int b), v] ∧ H' = H ∧ 0 ≤ a ∧ 0 ≤ b ∧ eu (4000 - i) a b = gz n d)
      ⟨_, d, none, rfl, rfl, by split <;> omega, by omega, eu_gz hd hd2⟩ (fun nx q i σ' H' hi h => ?_) (fun σ' H' h => ?_) ?_
    · obtain ⟨a, b, v, rfl, rfl, ha, hb, he⟩ := h
      obtain ⟨j, hj⟩ : ∃ j, 4000 - i = j + 1 := ⟨4000 - i - 1, by omega⟩
      have hj2 : 4000 - (i + 1) = j := by omega
      rw [hj] at he
      refine ⟨_, rfl, rfl, _, rfl, ifD (fun h0 => ?_) (fun h0 => ?_)⟩
      · have e0 : b = 0 := by simpa using h0
        rw [e0, eu_zero] at he
        exact q _ _ ⟨_, _, by rw [he]; rfl, rfl⟩
      · have e0 : ¬ b = 0 := by simpa using h0
        have b0 : 0 < b := by omega
        refine ⟨_, rfl, _, rfl, .inl ⟨_, rfl, _, rfl, _, _, rfl, rfl, b0, _, _, rfl, ?_⟩⟩
        have he' : eu j b (a % b) = gz n d := by rw [← he]; show _ = if b = 0 then a else eu j b (a % b); rw [if_neg e0]
        exact ⟨b, a % b, _, rfl, rfl, hb, Int.emod_nonneg _ e0, by rw [hj2]; exact he'⟩
    · obtain ⟨a, b, v, rfl, rfl, _, _, he⟩ := h
      have he' : a = gz n d := by rw [← he]; rfl
      rw [he']
      exact ⟨_, _, rfl, rfl⟩
    · rintro σ' H' ⟨b, v, rfl, rfl⟩
      have sm : Sm d := by show d.natAbs < 2 ^ 2000; have : d.natAbs < 2 ^ 1999 := by omega
                           exact Nat.lt_trans this (by decide)
      refine ⟨_, rfl, _, rfl, _, _, rfl, rfl, sm.div hd, _, rfl, _, rfl, _, _, rfl, rfl, sm.div hd, (by show 2 ≤ sizeLine; decide), fun p hp => ?_⟩
      have e1 := rt_num (n := n) hd
      have e2 := rt_den (n := n) hd
      have z := k _ _ (.ref p) (Gr.new (o := .tup [.int (rt n d).num, .int (rt n d).den]) s0 hp) ⟨p, rfl, upd_same⟩
      rw [e1, e2] at z
      exact z
end
end K

set_option Elab.async false
set_option linter.all false
set_option maxRecDepth 100000
set_option maxHeartbeats 4000000
set_option exponentiation.threshold 5000
namespace K
open PySem PySem.Spec PyProof.Rows L2 Tk Hd Mt
section
variable {P : Program} {w : World} {K : PySem.W.Frag} {mg : Str → Option Value} {base : Heap}
/-! ### _law_same -/
def spSame (n : Nat) : Sp := fun vs H Q _ => ∃ (a d : V) (x y : Da), vs = [a, d] ∧ dR H a x ∧ dR H d y ∧ dep y ≤ n ∧ tame x ∧ tame y ∧ Q (.bl (eqd x y)) H
theorem sc_same : FnScope ["actual", "due", "k"] ["actual", "due"] (defScope s__law_same) := ⟨rfl, rfl, rfl, by decide +kernel, rfl, by decide +kernel, by decide +kernel⟩
theorem dec_bl' (a b : Bool) : decide (V.bl a = V.bl b) = (a == b) := dec_bl
/-- nothing in it: no list, no tuple -/
theorem ok_same0 (D : Dt K mg) {fd : FuncData} (F : FnP K "_law_same" "_law_same" s__law_same [] (He.ga K "_law_same") fd) : FnOk P w K mg base (L2.CX P w) 1 (He.ga K "_law_same") fd ["actual", "due"] (fun vs H Q _ => ∃ (a d : V) (x y : Da), vs = [a, d] ∧ dR H a x ∧ dR H d y ∧ isT y "tuple" = false ∧ isT y "list" = false ∧ Q (.bl (eqd x y)) H) := by
  refine fnN F sc_same (fun vs H Q E h => ?_) (fun cdv A outer s H vs Q E hr h => ?_)
  · obtain ⟨a, d, x, y, rfl, _⟩ := h; rfl
  · obtain ⟨a, d, x, y, rfl, hx, hy, y1, y2, k⟩ := h
    refine ⟨_, (pss_cons (ps_if (PW.pt (pw_or (pt_val (pe_callB call_isi rfl (free_isinstance D) (by decide +kernel) (pa_cons (pv 1) (pa_cons (pe_bltn (v := .ty "tuple") rfl (free_tuple D) (by decide +kernel) rfl) pa_nil)))) (pw_or1 (pt_val (pe_callB call_isi rfl (free_isinstance D) (by decide +kernel) (pa_cons (pv 1) (pa_cons (pe_bltn (v := .ty "list") rfl (free_list D) (by decide +kernel) rfl) pa_nil))))))) pss_never pss_nil)
      (pss_cons (ps_if (PW.pt (pw_or (pt_cmpR op_isN (pv 1) pe_non (nomark _)) (pw_or1 (pt_val (pe_callB call_isi rfl (free_isinstance D) (by decide +kernel) (pa_cons (pv 1) (pa_cons (pe_bltn (v := .ty "bool") rfl (free_bool D) (by decide +kernel) rfl) pa_nil)))))))
      (pss_one (ps_ret (pe_and (pe_cmpR op_eq (pe_cmpR op_isN (pv 0) pe_non (nomark _)) (pe_cmpR op_isN (pv 1) pe_non (nomark _)) (nomark _)) (pe_and (pe_or (pe_cmpR op_isN (pv 1) pe_non (nomark _)) (pe_one (pe_callB call_isi rfl (free_isinstance D) (by decide +kernel) (pa_cons (pv 0) (pa_cons (pe_bltn (v := .ty "bool") rfl (free_bool D) (by decide +kernel) rfl) pa_nil))))) (pe_one (pe_cmpR op_eq (pv 0) (pv 1) (nomark _)))))))
      pss_nil)
      (pss_cons (ps_if (pt_val (pe_callB call_isi rfl (free_isinstance D) (by decide +kernel) (pa_cons (pv 1) (pa_cons (pe_bltn (v := .ty "int") rfl (free_int D) (by decide +kernel) rfl) pa_nil))))
      (pss_one (ps_ret (pe_and (pe_callB call_isi rfl (free_isinstance D) (by decide +kernel) (pa_cons (pv 0) (pa_cons (pe_bltn (v := .ty "int") rfl (free_int D) (by decide +kernel) rfl) pa_nil))) (pe_and (pe_not (pe_callB call_isi rfl (free_isinstance D) (by decide +kernel) (pa_cons (pv 0) (pa_cons (pe_bltn (v := .ty "bool") rfl (free_bool D) (by decide +kernel) rfl) pa_nil)))) (pe_one (pe_cmpR op_eq (pv 0) (pv 1) (nomark _)))))))
      pss_nil)
      (pss_one (ps_ret (pe_and (pe_callB call_isi rfl (free_isinstance D) (by decide +kernel) (pa_cons (pv 0) (pa_cons (pe_bltn (v := .ty "str") rfl (free_str D) (by decide +kernel) rfl) pa_nil))) (pe_one (pe_cmpR op_eq (pv 0) (pv 1) (nomark _))))))))), ?_⟩
    have cv : ∀ T : String, ClsV (.ty T) (.type T) := fun T => .ty T
    refine ⟨_, rfl, _, _, _, _, _, rfl, cv _, knd_ty hy, knd_tuple y, _, rfl, ifF y1 ?_⟩
    refine ⟨_, rfl, _, _, _, _, _, rfl, cv _, knd_ty hy, knd_list y, _, rfl, ifF y2 ?_⟩
    have nx := non_dec hx
    have ny := non_dec hy
    refine ⟨_, rfl, rfl, _, rfl, ?_⟩
    rw [ny]
    have finN : isNon y = true ∨ isT y "bool" = true → ∀ σ : L2.St, True := fun _ _ => trivial
    cases y with
    | lst l => simp [isT] at y2
    | tup l => simp [isT] at y1
    | non =>
      refine iteT ?_
      simp only [dR] at hy
      subst hy
      refine ⟨_, rfl, rfl, _, rfl, rfl, rfl, _, rfl, ?_⟩
      rw [nx, ny]
      cases x with
      | non =>
        simp only [dR] at hx; subst hx
        refine iteT ⟨_, rfl, rfl, _, rfl, iteT ⟨_, rfl, iteT ⟨_, rfl, _, rfl, rfl, ?_⟩⟩⟩
        exact k
      | _ => exact iteF k
    | bl b =>
      refine iteF ⟨_, rfl, _, _, _, _, _, rfl, cv _, knd_ty hy, knd_bool (.bl b), _, rfl, iteT ?_⟩
      refine ⟨_, rfl, rfl, _, rfl, rfl, rfl, _, rfl, ?_⟩
      rw [nx, ny]
      simp only [dR] at hy
      subst hy
      cases x with
      | non => exact iteF k
      | bl c =>
        refine iteT ⟨_, rfl, rfl, _, rfl, iteF ⟨_, rfl, _, _, _, _, _, rfl, cv _, knd_ty hx, knd_bool (.bl c), _, rfl, iteT ?_⟩⟩
        simp only [dR] at hx
        subst hx
        refine ⟨_, rfl, _, rfl, rfl, ?_⟩
        have e : decide (V.bl c = V.bl b) = eqd (.bl c) (.bl b) := by simp [eqd]
        rw [← e] at k; exact k
      | int i => exact iteT ⟨_, rfl, rfl, _, rfl, iteF ⟨_, rfl, _, _, _, _, _, rfl, cv _, knd_ty hx, knd_bool (.int i), _, rfl, iteF k⟩⟩
      | str i => exact iteT ⟨_, rfl, rfl, _, rfl, iteF ⟨_, rfl, _, _, _, _, _, rfl, cv _, knd_ty hx, knd_bool (.str i), _, rfl, iteF k⟩⟩
      | lst i => exact iteT ⟨_, rfl, rfl, _, rfl, iteF ⟨_, rfl, _, _, _, _, _, rfl, cv _, knd_ty hx, knd_bool (.lst i), _, rfl, iteF k⟩⟩
      | tup i => exact iteT ⟨_, rfl, rfl, _, rfl, iteF ⟨_, rfl, _, _, _, _, _, rfl, cv _, knd_ty hx, knd_bool (.tup i), _, rfl, iteF k⟩⟩
    | int b =>
      refine iteF ⟨_, rfl, _, _, _, _, _, rfl, cv _, knd_ty hy, knd_bool (.int b), _, rfl, iteF ?_⟩
      refine ⟨_, rfl, _, _, _, _, _, rfl, cv _, knd_ty hy, knd_int (.int b), _, rfl, iteT ?_⟩
      simp only [dR] at hy
      subst hy
      cases x with
      | int c =>
        refine ⟨_, rfl, _, _, _, _, _, rfl, cv _, knd_ty hx, knd_int (.int c), _, rfl, iteT ?_⟩
        refine ⟨_, rfl, _, _, _, _, _, rfl, cv _, knd_ty hx, knd_bool (.int c), _, rfl, _, rfl, iteT ?_⟩
        simp only [dR] at hx
        subst hx
        refine ⟨_, rfl, _, rfl, rfl, ?_⟩
        have e : decide (V.int c = V.int b) = eqd (.int c) (.int b) := by simp [eqd]
        rw [← e] at k; exact k
      | bl c =>
        refine ⟨_, rfl, _, _, _, _, _, rfl, cv _, knd_ty hx, knd_int (.bl c), _, rfl, iteT ?_⟩
        exact ⟨_, rfl, _, _, _, _, _, rfl, cv _, knd_ty hx, knd_bool (.bl c), _, rfl, _, rfl, iteF k⟩
      | non => exact ⟨_, rfl, _, _, _, _, _, rfl, cv _, knd_ty hx, knd_int .non, _, rfl, iteF k⟩
      | str c => exact ⟨_, rfl, _, _, _, _, _, rfl, cv _, knd_ty hx, knd_int (.str c), _, rfl, iteF k⟩
      | lst c => exact ⟨_, rfl, _, _, _, _, _, rfl, cv _, knd_ty hx, knd_int (.lst c), _, rfl, iteF k⟩
      | tup c => exact ⟨_, rfl, _, _, _, _, _, rfl, cv _, knd_ty hx, knd_int (.tup c), _, rfl, iteF k⟩
    | str b =>
      refine iteF ⟨_, rfl, _, _, _, _, _, rfl, cv _, knd_ty hy, knd_bool (.str b), _, rfl, iteF ?_⟩
      refine ⟨_, rfl, _, _, _, _, _, rfl, cv _, knd_ty hy, knd_int (.str b), _, rfl, iteF ?_⟩
      simp only [dR] at hy
      subst hy
      cases x with
      | str c =>
        refine ⟨_, rfl, _, _, _, _, _, rfl, cv _, knd_ty hx, knd_str (.str c), _, rfl, iteT ?_⟩
        simp only [dR] at hx
        subst hx
        refine ⟨_, rfl, _, rfl, rfl, ?_⟩
        have e : decide (V.str c = V.str b) = eqd (.str c) (.str b) := by simp [eqd]
        rw [← e] at k; exact k
      | bl c => exact ⟨_, rfl, _, _, _, _, _, rfl, cv _, knd_ty hx, knd_str (.bl c), _, rfl, iteF k⟩
      | non => exact ⟨_, rfl, _, _, _, _, _, rfl, cv _, knd_ty hx, knd_str .non, _, rfl, iteF k⟩
      | int c => exact ⟨_, rfl, _, _, _, _, _, rfl, cv _, knd_ty hx, knd_str (.int c), _, rfl, iteF k⟩
      | lst c => exact ⟨_, rfl, _, _, _, _, _, rfl, cv _, knd_ty hx, knd_str (.lst c), _, rfl, iteF k⟩
      | tup c => exact ⟨_, rfl, _, _, _, _, _, rfl, cv _, knd_ty hx, knd_str (.tup c), _, rfl, iteF k⟩
/-- a list or a tuple -/
theorem ok_sameS (D : Dt K mg) (n : Nat) (HREC : Has P w K mg base (n + 1) (He.ga K "_law_same") ["actual", "due"] [] (spSame n)) {fd : FuncData} (F : FnP K "_law_same" "_law_same" s__law_same [] (He.ga K "_law_same") fd) :
    FnOk P w K mg base (L2.CX P w) (n + 2) (He.ga K "_law_same") fd ["actual", "due"] (fun vs H Q _ => ∃ (a d : V) (x y : Da), vs = [a, d] ∧ dR H a x ∧ dR H d y ∧ dep y ≤ n + 1 ∧ tame x ∧ tame y ∧ (isT y "tuple" = true ∨ isT y "list" = true) ∧ Q (.bl (eqd x y)) H) := by
  refine fnN F sc_same (fun vs H Q E h => ?_) (fun cdv A outer s H vs Q E hr h => ?_)
  · obtain ⟨a, d, x, y, rfl, _⟩ := h; rfl
  · obtain ⟨a, d, x, y, rfl, hx, hy, dy, tx, ty, yy, k⟩ := h
    refine ⟨_, (pss_cons (ps_if (PW.pt (pw_or (pt_val (pe_callB call_isi rfl (free_isinstance D) (by decide +kernel) (pa_cons (pv 1) (pa_cons (pe_bltn (v := .ty "tuple") rfl (free_tuple D) (by decide +kernel) rfl) pa_nil)))) (pw_or1 (pt_val (pe_callB call_isi rfl (free_isinstance D) (by decide +kernel) (pa_cons (pv 1) (pa_cons (pe_bltn (v := .ty "list") rfl (free_list D) (by decide +kernel) rfl) pa_nil)))))))
      (pss_cons (ps_if (PW.pt (pw_or (pt_cmpR op_ne (pe_callB call_isi rfl (free_isinstance D) (by decide +kernel) (pa_cons (pv 1) (pa_cons (pe_bltn (v := .ty "tuple") rfl (free_tuple D) (by decide +kernel) rfl) pa_nil))) (pe_callB call_isi rfl (free_isinstance D) (by decide +kernel) (pa_cons (pv 0) (pa_cons (pe_bltn (v := .ty "tuple") rfl (free_tuple D) (by decide +kernel) rfl) pa_nil))) (nomark _)) (pw_or1 (pt_cmpR op_ne (pe_callB call_isi rfl (free_isinstance D) (by decide +kernel) (pa_cons (pv 1) (pa_cons (pe_bltn (v := .ty "list") rfl (free_list D) (by decide +kernel) rfl) pa_nil))) (pe_callB call_isi rfl (free_isinstance D) (by decide +kernel) (pa_cons (pv 0) (pa_cons (pe_bltn (v := .ty "list") rfl (free_list D) (by decide +kernel) rfl) pa_nil))) (nomark _)))))
      (pss_one (ps_ret pe_bl))
      pss_nil)
      (pss_cons (ps_if (pt_cmpR op_ne (pe_callB call_len rfl (free_len D) PySem.boot_len (pa_cons (pv 0) pa_nil)) (pe_callB call_len rfl (free_len D) PySem.boot_len (pa_cons (pv 1) pa_nil)) (nomark _))
      (pss_one (ps_ret pe_bl))
      pss_nil)
      (pss_cons (ps_for PassesOwn.never rfl (pi_range1 rfl (free_range D) (pa_cons (pe_callB call_len rfl (free_len D) PySem.boot_len (pa_cons (pv 1) pa_nil)) pa_nil)) (pg_name (i := 2) sc_same.nd rfl (Or.inl rfl))
      (pss_one (ps_if (pt_not (pt_val (pe_callH HREC (hr.mono (by omega)) rfl (glo__law_same D) passL (pa_cons (pe_ix ix_seq (pv 0) (pv 2) (fun _ _ => rfl)) (pa_cons (pe_ix ix_seq (pv 1) (pv 2) (fun _ _ => rfl)) pa_nil)))))
      (pss_one (ps_ret pe_bl))
      pss_nil)))
      (pss_one (ps_ret pe_bl)))))
      pss_nil)
      pss_never), ?_⟩
    have cv : ∀ T : String, ClsV (.ty T) (.type T) := fun T => .ty T
    cases y with
    | non => simp [isT] at yy
    | bl b => simp [isT] at yy
    | int b => simp [isT] at yy
    | str b => simp [isT] at yy
    | lst l =>
      refine ⟨_, rfl, _, _, _, _, _, rfl, cv _, knd_ty hy, knd_tuple _, _, rfl, iteF ⟨_, rfl, _, _, _, _, _, rfl, cv _, knd_ty hy, knd_list _, _, rfl, iteT ?_⟩⟩
      refine ⟨_, rfl, _, _, _, _, _, rfl, cv _, knd_ty hy, knd_tuple _, _, rfl, _, _, _, _, _, rfl, cv _, knd_ty hx, knd_tuple x, rfl, _, rfl, ?_⟩
      cases x with
      | lst l' =>
        refine ifF rfl ?_
        refine ⟨_, rfl, _, _, _, _, _, rfl, cv _, knd_ty hy, knd_list _, _, rfl, _, _, _, _, _, rfl, cv _, knd_ty hx, knd_list _, rfl, _, rfl, ifF rfl ?_⟩
        simp only [dR] at hx hy
        obtain ⟨pa, va, rfl, ha, ra⟩ := hx
        obtain ⟨pd, vd, rfl, hd, rd⟩ := hy
        have la := dRs_len ra
        have ld := dRs_len rd
        have hl : l.length ≤ 100000 := ty.1
        refine ⟨_, rfl, _, l'.length, rfl, .inl ⟨_, SqL.of ha, la.symm⟩, _, rfl, _, l.length, rfl, .inl ⟨_, SqL.of hd, ld.symm⟩, rfl, _, rfl, ?_⟩
        by_cases hlen : l'.length = l.length
        · refine ifF (by rw [hlen]; simp) ?_
          refine ⟨_, rfl, _, l.length, rfl, .inl ⟨_, SqL.of hd, ld.symm⟩, _, rfl, by omega, by omega, ?_⟩
          refine for_range (n := l.length) (fun i σ' H' => ∃ v : Option V, σ' = [some (.ref pa), some (.ref pd), v] ∧ H' = H ∧ ∀ (j : Nat) (x y : Da), j < i → l'[j]? = some x → l[j]? = some y → eqd x y = true)
            ⟨none, rfl, rfl, fun j _ _ h => absurd h (Nat.not_lt_zero j)⟩ (fun i σ' H' hi h => ?_) (fun σ' H' h => ?_)
          · obtain ⟨v, rfl, rfl, hj⟩ := h
            obtain ⟨u1, e1, r1⟩ := dRs_at ra (List.getElem?_eq_getElem (by omega : i < l'.length))
            obtain ⟨u2, e2, r2⟩ := dRs_at rd (List.getElem?_eq_getElem hi)
            refine ⟨_, rfl, _, rfl, .inl ⟨_, _, _, _, rfl, rfl, SqL.of ha, at_of (j := i) (by omega) e1, ?_⟩⟩
            refine ⟨_, rfl, _, rfl, .inl ⟨_, _, _, _, rfl, rfl, SqL.of hd, at_of (j := i) (by omega) e2, ?_⟩⟩
            have dd : dep l[i] ≤ n := by
              have := deps_at (List.getElem?_eq_getElem hi)
              simp only [dep] at dy; omega
            refine ⟨_, _, _, _, rfl, r1, r2, dd, tames_at tx.2 (List.getElem?_eq_getElem (by omega)), tames_at ty.2 (List.getElem?_eq_getElem hi), _, rfl, ?_⟩
            cases e : eqd l'[i] l[i] with
            | false =>
              refine iteT ?_
              have z : eqd (.lst l') (.lst l) = false := by simp only [eqd]; exact eqds_false (List.getElem?_eq_getElem (by omega)) (List.getElem?_eq_getElem hi) e
              rw [z] at k; exact k
            | true =>
              refine iteF ⟨_, rfl, rfl, fun j x y hji h1 h2 => ?_⟩
              by_cases q : j = i
              · subst q; rw [List.getElem?_eq_getElem (by omega)] at h1 h2; rw [← Option.some.inj h1, ← Option.some.inj h2]; exact e
              · exact hj j x y (by omega) h1 h2
          · obtain ⟨v, rfl, rfl, hj⟩ := h
            have z : eqd (.lst l') (.lst l) = true := by
              simp only [eqd]
              exact eqds_true hlen fun i x y h1 h2 => hj i x y (by have := (List.getElem?_eq_some_iff.mp h2).1; omega) h1 h2
            rw [z] at k; exact k
        · refine ifT (by simp; omega) ?_
          have z : eqd (.lst l') (.lst l) = false := by simp only [eqd]; exact eqds_len hlen
          rw [z] at k; exact k
      | non =>
        refine ifF rfl ⟨_, rfl, _, _, _, _, _, rfl, cv _, knd_ty hy, knd_list _, _, rfl, _, _, _, _, _, rfl, cv _, knd_ty hx, knd_list _, rfl, _, rfl, ifT rfl k⟩
      | bl b =>
        refine ifF rfl ⟨_, rfl, _, _, _, _, _, rfl, cv _, knd_ty hy, knd_list _, _, rfl, _, _, _, _, _, rfl, cv _, knd_ty hx, knd_list _, rfl, _, rfl, ifT rfl k⟩
      | int b =>
        refine ifF rfl ⟨_, rfl, _, _, _, _, _, rfl, cv _, knd_ty hy, knd_list _, _, rfl, _, _, _, _, _, rfl, cv _, knd_ty hx, knd_list _, rfl, _, rfl, ifT rfl k⟩
      | str b =>
        refine ifF rfl ⟨_, rfl, _, _, _, _, _, rfl, cv _, knd_ty hy, knd_list _, _, rfl, _, _, _, _, _, rfl, cv _, knd_ty hx, knd_list _, rfl, _, rfl, ifT rfl k⟩
      | tup b =>
        exact ifT rfl k
    | tup l =>
      refine ⟨_, rfl, _, _, _, _, _, rfl, cv _, knd_ty hy, knd_tuple _, _, rfl, iteT ?_⟩
      refine ⟨_, rfl, _, _, _, _, _, rfl, cv _, knd_ty hy, knd_tuple _, _, rfl, _, _, _, _, _, rfl, cv _, knd_ty hx, knd_tuple x, rfl, _, rfl, ?_⟩
      cases x with
      | tup l' =>
        refine ifF rfl ?_
        refine ⟨_, rfl, _, _, _, _, _, rfl, cv _, knd_ty hy, knd_list _, _, rfl, _, _, _, _, _, rfl, cv _, knd_ty hx, knd_list _, rfl, _, rfl, ifF rfl ?_⟩
        simp only [dR] at hx hy
        obtain ⟨pa, va, rfl, ha, ra⟩ := hx
        obtain ⟨pd, vd, rfl, hd, rd⟩ := hy
        have la := dRs_len ra
        have ld := dRs_len rd
        have hl : l.length ≤ 100000 := ty.1
        refine ⟨_, rfl, _, l'.length, rfl, .inr ⟨_, SqT.of ha, la.symm⟩, _, rfl, _, l.length, rfl, .inr ⟨_, SqT.of hd, ld.symm⟩, rfl, _, rfl, ?_⟩
        by_cases hlen : l'.length = l.length
        · refine ifF (by rw [hlen]; simp) ?_
          refine ⟨_, rfl, _, l.length, rfl, .inr ⟨_, SqT.of hd, ld.symm⟩, _, rfl, by omega, by omega, ?_⟩
          refine for_range (n := l.length) (fun i σ' H' => ∃ v : Option V, σ' = [some (.ref pa), some (.ref pd), v] ∧ H' = H ∧ ∀ (j : Nat) (x y : Da), j < i → l'[j]? = some x → l[j]? = some y → eqd x y = true)
            ⟨none, rfl, rfl, fun j _ _ h => absurd h (Nat.not_lt_zero j)⟩ (fun i σ' H' hi h => ?_) (fun σ' H' h => ?_)
          · obtain ⟨v, rfl, rfl, hj⟩ := h
            obtain ⟨u1, e1, r1⟩ := dRs_at ra (List.getElem?_eq_getElem (by omega : i < l'.length))
            obtain ⟨u2, e2, r2⟩ := dRs_at rd (List.getElem?_eq_getElem hi)
            refine ⟨_, rfl, _, rfl, .inr (.inl ⟨_, _, _, _, rfl, rfl, SqT.of ha, at_of (j := i) (by omega) e1, ?_⟩)⟩
            refine ⟨_, rfl, _, rfl, .inr (.inl ⟨_, _, _, _, rfl, rfl, SqT.of hd, at_of (j := i) (by omega) e2, ?_⟩)⟩
            have dd : dep l[i] ≤ n := by
              have := deps_at (List.getElem?_eq_getElem hi)
              simp only [dep] at dy; omega
            refine ⟨_, _, _, _, rfl, r1, r2, dd, tames_at tx.2 (List.getElem?_eq_getElem (by omega)), tames_at ty.2 (List.getElem?_eq_getElem hi), _, rfl, ?_⟩
            cases e : eqd l'[i] l[i] with
            | false =>
              refine iteT ?_
              have z : eqd (.tup l') (.tup l) = false := by simp only [eqd]; exact eqds_false (List.getElem?_eq_getElem (by omega)) (List.getElem?_eq_getElem hi) e
              rw [z] at k; exact k
            | true =>
              refine iteF ⟨_, rfl, rfl, fun j x y hji h1 h2 => ?_⟩
              by_cases q : j = i
              · subst q; rw [List.getElem?_eq_getElem (by omega)] at h1 h2; rw [← Option.some.inj h1, ← Option.some.inj h2]; exact e
              · exact hj j x y (by omega) h1 h2
          · obtain ⟨v, rfl, rfl, hj⟩ := h
            have z : eqd (.tup l') (.tup l) = true := by
              simp only [eqd]
              exact eqds_true hlen fun i x y h1 h2 => hj i x y (by have := (List.getElem?_eq_some_iff.mp h2).1; omega) h1 h2
            rw [z] at k; exact k
        · refine ifT (by simp; omega) ?_
          have z : eqd (.tup l') (.tup l) = false := by simp only [eqd]; exact eqds_len hlen
          rw [z] at k; exact k
      | non =>
        exact ifT rfl k
      | bl b =>
        exact ifT rfl k
      | int b =>
        exact ifT rfl k
      | str b =>
        exact ifT rfl k
      | lst b =>
        exact ifT rfl k
theorem ok_same (D : Dt K mg) : ∀ n, Has P w K mg base (n + 1) (He.ga K "_law_same") ["actual", "due"] [] (spSame n)
  | 0 => by
    obtain ⟨fd, F⟩ := fd__law_same D
    have b := F.bindsN (ps := ["actual", "due"]) fun _ _ _ _ _ _ us hl => match us, hl with | [_, _], _ => rfl
    refine ⟨F.kp, fd, [], .nil, b, (ok_same0 D F).imp fun vs H Q E h => ?_⟩
    obtain ⟨x, y, dx, dy, h1, h2, h3, h4, _, _, k⟩ := h
    refine ⟨x, y, dx, dy, h1, h2, h3, ?_, ?_, k⟩ <;> cases dy <;> first | rfl | (simp only [dep] at h4; omega)
  | n + 1 => by
    obtain ⟨fd, F⟩ := fd__law_same D
    have b := F.bindsN (ps := ["actual", "due"]) fun _ _ _ _ _ _ us hl => match us, hl with | [_, _], _ => rfl
    refine ⟨F.kp, fd, [], .nil, b, (fnOr ((ok_same0 D F).mono (by omega)) (ok_sameS D n (ok_same D n) F)).imp fun vs H Q E h => ?_⟩
    obtain ⟨x, y, dx, dy, h1, h2, h3, h4, h5, h6, k⟩ := h
    by_cases q : isT dy "tuple" = true ∨ isT dy "list" = true
    · exact .inr ⟨x, y, dx, dy, h1, h2, h3, h4, h5, h6, q, k⟩
    · refine .inl ⟨x, y, dx, dy, h1, h2, h3, ?_, ?_, k⟩ <;> cases dy <;> first | rfl | exact absurd (by first | exact .inl rfl | exact .inr rfl) q
/-! ### the law's sums, differences, products -/
def iZ : Rp (Int × Int) := fun H v p => ∃ a, v = .ref a ∧ H a = some (.tup [.int p.1, .int p.2])
instance : Mono iZ := ⟨fun s ⟨a, e, h⟩ => ⟨a, e, s _ _ h⟩⟩
def Fz (p : Int × Int) : Prop := p.1.natAbs < 2 ^ 900 ∧ p.2.natAbs < 2 ^ 900 ∧ 0 < p.2
def spZ (g h : Int × Int → Int × Int → Int) : Sp := fun vs H Q _ => ∃ (I : Hp) (a b : V) (p q : Int × Int), vs = [a, b] ∧ Same I H ∧ iZ I a p ∧ iZ I b q ∧ Fz p ∧ Fz q ∧ Ret [] I H iQ (rt (g p q) (h p q)) Q
theorem Fz.mul12 {p q : Int × Int} (hp : Fz p) (hq : Fz q) : CMulW p.1 q.2 := wide_mul hp.1 hq.2.1 (by decide) (by decide) (by decide)
theorem Fz.mul11 {p q : Int × Int} (hp : Fz p) (hq : Fz q) : CMulW p.1 q.1 := wide_mul hp.1 hq.1 (by decide) (by decide) (by decide)
theorem Fz.mul22 {p q : Int × Int} (hp : Fz p) (hq : Fz q) : CMulW p.2 q.2 := wide_mul hp.2.1 hq.2.1 (by decide) (by decide) (by decide)
theorem Fz.pos {p q : Int × Int} (hp : Fz p) (hq : Fz q) : 0 < p.2 * q.2 := Int.mul_pos hp.2.2 hq.2.2
theorem Fz.lt {p q : Int × Int} (hp : Fz p) (hq : Fz q) : p.2 * q.2 < 2 ^ 1999 := by
  have h := fit_lt (k := 1800) hp.2.1 hq.2.1 (by decide)
  have h2 : (2 : Nat) ^ 1800 < 2 ^ 1999 := by decide
  have h3 := hp.pos hq
  omega
theorem sc_plus : FnScope ["one", "other"] ["one", "other"] (defScope s__law_plus) := ⟨rfl, rfl, rfl, by decide +kernel, rfl, by decide +kernel, by decide +kernel⟩
theorem ok_plus (D : Dt K mg) : Has P w K mg base 2 (He.ga K "_law_plus") ["one", "other"] [] (spZ (fun p q => p.1 * q.2 + q.1 * p.2) fun p q => p.2 * q.2) := by
  obtain ⟨fd, F⟩ := fd__law_plus D
  have H__law_less := ok_ls (P := P) (w := w) (base := base) D
  refine hasN F (F.bindsN fun _ _ _ _ _ _ us hl => match us, hl with | [_, _], _ => rfl) sc_plus (fun vs H Q E h => ?_) (fun cdv A outer s H vs Q E hr h => ?_)
  · obtain ⟨I, a, b, p, q, rfl, _⟩ := h; rfl
  · obtain ⟨I, va, vb, p, q, rfl, s0, ⟨a, rfl, ha⟩, ⟨b, rfl, hb⟩, fp, fq, k⟩ := h
    have ha' := s0 _ _ ha
    have hb' := s0 _ _ hb
    refine ⟨_, (pss_one (ps_ret (pe_callH H__law_less (hr.mono (by decide)) rfl (glo__law_less D) passL (pa_cons (pe_op op_add (pe_op op_mulW (pe_ix ix_tup (pv 0) pe_int (fun _ _ => rfl)) (pe_ix ix_tup (pv 1) pe_int (fun _ _ => rfl))) (pe_op op_mulW (pe_ix ix_tup (pv 1) pe_int (fun _ _ => rfl)) (pe_ix ix_tup (pv 0) pe_int (fun _ _ => rfl)))) (pa_cons (pe_op op_mulW (pe_ix ix_tup (pv 0) pe_int (fun _ _ => rfl)) (pe_ix ix_tup (pv 1) pe_int (fun _ _ => rfl))) pa_nil))))), ?_⟩
    refine ⟨_, rfl, _, _, _, _, rfl, rfl, SqT.of ha', at_of (j := 0) rfl rfl, _, rfl, _, _, _, _, rfl, rfl, SqT.of hb', at_of (j := 1) rfl rfl, _, _, rfl, rfl, fp.mul12 fq, _, rfl, _, _, _, _, rfl, rfl, SqT.of hb', at_of (j := 0) rfl rfl, _, rfl, _, _, _, _, rfl, rfl, SqT.of ha', at_of (j := 1) rfl rfl, _, _, rfl, rfl, fq.mul12 fp, _, _, rfl, rfl, ?_⟩
    exact ⟨_, rfl, _, _, _, _, rfl, rfl, SqT.of ha', at_of (j := 1) rfl rfl, _, rfl, _, _, _, _, rfl, rfl, SqT.of hb', at_of (j := 1) rfl rfl, _, _, rfl, rfl, fp.mul22 fq, I, _, _, rfl, s0, fp.pos fq, fp.lt fq, k⟩
theorem sc_times : FnScope ["one", "other"] ["one", "other"] (defScope s__law_times) := ⟨rfl, rfl, rfl, by decide +kernel, rfl, by decide +kernel, by decide +kernel⟩
theorem ok_times (D : Dt K mg) : Has P w K mg base 2 (He.ga K "_law_times") ["one", "other"] [] (spZ (fun p q => p.1 * q.1) fun p q => p.2 * q.2) := by
  obtain ⟨fd, F⟩ := fd__law_times D
  have H__law_less := ok_ls (P := P) (w := w) (base := base) D
  refine hasN F (F.bindsN fun _ _ _ _ _ _ us hl => match us, hl with | [_, _], _ => rfl) sc_times (fun vs H Q E h => ?_) (fun cdv A outer s H vs Q E hr h => ?_)
  · obtain ⟨I, a, b, p, q, rfl, _⟩ := h; rfl
  · obtain ⟨I, va, vb, p, q, rfl, s0, ⟨a, rfl, ha⟩, ⟨b, rfl, hb⟩, fp, fq, k⟩ := h
    have ha' := s0 _ _ ha
    have hb' := s0 _ _ hb
    refine ⟨_, (pss_one (ps_ret (pe_callH H__law_less (hr.mono (by decide)) rfl (glo__law_less D) passL (pa_cons (pe_op op_mulW (pe_ix ix_tup (pv 0) pe_int (fun _ _ => rfl)) (pe_ix ix_tup (pv 1) pe_int (fun _ _ => rfl))) (pa_cons (pe_op op_mulW (pe_ix ix_tup (pv 0) pe_int (fun _ _ => rfl)) (pe_ix ix_tup (pv 1) pe_int (fun _ _ => rfl))) pa_nil))))), ?_⟩
    exact ⟨_, rfl, _, _, _, _, rfl, rfl, SqT.of ha', at_of (j := 0) rfl rfl, _, rfl, _, _, _, _, rfl, rfl, SqT.of hb', at_of (j := 0) rfl rfl, _, _, rfl, rfl, fp.mul11 fq, _, rfl, _, _, _, _, rfl, rfl, SqT.of ha', at_of (j := 1) rfl rfl, _, rfl, _, _, _, _, rfl, rfl, SqT.of hb', at_of (j := 1) rfl rfl, _, _, rfl, rfl, fp.mul22 fq, I, _, _, rfl, s0, fp.pos fq, fp.lt fq, k⟩
/-- a fraction is the one that is due -/
def spIs (C : Addr) : Sp := fun vs H Q _ => ∃ (I : Hp) (a b : V) (p q : Rat), vs = [a, b] ∧ Same I H ∧ iR C I a p ∧ iQ I b q ∧ ∀ H', Gr [] I H I H' → Q (.bl (decide (p = q))) H'
theorem sc_is : FnScope ["ratio", "due"] ["ratio", "due"] (defScope s__law_is) := ⟨rfl, rfl, rfl, by decide +kernel, rfl, by decide +kernel, by decide +kernel⟩
theorem ok_is (D : Dt K mg) : Has P w K mg base 3 (He.ga K "_law_is") ["ratio", "due"] [] (spIs (CR K)) := by
  obtain ⟨fd, F⟩ := fd__law_is D
  have H__law_same := ok_same (P := P) (w := w) (base := base) D 1
  refine hasN F (F.bindsN fun _ _ _ _ _ _ us hl => match us, hl with | [_, _], _ => rfl) sc_is (fun vs H Q E h => ?_) (fun cdv A outer s H vs Q E hr h => ?_)
  · obtain ⟨I, a, b, p, q, rfl, _⟩ := h; rfl
  · obtain ⟨I, va, vb, p, q, rfl, s0, ⟨a, dx, rfl, ha⟩, ⟨b, rfl, hb⟩, k⟩ := h
    have ha' := s0 _ _ ha
    have hb' := s0 _ _ hb
    refine ⟨_, (pss_one (ps_ret (pe_and (pe_callB call_isi rfl (free_isinstance D) (by decide +kernel) (pa_cons (pv 0) (pa_cons (pe_glob (v := .ref (He.ga K "Ratio")) rfl (glo_Ratio D) rfl) pa_nil))) (pe_one (pe_callH H__law_same (hr.mono (by decide)) rfl (glo__law_same D) passL (pa_cons (pe_lst (pa_cons (pe_fld (pv 0) rfl) (pa_cons (pe_fld (pv 0) rfl) pa_nil))) (pa_cons (pe_callTy call_list_of rfl (free_list D) (by decide +kernel) (pa_cons (pv 1) pa_nil)) pa_nil))))))), ?_⟩
    refine ⟨_, rfl, _, _, _, _, true, rfl, .own _, (inst_Ratio D).ty (cls_Ratio D) ha', kit_self, _, rfl, iteT ?_⟩
    refine ⟨_, rfl, _, _, _, _, _, rfl, ha', cls_Ratio D, na_Ratio_num D, rf_num p, _, rfl, _, _, _, _, _, rfl, ha', cls_Ratio D, na_Ratio_den D, rf_den p, (by show 2 ≤ sizeLine; decide), fun l hl => ?_⟩
    have hb'' := sNew (o := .lst [.int p.num, .int p.den]) hl _ _ hb'
    refine ⟨_, rfl, b, _, rfl, .inr (SqT.of hb''), fun m hm => ?_⟩
    have r1 : dR (upd (upd H l (.lst [.int p.num, .int p.den])) m (.lst [.int q.num, .int q.den])) (.ref l) (.lst [.int p.num, .int p.den]) := by
      simp only [dR, dRs]
      exact ⟨l, _, rfl, sNew hm _ _ upd_same, _, _, rfl, rfl, _, _, rfl, rfl, rfl⟩
    have r2 : dR (upd (upd H l (.lst [.int p.num, .int p.den])) m (.lst [.int q.num, .int q.den])) (.ref m) (.lst [.int q.num, .int q.den]) := by
      simp only [dR, dRs]
      exact ⟨m, _, rfl, upd_same, _, _, rfl, rfl, _, _, rfl, rfl, rfl⟩
    refine ⟨_, _, _, _, rfl, r1, r2, by simp [dep, deps], by simp [tame, tames], by simp [tame, tames], ?_⟩
    have e : eqd (.lst [.int p.num, .int p.den]) (.lst [.int q.num, .int q.den]) = decide (p = q) := by
      rw [Bool.eq_iff_iff, eqd_iff, decide_eq_true_iff, eq_parts]; simp
    rw [e]
    exact k _ ((Gr.tmp s0 hl).trans (Gr.tmp (sUnder s0 (s0.free hl)) hm))
end
end K

set_option Elab.async false
set_option linter.all false
set_option maxRecDepth 100000
set_option maxHeartbeats 4000000
set_option exponentiation.threshold 5000
namespace K
open PySem PySem.Spec PyProof.Rows L2 Tk Hd Mt
/-! ### sums of fractions -/
def Fits (qs : List Rat) : Prop := (∀ q ∈ qs, Fit q) ∧ ∀ i, i ≤ qs.length → Fit (S i (gq qs))
theorem fit_gd {N B : Nat} {q : Rat} (h : Gd N B q) (hb : B ≤ 2 ^ 400) (hn : N ≤ 2 ^ 400) : Fit q := by
  obtain ⟨h1, h2⟩ := h.size
  have h3 : B * N ≤ 2 ^ 400 * 2 ^ 400 := Nat.mul_le_mul hb hn
  have h4 : (2 : Nat) ^ 400 * 2 ^ 400 < 2 ^ 900 := by decide
  have h5 : (2 : Nat) ^ 400 < 2 ^ 900 := by decide
  exact ⟨by omega, by omega⟩
theorem fits_gd {N B : Nat} {qs : List Rat} (hN : 0 < N) (h : ∀ q ∈ qs, Gd N B q) (hb : qs.length * B ≤ 2 ^ 400) (hn : N ≤ 2 ^ 400) : Fits qs := by
  refine ⟨fun q hq => fit_gd (h q hq) ?_ hn, fun i hi => fit_gd (S_gd hN fun j hj => h _ (List.mem_of_getElem? (gq_lt (by omega)))) ?_ hn⟩
  · cases qs with
    | nil => cases hq
    | cons a r => rw [List.length_cons, Nat.succ_mul] at hb; omega
  · exact Nat.le_trans (Nat.mul_le_mul_right _ hi) hb
section
variable {P : Program} {w : World} {K : PySem.W.Frag} {mg : Str → Option Value} {base : Heap}
def spTotal (C : Addr) : Sp := fun vs H Q _ => ∃ (I : Hp) (a : V) (qs : List Rat), vs = [a] ∧ Same I H ∧ iA (iR C) I a qs ∧ Fits qs ∧ Ret [] I H (iR C) (tot qs) Q
theorem sc_total : FnScope ["ratios", "found", "ratio"] ["ratios"] (defScope s_total) := ⟨rfl, rfl, rfl, by decide +kernel, rfl, by decide +kernel, by decide +kernel⟩
theorem ok_total (D : Dt K mg) : Has P w K mg base 4 (He.ga K "total") ["ratios"] [] (spTotal (CR K)) := by
  obtain ⟨fd, F⟩ := fd_total D
  have H_Ratio_init := has_init1 (P := P) (w := w) (base := base) D
  have H_Ratio_add := ok_add (P := P) (w := w) (base := base) D
  refine hasN F (F.bindsN fun _ _ _ _ _ _ us hl => match us, hl with | [_], _ => rfl) sc_total (fun vs H Q E h => ?_) (fun cdv A outer s H vs Q E hr h => ?_)
  · obtain ⟨I, a, qs, rfl, _⟩ := h; rfl
  · obtain ⟨I, va, qs, rfl, s0, ⟨a, vs, rfl, ha, a2⟩, ft, k⟩ := h
    refine ⟨_, (pss_cons (ps_set (i := 1) sc_total.nd rfl (Or.inl rfl) (pe_makeH (mkr_Ratio (K := K) D) H_Ratio_init (hr.mono (by decide)) rfl (glo_Ratio D) passL (pa_cons pe_int pa_nil)))
      (pss_cons (ps_for PassesOwn.never rfl (pi_ltK K (pv 0)) (pg_name (i := 2) sc_total.nd rfl (Or.inl rfl))
      (pss_one (ps_set (i := 1) sc_total.nd rfl (Or.inl rfl) (pe_op (op_ownH H_Ratio_add (hr.mono (by decide)) passL (self_Ratio (K := K) D) (me_Ratio_add (K := K) D)) (pv 1) (pv 2)))))
      (pss_one (ps_ret (pv 1))))), ?_⟩
    (try dsimp only)
    refine seq_cut (fun σ' H1 => ∃ (I1 : Hp) (fv : V), σ' = [some (.ref a), some fv, none] ∧ Gr [] I H I1 H1 ∧ iR (CR K) I1 fv (S 0 (gq qs))) (fun nx q => ?_) ?_
    · refine fun x dx nx nd ne => ⟨x, dx, _, _, rfl, upd_same, sm_of (by decide) (by decide), fun _ => ⟨rfl, ?_⟩, fun h => absurd h (by decide)⟩
      obtain ⟨g1, r1⟩ := rat_new (ms := []) (C := CR K) (q := rt 0 1) s0 nx nd ne
      exact q _ _ ⟨_, _, rfl, g1, by
        have : rt 0 1 = S 0 (gq qs) := by simp [rt, S]
        rw [← this]; exact r1⟩
    rintro σ' H1 ⟨I1, fv0, rfl, g1, r1⟩
    (try dsimp only)
    have hl := a2.len
    refine ⟨_, rfl, lt_of (ha.imp (g1.ii _ _) (g1.ii _ _)) g1.ih fun J W => for_wk W
      (fun σ' H' => ∃ (I' : Hp) (fv : V) (v : Option V), σ' = [some (.ref a), some fv, v] ∧ Gr [] I H I' H' ∧ iR (CR K) I' fv (tot qs))
      (fun i σ' H' => ∃ (I' : Hp) (fv : V) (v : Option V), σ' = [some (.ref a), some fv, v] ∧ Gr [] I H I' H' ∧ Same I1 I' ∧ iR (CR K) I' fv (S i (gq qs)))
      (fun i σ' H' h => by obtain ⟨I', fv, v, _, gr, s, _⟩ := h; exact s.trans gr.ih)
      ⟨I1, fv0, none, rfl, g1, Same.refl _, r1⟩ (fun nx q i σ' H' hi h => ?_) (fun σ' H' h => ?_) ?_⟩
    · obtain ⟨I', fv, v, rfl, gr, s1, rf⟩ := h
      have hq := gq_lt (l := qs) (i := i) (by omega)
      have rq := up (g1.ii.trans s1) (gv2 a2 hq)
      obtain ⟨b, dy, eb, hb⟩ := id rq
      obtain ⟨c, dz, rfl, hc⟩ := id rf
      rw [eb] at rq ⊢
      refine ⟨_, rfl, _, rfl, c, b, dz, dy, _, _, rfl, rfl, gr.ih _ _ hc, gr.ih _ _ hb, I', _, _, _, _, rfl, gr.ih, rf, rq, ft.2 i (by omega), ft.1 _ (List.mem_of_getElem? hq), fun I2 H2 v2 g2 r2 => ?_⟩
      exact ⟨I2, v2, _, rfl, gr.trans g2, s1.trans g2.ii, r2⟩
    · obtain ⟨I', fv, v, rfl, gr, s1, rf⟩ := h
      rw [hl] at rf
      exact ⟨I', fv, v, rfl, gr, rf⟩
    · rintro σ' H' ⟨I', fv, v, rfl, gr, rf⟩
      exact ⟨_, rfl, k _ _ _ gr rf⟩
/-! lots -/
def lots (qs : List Rat) : Bool := decide (∀ q ∈ qs, 0 ≤ q.num) && decide (tot qs = 1)
theorem all_of {α : Type} {bs : List Bool} {xs : List α} {p : α → Prop} [DecidablePred p] (h : bs.length = xs.length) (r : ∀ (i : Nat) (b : Bool), bs[i]? = some b → ∃ x, xs[i]? = some x ∧ b = decide (p x)) : bs.all id = decide (∀ x ∈ xs, p x) := by
  rw [Bool.eq_iff_iff, List.all_eq_true, decide_eq_true_iff]
  constructor
  · intro k x hx
    obtain ⟨i, hi, e⟩ := List.getElem_of_mem hx
    have hb : bs[i]? = some bs[i] := List.getElem?_eq_getElem (by omega)
    obtain ⟨y, h1, h2⟩ := r i _ hb
    have := k _ (List.mem_of_getElem? hb)
    rw [List.getElem?_eq_getElem hi] at h1
    have e2 := Option.some.inj h1
    rw [h2] at this
    rw [← e, e2]; simpa using this
  · intro k b hb
    obtain ⟨i, hi, e⟩ := List.getElem_of_mem hb
    obtain ⟨y, h1, h2⟩ := r i b (by rw [List.getElem?_eq_getElem hi, e])
    rw [h2]; simpa using k y (List.mem_of_getElem? h1)
def spLots (C : Addr) : Sp := fun vs H Q _ => ∃ (I : Hp) (a : V) (qs : List Rat), vs = [a] ∧ Same I H ∧ iA (iR C) I a qs ∧ Fits qs ∧ qs.length ≤ 100000 ∧ ∀ I' H', Gr [] I H I' H' → Q (.bl (lots qs)) H'
theorem sc_are_lots : FnScope ["ratios", "ratio"] ["ratios"] (defScope s_are_lots) := ⟨rfl, rfl, rfl, by decide +kernel, rfl, by decide +kernel, by decide +kernel⟩
theorem ok_lots (D : Dt K mg) : Has P w K mg base 5 (He.ga K "are_lots") ["ratios"] [] (spLots (CR K)) := by
  obtain ⟨fd, F⟩ := fd_are_lots D
  have H_Ratio_init := has_init1 (P := P) (w := w) (base := base) D
  have H_Ratio_eq := ok_eq (P := P) (w := w) (base := base) D
  have H_total := ok_total (P := P) (w := w) (base := base) D
  refine hasN F (F.bindsN fun _ _ _ _ _ _ us hl => match us, hl with | [_], _ => rfl) sc_are_lots (fun vs H Q E h => ?_) (fun cdv A outer s H vs Q E hr h => ?_)
  · obtain ⟨I, a, qs, rfl, _⟩ := h; rfl
  · obtain ⟨I, va, qs, rfl, s0, ra, ft, hz, k⟩ := h
    obtain ⟨a, vs, rfl, ha, a2⟩ := id ra
    refine ⟨_, (pss_one (ps_ret (pe_and (pe_callB (cr_allK K rfl) rfl (free_all D) (by decide +kernel) (pa_cons (pe_lc (own := [("ratio", 1)]) (g := gName 1) rfl sc_are_lots.nd (pi_ltK K (pv 0)) (blkOk_by (own := [("ratio", 1)]) (N := ["ratios", "ratio"]) (by kernel_rfl)) (fun _ _ _ _ _ => (pg_name (i := 1) sc_are_lots.nd rfl (Or.inl rfl))) (fun _ _ _ _ _ => pts_nil) (fun _ _ _ _ _ => (pe_cmpR op_ge (pe_fldK K (pv 1) rfl) pe_int (nomark _)))) pa_nil))
      (pe_one (pe_cmpR (op_eqOwnH H_Ratio_eq (hr.mono (by decide)) passL (me_Ratio_eq (K := K) D)) (pe_callH H_total (hr.mono (by decide)) rfl (glo_total D) passL (pa_cons (pv 0) pa_nil)) (pe_makeH (mkr_Ratio (K := K) D) H_Ratio_init (hr.mono (by decide)) rfl (glo_Ratio D) passL (pa_cons pe_int pa_nil)) (nomark _)))))), ?_⟩
    have hl := a2.len
    refine ⟨_, rfl, lt_of ha s0 fun J W l hD => lc_wk [] iB (fun i b => ∃ q, qs[i]? = some q ∧ b = decide (0 ≤ q.num)) (fun _ _ => True) W s0 hD (by simp) (Nat.lt_of_le_of_lt (by omega : vs.length ≤ 100000) (by decide)) stb_true trivial (fun i I' H' Nx Qk hi s1 s2 _ kk => ?_) (fun I' H' ys zs g1 hD' b2 hn rl _ => ?_)⟩
    · have hq := gq_lt (l := qs) (i := i) (by omega)
      obtain ⟨b, dy, eb, hb⟩ := id (up (s1.trans s2) (gv2 a2 hq))
      rw [eb]
      refine ⟨rfl, ?_⟩
      refine ⟨_, rfl, _, _, _, _, _, rfl, hb, cls_Ratio D, na_Ratio_num D, rf_num (gq qs i), _, _, rfl, rfl, ?_⟩
      exact kk _ _ _ _ (Gr.refl s2) trivial rfl ⟨_, hq, rfl⟩
    · have e := all_of (p := fun q : Rat => 0 ≤ q.num) (xs := qs) (by rw [hn, hl]) rl
      refine ⟨_, zs, rfl, SqL.of (g1.ih _ _ (by rw [← bls_of b2]; exact hD')), _, rfl, ?_⟩
      rw [e]
      refine ifB (fun c => ?_) (fun c => ?_)
      · refine ⟨_, rfl, I', _, qs, rfl, g1.ih, up g1.ii ra, ft, fun I2 H2 tv g2 rt2 => ?_⟩
        refine fun x dx nx nd ne => ⟨x, dx, _, _, rfl, upd_same, sm_of (by decide) (by decide), fun _ => ⟨rfl, ?_⟩, fun h => absurd h (by decide)⟩
        obtain ⟨g3, r3⟩ := rat_new (ms := []) (C := CR K) (q := rt 1 1) g2.ih nx nd ne
        have g4 := (g1.trans g2).trans g3
        obtain ⟨t, dt, rfl, ht⟩ := id (up g3.ii rt2)
        refine ⟨t, _, dt, _, _, _, rfl, rfl, g3.ih _ _ ht, upd_same, _, _, _, _, _, rfl, g3.ih, up g3.ii rt2, r3, ?_⟩
        have z := k _ _ g4
        unfold lots at z
        rw [c, Bool.true_and] at z
        rw [show rt 1 1 = 1 from rt_same (by decide)]
        exact z
      · have z := k _ _ g1
        unfold lots at z
        rw [c, Bool.false_and] at z
        exact z
end
end K

set_option Elab.async false
set_option linter.all false
set_option maxRecDepth 100000
set_option maxHeartbeats 4000000
set_option exponentiation.threshold 5000
namespace K
open PySem PySem.Spec PyProof.Rows L2 Tk Hd Mt
section
variable {P : Program} {w : World} {K : PySem.W.Frag} {mg : Str → Option Value} {base : Heap}
/-! ### machines: rows kept as tuples -/
theorem lt_line {n : Nat} (h : n ≤ 100000) : n < sizeLine := Nat.lt_of_le_of_lt h (by decide)
def spTable (C : Addr) : Sp := fun vs H Q _ => ∃ (I : Hp) (a : V) (rows : Rows), vs = [a] ∧ Same I H ∧ iA (iA (iR C)) I a rows ∧ rows.length ≤ 100000 ∧ Ret [] I H (iT (iT (iR C))) rows Q
theorem sc_table : FnScope ["rows", "row"] ["rows"] (defScope s__table) := ⟨rfl, rfl, rfl, by decide +kernel, rfl, by decide +kernel, by decide +kernel⟩
theorem ok_table (D : Dt K mg) : Has P w K mg base 1 (He.ga K "_table") ["rows"] [] (spTable (CR K)) := by
  obtain ⟨fd, F⟩ := fd__table D
  refine hasN F (F.bindsN fun _ _ _ _ _ _ us hl => match us, hl with | [_], _ => rfl) sc_table (fun vs H Q E h => ?_) (fun cdv A outer s H vs Q E hr h => ?_)
  · obtain ⟨I, a, qs, rfl, _⟩ := h; rfl
  · obtain ⟨I, va, rows, rfl, s0, ra, hz, k⟩ := h
    obtain ⟨a, vs, rfl, ha, a2⟩ := id ra
    refine ⟨_, (pss_one (ps_ret (pe_callTy (call_tuple_ofK K) rfl (free_tuple D) (by decide +kernel) (pa_cons (pe_lc (own := [("row", 1)]) (g := gName 1) rfl sc_table.nd (pi_ltK K (pv 0)) (blkOk_by (own := [("row", 1)]) (N := ["rows", "row"]) (by kernel_rfl)) (fun _ _ _ _ _ => (pg_name (i := 1) sc_table.nd rfl (Or.inl rfl))) (fun _ _ _ _ _ => pts_nil) (fun _ _ _ _ _ => (pe_callTy (call_tuple_ofK K) rfl (free_tuple D) (by decide +kernel) (pa_cons (pv 1) pa_nil)))) pa_nil)))), ?_⟩
    refine ⟨_, rfl, lt_of ha s0 fun J W l hD => lc_id (R := iA (iR (CR K))) (Sy := iT (iR (CR K))) W a2 s0 hD (lt_line hz) (fun i x I' H' Nx Qk hx rx sx kk => ?_) (fun I' H' g1 r1 => ?_)⟩
    · exact ⟨rfl, _, rfl, tup_of rx sx kk⟩
    · exact tup_of (iA.l r1) g1.ih fun I2 H2 v2 g2 r2 => k _ _ _ (g1.trans g2) r2
def spOut : Sp := fun vs H Q _ => ∃ (m n : Int), vs = [.int m, .int n] ∧ Q (.bl (decide (m < 1) || decide (m > n))) H
theorem sc_out_of : FnScope ["many", "most"] ["many", "most"] (defScope s__out_of) := ⟨rfl, rfl, rfl, by decide +kernel, rfl, by decide +kernel, by decide +kernel⟩
theorem ok_out (D : Dt K mg) : Has P w K mg base 1 (He.ga K "_out_of") ["many", "most"] [] spOut := by
  obtain ⟨fd, F⟩ := fd__out_of D
  refine hasN F (F.bindsN fun _ _ _ _ _ _ us hl => match us, hl with | [_, _], _ => rfl) sc_out_of (fun vs H Q E h => ?_) (fun cdv A outer s H vs Q E hr h => ?_)
  · obtain ⟨m, n, rfl, _⟩ := h; rfl
  · obtain ⟨m, n, rfl, k⟩ := h
    refine ⟨_, (pss_one (ps_ret (pe_or (pe_cmpR op_lt (pv 0) pe_int (nomark _)) (pe_one (pe_cmpR op_gt (pv 0) (pv 1) (nomark _)))))), ?_⟩
    refine ⟨_, rfl, _, _, rfl, rfl, _, rfl, ifB (fun c => ?_) (fun c => ?_)⟩
    · rw [c, Bool.true_or] at k; exact k
    · rw [c, Bool.false_or] at k; exact ⟨_, rfl, _, rfl, _, _, rfl, rfl, k⟩
def square (rows : Rows) (n : Nat) : Bool := decide (rows.length = n) && decide (∀ r ∈ rows, r.length = n)
def spSquare (C : Addr) : Sp := fun vs H Q _ => ∃ (I : Hp) (a : V) (rows : Rows) (n : Nat), vs = [a, .int n] ∧ Same I H ∧ iT (iT (iR C)) I a rows ∧ rows.length ≤ 100000 ∧ ∀ I' H', Gr [] I H I' H' → Q (.bl (square rows n)) H'
theorem sc_is_square : FnScope ["rows", "states", "row"] ["rows", "states"] (defScope s__is_square) := ⟨rfl, rfl, rfl, by decide +kernel, rfl, by decide +kernel, by decide +kernel⟩
theorem dec_cast (a b : Nat) : decide ((a : Int) = b) = decide (a = b) := decide_eq_decide.mpr (by omega)
theorem dec_vi (a b : Nat) : decide (V.int (a : Int) = V.int b) = decide (a = b) := decide_eq_decide.mpr ⟨fun h => by injection h with h; omega, fun h => by rw [h]⟩
theorem ok_square (D : Dt K mg) : Has P w K mg base 1 (He.ga K "_is_square") ["rows", "states"] [] (spSquare (CR K)) := by
  obtain ⟨fd, F⟩ := fd__is_square D
  refine hasN F (F.bindsN fun _ _ _ _ _ _ us hl => match us, hl with | [_, _], _ => rfl) sc_is_square (fun vs H Q E h => ?_) (fun cdv A outer s H vs Q E hr h => ?_)
  · obtain ⟨I, a, rows, n, rfl, _⟩ := h; rfl
  · obtain ⟨I, va, rows, n, rfl, s0, ra, hz, k⟩ := h
    obtain ⟨a, vs, rfl, ha, a2⟩ := id ra
    have hl := a2.len
    refine ⟨_, (pss_one (ps_ret (pe_and (pe_cmpR op_eq (pe_callB (call_lenK K) rfl (free_len D) PySem.boot_len (pa_cons (pv 0) pa_nil)) (pv 1) (nomark _)) (pe_one (pe_callB (cr_allK K rfl) rfl (free_all D) (by decide +kernel) (pa_cons (pe_lc (own := [("row", 2)]) (g := gName 2) rfl sc_is_square.nd (pi_tupK K (pv 0)) (blkOk_by (own := [("row", 2)]) (N := ["rows", "states", "row"]) (by kernel_rfl)) (fun _ _ _ _ _ => (pg_name (i := 2) sc_is_square.nd rfl (Or.inl rfl))) (fun _ _ _ _ _ => pts_nil) (fun _ _ _ _ _ => (pe_cmpR op_eq (pe_callB (call_lenK K) rfl (free_len D) PySem.boot_len (pa_cons (pv 2) pa_nil)) (pv 1) (nomark _)))) pa_nil)))))), ?_⟩
    refine ⟨_, rfl, _, rows.length, rfl, len_of (iA.t ra) s0, _, rfl, rfl, _, rfl, ifB (fun c => ?_) (fun c => ?_)⟩
    · refine ⟨_, rfl, a, rfl, ⟨_, SqT.of (s0 _ _ ha)⟩, fun l hD => lc_bool (K := K) (R := iT (iR (CR K))) (p := fun r : List Rat => r.length = n) (wk_tup ha) a2 s0 hD (lt_line hz) (fun i r I' H' Nx Qk hx rx _ sx kk => ?_) (fun I' H' bs g1 hD' b1 _ => ?_)⟩
      · refine ⟨rfl, _, rfl, _, r.length, rfl, len_of (iA.t rx) sx, _, rfl, rfl, ?_⟩
        have z := kk _ _ (Gr.refl sx)
        rw [← dec_vi] at z
        exact z
      · refine ⟨_, bs, rfl, hD', ?_⟩
        have z := k _ _ g1
        unfold square at z
        rw [← dec_vi, c, Bool.true_and, ← b1] at z
        exact z
    · have z := k _ _ (Gr.refl s0)
      unfold square at z
      rw [← dec_vi, c, Bool.false_and] at z
      exact z
/-- all weights of a state on one button -/
def lead (parts : List Rows) (s : Nat) : List Rat := flat (fun a => (gl (gl parts a) s).length) (fun a j => gq (gl (gl parts a) s) j) parts.length
def spLead (C : Addr) : Sp := fun vs H Q _ => ∃ (I : Hp) (a : V) (parts : List Rows) (s : Nat), vs = [a, .int s] ∧ Same I H ∧ iT (iT (iT (iR C))) I a parts ∧ Fits (lead parts s) ∧ (lead parts s).length ≤ 100000 ∧ (∀ rows ∈ parts, s < rows.length) ∧
  ∀ I' H', Gr [] I H I' H' → Q (.bl (lots (lead parts s))) H'
theorem sc_leads_on : FnScope ["parts", "state", "rows", "weight"] ["parts", "state"] (defScope s__leads_on) := ⟨rfl, rfl, rfl, by decide +kernel, rfl, by decide +kernel, by decide +kernel⟩
theorem ok_lead (D : Dt K mg) : Has P w K mg base 6 (He.ga K "_leads_on") ["parts", "state"] [] (spLead (CR K)) := by
  obtain ⟨fd, F⟩ := fd__leads_on D
  have H_are_lots := ok_lots (P := P) (w := w) (base := base) D
  refine hasN F (F.bindsN fun _ _ _ _ _ _ us hl => match us, hl with | [_, _], _ => rfl) sc_leads_on (fun vs H Q E h => ?_) (fun cdv A outer s H vs Q E hr h => ?_)
  · obtain ⟨I, a, rows, n, rfl, _⟩ := h; rfl
  · obtain ⟨I, va, parts, st, rfl, s0, ra, ft, hz, hs, k⟩ := h
    obtain ⟨a, vs, rfl, ha, a2⟩ := id ra
    have hl := a2.len
    refine ⟨_, (pss_one (ps_ret (pe_callH H_are_lots (hr.mono (by decide)) rfl (glo_are_lots D) passL (pa_cons (pe_lc2 (own := [("rows", 2), ("weight", 3)]) (vs1 := [3]) (g := gName 2) (g1 := gName 3) rfl sc_leads_on.nd (pi_tupK K (pv 0)) (blkOk_by (own := [("rows", 2), ("weight", 3)]) (N := ["parts", "state", "rows", "weight"]) (by kernel_rfl)) (by decide) (fun _ _ _ _ _ => (pg_name (i := 2) sc_leads_on.nd rfl (Or.inl rfl))) (fun _ _ _ _ _ => pts_nil) (fun _ _ _ _ _ => (pi_tupK K (pe_ix (ix_tupK K) (pv 2) (pv 1) (fun _ _ => rfl)))) (fun _ _ _ _ _ => (pg_name (i := 3) sc_leads_on.nd rfl (Or.inl rfl))) (fun _ _ _ _ _ => pts_nil) (fun _ _ _ _ _ => (pv 3))) pa_nil)))), ?_⟩
    refine ⟨_, rfl, a, rfl, ⟨_, SqT.of (s0 _ _ ha)⟩, fun l hD => lc2_wk (n := vs.length) (xs := gv vs) (iR (CR K)) (fun a => (gl (gl parts a) st).length) (fun a j => gq (gl (gl parts a) st) j) (wk_tup ha) s0 hD (by rw [hl]; exact Nat.le_of_lt (lt_line hz)) (fun i I' H' Nx R2 hi s1 s2 kk => ?_) (fun I' H' ys g1 hD' b2 => ?_)⟩
    · have hp := gl_lt (l := parts) (i := i) (by omega)
      obtain ⟨b, ws, eb, hb, b2⟩ := up s1 (gv2 a2 hp)
      have hst := hs _ (List.mem_of_getElem? hp)
      obtain ⟨u, hu, c, xs, rfl, hc, c2⟩ := b2.get' (gl_lt hst)
      rw [eb]
      refine ⟨rfl, ?_⟩
      refine ⟨_, rfl, _, rfl, _, _, _, _, rfl, rfl, SqT.of (s2 _ _ hb), at_of rfl hu, c, rfl, ⟨_, SqT.of (s2 _ _ hc)⟩, ?_⟩
      have W1 := wk_tup (K := K) hc
      rw [c2.len] at W1
      refine kk _ _ (gv xs) W1 fun j I2 H2 Nx1 Qk hj s3 s4 ke => ?_
      refine ⟨rfl, ?_⟩
      exact ⟨_, rfl, ke _ _ _ (Gr.refl s4) (up s3 (gv2 c2 (gq_lt hj)))⟩
    · rw [hl] at b2
      refine ⟨I', _, lead parts st, rfl, g1.ih, iA.l ⟨l, ys, rfl, hD', b2⟩, ft, hz, fun I2 H2 g2 => k _ _ (g1.trans g2)⟩
end
end K

set_option Elab.async false
set_option linter.all false
set_option maxRecDepth 100000
set_option maxHeartbeats 4000000
set_option exponentiation.threshold 5000
namespace K
open PySem PySem.Spec PyProof.Rows L2 Tk Hd Mt
theorem mem_gl {α : Type} {l : List (List α)} {x : List α} (h : x ∈ l) : ∃ i, i < l.length ∧ x = gl l i := by
  obtain ⟨i, hi, e⟩ := List.getElem_of_mem h
  exact ⟨i, hi, by rw [gl_of (List.getElem?_eq_getElem hi), e]⟩
theorem mem_gq {l : List Rat} {x : Rat} (h : x ∈ l) : ∃ i, i < l.length ∧ x = gq l i := by
  obtain ⟨i, hi, e⟩ := List.getElem_of_mem h
  exact ⟨i, hi, by rw [gq_of (List.getElem?_eq_getElem hi), e]⟩
theorem flat_mem {β : Type} {ks : Nat → Nat} {f : Nat → Nat → β} {n : Nat} {x : β} (h : x ∈ flat ks f n) : ∃ i j, i < n ∧ j < ks i ∧ x = f i j := by
  unfold flat at h
  obtain ⟨i, hi, h⟩ := List.mem_flatMap.mp h
  obtain ⟨j, hj, e⟩ := List.mem_map.mp h
  exact ⟨i, j, List.mem_range.mp hi, List.mem_range.mp hj, e.symm⟩
theorem tot_range (n : Nat) (f : Nat → Rat) : tot ((List.range n).map f) = S n f := by
  unfold tot
  rw [List.length_map, List.length_range]
  refine S_congr fun i hi => gq_of ?_
  rw [List.getElem?_map, List.getElem?_range hi]; rfl
theorem tot_flat (ks : Nat → Nat) (f : Nat → Nat → Rat) : ∀ n, tot (flat ks f n) = S n (fun i => S (ks i) (f i))
  | 0 => by simp [flat, tot, S]
  | n + 1 => by rw [flat_succ, tot_app, tot_flat ks f n, tot_range]; rfl
theorem flat_len {β : Type} (ks : Nat → Nat) (f : Nat → Nat → β) (m : Nat) : ∀ n, (∀ i, i < n → ks i = m) → (flat ks f n).length = n * m
  | 0, _ => by simp [flat]
  | n + 1, h => by rw [flat_succ, List.length_append, flat_len ks f m n (fun i hi => h i (by omega)), List.length_map, List.length_range, h n (by omega), Nat.succ_mul]
section
variable {M : Ma} {n bs as : Nat}
theorem _root_.Mt.MOk.start_fits (ok : MOk M n bs as) : Fits M.1 := fits_gd (N := 60) (B := 1) (by decide) (fun q hq => by
    obtain ⟨i, hi, rfl⟩ := mem_gq hq
    exact ok.g0 i (by rw [← ok.l0]; exact hi)) (by rw [ok.l0]; have := ok.n1; exact Nat.le_trans (by omega : n * 1 ≤ 5) (by decide)) (by decide)
theorem _root_.Mt.MOk.lots_start (ok : MOk M n bs as) : lots M.1 = true := by
  unfold lots
  rw [Bool.and_eq_true, decide_eq_true_iff, decide_eq_true_iff]
  exact ⟨fun q hq => by
    obtain ⟨i, hi, rfl⟩ := mem_gq hq
    exact (ok.g0 i (by rw [← ok.l0]; exact hi)).nonneg, ok.s0⟩
theorem _root_.Mt.MOk.lead_len (ok : MOk M n bs as) {b s : Nat} (hb : b < bs) (hs : s < n) : (lead (gl M.2 b) s).length = as * n := by
  unfold lead
  rw [ok.l2 b hb]
  exact flat_len _ _ n as fun a ha => ok.l4 b a s hb ha hs
theorem _root_.Mt.MOk.lead_gd (ok : MOk M n bs as) {b s : Nat} (hb : b < bs) (hs : s < n) {q : Rat} (h : q ∈ lead (gl M.2 b) s) : Gd 60 1 q := by
  unfold lead at h
  obtain ⟨a, j, ha, hj, rfl⟩ := flat_mem h
  rw [ok.l2 b hb] at ha
  rw [ok.l4 b a s hb ha hs] at hj
  exact ok.g1 b a s j hb ha hs hj
theorem _root_.Mt.MOk.lead_fits (ok : MOk M n bs as) {b s : Nat} (hb : b < bs) (hs : s < n) : Fits (lead (gl M.2 b) s) := by
  refine fits_gd (N := 60) (B := 1) (by decide) (fun q hq => ok.lead_gd hb hs hq) ?_ (by decide)
  rw [ok.lead_len hb hs]
  have := Nat.mul_le_mul ok.a1 ok.n1
  exact Nat.le_trans (by omega : as * n * 1 ≤ 20) (by decide)
theorem _root_.Mt.MOk.lots_lead (ok : MOk M n bs as) {b s : Nat} (hb : b < bs) (hs : s < n) : lots (lead (gl M.2 b) s) = true := by
  unfold lots
  rw [Bool.and_eq_true, decide_eq_true_iff, decide_eq_true_iff]
  refine ⟨fun q hq => (ok.lead_gd hb hs hq).nonneg, ?_⟩
  unfold lead
  rw [tot_flat, ok.l2 b hb]
  rw [← ok.s1 b s hb hs]
  exact S_congr fun a ha => by rw [ok.l4 b a s hb ha hs]; rfl
theorem _root_.Mt.MOk.square (ok : MOk M n bs as) {b a : Nat} (hb : b < bs) (ha : a < as) : square (gl (gl M.2 b) a) n = true := by
  unfold K.square
  rw [Bool.and_eq_true, decide_eq_true_iff, decide_eq_true_iff]
  refine ⟨ok.l3 b a hb ha, fun r hr => ?_⟩
  obtain ⟨s, hs, rfl⟩ := mem_gl hr
  exact ok.l4 b a s hb ha (by rw [← ok.l3 b a hb ha]; exact hs)
end
section
variable {P : Program} {w : World} {K : PySem.W.Frag} {mg : Str → Option Value} {base : Heap}
abbrev iMv (C : Addr) : Rp (List (List Rows)) := iT (iT (iT (iT (iR C))))
def spFault (C : Addr) : Sp := fun vs H Q _ => ∃ (I : Hp) (a b : V) (M : Ma) (n bs as : Nat), vs = [a, b] ∧ Same I H ∧ iT (iR C) I a M.1 ∧ iMv C I b M.2 ∧ MOk M n bs as ∧ ∀ I' H', Gr [] I H I' H' → Q .non H'
theorem sc_fault : FnScope ["start", "moves", "parts", "rows", "state"] ["start", "moves"] (defScope s__fault) := ⟨rfl, rfl, rfl, by decide +kernel, rfl, by decide +kernel, by decide +kernel⟩
theorem out_no {m n : Int} (h1 : 1 ≤ m) (h2 : m ≤ n) : (decide (m < 1) || decide (m > n)) = false := by
  rw [Bool.or_eq_false_iff, decide_eq_false_iff_not, decide_eq_false_iff_not]; omega
theorem ok_fault (D : Dt K mg) : Has P w K mg base 7 (He.ga K "_fault") ["start", "moves"] [] (spFault (CR K)) := by
  obtain ⟨fd, F⟩ := fd__fault D
  have H_are_lots := ok_lots (P := P) (w := w) (base := base) D
  have H__leads_on := ok_lead (P := P) (w := w) (base := base) D
  have H__is_square := ok_square (P := P) (w := w) (base := base) D
  have H__out_of := ok_out (P := P) (w := w) (base := base) D
  obtain ⟨t1, e1⟩ := int_MOST_STATES D
  obtain ⟨t2, e2⟩ := int_MOST_BUTTONS D
  obtain ⟨t3, e3⟩ := int_MOST_ANSWERS D
  refine hasN F (F.bindsN fun _ _ _ _ _ _ us hl => match us, hl with | [_, _], _ => rfl) sc_fault (fun vs H Q E h => ?_) (fun cdv A outer s H vs Q E hr h => ?_)
  · obtain ⟨I, a, b, M, n, bs, as, rfl, _⟩ := h; rfl
  · obtain ⟨I, va, vb, M, n, bs, as, rfl, s0, ra, rb, ok, k⟩ := h
    obtain ⟨a, vs, rfl, ha, a2⟩ := id ra
    obtain ⟨b, ws, rfl, hb, b2⟩ := id rb
    have hn := ok.l0
    have hbs := ok.l1
    have n0 := ok.n0
    have n1 := ok.n1
    have b0 := ok.b0
    have b1 := ok.b1
    have a0 := ok.a0
    have a1 := ok.a1
    refine ⟨_, (pss_cons (ps_if (pt_val (pe_callH H__out_of (hr.mono (by decide)) rfl (glo__out_of D) passL (pa_cons (pe_callB (call_lenK K) rfl (free_len D) PySem.boot_len (pa_cons (pv 0) pa_nil)) (pa_cons (pe_glob (v := .int 12) rfl e1 ⟨t1, rfl⟩) pa_nil))))
      (pss_one (ps_ret pe_str))
      pss_nil)
      (pss_cons (ps_if (pt_val (pe_callH H__out_of (hr.mono (by decide)) rfl (glo__out_of D) passL (pa_cons (pe_callB (call_lenK K) rfl (free_len D) PySem.boot_len (pa_cons (pv 1) pa_nil)) (pa_cons (pe_glob (v := .int 4) rfl e2 ⟨t2, rfl⟩) pa_nil))))
      (pss_one (ps_ret pe_str))
      pss_nil)
      (pss_cons (ps_if (PW.pt (pw_or (pt_val (pe_callH H__out_of (hr.mono (by decide)) rfl (glo__out_of D) passL (pa_cons (pe_callB (call_lenK K) rfl (free_len D) PySem.boot_len (pa_cons (pe_ix (ix_tupK K) (pv 1) pe_int (fun _ _ => rfl)) pa_nil)) (pa_cons (pe_glob (v := .int 4) rfl e3 ⟨t3, rfl⟩) pa_nil)))) (pw_or1 (pt_val (pe_callB (cr_anyK K rfl) rfl (free_any D) (by decide +kernel) (pa_cons (pe_lc (own := [("parts", 2)]) (g := gName 2) rfl sc_fault.nd (pi_tupK K (pv 1)) (blkOk_by (own := [("parts", 2)]) (N := ["start", "moves", "parts", "rows", "state"]) (by kernel_rfl)) (fun _ _ _ _ _ => (pg_name (i := 2) sc_fault.nd rfl (Or.inl rfl))) (fun _ _ _ _ _ => pts_nil) (fun _ _ _ _ _ => (pe_cmpR op_ne (pe_callB (call_lenK K) rfl (free_len D) PySem.boot_len (pa_cons (pv 2) pa_nil)) (pe_callB (call_lenK K) rfl (free_len D) PySem.boot_len (pa_cons (pe_ix (ix_tupK K) (pv 1) pe_int (fun _ _ => rfl)) pa_nil)) (nomark _)))) pa_nil))))))
      (pss_one (ps_ret pe_str))
      pss_nil)
      (pss_cons (ps_if (pt_not (pt_val (pe_callB (cr_allK K rfl) rfl (free_all D) (by decide +kernel) (pa_cons (pe_lc2 (own := [("parts", 2), ("rows", 3)]) (vs1 := [3]) (g := gName 2) (g1 := gName 3) rfl sc_fault.nd (pi_tupK K (pv 1)) (blkOk_by (own := [("parts", 2), ("rows", 3)]) (N := ["start", "moves", "parts", "rows", "state"]) (by kernel_rfl)) (by decide) (fun _ _ _ _ _ => (pg_name (i := 2) sc_fault.nd rfl (Or.inl rfl))) (fun _ _ _ _ _ => pts_nil) (fun _ _ _ _ _ => (pi_tupK K (pv 2))) (fun _ _ _ _ _ => (pg_name (i := 3) sc_fault.nd rfl (Or.inl rfl))) (fun _ _ _ _ _ => pts_nil) (fun _ _ _ _ _ => (pe_callH H__is_square (hr.mono (by decide)) rfl (glo__is_square D) passL (pa_cons (pv 3) (pa_cons (pe_callB (call_lenK K) rfl (free_len D) PySem.boot_len (pa_cons (pv 0) pa_nil)) pa_nil))))) pa_nil))))
      (pss_one (ps_ret pe_str))
      pss_nil)
      (pss_cons (ps_if (pt_not (pt_val (pe_callH H_are_lots (hr.mono (by decide)) rfl (glo_are_lots D) passL (pa_cons (pv 0) pa_nil))))
      (pss_one (ps_ret pe_str))
      pss_nil)
      (pss_cons (ps_if (pt_not (pt_val (pe_callB (cr_allK K rfl) rfl (free_all D) (by decide +kernel) (pa_cons (pe_lc2 (own := [("parts", 2), ("state", 4)]) (vs1 := [4]) (g := gName 2) (g1 := gName 4) rfl sc_fault.nd (pi_tupK K (pv 1)) (blkOk_by (own := [("parts", 2), ("state", 4)]) (N := ["start", "moves", "parts", "rows", "state"]) (by kernel_rfl)) (by decide) (fun _ _ _ _ _ => (pg_name (i := 2) sc_fault.nd rfl (Or.inl rfl))) (fun _ _ _ _ _ => pts_nil) (fun _ _ _ _ _ => (pi_range1 rfl (free_range D) (pa_cons (pe_callB (call_lenK K) rfl (free_len D) PySem.boot_len (pa_cons (pv 0) pa_nil)) pa_nil))) (fun _ _ _ _ _ => (pg_name (i := 4) sc_fault.nd rfl (Or.inl rfl))) (fun _ _ _ _ _ => pts_nil) (fun _ _ _ _ _ => (pe_callH H__leads_on (hr.mono (by decide)) rfl (glo__leads_on D) passL (pa_cons (pv 2) (pa_cons (pv 4) pa_nil))))) pa_nil))))
      (pss_one (ps_ret pe_str))
      pss_nil)
      (pss_one (ps_ret pe_non)))))))), ?_⟩
    refine ⟨_, rfl, _, M.1.length, rfl, len_of (iA.t ra) s0, _, _, rfl, _, rfl, ifF (out_no (by omega) (by omega)) ?_⟩
    refine ⟨_, rfl, _, M.2.length, rfl, len_of (iA.t rb) s0, _, _, rfl, _, rfl, ifF (out_no (by omega) (by omega)) ?_⟩
    obtain ⟨u, hu, c, xs, rfl, hc, c2⟩ := id (b2.get' (gl_lt (l := M.2) (i := 0) (by omega)))
    have hc' := s0 _ _ hc
    have hb' := s0 _ _ hb
    have l0 := ok.l2 0 b0
    refine ⟨_, rfl, _, _, _, _, rfl, rfl, SqT.of hb', at_of (j := 0) rfl hu, _, (gl M.2 0).length, rfl, len_of (R := iT (iT (iR (CR K)))) (iA.t ⟨c, xs, rfl, hc, c2⟩) s0, _, _, rfl, _, rfl, ifF (out_no (by omega) (by omega)) ?_⟩
    refine ⟨_, rfl, b, rfl, ⟨_, SqT.of hb'⟩, fun l hD => lc_bool (K := K) (R := iT (iT (iT (iR (CR K))))) (p := fun parts : List Rows => parts.length ≠ (gl M.2 0).length) (wk_tup hb) b2 s0 hD (lt_line (by omega)) (fun i x I' H' Nx Qk hx rx s1 sx kk => ?_) (fun I1 H1 bls g1 hl1 _ any1 => ?_)⟩
    · refine ⟨rfl, _, rfl, _, x.length, rfl, len_of (iA.t rx) sx, _, rfl, _, _, _, _, rfl, rfl, SqT.of (sx _ _ (s1 _ _ hb)), at_of (j := 0) rfl hu, _, (gl M.2 0).length, rfl, len_of (R := iT (iT (iR (CR K)))) (iA.t ⟨c, xs, rfl, s1 _ _ hc, c2.up s1⟩) sx, ?_⟩
      have z := kk _ _ (Gr.refl sx)
      refine ⟨rfl, ?_⟩
      rw [dec_vi]
      rw [show decide (x.length ≠ (gl M.2 0).length) = !decide (x.length = (gl M.2 0).length) from by simp] at z
      exact z
    refine ⟨_, bls, rfl, hl1, _, rfl, ifF ?_ ?_⟩
    · rw [any1, decide_eq_false_iff_not]
      rintro ⟨x, hx, hne⟩
      obtain ⟨i, hi, rfl⟩ := mem_gl hx
      exact hne (by rw [ok.l2 i (by omega), l0])
    replace s0 := g1.ih
    replace ra := up g1.ii ra
    replace rb := up g1.ii rb
    replace hb := g1.ii _ _ hb
    replace b2 := b2.up g1.ii
    have hlb := b2.len
    refine ⟨_, rfl, b, rfl, ⟨_, SqT.of (s0 _ _ hb)⟩, fun l hD => lc2_wk iB (fun i => (gl M.2 i).length) (fun i j => square (gl (gl M.2 i) j) n) (wk_tup hb) s0 hD ?_ (fun i I' H' Nx R2 hi s1 s2 kk => ?_) (fun I2 H2 ys g2 hD' d2 => ?_)⟩
    · rw [flat_len _ _ as _ fun i hi => ok.l2 i (by omega), hlb, hbs]
      have := Nat.mul_le_mul b1 a1
      exact Nat.le_of_lt (lt_line (by omega))
    · have hp := gl_lt (l := M.2) (i := i) (by omega)
      obtain ⟨c, zs, ec, hc, c2⟩ := up s1 (gv2 b2 hp)
      rw [ec]
      refine ⟨rfl, ?_⟩
      refine ⟨_, rfl, c, rfl, ⟨_, SqT.of (s2 _ _ hc)⟩, ?_⟩
      have W1 := wk_tup (K := K) hc
      rw [c2.len] at W1
      refine kk _ _ (gv zs) W1 fun j I3 H3 Nx1 Qk hj s3 s4 ke => ?_
      have hq := gl_lt (l := gl M.2 i) hj
      refine ⟨rfl, _, rfl, _, rfl, _, M.1.length, rfl, len_of (iA.t (up ((s1.trans s3)) ra)) s4, I3, _, gl (gl M.2 i) j, n, by rw [hn]; rfl, s4, up s3 (gv2 c2 hq), ?_, fun I4 H4 g4 => ke _ _ _ g4 rfl⟩
      rw [ok.l3 i j (by omega) (by rw [← ok.l2 i (by omega)]; exact hj)]; omega
    have sq : (flat (fun i => (gl M.2 i).length) (fun i j => square (gl (gl M.2 i) j) n) ws.length).all id = true := by
      rw [List.all_eq_true]
      intro x hx
      obtain ⟨i, j, hi, hj, rfl⟩ := flat_mem hx
      exact ok.square (by omega) (by rw [← ok.l2 i (by omega)]; exact hj)
    refine ⟨_, _, rfl, SqL.of (g2.ih _ _ (by rw [← bls_of d2]; exact hD')), _, rfl, ?_⟩
    rw [sq]
    refine ifF rfl ?_
    clear sq d2 hD'
    replace s0 := g2.ih
    replace ra := up g2.ii ra
    replace rb := up g2.ii rb
    replace hb := g2.ii _ _ hb
    replace b2 := b2.up g2.ii
    refine ⟨_, rfl, I2, _, M.1, rfl, s0, iA.t ra, ok.start_fits, by omega, fun I3 H3 g3 => ?_⟩
    refine ⟨_, rfl, ?_⟩
    rw [ok.lots_start]
    refine ifF rfl ?_
    replace s0 := g3.ih
    replace ra := up g3.ii ra
    replace rb := up g3.ii rb
    replace hb := g3.ii _ _ hb
    replace b2 := b2.up g3.ii
    refine ⟨_, rfl, b, rfl, ⟨_, SqT.of (s0 _ _ hb)⟩, fun l hD => lc2_wk iB (fun i => n) (fun i j => lots (lead (gl M.2 i) j)) (wk_tup hb) s0 hD ?_ (fun i I' H' Nx R2 hi s1 s2 kk => ?_) (fun I4 H4 ys g4 hD' d2 => ?_)⟩
    · rw [flat_len _ _ n _ fun i hi => rfl, hlb, hbs]
      have := Nat.mul_le_mul b1 n1
      exact Nat.le_of_lt (lt_line (by omega))
    · have hp := gl_lt (l := M.2) (i := i) (by omega)
      have hi' : i < bs := by omega
      refine ⟨rfl, ?_⟩
      refine ⟨_, rfl, _, M.1.length, rfl, len_of (iA.t (up s1 ra)) s2, _, rfl, by omega, by omega, ?_⟩
      have W1 : Wk (Itr 0 ((M.1.length : Int)).toNat) n (fun i => .int (0 + (i : Int))) I' := by
        have e : ((M.1.length : Int)).toNat = n := by omega
        rw [e]; exact wk_range
      refine kk _ _ _ W1 fun j I3 H3 Nx1 Qk hj s3 s4 ke => ?_
      refine ⟨rfl, _, rfl, _, rfl, I3, _, gl M.2 i, j, by rw [Int.zero_add]; rfl, s4, up s3 (up s1 (gv2 b2 hp)), ok.lead_fits hi' hj, ?_, fun rows hr => ?_, fun I4 H4 g4 => ke _ _ _ g4 rfl⟩
      · rw [ok.lead_len hi' hj]
        have := Nat.mul_le_mul a1 n1
        omega
      · obtain ⟨a, ha, rfl⟩ := mem_gl hr
        rw [ok.l3 i a hi' (by rw [← ok.l2 i hi']; exact ha)]; exact hj
    have sq : (flat (fun i => n) (fun i j => lots (lead (gl M.2 i) j)) ws.length).all id = true := by
      rw [List.all_eq_true]
      intro x hx
      obtain ⟨i, j, hi, hj, rfl⟩ := flat_mem hx
      exact ok.lots_lead (by omega) hj
    refine ⟨_, _, rfl, SqL.of (g4.ih _ _ (by rw [← bls_of d2]; exact hD')), _, rfl, ?_⟩
    rw [sq]
    refine ifF rfl ?_
    exact k _ _ (((g1.trans g2).trans g3).trans g4)
end
end K

set_option Elab.async false
set_option linter.all false
set_option maxRecDepth 100000
set_option maxHeartbeats 4000000
set_option exponentiation.threshold 5000
namespace K
open PySem PySem.Spec PyProof.Rows L2 Tk Hd Mt
abbrev CM (K : PySem.W.Frag) : Addr := He.ga K "Machine"
theorem ms_ : ¬ (("start" : Str) = "moves") := by decide +kernel
def mf (va vb : V) : List (Str × V) := putF "moves" vb (putF "start" va [])
theorem mf_start (va vb : V) : (mf va vb).lookup ("start" : Str) = some va := by
  unfold mf; rw [lookup_putF, if_neg ms_, lookup_putF, if_pos rfl]
theorem mf_moves (va vb : V) : (mf va vb).lookup ("moves" : Str) = some vb := by
  unfold mf; rw [lookup_putF, if_pos rfl]
/-- a machine as it stands -/
def iM (C C2 : Addr) : Rp Ma := fun H v M => ∃ a dx va vb, v = .ref a ∧ H a = some (.ins C2 dx (mf va vb)) ∧ iT (iR C) H va M.1 ∧ iMv C H vb M.2
instance {C C2 : Addr} : Mono (iM C C2) := ⟨fun s ⟨a, dx, va, vb, e, h, r1, r2⟩ => ⟨a, dx, va, vb, e, s _ _ h, up s r1, up s r2⟩⟩
section
variable {P : Program} {w : World} {K : PySem.W.Frag} {mg : Str → Option Value} {base : Heap}
def spMInit (C C2 : Addr) : Sp := fun vs H Q _ => ∃ (I : Hp) (x dx : Addr) (a b : V) (M : Ma) (n bs as : Nat), vs = [.ref x, a, b] ∧ Same I H ∧ I x = none ∧ H x = some (.ins C2 dx []) ∧ iA (iR C) I a M.1 ∧ iA (iA (iA (iA (iR C)))) I b M.2 ∧ MOk M n bs as ∧
  ∀ I' H' va vb, Gr [x] I H I' H' → H' x = some (.ins C2 dx (mf va vb)) → iT (iR C) I' va M.1 → iMv C I' vb M.2 → Q .non H'
theorem sc_minit : FnScope ["self", "start", "moves", "rows", "parts", "why"] ["self", "start", "moves"] (defScope s_Machine_init) := ⟨rfl, rfl, rfl, by decide +kernel, rfl, by decide +kernel, by decide +kernel⟩
theorem ok_minit (D : Dt K mg) : Has P w K mg base 8 (He.ma K (CM K) "__init__") ["self", "start", "moves"] [] (spMInit (CR K) (CM K)) := by
  obtain ⟨fd, F⟩ := fd_Machine_init D
  have H__table := ok_table (P := P) (w := w) (base := base) D
  have H__fault := ok_fault (P := P) (w := w) (base := base) D
  refine hasN F (F.bindsN fun _ _ _ _ _ _ us hl => match us, hl with | [_, _, _], _ => rfl) sc_minit (fun vs H Q E h => ?_) (fun cdv A outer s H vs Q E hr h => ?_)
  · obtain ⟨I, x, dx, a, b, M, n, bs, as, rfl, _⟩ := h; rfl
  · obtain ⟨I, x, dx, va, vb, M, n, bs, as, rfl, s0, hI, hx, ra, rb, ok, k⟩ := h
    obtain ⟨b, ws, rfl, hb, b2⟩ := id rb
    have hlb := b2.len
    have hbs := ok.l1
    have b1 := ok.b1
    have a1 := ok.a1
    have n1 := ok.n1
    refine ⟨_, (pss_cons (ps_fld (pv 0) (pe_callTy (call_tuple_ofK K) rfl (free_tuple D) (by decide +kernel) (pa_cons (pv 1) pa_nil)) rfl)
      (pss_cons (ps_fld (pv 0) (pe_callTy (call_tuple_ofK K) rfl (free_tuple D) (by decide +kernel) (pa_cons (pe_lc (own := [("parts", 4)]) (g := gName 4) rfl sc_minit.nd (pi_ltK K (pv 2)) (blkOk_by (own := [("parts", 4)]) (N := ["self", "start", "moves", "rows", "parts", "why"]) (by kernel_rfl)) (fun _ _ _ _ _ => (pg_name (i := 4) sc_minit.nd rfl (Or.inl rfl))) (fun _ _ _ _ _ => pts_nil) (fun _ _ _ _ _ => (pe_callTy (call_tuple_ofK K) rfl (free_tuple D) (by decide +kernel) (pa_cons (pe_lc (own := [("rows", 3)]) (g := gName 3) rfl sc_minit.nd (pi_ltK K (pv 4)) (blkOk_by (own := [("rows", 3)]) (N := ["self", "start", "moves", "rows", "parts", "why"]) (by kernel_rfl)) (fun _ _ _ _ _ => (pg_name (i := 3) sc_minit.nd rfl (Or.inl rfl))) (fun _ _ _ _ _ => pts_nil) (fun _ _ _ _ _ => (pe_callH H__table (hr.mono (by decide)) rfl (glo__table D) passL (pa_cons (pv 3) pa_nil)))) pa_nil)))) pa_nil)) rfl)
      (pss_cons (ps_set (i := 5) sc_minit.nd rfl (Or.inl rfl) (pe_callH H__fault (hr.mono (by decide)) rfl (glo__fault D) passL (pa_cons (pe_fldK K (pv 0) rfl) (pa_cons (pe_fldK K (pv 0) rfl) pa_nil))))
      (pss_one (ps_if (pt_cmpR op_notN (pv 5) pe_non (nomark _))
      pss_never
      pss_nil))))), ?_⟩
    (try dsimp only)
    refine seq_cut (fun σ' H1 => ∃ (I1 : Hp) (v1 : V), σ' = [some (.ref x), some va, some (.ref b), none, none, none] ∧ Gr [x] I H I1 H1 ∧ H1 x = some (.ins (CM K) dx (putF "start" v1 [])) ∧ iT (iR (CR K)) I1 v1 M.1) (fun nx q => ?_) ?_
    · refine ⟨_, rfl, tup_of ra s0 fun I1 H1 v1 g1 r1 => ?_⟩
      have h1 := g1.at hx (by simp)
      refine ⟨_, rfl, x, _, dx, _, rfl, h1, cls_Machine D, na_Machine_start D, (by show 0 < 1000; decide), ?_⟩
      exact q _ _ ⟨I1, v1, rfl, (g1.mono (ns := [x]) fun _ z => nomatch z).trans (Gr.mut g1.ih (g1.out hI hx) List.mem_cons_self), upd_same, r1⟩
    rintro σ' H1 ⟨I1, v1, rfl, g1, h1, r1⟩
    (try dsimp only)
    refine seq_cut (fun σ' H1 => ∃ (I1 : Hp) (v1 v2 : V), σ' = [some (.ref x), some va, some (.ref b), none, none, none] ∧ Gr [x] I H I1 H1 ∧ H1 x = some (.ins (CM K) dx (mf v1 v2)) ∧ iT (iR (CR K)) I1 v1 M.1 ∧ iMv (CR K) I1 v2 M.2) (fun nx q => ?_) ?_
    · have b2' := b2.up g1.ii
      refine ⟨_, rfl, lt_of (hb.imp (g1.ii _ _) (g1.ii _ _)) g1.ih fun J W l hD => lc_id (R := iA (iA (iA (iR (CR K))))) (Sy := iT (iT (iT (iR (CR K))))) W b2' g1.ih hD (lt_line (by omega)) (fun i y I' H' Nx Qk hy ry sx kk => ?_) (fun I2 H2 g2 r2 => ?_)⟩
      · obtain ⟨c, xs, ec, hc, c2⟩ := id ry
        obtain ⟨i', hi', rfl⟩ := mem_gl (List.mem_of_getElem? hy)
        have ly := ok.l2 i' (by omega)
        rw [ec]
        refine ⟨rfl, _, rfl, lt_of hc sx fun J W l hD => lc_id (R := iA (iA (iR (CR K)))) (Sy := iT (iT (iR (CR K)))) W c2 sx hD (lt_line (by omega)) (fun j z I3 H3 Nx3 Qk3 hz rz sz ke => ?_) (fun I3 H3 g3 r3 => ?_)⟩
        · obtain ⟨j', hj', rfl⟩ := mem_gl (List.mem_of_getElem? hz)
          refine ⟨rfl, _, rfl, I3, _, _, rfl, sz, rz, ?_, ke⟩
          rw [ok.l3 i' j' (by omega) (by omega)]; omega
        · exact tup_of (iA.l r3) g3.ih fun I4 H4 v4 g4 r4 => kk _ _ _ (g3.trans g4) r4
      · refine tup_of (iA.l r2) g2.ih fun I3 H3 v3 g3 r3 => ?_
        have g4 := g2.trans g3
        have hI1 := g1.out hI hx
        have h3 := g4.at h1 (by simp)
        refine ⟨_, rfl, x, _, dx, _, rfl, h3, cls_Machine D, na_Machine_moves D, (by show 1 < 1000; decide), ?_⟩
        exact q _ _ ⟨I3, v1, v3, rfl, (g1.trans (g4.mono (ns := [x]) fun _ z => nomatch z)).trans (Gr.mut g4.ih (g4.out hI1 h1) List.mem_cons_self), upd_same, up g4.ii r1, r3⟩
    clear g1 h1 r1
    rintro σ' H1 ⟨I1, v1, v2, rfl, g1, h1, r1, r2⟩
    (try dsimp only)
    refine ⟨_, rfl, _, _, _, _, _, rfl, h1, cls_Machine D, na_Machine_start D, mf_start v1 v2, _, rfl, _, _, _, _, _, rfl, h1, cls_Machine D, na_Machine_moves D, mf_moves v1 v2, I1, _, _, M, n, bs, as, rfl, g1.ih, r1, r2, ok, fun I2 H2 g2 => ?_⟩
    refine ⟨_, rfl, rfl, _, rfl, ifF rfl ?_⟩
    exact k I2 H2 v1 v2 (g1.trans (g2.mono fun _ z => nomatch z)) (g2.at h1 (by simp)) (up g2.ii r1) (up g2.ii r2)
/-- a machine made anew -/
theorem mach_new {I H I' H' : Hp} {x dx C C2 : Addr} {M : Ma} {va vb : V} (s : Same I H) (nx : H x = none) (nd : H dx = none) (ne : dx ≠ x)
    (g : Gr [x] (upd I dx (.own x)) (upd (upd H dx (.own x)) x (.ins C2 dx [])) I' H') (h : H' x = some (.ins C2 dx (mf va vb))) (r1 : iT (iR C) I' va M.1) (r2 : iMv C I' vb M.2) :
    Gr [] I H (upd I' x (.ins C2 dx (mf va vb))) H' ∧ iM C C2 (upd I' x (.ins C2 dx (mf va vb))) (.ref x) M := by
  have g0 : Gr [] I H (upd I dx (.own x)) (upd H dx (.own x)) := Gr.new s nd
  have hx0 : upd H dx (.own x) x = none := by rw [upd_ne (Ne.symm ne)]; exact nx
  have g1 : Gr [] (upd I dx (.own x)) (upd H dx (.own x)) (upd I dx (.own x)) (upd (upd H dx (.own x)) x (.ins C2 dx [])) := Gr.tmp g0.ih hx0
  have g2 := (g1.mono (ns := [x]) fun _ z => nomatch z).trans g
  have hI' : I' x = none := g.out (g0.ih.free hx0) upd_same
  refine ⟨g0.trans (g2.frz g0.ih hx0 h), x, dx, va, vb, rfl, upd_same, up (sNew hI') r1, up (sNew hI') r2⟩
end
end K

set_option Elab.async false
set_option linter.all false
set_option maxRecDepth 100000
set_option maxHeartbeats 4000000
set_option exponentiation.threshold 5000
namespace K
open PySem PySem.Spec PyProof.Rows L2 Tk Hd Mt
section
variable {P : Program} {w : World} {K : PySem.W.Frag} {mg : Str → Option Value} {base : Heap}
theorem FnOk.weak {CX : CXT} {k : Nat} {f : Addr} {fd : FuncData} {ps : List Str} {sp sp' : Sp} (A : FnOk P w K mg base CX k f fd ps sp) (h : ∀ vs H Q E, sp' vs H Q E → sp vs H Q E) : FnOk P w K mg base CX k f fd ps sp' :=
  ⟨fun vs H Q E z => A.len vs H Q E (h _ _ _ _ z), fun A' outer s H args us vs Q E hr he hb hv z => A.run A' outer s H args us vs Q E hr he hb hv (h _ _ _ _ z)⟩
/-- two objects for one fraction -/
def Two (C : Addr) : Addr → Addr → Hp → Prop := fun a b H => ∃ q dx dy, H a = some (.ins C dx (rf q)) ∧ H b = some (.ins C dy (rf q))
theorem gr_ext {I H H' : Hp} (s : Same I H) (e : L2.Ext H H') : Gr [] I H I H' := ⟨Same.refl I, s.trans e, fun a o _ h => e a o h, fun a o h => ⟨o, e a o h⟩, fun a o h _ => h⟩
theorem rat_eqG {X : Cx} (hK : X.K = K) (D : Dt K mg) (h : Has X.prog X.w X.K X.mg X.base 1 (He.ma K (CR K) "__eq__") ["self", "other"] [] (spEq (CR K))) : EqG X 1 (DIns (CR K) (Two (CR K))) := by
  subst hK
  obtain ⟨hk, fd, ds, hd, hb, F⟩ := h
  cases hd
  have hm := me_Ratio_eq (K := X.K) D
  refine eqG_ins (FnOk.weak F fun vs H Q E z => ?_) hm.at_ hm.fn hb passL
  obtain ⟨a, b, rfl, ⟨q, dx, dy, h1, h2⟩, k⟩ := z
  have := k H Ext.rfl'
  exact ⟨H, _, _, q, q, rfl, Same.refl H, ⟨a, dx, rfl, h1⟩, ⟨b, dy, rfl, h2⟩, by rw [decide_eq_true rfl]; exact this⟩
theorem two_mon {C : Addr} : Mon (DIns C (Two C)) := mon_ins fun a b H H' e ⟨q, dx, dy, h1, h2⟩ => ⟨q, dx, dy, e _ _ h1, e _ _ h2⟩
theorem prs_of {α : Type} {R S : V → α → Prop} {Dq : Eqv} {H : Hp} (h : ∀ v u x, R v x → S u x → Dq v u H) : ∀ {vs us : List V} {xs : List α}, All2 R vs xs → All2 S us xs → Prs Dq vs us H
  | _, _, _, .nil, .nil => Prs.nil
  | _, _, _, .cons a t, .cons b u => Prs.cons (h _ _ _ a b) (prs_of h t u)
theorem dtup_of {α : Type} {R : Rp α} {Dq : Eqv} {I H : Hp} (s : Same I H) (h : ∀ v u x, R I v x → R I u x → Dq v u H) : ∀ v u (xs : List α), iT R I v xs → iT R I u xs → DTup K Dq v u H := by
  rintro v u xs ⟨a, vs, rfl, ha, a2⟩ ⟨b, us, rfl, hb, b2⟩
  exact ⟨a, b, vs, us, rfl, rfl, SqT.of (s _ _ ha), SqT.of (s _ _ hb), prs_of h a2 b2⟩
theorem dins_of {C : Addr} {I H : Hp} (s : Same I H) : ∀ v u q, iR C I v q → iR C I u q → DIns C (Two C) v u H := by
  rintro v u q ⟨a, dx, rfl, ha⟩ ⟨b, dy, rfl, hb⟩
  exact ⟨a, b, dx, dy, _, _, rfl, rfl, s _ _ ha, s _ _ hb, q, dx, dy, s _ _ ha, s _ _ hb⟩
def spMEq (C C2 : Addr) : Sp := fun vs H Q _ => ∃ (I : Hp) (a b : V) (M : Ma), vs = [a, b] ∧ Same I H ∧ iM C C2 I a M ∧ iM C C2 I b M ∧ ∀ H', Gr [] I H I H' → Q (.bl true) H'
theorem sc_meq : FnScope ["self", "other"] ["self", "other"] (defScope s_Machine_eq) := ⟨rfl, rfl, rfl, by decide +kernel, rfl, by decide +kernel, by decide +kernel⟩
theorem ok_meq (D : Dt K mg) : Has P w K mg base 8 (He.ma K (CM K) "__eq__") ["self", "other"] [] (spMEq (CR K) (CM K)) := by
  obtain ⟨fd, F⟩ := fd_Machine_eq D
  refine hasN F (F.bindsN fun _ _ _ _ _ _ us hl => match us, hl with | [_, _], _ => rfl) sc_meq (fun vs H Q E h => ?_) (fun cdv A outer s H vs Q E hr h => ?_)
  · obtain ⟨I, a, b, M, rfl, _⟩ := h; rfl
  · obtain ⟨I, va, vb, M, rfl, s0, ⟨a, dx, u1, u2, rfl, ha, p1, p2⟩, ⟨b, dy, w1, w2, rfl, hb, q1, q2⟩, k⟩ := h
    have ha' := s0 _ _ ha
    have hb' := s0 _ _ hb
    have e0 := rat_eqG (K := K) (X := (cxOf (L2.CX P w) P w K mg base ["self", "other"] "Machine.__eq__" (defScope s_Machine_eq) (He.ma K (CM K) "__eq__") cdv A outer s H E).nox) rfl D (ok_eq D)
    have r1 := rcG_tup two_mon e0
    have r4 := rcG_tup (mon_tup (mon_tup (mon_tup two_mon))) (eqG_tup (mon_tup (mon_tup two_mon)) (eqG_tup (mon_tup two_mon) (eqG_tup two_mon e0)))
    refine ⟨_, (pss_one (ps_ret (pe_and (pe_callB (call_isiK K) rfl (free_isinstance D) (by decide +kernel) (pa_cons (pv 1) (pa_cons (pe_glob (v := .ref (He.ga K "Machine")) rfl (glo_Machine D) rfl) pa_nil))) (pe_and (pe_cmpR (op_eqG r1 (hr.mono (by decide))) (pe_fldK K (pv 0) rfl) (pe_fldK K (pv 1) rfl) (nomark _)) (pe_one (pe_cmpR (op_eqG r4 (hr.mono (by decide))) (pe_fldK K (pv 0) rfl) (pe_fldK K (pv 1) rfl) (nomark _))))))), ?_⟩
    refine ⟨_, rfl, _, _, _, _, true, rfl, .own _, (inst_Machine D).ty (cls_Machine D) hb', kit_self, _, rfl, iteT ?_⟩
    refine ⟨_, rfl, _, _, _, _, _, rfl, ha', cls_Machine D, na_Machine_start D, mf_start u1 u2, _, rfl, _, _, _, _, _, rfl, hb', cls_Machine D, na_Machine_start D, mf_start w1 w2, dtup_of s0 (dins_of s0) _ _ _ p1 q1, fun H1 x1 => ?_⟩
    refine ⟨_, rfl, iteT ?_⟩
    have s1 := (gr_ext s0 x1).ih
    refine ⟨_, rfl, _, _, _, _, _, rfl, s1 _ _ ha, cls_Machine D, na_Machine_moves D, mf_moves u1 u2, _, rfl, _, _, _, _, _, rfl, s1 _ _ hb, cls_Machine D, na_Machine_moves D, mf_moves w1 w2, dtup_of s1 (dtup_of s1 (dtup_of s1 (dtup_of s1 (dins_of s1)))) _ _ _ p2 q2, fun H2 x2 => ?_⟩
    exact k _ (gr_ext s0 (x1.trans x2))
end
end K

set_option Elab.async false
set_option linter.all false
set_option maxRecDepth 100000
set_option maxHeartbeats 4000000
set_option exponentiation.threshold 5000
namespace K
open PySem PySem.Spec PyProof.Rows L2 Tk Hd Mt
/-- sizes -/
structure Szs (n N B : Nat) (ws : List Rat) (rows : Rows) : Prop where
  l0 : ws.length = n
  l1 : rows.length = n
  l2 : ∀ s, s < n → (gl rows s).length = n
  n1 : n ≤ 5
  N0 : 0 < N
  g0 : ∀ s, s < n → Gd N B (gq ws s)
  g1 : ∀ s k, s < n → k < n → Gd 60 1 (gq (gl rows s) k)
  z0 : N * 60 ≤ 2 ^ 300
  z1 : 5 * B ≤ 2 ^ 300
def mvd (n : Nat) (ws : List Rat) (rows : Rows) : List Rat := (List.range n).map fun k => S n fun s => gq ws s * gq (gl rows s) k
theorem le400 {a b : Nat} (h : a ≤ 2 ^ 300) (h2 : b ≤ a) : b ≤ 2 ^ 400 := Nat.le_trans h2 (Nat.le_trans h (Nat.pow_le_pow_right (by decide) (by decide)))
theorem iA_sq {α : Type} {R : Rp α} {I : Hp} {v : V} {xs : List α} (K : PySem.W.Frag) (h : iA R I v xs) : ∃ l a vs, v = .ref a ∧ All2 (R I) vs xs ∧ ∀ H, Same I H → SqB K l H a vs := by
  obtain ⟨a, vs, rfl, h, t⟩ := h
  rcases h with h | h
  · exact ⟨true, a, vs, rfl, t, fun H s => SqL.of (s _ _ h)⟩
  · exact ⟨false, a, vs, rfl, t, fun H s => SqT.of (s _ _ h)⟩
section
variable {P : Program} {w : World} {K : PySem.W.Frag} {mg : Str → Option Value} {base : Heap}
def spMoved (C : Addr) : Sp := fun vs H Q _ => ∃ (I : Hp) (a b : V) (ws : List Rat) (rows : Rows) (n N B : Nat), vs = [a, b] ∧ Same I H ∧ iA (iR C) I a ws ∧ iT (iT (iR C)) I b rows ∧ Szs n N B ws rows ∧ Ret [] I H (iL (iR C)) (mvd n ws rows) Q
theorem sc_moved : FnScope ["weights", "rows", "weight", "row", "state"] ["weights", "rows"] (defScope s_moved) := ⟨rfl, rfl, rfl, by decide +kernel, rfl, by decide +kernel, by decide +kernel⟩
theorem ok_moved (D : Dt K mg) : Has P w K mg base 5 (He.ga K "moved") ["weights", "rows"] [] (spMoved (CR K)) := by
  obtain ⟨fd, F⟩ := fd_moved D
  have H_total := ok_total (P := P) (w := w) (base := base) D
  have H_Ratio_mul := ok_mul (P := P) (w := w) (base := base) D
  refine hasN F (F.bindsN fun _ _ _ _ _ _ us hl => match us, hl with | [_, _], _ => rfl) sc_moved (fun vs H Q E h => ?_) (fun cdv A outer s H vs Q E hr h => ?_)
  · obtain ⟨I, a, b, ws, rows, n, N, B, rfl, _⟩ := h; rfl
  · obtain ⟨I, va, vb, ws, rows, n, N, B, rfl, s0, ra, rb, z, k⟩ := h
    have n1 := z.n1
    refine ⟨_, (pss_one (ps_ret (pe_lc (own := [("state", 4)]) (g := gName 4) rfl sc_moved.nd (pi_range1 rfl (free_range D) (pa_cons (pe_callB (call_lenK K) rfl (free_len D) PySem.boot_len (pa_cons (pv 0) pa_nil)) pa_nil)) (blkOk_by (own := [("state", 4)]) (N := ["weights", "rows", "weight", "row", "state"]) (by kernel_rfl)) (fun _ _ _ _ _ => (pg_name (i := 4) sc_moved.nd rfl (Or.inr rfl))) (fun _ _ _ _ _ => pts_nil) (fun _ _ _ _ _ => (pe_callH H_total (hr.mono (by decide)) rfl (glo_total D) passL (pa_cons (pe_lc (own := [("weight", 2), ("row", 3)]) (g := gTup K 2 (gCons (gName 2) (gCons (gName 3) gNil))) rfl sc_moved.nd (pi_zipMK K rfl (free_zip D) (pa_cons (pv 0) (pa_cons (pv 1) pa_nil))) (blkOk_by (own := [("weight", 2), ("row", 3)]) (N := ["weights", "rows", "weight", "row", "state"]) (by kernel_rfl)) (fun _ _ _ _ _ => (pg_tupK K rfl (pgs_cons (pg_name (i := 2) sc_moved.nd rfl (Or.inl rfl)) (pgs_cons (pg_name (i := 3) sc_moved.nd rfl (Or.inl rfl)) pgs_nil)))) (fun _ _ _ _ _ => pts_nil) (fun _ _ _ _ _ => (pe_op (op_ownH H_Ratio_mul (hr.mono (by decide)) passL (self_Ratio (K := K) D) (me_Ratio_mul (K := K) D)) (pv 2) (pe_ix (ix_tupK K) (pv 3) (pv 4) (fun _ _ => rfl))))) pa_nil)))))), ?_⟩
    have hn : ((ws.length : Int)).toNat = n := by rw [z.l0]; omega
    refine ⟨_, rfl, _, ws.length, rfl, len_of ra s0, _, rfl, by have := z.l0; omega, by have := z.l0; omega, ?_⟩
    rw [hn]
    refine fun l hD => lc_range1 (iR (CR K)) (fun k => S n fun s => gq ws s * gq (gl rows s) k) s0 hD (lt_line (by omega)) (fun i I' H' Nx Qk hi s1 sx kk => ?_) (fun I' H' g1 r1 => k _ _ _ g1 r1)
    refine ⟨rfl, ?_⟩
    obtain ⟨l1, a, vs, rfl, a2, qa⟩ := iA_sq K (up s1 ra)
    obtain ⟨l2, b, us, rfl, b2, qb⟩ := iA_sq K (iA.t (up s1 rb))
    refine ⟨_, rfl, _, rfl, l1, l2, a, b, vs, us, rfl, qa _ sx, qb _ sx, fun l hD => lc_zip (n := n) (iR (CR K)) (fun s => gq ws s * gq (gl rows s) i) qa qb (by rw [a2.len]; exact z.l0) (by rw [b2.len]; exact z.l1) sx hD (lt_line (by omega)) (fun j t I2 H2 Nx2 Qk2 hj s2 s3 ht ke => ?_) (fun I2 H2 g2 r2 => ?_)⟩
    · have hqw := gq_lt (l := ws) (i := j) (by rw [z.l0]; exact hj)
      have hqr := gl_lt (l := rows) (i := j) (by rw [z.l1]; exact hj)
      have hqi := gq_lt (l := gl rows j) (i := i) (by rw [z.l2 j hj]; exact hi)
      have rw1 := up s2 (gv2 a2 hqw)
      obtain ⟨c, xs, ec, hc, c2⟩ := up s2 (gv2 b2 hqr)
      obtain ⟨u, hu, ru⟩ := c2.get' hqi
      obtain ⟨p, dp, ep, hp⟩ := id rw1
      obtain ⟨q, dq, eq, hq⟩ := id ru
      rw [ec, ep] at ht
      rw [ep] at rw1
      subst eq
      refine ⟨t, _, rfl, SqT.of ht, rfl, _, _, rfl, _, _, rfl, rfl, rfl, ?_⟩
      refine ⟨_, rfl, _, rfl, _, rfl, _, _, _, _, rfl, rfl, SqT.of (s3 _ _ hc), at_of (j := i) (by omega) hu, ?_⟩
      exact ⟨p, q, dp, dq, _, _, rfl, rfl, s3 _ _ hp, s3 _ _ hq, I2, _, _, _, _, rfl, s3, rw1, ru, fit_gd (z.g0 j hj) (le400 z.z1 (by omega)) (le400 z.z0 (by omega)), fit_gd (z.g1 j i hj hi) (by decide) (by decide), ke⟩
    · refine ⟨I2, _, _, rfl, g2.ih, iA.l r2, fits_gd (N := N * 60) (B := B) (by have := z.N0; omega) (fun x hx => ?_) (by rw [List.length_map, List.length_range]; exact le400 z.z1 (Nat.mul_le_mul_right _ n1)) (le400 z.z0 (Nat.le_refl _)), fun I3 H3 v3 g3 r3 => ?_⟩
      · obtain ⟨s, hs, rfl⟩ := List.mem_map.mp hx
        have hs := List.mem_range.mp hs
        have := (z.g0 s hs).mul (z.g1 s i hs hi)
        rw [Nat.mul_one] at this
        exact this
      · rw [tot_range] at r3
        exact kk _ _ _ (g2.trans g3) r3
end
end K

set_option Elab.async false
set_option linter.all false
set_option maxRecDepth 100000
set_option maxHeartbeats 4000000
set_option exponentiation.threshold 5000
namespace K
open PySem PySem.Spec PyProof.Rows L2 Tk Hd Mt
theorem gq_range {n k : Nat} {f : Nat → Rat} (h : k < n) : gq ((List.range n).map f) k = f k := gq_of (by rw [List.getElem?_map, List.getElem?_range h]; rfl)
def WOk (way : Way) (bs as : Nat) : Prop := way.length ≤ 8 ∧ ∀ x ∈ way, x.1 < bs ∧ x.2 < as
theorem take_at {α : Type} {l : List α} {i : Nat} {x : α} (h : l[i]? = some x) : l.take (i + 1) = l.take i ++ [x] := by
  rw [List.take_succ, h]; rfl
theorem adv_gd0 {M : Ma} {n bs as : Nat} (ok : MOk M n bs as) {way : Way} (hw : WOk way bs as) (s : Nat) (hs : s < n) : Gd (60 * 60 ^ way.length) (5 ^ way.length) (adv M n (gq M.1) way s) := by
  have := adv_gd ok way 60 1 (gq M.1) (by decide) hw.2 ok.g0 s hs
  rwa [Nat.mul_one] at this
theorem pows {i : Nat} (h : i ≤ 8) : 60 * 60 ^ i * 60 ≤ 2 ^ 300 ∧ 5 * 5 ^ i ≤ 2 ^ 300 := by
  have h1 : (60 : Nat) ^ i ≤ 60 ^ 8 := Nat.pow_le_pow_right (by decide) h
  have h2 : (5 : Nat) ^ i ≤ 5 ^ 8 := Nat.pow_le_pow_right (by decide) h
  have h3 : 60 * 60 ^ 8 * 60 ≤ 2 ^ 300 := by decide
  have h4 : 5 * 5 ^ 8 ≤ 2 ^ 300 := by decide
  omega
theorem WOk.take {way : Way} {bs as : Nat} (h : WOk way bs as) (i : Nat) : WOk (way.take i) bs as := ⟨Nat.le_trans (by simp; omega) h.1, fun x hx => h.2 x (List.mem_of_mem_take hx)⟩
section
variable {P : Program} {w : World} {K : PySem.W.Frag} {mg : Str → Option Value} {base : Heap}
abbrev iPr : Rp (Nat × Nat) := iP iN iN
def spChance (C C2 : Addr) : Sp := fun vs H Q _ => ∃ (I : Hp) (a b : V) (M : Ma) (n bs as : Nat) (way : Way), vs = [a, b] ∧ Same I H ∧ iM C C2 I a M ∧ iA iPr I b way ∧ MOk M n bs as ∧ WOk way bs as ∧ Ret [] I H (iR C) (chq M n way) Q
theorem sc_chance : FnScope ["machine", "way", "weights", "button", "answer"] ["machine", "way"] (defScope s_chance) := ⟨rfl, rfl, rfl, by decide +kernel, rfl, by decide +kernel, by decide +kernel⟩
theorem ok_chance (D : Dt K mg) : Has P w K mg base 6 (He.ga K "chance") ["machine", "way"] [] (spChance (CR K) (CM K)) := by
  obtain ⟨fd, F⟩ := fd_chance D
  have H_total := ok_total (P := P) (w := w) (base := base) D
  have H_moved := ok_moved (P := P) (w := w) (base := base) D
  refine hasN F (F.bindsN fun _ _ _ _ _ _ us hl => match us, hl with | [_, _], _ => rfl) sc_chance (fun vs H Q E h => ?_) (fun cdv A outer s H vs Q E hr h => ?_)
  · obtain ⟨I, a, b, M, n, bs, as, way, rfl, _⟩ := h; rfl
  · obtain ⟨I, va, vb, M, n, bs, as, way, rfl, s0, ⟨a, dx, u1, u2, rfl, ha, p1, p2⟩, rb, ok, hw, k⟩ := h
    obtain ⟨b, ws, rfl, hb, b2⟩ := id rb
    have hl := b2.len
    have n1 := ok.n1
    refine ⟨_, (pss_cons (ps_set (i := 2) sc_chance.nd rfl (Or.inl rfl) (pe_fldK K (pv 0) rfl))
      (pss_cons (ps_for PassesOwn.never rfl (pi_ltK K (pv 1)) (pg_tupK K rfl (pgs_cons (pg_name (i := 3) sc_chance.nd rfl (Or.inl rfl)) (pgs_cons (pg_name (i := 4) sc_chance.nd rfl (Or.inl rfl)) pgs_nil)))
      (pss_one (ps_set (i := 2) sc_chance.nd rfl (Or.inl rfl) (pe_callH H_moved (hr.mono (by decide)) rfl (glo_moved D) passL (pa_cons (pv 2) (pa_cons (pe_ix (ix_tupK K) (pe_ix (ix_tupK K) (pe_fldK K (pv 0) rfl) (pv 3) (fun _ _ => rfl)) (pv 4) (fun _ _ => rfl)) pa_nil))))))
      (pss_one (ps_ret (pe_callH H_total (hr.mono (by decide)) rfl (glo_total D) passL (pa_cons (pv 2) pa_nil)))))), ?_⟩
    have ha' := s0 _ _ ha
    refine ⟨_, rfl, _, _, _, _, _, rfl, ha', cls_Machine D, na_Machine_start D, mf_start u1 u2, ?_⟩
    (try dsimp only)
    refine ⟨_, rfl, lt_of hb s0 fun J W => for_wk W
      (fun σ' H' => ∃ (I' : Hp) (wv : V) (ws : List Rat) (v3 v4 : Option V), σ' = [some (.ref a), some (.ref b), some wv, v3, v4] ∧ Gr [] I H I' H' ∧ iA (iR (CR K)) I' wv ws ∧ ws.length = n ∧ ∀ s, s < n → gq ws s = adv M n (gq M.1) way s)
      (fun i σ' H' => ∃ (I' : Hp) (wv : V) (ws : List Rat) (v3 v4 : Option V), σ' = [some (.ref a), some (.ref b), some wv, v3, v4] ∧ Gr [] I H I' H' ∧ iA (iR (CR K)) I' wv ws ∧ ws.length = n ∧ ∀ s, s < n → gq ws s = adv M n (gq M.1) (way.take i) s)
      (fun i σ' H' h => by obtain ⟨I', wv, ws, v3, v4, _, gr, _⟩ := h; exact gr.ii.trans gr.ih)
      ⟨I, u1, M.1, none, none, rfl, Gr.refl s0, iA.t p1, ok.l0, fun s hs => rfl⟩ (fun nx q i σ' H' hi h => ?_) (fun σ' H' h => ?_) ?_⟩
    · obtain ⟨I', wv, wq, v3, v4, rfl, gr, rw1, hlw, hq⟩ := h
      obtain ⟨x, hx⟩ : ∃ x, way[i]? = some x := ⟨way[i]'(by omega), List.getElem?_eq_getElem (by omega)⟩
      obtain ⟨hx1, hx2⟩ := hw.2 x (List.mem_of_getElem? hx)
      obtain ⟨c, y1, y2, ec, hc, e1, e2⟩ := up gr.ii (gv2 b2 hx)
      have e1 : y1 = .int (x.1 : Int) := e1
      have e2 : y2 = .int (x.2 : Int) := e2
      rw [e1, e2] at hc
      rw [ec]
      have sI := gr.ih
      obtain ⟨d, ds, rfl, hd, d2⟩ := up gr.ii p2
      obtain ⟨t1, h1, d3, e3, rfl, hd3, d4⟩ := d2.get' (gl_lt (l := M.2) (i := x.1) (by rw [ok.l1]; exact hx1))
      obtain ⟨t2, h2, r2⟩ := d4.get' (gl_lt (l := gl M.2 x.1) (i := x.2) (by rw [ok.l2 _ hx1]; exact hx2))
      refine ⟨c, _, rfl, SqT.of (sI _ _ hc), rfl, _, _, rfl, _, _, rfl, rfl, ?_⟩
      refine ⟨_, rfl, _, rfl, _, _, _, _, _, rfl, sI _ _ (gr.ii _ _ ha), cls_Machine D, na_Machine_moves D, mf_moves u1 _, _, rfl, _, _, _, _, rfl, rfl, SqT.of (sI _ _ hd), at_of (j := x.1) rfl h1, _, rfl, _, _, _, _, rfl, rfl, SqT.of (sI _ _ hd3), at_of (j := x.2) rfl h2, ?_⟩
      have hi' : i ≤ 8 := by have := hw.1; omega
      have hlt : (way.take i).length = i := by rw [List.length_take]; omega
      obtain ⟨w1, w2⟩ := pows hi'
      refine ⟨I', _, _, wq, gl (gl M.2 x.1) x.2, n, 60 * 60 ^ i, 5 ^ i, rfl, sI, rw1, r2, ⟨hlw, ok.l3 _ _ hx1 hx2, fun s hs => ok.l4 _ _ s hx1 hx2 hs, n1, Nat.mul_pos (by decide) (Nat.pow_pos (by decide)), fun s hs => ?_, fun s k hs hk => ok.g1 _ _ s k hx1 hx2 hs hk, w1, w2⟩, fun I2 H2 v2 g2 r2 => ?_⟩
      · rw [hq s hs]
        have := adv_gd0 ok (hw.take i) s hs
        rwa [hlt] at this
      · refine ⟨I2, v2, _, _, _, rfl, gr.trans g2, iA.l r2, by unfold mvd; rw [List.length_map, List.length_range], fun s hs => ?_⟩
        rw [take_at hx, adv_snoc]
        unfold mvd
        rw [gq_range hs]
        exact S_congr fun j hj => by rw [hq j hj]; rfl
    · obtain ⟨I', wv, wq, v3, v4, rfl, gr, rw1, hlw, hq⟩ := h
      rw [hl, List.take_length] at hq
      exact ⟨I', wv, wq, v3, v4, rfl, gr, rw1, hlw, hq⟩
    · rintro σ' H' ⟨I', wv, wq, v3, v4, rfl, gr, rw1, hlw, hq⟩
      obtain ⟨w1, w2⟩ := pows hw.1
      refine ⟨_, rfl, I', _, wq, rfl, gr.ih, rw1, fits_gd (N := 60 * 60 ^ way.length) (B := 5 ^ way.length) (Nat.mul_pos (by decide) (Nat.pow_pos (by decide))) (fun y hy => ?_) ?_ (le400 w1 (by omega)), fun I2 H2 v2 g2 r2 => ?_⟩
      · obtain ⟨s, hs, rfl⟩ := mem_gq hy
        rw [hq s (by omega)]
        exact adv_gd0 ok hw s (by omega)
      · rw [hlw]
        exact le400 w2 (Nat.mul_le_mul_right _ n1)
      · have e : tot wq = chq M n way := by
          unfold tot chq
          rw [hlw]
          exact S_congr hq
        rw [e] at r2
        exact k _ _ _ (gr.trans g2) r2
end
end K

set_option Elab.async false
set_option linter.all false
set_option maxRecDepth 100000
set_option maxHeartbeats 4000000
set_option exponentiation.threshold 5000
namespace K
open PySem PySem.Spec PyProof.Rows L2 Tk Hd Mt
theorem iQ_z {H : Hp} {v : V} {q : Rat} (h : iQ H v q) : iZ H v (q.num, (q.den : Int)) := h
theorem Fit.z {q : Rat} (h : Fit q) : Fz (q.num, (q.den : Int)) := ⟨h.1, h.2, den_pos q⟩
section
variable {P : Program} {w : World} {K : PySem.W.Frag} {mg : Str → Option Value} {base : Heap}
def spLSum : Sp := fun vs H Q _ => ∃ (I : Hp) (a : V) (qs : List Rat), vs = [a] ∧ Same I H ∧ iA iQ I a qs ∧ Fits qs ∧ Ret [] I H iQ (tot qs) Q
theorem sc_lsum : FnScope ["ratios", "result", "ratio"] ["ratios"] (defScope s__law_sum) := ⟨rfl, rfl, rfl, by decide +kernel, rfl, by decide +kernel, by decide +kernel⟩
theorem ok_lsum (D : Dt K mg) : Has P w K mg base 3 (He.ga K "_law_sum") ["ratios"] [] spLSum := by
  obtain ⟨fd, F⟩ := fd__law_sum D
  have H__law_plus := ok_plus (P := P) (w := w) (base := base) D
  refine hasN F (F.bindsN fun _ _ _ _ _ _ us hl => match us, hl with | [_], _ => rfl) sc_lsum (fun vs H Q E h => ?_) (fun cdv A outer s H vs Q E hr h => ?_)
  · obtain ⟨I, a, qs, rfl, _⟩ := h; rfl
  · obtain ⟨I, va, qs, rfl, s0, ⟨a, vs, rfl, ha, a2⟩, ft, k⟩ := h
    have hl := a2.len
    refine ⟨_, (pss_cons (ps_set (i := 1) sc_lsum.nd rfl (Or.inl rfl) (pe_tup (pa_cons pe_int (pa_cons pe_int pa_nil))))
      (pss_cons (ps_for PassesOwn.never rfl (pi_ltK K (pv 0)) (pg_name (i := 2) sc_lsum.nd rfl (Or.inl rfl))
      (pss_one (ps_set (i := 1) sc_lsum.nd rfl (Or.inl rfl) (pe_callH H__law_plus (hr.mono (by decide)) rfl (glo__law_plus D) passL (pa_cons (pv 1) (pa_cons (pv 2) pa_nil))))))
      (pss_one (ps_ret (pv 1))))), ?_⟩
    (try dsimp only)
    refine seq_cut (fun σ' H1 => ∃ (I1 : Hp) (fv : V), σ' = [some (.ref a), some fv, none] ∧ Gr [] I H I1 H1 ∧ iQ I1 fv (S 0 (gq qs))) (fun nx q => ?_) ?_
    · refine ⟨(by show 2 ≤ sizeLine; decide), fun t ht => ?_⟩
      exact q _ _ ⟨_, .ref t, rfl, Gr.new (o := .tup [.int 0, .int 1]) s0 ht, t, rfl, upd_same⟩
    rintro σ' H1 ⟨I1, fv0, rfl, g1, r1⟩
    (try dsimp only)
    refine ⟨_, rfl, lt_of (ha.imp (g1.ii _ _) (g1.ii _ _)) g1.ih fun J W => for_wk W
      (fun σ' H' => ∃ (I' : Hp) (fv : V) (v : Option V), σ' = [some (.ref a), some fv, v] ∧ Gr [] I H I' H' ∧ iQ I' fv (tot qs))
      (fun i σ' H' => ∃ (I' : Hp) (fv : V) (v : Option V), σ' = [some (.ref a), some fv, v] ∧ Gr [] I H I' H' ∧ Same I1 I' ∧ iQ I' fv (S i (gq qs)))
      (fun i σ' H' h => by obtain ⟨I', fv, v, _, gr, s, _⟩ := h; exact s.trans gr.ih)
      ⟨I1, fv0, none, rfl, g1, Same.refl _, r1⟩ (fun nx q i σ' H' hi h => ?_) (fun σ' H' h => ?_) ?_⟩
    · obtain ⟨I', fv, v, rfl, gr, s1, rf⟩ := h
      have hq := gq_lt (l := qs) (i := i) (by omega)
      have rq := up (g1.ii.trans s1) (gv2 a2 hq)
      refine ⟨_, rfl, _, rfl, I', _, _, _, _, rfl, gr.ih, iQ_z rf, iQ_z rq, (ft.2 i (by omega)).z, (ft.1 _ (List.mem_of_getElem? hq)).z, fun I2 H2 v2 g2 r2 => ?_⟩
      rw [rt_add] at r2
      exact ⟨I2, v2, _, rfl, gr.trans g2, s1.trans g2.ii, r2⟩
    · obtain ⟨I', fv, v, rfl, gr, s1, rf⟩ := h
      rw [hl] at rf
      exact ⟨I', fv, v, rfl, gr, rf⟩
    · rintro σ' H' ⟨I', fv, v, rfl, gr, rf⟩
      exact ⟨_, rfl, k _ _ _ gr rf⟩
end
end K

set_option Elab.async false
set_option linter.all false
set_option maxRecDepth 100000
set_option maxHeartbeats 4000000
set_option exponentiation.threshold 5000
namespace K
open PySem PySem.Spec PyProof.Rows L2 Tk Hd Mt
abbrev vn (ws : List Nat) : List V := ws.map fun n : Nat => V.int n
theorem rep_zero (c : Nat) : (List.replicate c [V.int 0]).flatten = vn (List.replicate c 0) := by
  induction c with
  | zero => rfl
  | succ c ih => rw [List.replicate_succ, List.flatten_cons, ih]; rfl
theorem isum (ws : List Nat) : (ws.map fun n : Nat => (n : Int)).sum = (ws.sum : Nat) := by
  induction ws with
  | nil => rfl
  | cons a r ih => rw [List.map_cons, List.sum_cons, ih, List.sum_cons]; omega
theorem all2_vn {H : Hp} : ∀ ws : List Nat, All2 (iN H) (vn ws) ws
  | [] => .nil
  | a :: r => .cons rfl (all2_vn r)
section
variable {P : Program} {w : World} {K : PySem.W.Frag} {mg : Str → Option Value} {base : Heap}
def spCells : Sp := fun vs H Q _ => ∃ (I : Hp) (p : Addr) (c f : Nat), vs = [.ref p, .int c, .int f] ∧ Same I H ∧ PoolOk I H p ∧ 0 < c ∧ c ≤ 100 ∧ 0 < f ∧ f ≤ 3 ∧
  ∀ I' H' v qs, Gr [p] I H I' H' → PoolOk I' H' p → iL iQ I' v qs → Cells c qs → Q v H'
theorem sc_cells : FnScope ["pool", "count", "few", "weights", "k", "place", "weight"] ["pool", "count", "few"] (defScope s__law_cells) := ⟨rfl, rfl, rfl, by decide +kernel, rfl, by decide +kernel, by decide +kernel⟩
theorem PoolOk.mutO {I H : Hp} {p d : Addr} {o : HO} (h : PoolOk I H p) (n : p ≠ d) (hI : I d = none) : PoolOk I (upd H d o) p := by
  obtain ⟨i, c, cells, pos, b, s, l, u, h1, h2, h3, h4⟩ := h
  exact ⟨i, c, cells, pos, b, s, l, u, h1, h2, h3, by rw [upd_ne n]; exact h4⟩
theorem PoolOk.frzO {I H : Hp} {p d : Addr} {o : HO} (h : PoolOk I H p) (n : p ≠ d) (hI : I d = none) : PoolOk (upd I d o) H p := by
  obtain ⟨i, c, cells, pos, b, s, l, u, h1, h2, h3, h4⟩ := h
  exact ⟨by rw [upd_ne n]; exact i, c, cells, pos, b, s, l, u, by rw [upd_ne (ne_of_none h1 hI)]; exact h1, h2, h3, h4⟩
theorem PoolOk.ne {I H : Hp} {p d : Addr} (h : PoolOk I H p) (n : H d = none) : p ≠ d := by
  obtain ⟨i, c, cells, pos, b, s, l, u, h1, h2, h3, h4⟩ := h
  exact ne_of_none h4 n
theorem ok_cells (D : Dt K mg) : Has P w K mg base 2 (He.ga K "_law_cells") ["pool", "count", "few"] [] spCells := by
  obtain ⟨fd, F⟩ := fd__law_cells D
  have H__law_draw := ok_draw (P := P) (w := w) (base := base) D
  have H__law_less := ok_ls (P := P) (w := w) (base := base) D
  refine hasN F (F.bindsN fun _ _ _ _ _ _ us hl => match us, hl with | [_, _, _], _ => rfl) sc_cells (fun vs H Q E h => ?_) (fun cdv A outer s H vs Q E hr h => ?_)
  · obtain ⟨I, p, c, f, rfl, _⟩ := h; rfl
  · obtain ⟨I, p, c, f, rfl, s0, po, c0, c1, f0, f1, k⟩ := h
    refine ⟨_, (pss_cons (ps_set (i := 3) sc_cells.nd rfl (Or.inr rfl) (pe_op op_rep (pe_lst (pa_cons pe_int pa_nil)) (pv 1)))
      (pss_cons (ps_for PassesOwn.never rfl (pi_range1 rfl (free_range D) (pa_cons (pe_op op_add pe_int (pe_callH H__law_draw (hr.mono (by decide)) rfl (glo__law_draw D) passL (pa_cons (pv 0) (pa_cons (pv 2) pa_nil)))) pa_nil)) (pg_name (i := 4) sc_cells.nd rfl (Or.inl rfl))
      (pss_cons (ps_set (i := 5) sc_cells.nd rfl (Or.inl rfl) (pe_callH H__law_draw (hr.mono (by decide)) rfl (glo__law_draw D) passL (pa_cons (pv 0) (pa_cons (pv 1) pa_nil))))
      (pss_one (ps_asg (pe_op op_add (pe_op op_add (pe_ix (ix_listK K) (pv 3) (pv 5) (fun _ _ => rfl)) pe_int) (pe_callH H__law_draw (hr.mono (by decide)) rfl (glo__law_draw D) passL (pa_cons (pv 0) (pa_cons pe_int pa_nil)))) (pg_sub (pv 3) (pv 5) set_list)))))
      (pss_one (ps_ret (pe_lc (own := [("weight", 6)]) (g := gName 6) rfl sc_cells.nd (pi_listK K (pv 3)) (blkOk_by (own := [("weight", 6)]) (N := ["pool", "count", "few", "weights", "k", "place", "weight"]) (by kernel_rfl)) (fun _ _ _ _ _ => (pg_name (i := 6) sc_cells.nd rfl (Or.inl rfl))) (fun _ _ _ _ _ => pts_nil) (fun _ _ _ _ _ => (pe_callH H__law_less (hr.mono (by decide)) rfl (glo__law_less D) passL (pa_cons (pv 6) (pa_cons (pe_callB (cr_sumK K rfl) rfl (free_sum D) (by decide +kernel) (pa_cons (pv 3) pa_nil)) pa_nil))))))))), ?_⟩
    (try dsimp only)
    refine seq_cut (fun σ' H1 => ∃ d, σ' = [some (.ref p), some (.int c), some (.int f), some (.ref d), none, none, none] ∧ Gr [] I H I H1 ∧ H d = none ∧ H1 d = some (.lst (vn (List.replicate c 0)))) (fun nx q => ?_) ?_
    · refine ⟨(by show 1 ≤ sizeLine; decide), fun l hl => ⟨_, rfl, l, c, _, rfl, rfl, upd_same, by omega, by omega, ?_, fun d hd => ?_⟩⟩
      · rw [Int.toNat_natCast]; exact Nat.le_of_lt (lt_line (by simp; omega))
      · rw [Int.toNat_natCast, rep_zero]
        have nld : d ≠ l := fun e => by rw [e, upd_same] at hd; cases hd
        exact q _ _ ⟨d, rfl, (Gr.tmp s0 hl).trans (Gr.tmp (sUnder s0 (s0.free hl)) hd), by rw [upd_ne nld] at hd; exact hd, upd_same⟩
    rintro σ' H1 ⟨d, rfl, g1, hd, h1⟩
    (try dsimp only)
    have npd := po.ne hd
    have hId := s0.free hd
    have po1 : PoolOk I H1 p := po.up g1 (by simp)
    refine ⟨_, rfl, _, rfl, I, p, f, rfl, g1.ih, po1, by omega, by omega, fun v H2 hv0 hv1 g2 po2 => ⟨_, _, rfl, rfl, 1 + v, rfl, by omega, by omega, ?_⟩⟩
    have h2 : H2 d = some (.lst (vn (List.replicate c 0))) := g2.at h1 (by simpa using npd.symm)
    obtain ⟨t, ht⟩ : ∃ t : Nat, t = (1 + v).toNat := ⟨_, rfl⟩
    rw [← ht]
    have t1 : 1 ≤ t ∧ t ≤ 3 := by omega
    refine for_wk (wk_range (I := I))
      (fun σ' H' => ∃ (v4 v5 : Option V) (ws : List Nat), σ' = [some (.ref p), some (.int c), some (.int f), some (.ref d), v4, v5, none] ∧ Gr [p] I H I H' ∧ PoolOk I H' p ∧ H' d = some (.lst (vn ws)) ∧ ws.length = c ∧ 1 ≤ ws.sum ∧ ws.sum ≤ 6 ∧ ws.countP (fun w => decide (w ≠ 0)) ≤ 3)
      (fun i σ' H' => ∃ (v4 v5 : Option V) (ws : List Nat), σ' = [some (.ref p), some (.int c), some (.int f), some (.ref d), v4, v5, none] ∧ Gr [p] I H I H' ∧ PoolOk I H' p ∧ H' d = some (.lst (vn ws)) ∧ ws.length = c ∧ i ≤ ws.sum ∧ ws.sum ≤ 2 * i ∧ ws.countP (fun w => decide (w ≠ 0)) ≤ i)
      (fun i σ' H' h => by obtain ⟨v4, v5, ws, _, gr, _⟩ := h; exact gr.ih)
      ⟨none, none, List.replicate c 0, rfl, (g1.mono fun _ z => nomatch z).trans g2, po2, h2, by simp, by simp, by simp, by simp⟩ (fun nx q i σ' H' hi h => ?_) (fun σ' H' h => ?_) ?_
    · obtain ⟨v4, v5, ws, rfl, gr, po3, h3, hl, w0, w1, wz⟩ := h
      refine ⟨_, rfl, _, rfl, I, p, c, rfl, gr.ih, po3, by omega, by omega, fun u H3 hu0 hu1 g3 po4 => ?_⟩
      obtain ⟨j, rfl⟩ := Int.eq_ofNat_of_zero_le hu0
      have hj : j < ws.length := by omega
      have h4 : H3 d = some (.lst (vn ws)) := g3.at h3 (by simpa using npd.symm)
      have hw : (vn ws)[j]? = some (.int (ws[j] : Nat)) := by rw [List.getElem?_map, List.getElem?_eq_getElem hj]; rfl
      refine ⟨_, rfl, _, rfl, _, _, _, _, rfl, rfl, SqL.of h4, at_of (j := j) rfl hw, _, _, rfl, rfl, _, rfl, I, p, 2, rfl, g3.ih, po4, by omega, by omega, fun u2 H4 hv0 hv1 g4 po5 => ⟨_, _, rfl, rfl, ?_⟩⟩
      obtain ⟨x, rfl⟩ := Int.eq_ofNat_of_zero_le hv0
      have h5 : H4 d = some (.lst (vn ws)) := g4.at h4 (by simpa using npd.symm)
      refine ⟨_, rfl, _, rfl, _, _, _, _, rfl, rfl, h5, (show ixN (vn ws).length (j : Int) = some j from ?_), ?_⟩
      · unfold ixN
        rw [if_pos (by omega), if_pos (by rw [List.length_map]; omega)]; rfl
      · have e : (vn ws).set j (.int (((ws[j] : Nat) : Int) + 1 + (x : Int))) = vn (ws.set j (ws[j] + 1 + x)) := by
          rw [vn, vn, List.map_set]; rfl
        have ss := sum_set (v := ws[j] + 1 + x) hj
        have zz := nz_set (v := ws[j] + 1 + x) hj
        have gg := (gr.trans g3).trans g4
        refine ⟨_, _, ws.set j (ws[j] + 1 + x), rfl, ((gg.mono (ns := [d, p]) fun _ z => List.mem_cons_of_mem _ z).trans (Gr.mut gg.ih hId List.mem_cons_self)).drop hd, po5.mutO npd hId, by rw [upd_same, ← e], by rw [List.length_set]; exact hl, by omega, by omega, by omega⟩
    · obtain ⟨v4, v5, ws, rfl, gr, po3, h3, hl, w0, w1, wz⟩ := h
      exact ⟨v4, v5, ws, rfl, gr, po3, h3, hl, by omega, by omega, by omega⟩
    · rintro σ' H' ⟨v4, v5, ws, rfl, gr, po3, h3, hl, w0, w1, wz⟩
      have g5 : Gr [p] I H (upd I d (.lst (vn ws))) H' := (gr.mono (ns := [d, p]) fun _ z => List.mem_cons_of_mem _ z).frz s0 hd h3
      have po6 : PoolOk (upd I d (.lst (vn ws))) H' p := po3.frzO npd hId
      have hW : (W : Nat) → True := fun _ => trivial
      refine ⟨_, rfl, d, rfl, ⟨_, SqL.of h3⟩, fun l hD => lc_wk (n := (vn ws).length) (xs := gv (vn ws)) [] iQ (fun i z => ∃ x, ws[i]? = some x ∧ z = rt (x : Nat) (ws.sum : Nat)) (fun _ _ => True) (wk_list (I := upd I d (.lst (vn ws))) upd_same) g5.ih hD (by simp) (lt_line (by simp; omega)) stb_true trivial (fun i I' H4 Nx Qk hi s1 s2 _ kk => ?_) (fun I' H4 ys zs g6 hD' b2 hz rl _ => ?_)⟩
      · have hi' : i < ws.length := by simpa using hi
        have hx : ws[i]? = some ws[i] := List.getElem?_eq_getElem hi'
        have ev : gv (vn ws) i = .int (ws[i] : Nat) := gv_of (by rw [List.getElem?_map, hx]; rfl)
        have hd4 : H4 d = some (.lst (vn ws)) := s2 _ _ (s1 _ _ upd_same)
        rw [ev]
        refine ⟨rfl, _, rfl, _, rfl, d, ws.map (fun n : Nat => (n : Int)), rfl, SqL.of (by rw [hd4, List.map_map]; rfl), ?_⟩
        rw [isum]
        exact ⟨I', _, _, rfl, s2, by omega, by have : (6 : Int) < 2 ^ 1999 := by decide
                                               omega, fun I5 H5 v5 g7 r7 => kk _ _ _ _ g7 trivial r7 ⟨_, hx, rfl⟩⟩
      · have e : zs = ws.map fun x : Nat => rt x (ws.sum : Nat) := map_of (by rw [hz]; simp) rl
        subst e
        exact k _ _ _ _ (g5.trans (g6.mono fun _ z => nomatch z)) (po6.up g6 (by simp)) ⟨l, ys, rfl, hD', b2⟩ (cells_of hl w0 w1 wz (by decide))
end
end K

set_option Elab.async false
set_option linter.all false
set_option maxRecDepth 100000
set_option maxHeartbeats 4000000
set_option exponentiation.threshold 5000
namespace K
open PySem PySem.Spec PyProof.Rows L2 Tk Hd Mt
section
variable {P : Program} {w : World} {K : PySem.W.Frag} {mg : Str → Option Value} {base : Heap}
/-- the law's own machines -/
def iLM : Rp Ma := fun H v M => ∃ a x y, v = .ref a ∧ H a = some (.tup [x, y]) ∧ iL iQ H x M.1 ∧ iL (iL (iL (iL iQ))) H y M.2
instance : Mono iLM := ⟨fun s ⟨a, x, y, e, h, p, q⟩ => ⟨a, x, y, e, s _ _ h, up s p, up s q⟩⟩
def spLM : Sp := fun vs H Q _ => ∃ (I : Hp) (p : Addr) (n bs as : Nat), vs = [.ref p, .int n, .int bs, .int as] ∧ Same I H ∧ PoolOk I H p ∧ (0 < n ∧ n ≤ 5) ∧ (0 < bs ∧ bs ≤ 4) ∧ (0 < as ∧ as ≤ 4) ∧
  ∀ I' H' v M, Gr [p] I H I' H' → PoolOk I' H' p → iLM I' v M → MOk M n bs as → Q v H'
theorem sc_lmach : FnScope ["pool", "states", "buttons", "answers", "start", "moves", "button", "rows", "state", "row", "answer"] ["pool", "states", "buttons", "answers"] (defScope s__law_machine) := ⟨rfl, rfl, rfl, by decide +kernel, rfl, by decide +kernel, by decide +kernel⟩
theorem stb_pool {p l : Addr} (n : p ≠ l) : Stb (fun I H => PoolOk I H p) l := ⟨fun hI h => h.mutO n hI, fun hI h => h.frzO n hI⟩
theorem ok_lmach (D : Dt K mg) : Has P w K mg base 3 (He.ga K "_law_machine") ["pool", "states", "buttons", "answers"] [] spLM := by
  obtain ⟨fd, F⟩ := fd__law_machine D
  have H__law_cells := ok_cells (P := P) (w := w) (base := base) D
  refine hasN F (F.bindsN fun _ _ _ _ _ _ us hl => match us, hl with | [_, _, _, _], _ => rfl) sc_lmach (fun vs H Q E h => ?_) (fun cdv A outer s H vs Q E hr h => ?_)
  · obtain ⟨I, p, n, bs, as, rfl, _⟩ := h; rfl
  · obtain ⟨I, p, n, bs, as, rfl, s0, po, ⟨n0, n1⟩, ⟨b0, b1⟩, ⟨a0, a1⟩, k⟩ := h
    refine ⟨_, (pss_cons (ps_set (i := 4) sc_lmach.nd rfl (Or.inl rfl) (pe_callH H__law_cells (hr.mono (by decide)) rfl (glo__law_cells D) passL (pa_cons (pv 0) (pa_cons (pv 1) (pa_cons pe_int pa_nil)))))
      (pss_cons (ps_set (i := 5) sc_lmach.nd rfl (Or.inl rfl) (pe_lst pa_nil))
      (pss_cons (ps_for PassesOwn.never rfl (pi_range1 rfl (free_range D) (pa_cons (pv 2) pa_nil)) (pg_name (i := 6) sc_lmach.nd rfl (Or.inl rfl))
      (pss_cons (ps_set (i := 7) sc_lmach.nd rfl (Or.inr rfl) (pe_lc (own := [("state", 8)]) (g := gName 8) rfl sc_lmach.nd (pi_range1 rfl (free_range D) (pa_cons (pv 1) pa_nil)) (blkOk_by (own := [("state", 8)]) (N := ["pool", "states", "buttons", "answers", "start", "moves", "button", "rows", "state", "row", "answer"]) (by kernel_rfl)) (fun _ _ _ _ _ => (pg_name (i := 8) sc_lmach.nd rfl (Or.inl rfl))) (fun _ _ _ _ _ => pts_nil) (fun _ _ _ _ _ => (pe_callH H__law_cells (hr.mono (by decide)) rfl (glo__law_cells D) passL (pa_cons (pv 0) (pa_cons (pe_op op_mul (pv 3) (pv 1)) (pa_cons pe_int pa_nil)))))))
      (pss_one (ps_expr (pe_bm PySem.F.plainAttrs_list PySem.F.slot_list_append PySem.F.type_list_append mt_append (pv 5) (pa_cons (pe_lc (own := [("answer", 10)]) (g := gName 10) rfl sc_lmach.nd (pi_range1 rfl (free_range D) (pa_cons (pv 3) pa_nil)) (blkOk_by (own := [("answer", 10)]) (N := ["pool", "states", "buttons", "answers", "start", "moves", "button", "rows", "state", "row", "answer"]) (by kernel_rfl)) (fun _ _ _ _ _ => (pg_name (i := 10) sc_lmach.nd rfl (Or.inr rfl))) (fun _ _ _ _ _ => pts_nil) (fun _ _ _ _ _ => (pe_lc (own := [("row", 9)]) (g := gName 9) rfl sc_lmach.nd (pi_listK K (pv 7)) (blkOk_by (own := [("row", 9)]) (N := ["pool", "states", "buttons", "answers", "start", "moves", "button", "rows", "state", "row", "answer"]) (by kernel_rfl)) (fun _ _ _ _ _ => (pg_name (i := 9) sc_lmach.nd rfl (Or.inl rfl))) (fun _ _ _ _ _ => pts_nil) (fun _ _ _ _ _ => (pe_slice (sl_listK K) (pv 9) (po_some (pe_op op_mul (pv 10) (pv 1))) (po_some (pe_op op_add (pe_op op_mul (pv 10) (pv 1)) (pv 1)))))))) pa_nil))))))
      (pss_one (ps_ret (pe_tup (pa_cons (pv 4) (pa_cons (pv 5) pa_nil)))))))), ?_⟩
    have an : as * n ≤ 4 * 5 := Nat.mul_le_mul a1 n1
    have an0 : 0 < as * n := Nat.mul_pos a0 n0
    (try dsimp only)
    refine seq_cut (fun σ' H1 => ∃ (I1 : Hp) (sv : V) (st : List Rat), σ' = [some (.ref p), some (.int n), some (.int bs), some (.int as), some sv, none, none, none, none, none, none] ∧ Gr [p] I H I1 H1 ∧ PoolOk I1 H1 p ∧ iL iQ I1 sv st ∧ Cells n st) (fun nx q => ?_) ?_
    · refine ⟨_, rfl, _, rfl, I, p, n, 2, rfl, s0, po, n0, by omega, by decide, by decide, fun I1 H1 v qs g1 po1 r1 c1 => ?_⟩
      exact q _ _ ⟨I1, v, qs, rfl, g1, po1, r1, c1⟩
    rintro σ' H1 ⟨I1, sv, st, rfl, g1, po1, r1, cst⟩
    (try dsimp only)
    refine seq_cut (fun σ' H2 => ∃ L, σ' = [some (.ref p), some (.int n), some (.int bs), some (.int as), some sv, some (.ref L), none, none, none, none, none] ∧ H1 L = none ∧ H2 = upd H1 L (.lst [])) (fun nx q => ?_) ?_
    · exact ⟨(by show 0 ≤ sizeLine; decide), fun L hL => q _ _ ⟨L, rfl, hL, rfl⟩⟩
    rintro σ' H2 ⟨L, rfl, hL, rfl⟩
    (try dsimp only)
    have npL := po1.ne hL
    have hL0 := g1.none hL
    have hI1L := g1.ih.free hL
    have gL : Gr [p] I H I1 (upd H1 L (.lst [])) := g1.trans (Gr.tmp g1.ih hL)
    refine ⟨_, rfl, bs, rfl, by omega, by omega, ?_⟩
    rw [Int.toNat_natCast]
    refine for_wk (wk_range (I := I1))
      (fun σ' H' => ∃ (I' : Hp) (v6 v7 : Option V) (ys : List V) (ms : List (List Rows)), σ' = [some (.ref p), some (.int n), some (.int bs), some (.int as), some sv, some (.ref L), v6, v7, none, none, none] ∧ Gr [p] I H I' H' ∧ Same I1 I' ∧ PoolOk I' H' p ∧ I' L = none ∧ H' L = some (.lst ys) ∧ All2 (iL (iL (iL iQ)) I') ys ms ∧ ms.length = bs ∧ ∀ b, b < bs → BOk n as (gl ms b))
      (fun i σ' H' => ∃ (I' : Hp) (v6 v7 : Option V) (ys : List V) (ms : List (List Rows)), σ' = [some (.ref p), some (.int n), some (.int bs), some (.int as), some sv, some (.ref L), v6, v7, none, none, none] ∧ Gr [p] I H I' H' ∧ Same I1 I' ∧ PoolOk I' H' p ∧ I' L = none ∧ H' L = some (.lst ys) ∧ All2 (iL (iL (iL iQ)) I') ys ms ∧ ms.length = i ∧ ∀ b, b < i → BOk n as (gl ms b))
      (fun i σ' H' h => by obtain ⟨I', v6, v7, ys, ms, _, gr, s, _⟩ := h; exact s.trans gr.ih)
      ⟨I1, none, none, [], [], rfl, gL, Same.refl _, po1.mutO npL hI1L, hI1L, upd_same, .nil, rfl, fun b hb => absurd hb (by omega)⟩ (fun nx q i σ' H' hi h => ?_) (fun σ' H' h => h) ?_
    · obtain ⟨I', v6, v7, ys, ms, rfl, gr, s1, po2, hLI, hLH, a2, hl, ok⟩ := h
      (try dsimp only)
      refine seq_cut (fun σ' H2 => ∃ (I2 : Hp) (v6 : Option V) (lr : Addr) (rows : Rows), σ' = [some (.ref p), some (.int n), some (.int bs), some (.int as), some sv, some (.ref L), v6, some (.ref lr), none, none, none] ∧ Gr [p] I' H' I2 H2 ∧ PoolOk I2 H2 p ∧ iL (iL iQ) I2 (.ref lr) rows ∧ rows.length = n ∧ ∀ r ∈ rows, Cells (as * n) r) (fun nx q => ?_) ?_
      · refine ⟨_, rfl, n, rfl, by omega, by omega, fun l hD => ?_⟩
        rw [Int.toNat_natCast]
        have npl := po2.ne hD
        refine lc_wk [p] (iL iQ) (fun i z => Cells (as * n) z) (fun I H => PoolOk I H p) (wk_range (I := I')) gr.ih hD (by simpa using npl.symm) (lt_line (by omega)) (stb_pool npl) po2 (fun j I3 H3 Nx Qk hj s2 s3 pj kk => ?_) (fun I3 H3 ys zs g3 hD' b2 hz rl pj => ?_)
        · refine ⟨rfl, _, rfl, _, rfl, _, rfl, _, _, rfl, rfl, mulc (by omega) (by omega), I3, p, as * n, 3, by rw [Int.natCast_mul]; rfl, s3, pj, an0, by omega, by decide, by decide, fun I4 H4 v qs g4 po4 r4 c4 => kk _ _ _ _ g4 po4 r4 c4⟩
        · exact q _ _ ⟨I3, _, l, zs, rfl, g3, pj, ⟨l, ys, rfl, hD', b2⟩, hz, fun r hr => by
            obtain ⟨j, hj, e⟩ := List.getElem_of_mem hr
            rw [← e]; exact rl j _ (List.getElem?_eq_getElem hj)⟩
      rintro σ' H2 ⟨I2, v6, lr, rows, rfl, g2, po3, rr, hrl, hrc⟩
      (try dsimp only)
      have hLH2 : H2 L = some (.lst ys) := g2.at hLH (by simpa using npL.symm)
      have hLI2 := g2.out hLI hLH
      refine ⟨_, rfl, .inl ⟨rfl, _, SqL.of hLH2⟩, _, rfl, as, rfl, by omega, by omega, fun l hD => ?_⟩
      rw [Int.toNat_natCast]
      have nLl : L ≠ l := ne_of_none hLH2 hD
      refine lc_range1 (iL (iL iQ)) (fun a => rows.map fun r => (r.drop (a * n)).take n) g2.ih hD (lt_line (by omega)) (fun a I3 H3 Nx Qk ha s2 s3 kk => ?_) (fun I3 H3 g3 r3 => ?_)
      · obtain ⟨_, vs, er, hr, b2⟩ := up s2 rr
        cases er
        refine ⟨rfl, _, rfl, lr, rfl, ⟨_, SqL.of (s3 _ _ hr)⟩, fun l2 hD2 => lc_map (R := iL iQ) (Sy := iL iQ) (fun r => (r.drop (a * n)).take n) (wk_list hr) b2 s3 hD2 (lt_line (by omega)) (fun j r I4 H4 Nx4 Qk4 hj rj s4 s5 ke => ?_) (fun I4 H4 g4 r4 => kk _ _ _ g4 r4)⟩
        have e : (0 + (a : Int)) * (n : Int) = ((a * n : Nat) : Int) := by rw [Int.zero_add, Int.natCast_mul]
        have hlr := (hrc r (List.mem_of_getElem? hj)).len
        refine ⟨rfl, _, rfl, _, rfl, _, rfl, _, _, rfl, rfl, mulc (by omega) (by omega), _, rfl, _, rfl, _, rfl, _, _, rfl, rfl, mulc (by omega) (by omega), _, rfl, _, _, rfl, rfl, _, rfl, ?_⟩
        rw [e]
        exact slice_of rj s5 (by rw [hlr]; exact blk_le ha) ke
      · have hLH3 : H3 L = some (.lst ys) := g3.at hLH2 (by simp)
        have hLI3 := g3.out hLI2 hLH2
        refine ⟨L, ys, _, rfl, rfl, hLH3, lt_line (by rw [a2.len]; omega), ?_⟩
        have gg := (gr.trans g2).trans (g3.mono (ns := [p]) fun _ z => nomatch z)
        have po5 := po3.up g3 (by simp)
        refine ⟨I3, _, _, ys ++ [.ref l], ms ++ [cuts n as rows], rfl, ((gg.mono (ns := [L, p]) fun _ z => List.mem_cons_of_mem _ z).trans (Gr.mut gg.ih hLI3 List.mem_cons_self)).drop hL0, (s1.trans g2.ii).trans g3.ii, po5.mutO npL hLI3, hLI3, upd_same, ((a2.up g2.ii).up g3.ii).snoc r3, by rw [List.length_append, hl]; rfl, fun b hb => ?_⟩
        by_cases h : b < i
        · rw [gl_snoc_lt (by omega)]; exact ok b h
        · have e : b = ms.length := by omega
          rw [e, gl_snoc]
          exact cuts_ok hrl hrc
    · rintro σ' H' ⟨I', v6, v7, ys, ms, rfl, gr, s1, po2, hLI, hLH, a2, hl, ok⟩
      have g5 : Gr [p] I H (upd I' L (.lst ys)) H' := (gr.mono (ns := [L, p]) fun _ z => List.mem_cons_of_mem _ z).frz s0 hL0 hLH
      refine ⟨_, rfl, _, rfl, (by show 2 ≤ sizeLine; decide), fun t ht => ?_⟩
      have g6 := Gr.new (ms := []) (o := .tup [sv, .ref L]) g5.ih ht
      have po6 := (po2.frzO (o := .lst ys) npL hLI).up g6 (by simp)
      refine k _ _ _ (st, ms) (g5.trans (g6.mono fun _ z => nomatch z)) po6 ⟨t, _, _, rfl, upd_same, up ((s1.trans (sNew hLI)).trans g6.ii) r1, L, ys, rfl, g6.ii _ _ upd_same, ?_⟩ (mok_of n0 n1 b0 b1 a0 a1 cst hl ok)
      exact (a2.up (sNew hLI)).up g6.ii
end
end K

set_option Elab.async false
set_option linter.all false
set_option maxRecDepth 100000
set_option maxHeartbeats 4000000
set_option exponentiation.threshold 5000
namespace K
open PySem PySem.Spec PyProof.Rows L2 Tk Hd Mt
section
variable {P : Program} {w : World} {K : PySem.W.Frag} {mg : Str → Option Value} {base : Heap}
def spSing : Sp := fun vs H Q _ => ∃ (I : Hp) (p : Addr), vs = [.ref p, .int 5] ∧ Same I H ∧ PoolOk I H p ∧
  ∀ I' H' v M n bs as, Gr [p] I H I' H' → PoolOk I' H' p → iLM I' v M → MOk M n bs as → Q v H'
theorem sc_lsing : FnScope ["pool", "most"] ["pool", "most"] (defScope s__law_single) := ⟨rfl, rfl, rfl, by decide +kernel, rfl, by decide +kernel, by decide +kernel⟩
theorem ok_lsing (D : Dt K mg) : Has P w K mg base 4 (He.ga K "_law_single") ["pool", "most"] [] spSing := by
  obtain ⟨fd, F⟩ := fd__law_single D
  have H__law_draw := ok_draw (P := P) (w := w) (base := base) D
  have H__law_machine := ok_lmach (P := P) (w := w) (base := base) D
  refine hasN F (F.bindsN fun _ _ _ _ _ _ us hl => match us, hl with | [_, _], _ => rfl) sc_lsing (fun vs H Q E h => ?_) (fun cdv A outer s H vs Q E hr h => ?_)
  · obtain ⟨I, p, rfl, _⟩ := h; rfl
  · obtain ⟨I, p, rfl, s0, po, k⟩ := h
    refine ⟨_, (pss_cons (ps_if (pt_cmpR op_eq (pe_callH H__law_draw (hr.mono (by decide)) rfl (glo__law_draw D) passL (pa_cons (pv 0) (pa_cons pe_int pa_nil))) pe_int (nomark _))
      (pss_one (ps_ret (pe_callH H__law_machine (hr.mono (by decide)) rfl (glo__law_machine D) passL (pa_cons (pv 0) (pa_cons (pe_op op_add pe_int (pe_callH H__law_draw (hr.mono (by decide)) rfl (glo__law_draw D) passL (pa_cons (pv 0) (pa_cons pe_int pa_nil)))) (pa_cons (pe_op op_add pe_int (pe_callH H__law_draw (hr.mono (by decide)) rfl (glo__law_draw D) passL (pa_cons (pv 0) (pa_cons pe_int pa_nil)))) (pa_cons (pe_op op_add pe_int (pe_callH H__law_draw (hr.mono (by decide)) rfl (glo__law_draw D) passL (pa_cons (pv 0) (pa_cons pe_int pa_nil)))) pa_nil)))))))
      pss_nil)
      (pss_one (ps_ret (pe_callH H__law_machine (hr.mono (by decide)) rfl (glo__law_machine D) passL (pa_cons (pv 0) (pa_cons (pe_op op_add pe_int (pe_callH H__law_draw (hr.mono (by decide)) rfl (glo__law_draw D) passL (pa_cons (pv 0) (pa_cons (pv 1) pa_nil)))) (pa_cons (pe_op op_add pe_int (pe_callH H__law_draw (hr.mono (by decide)) rfl (glo__law_draw D) passL (pa_cons (pv 0) (pa_cons pe_int pa_nil)))) (pa_cons (pe_op op_add pe_int (pe_callH H__law_draw (hr.mono (by decide)) rfl (glo__law_draw D) passL (pa_cons (pv 0) (pa_cons pe_int pa_nil)))) pa_nil)))))))), ?_⟩
    refine ⟨_, rfl, I, p, 6, rfl, s0, po, by omega, by omega, fun v0 H0 a0 b0 g0 po0 => ⟨rfl, _, rfl, ifD (fun _ => ?_) (fun _ => ?_)⟩⟩
    · refine ⟨_, rfl, _, rfl, I, p, 2, rfl, g0.ih, po0, by omega, by omega, fun v1 H1 a1 b1 g1 po1 => ⟨_, _, rfl, rfl, ?_⟩⟩
      refine ⟨_, rfl, I, p, 4, rfl, g1.ih, po1, by omega, by omega, fun v2 H2 a2 b2 g2 po2 => ⟨_, _, rfl, rfl, ?_⟩⟩
      refine ⟨_, rfl, I, p, 4, rfl, g2.ih, po2, by omega, by omega, fun v3 H3 a3 b3 g3 po3 => ⟨_, _, rfl, rfl, ?_⟩⟩
      obtain ⟨n, rfl⟩ := Int.eq_ofNat_of_zero_le a1
      obtain ⟨b, rfl⟩ := Int.eq_ofNat_of_zero_le a2
      obtain ⟨a, rfl⟩ := Int.eq_ofNat_of_zero_le a3
      exact ⟨I, p, 1 + n, 1 + b, 1 + a, by simp, g3.ih, po3, by omega, by omega, by omega, fun I' H' v M g4 po4 r4 ok => k _ _ _ _ _ _ _ ((((g0.trans g1).trans g2).trans g3).trans g4) po4 r4 ok⟩
    · refine ⟨_, rfl, _, rfl, _, rfl, I, p, 5, rfl, g0.ih, po0, by omega, by omega, fun v1 H1 a1 b1 g1 po1 => ⟨_, _, rfl, rfl, ?_⟩⟩
      refine ⟨_, rfl, I, p, 2, rfl, g1.ih, po1, by omega, by omega, fun v2 H2 a2 b2 g2 po2 => ⟨_, _, rfl, rfl, ?_⟩⟩
      refine ⟨_, rfl, I, p, 3, rfl, g2.ih, po2, by omega, by omega, fun v3 H3 a3 b3 g3 po3 => ⟨_, _, rfl, rfl, ?_⟩⟩
      obtain ⟨n, rfl⟩ := Int.eq_ofNat_of_zero_le a1
      obtain ⟨b, rfl⟩ := Int.eq_ofNat_of_zero_le a2
      obtain ⟨a, rfl⟩ := Int.eq_ofNat_of_zero_le a3
      exact ⟨I, p, 1 + n, 1 + b, 1 + a, by simp, g3.ih, po3, by omega, by omega, by omega, fun I' H' v M g4 po4 r4 ok => k _ _ _ _ _ _ _ ((((g0.trans g1).trans g2).trans g3).trans g4) po4 r4 ok⟩
def spMade (C C2 : Addr) : Sp := fun vs H Q _ => ∃ (I : Hp) (v : V) (M : Ma) (n bs as : Nat), vs = [v] ∧ Same I H ∧ iLM I v M ∧ MOk M n bs as ∧ Ret [] I H (iM C C2) M Q
theorem sc_lmade : FnScope ["machine", "start", "moves", "made", "num", "den", "line", "rows", "answers"] ["machine"] (defScope s__law_made) := ⟨rfl, rfl, rfl, by decide +kernel, rfl, by decide +kernel, by decide +kernel⟩
theorem sm_den {q : Rat} (h : Gd 60 1 q) : Sm (q.den : Int) := by
  have := h.size.2
  exact sm_of (by omega) (by have : (60 : Int) < 2 ^ 1999 := by decide
                             omega)
theorem iA_of {α : Type} {R S : Rp α} {H : Hp} (h : ∀ v x, R H v x → S H v x) {v : V} {xs : List α} : iL R H v xs → iA S H v xs := by
  rintro ⟨a, vs, e, ha, a2⟩
  exact ⟨a, vs, e, .inl ha, a2.imp h⟩
theorem ok_lmade (D : Dt K mg) : Has P w K mg base 10 (He.ga K "_law_made") ["machine"] [] (spMade (CR K) (CM K)) := by
  obtain ⟨fd, F⟩ := fd__law_made D
  have H_Ratio_init := has_init (P := P) (w := w) (base := base) D
  have H_Machine_init := ok_minit (P := P) (w := w) (base := base) D
  refine hasN F (F.bindsN fun _ _ _ _ _ _ us hl => match us, hl with | [_], _ => rfl) sc_lmade (fun vs H Q E h => ?_) (fun cdv A outer s H vs Q E hr h => ?_)
  · obtain ⟨I, v, M, n, bs, as, rfl, _⟩ := h; rfl
  · obtain ⟨I, vm, M, n, bs, as, rfl, s0, ⟨a, x, y, rfl, ha, rx, ry⟩, ok, k⟩ := h
    obtain ⟨ax, xs, rfl, hx, x2⟩ := id rx
    obtain ⟨ay, ys, rfl, hy, y2⟩ := id ry
    have b1 := ok.b1
    have a1 := ok.a1
    have n1 := ok.n1
    have l0 := ok.l0
    have l1 := ok.l1
    refine ⟨_, (pss_cons (ps_asg (pv 0) (pg_tupK K rfl (pgs_cons (pg_name (i := 1) sc_lmade.nd rfl (Or.inl rfl)) (pgs_cons (pg_name (i := 2) sc_lmade.nd rfl (Or.inl rfl)) pgs_nil))))
      (pss_cons (ps_setLc (own := [("answers", 8)]) (g := gName 8) (i := 3) rfl sc_lmade.nd rfl rfl (sw_true rfl rfl rfl (by decide +kernel)) (pi_listK K (pv 2)) (blkOk_by (own := [("answers", 8)]) (N := ["machine", "start", "moves", "made", "num", "den", "line", "rows", "answers"]) (by kernel_rfl)) (fun _ _ _ _ _ => (pg_name (i := 8) sc_lmade.nd rfl (Or.inl rfl))) (fun _ _ _ _ _ => pts_nil) (fun _ _ _ _ _ => (pe_lc (own := [("rows", 7)]) (g := gName 7) rfl sc_lmade.nd (pi_listK K (pv 8)) (blkOk_by (own := [("rows", 7)]) (N := ["machine", "start", "moves", "made", "num", "den", "line", "rows", "answers"]) (by kernel_rfl)) (fun _ _ _ _ _ => (pg_name (i := 7) sc_lmade.nd rfl (Or.inl rfl))) (fun _ _ _ _ _ => pts_nil) (fun _ _ _ _ _ => (pe_lc (own := [("line", 6)]) (g := gName 6) rfl sc_lmade.nd (pi_listK K (pv 7)) (blkOk_by (own := [("line", 6)]) (N := ["machine", "start", "moves", "made", "num", "den", "line", "rows", "answers"]) (by kernel_rfl)) (fun _ _ _ _ _ => (pg_name (i := 6) sc_lmade.nd rfl (Or.inl rfl))) (fun _ _ _ _ _ => pts_nil) (fun _ _ _ _ _ => (pe_lc (own := [("num", 4), ("den", 5)]) (g := gTup K 2 (gCons (gName 4) (gCons (gName 5) gNil))) rfl sc_lmade.nd (pi_listK K (pv 6)) (blkOk_by (own := [("num", 4), ("den", 5)]) (N := ["machine", "start", "moves", "made", "num", "den", "line", "rows", "answers"]) (by kernel_rfl)) (fun _ _ _ _ _ => (pg_tupK K rfl (pgs_cons (pg_name (i := 4) sc_lmade.nd rfl (Or.inl rfl)) (pgs_cons (pg_name (i := 5) sc_lmade.nd rfl (Or.inl rfl)) pgs_nil)))) (fun _ _ _ _ _ => pts_nil) (fun _ _ _ _ _ => (pe_makeH (mkr_Ratio (K := K) D) H_Ratio_init (hr.mono (by decide)) rfl (glo_Ratio D) passL (pa_cons (pv 4) (pa_cons (pv 5) pa_nil)))))))))))
      (pss_one (ps_ret (pe_makeH (mkr_Machine (K := K) D) H_Machine_init (hr.mono (by decide)) rfl (glo_Machine D) passL (pa_cons (pe_lc (own := [("num", 4), ("den", 5)]) (g := gTup K 2 (gCons (gName 4) (gCons (gName 5) gNil))) rfl sc_lmade.nd (pi_listK K (pv 1)) (blkOk_by (own := [("num", 4), ("den", 5)]) (N := ["machine", "start", "moves", "made", "num", "den", "line", "rows", "answers"]) (by kernel_rfl)) (fun _ _ _ _ _ => (pg_tupK K rfl (pgs_cons (pg_name (i := 4) sc_lmade.nd rfl (Or.inl rfl)) (pgs_cons (pg_name (i := 5) sc_lmade.nd rfl (Or.inl rfl)) pgs_nil)))) (fun _ _ _ _ _ => pts_nil) (fun _ _ _ _ _ => (pe_makeH (mkr_Ratio (K := K) D) H_Ratio_init (hr.mono (by decide)) rfl (glo_Ratio D) passL (pa_cons (pv 4) (pa_cons (pv 5) pa_nil))))) (pa_cons (pv 3) pa_nil))))))), ?_⟩
    refine ⟨_, rfl, a, _, rfl, SqT.of (s0 _ _ ha), rfl, _, _, rfl, _, _, rfl, rfl, ?_⟩
    (try dsimp only)
    refine seq_cut (fun σ' H1 => ∃ (I1 : Hp) (mv : V), σ' = [some (.ref a), some (.ref ax), some (.ref ay), some mv, none, none, none, none, none] ∧ Gr [] I H I1 H1 ∧ iL (iL (iL (iL (iR (CR K))))) I1 mv M.2) (fun nx q => ?_) ?_
    · refine ⟨_, rfl, ay, rfl, ⟨_, SqL.of (s0 _ _ hy)⟩, fun l hD => lc_id (R := iL (iL (iL iQ))) (Sy := iL (iL (iL (iR (CR K))))) (wk_list hy) y2 s0 hD (lt_line (by omega)) (fun i p I1 H1 Nx1 Qk1 hi rp s1 k1 => ?_) (fun I1 H1 g1 r1 => q _ _ ⟨I1, _, rfl, g1, r1⟩)⟩
      obtain ⟨b, hb, rfl⟩ := mem_gl (List.mem_of_getElem? hi)
      obtain ⟨c, zs, ec, hc, c2⟩ := id rp
      have l2 := ok.l2 b (by omega)
      rw [ec]
      refine ⟨rfl, _, rfl, c, rfl, ⟨_, SqL.of (s1 _ _ hc)⟩, fun l hD => lc_id (R := iL (iL iQ)) (Sy := iL (iL (iR (CR K)))) (wk_list hc) c2 s1 hD (lt_line (by omega)) (fun j p I2 H2 Nx2 Qk2 hj rp s2 k2 => ?_) (fun I2 H2 g2 r2 => k1 _ _ _ g2 r2)⟩
      obtain ⟨e, he, rfl⟩ := mem_gl (List.mem_of_getElem? hj)
      obtain ⟨d, ws, ed, hd, d2⟩ := id rp
      have l3 := ok.l3 b e (by omega) (by omega)
      rw [ed]
      refine ⟨rfl, _, rfl, d, rfl, ⟨_, SqL.of (s2 _ _ hd)⟩, fun l hD => lc_id (R := iL iQ) (Sy := iL (iR (CR K))) (wk_list hd) d2 s2 hD (lt_line (by omega)) (fun u p I3 H3 Nx3 Qk3 hu rp s3 k3 => ?_) (fun I3 H3 g3 r3 => k2 _ _ _ g3 r3)⟩
      obtain ⟨f, hf, rfl⟩ := mem_gl (List.mem_of_getElem? hu)
      obtain ⟨t, vs, et, ht, t2⟩ := id rp
      have l4 := ok.l4 b e f (by omega) (by omega) (by omega)
      rw [et]
      refine ⟨rfl, _, rfl, t, rfl, ⟨_, SqL.of (s3 _ _ ht)⟩, fun l hD => lc_id (R := iQ) (Sy := iR (CR K)) (wk_list ht) t2 s3 hD (lt_line (by omega)) (fun m q I4 H4 Nx4 Qk4 hm rq s4 k4 => ?_) (fun I4 H4 g4 r4 => k3 _ _ _ g4 r4)⟩
      obtain ⟨m', hm', rfl⟩ := mem_gq (List.mem_of_getElem? hm)
      obtain ⟨o, eo, ho⟩ := rq
      have gd : Gd 60 1 (gq (gl (gl (gl M.2 b) e) f) m') := ok.g1 b e f m' (by omega) (by omega) (by omega) (by omega)
      generalize gq (gl (gl (gl M.2 b) e) f) m' = q at gd k4 ho hm
      rw [eo]
      refine ⟨o, _, rfl, SqT.of (s4 _ _ ho), rfl, _, _, rfl, _, _, rfl, rfl, rfl, _, rfl, _, rfl, fun x dx nx nd ne => ⟨x, dx, _, _, rfl, upd_same, sm_den gd, fun _ => ⟨rfl, ?_⟩, fun h => absurd h (Int.not_le.mpr (den_pos _))⟩⟩
      obtain ⟨gn, rn⟩ := rat_new (ms := []) (C := CR K) (q := rt q.num q.den) s4 nx nd ne
      rw [rt_self] at gn rn
      have z := k4 _ _ _ gn rn
      rw [rt_self]
      exact z
    rintro σ' H1 ⟨I1, mv, rfl, g1, r1⟩
    have hx1 := g1.ii _ _ hx
    refine ⟨_, rfl, ax, rfl, ⟨_, SqL.of (g1.ih _ _ hx1)⟩, fun l hD => lc_id (R := iQ) (Sy := iR (CR K)) (wk_list hx1) (x2.up g1.ii) g1.ih hD (lt_line (by omega)) (fun m q I4 H4 Nx4 Qk4 hm rq s4 k4 => ?_) (fun I4 H4 g4 r4 => ?_)⟩
    · obtain ⟨m', hm', rfl⟩ := mem_gq (List.mem_of_getElem? hm)
      obtain ⟨o, eo, ho⟩ := rq
      have gd := ok.g0 m' (by omega)
      rw [eo]
      refine ⟨o, _, rfl, SqT.of (s4 _ _ ho), rfl, _, _, rfl, _, _, rfl, rfl, rfl, _, rfl, _, rfl, fun x dx nx nd ne => ⟨x, dx, _, _, rfl, upd_same, sm_den gd, fun _ => ⟨rfl, ?_⟩, fun h => absurd h (Int.not_le.mpr (den_pos _))⟩⟩
      obtain ⟨gn, rn⟩ := rat_new (ms := []) (C := CR K) (q := rt (gq M.1 m').num (gq M.1 m').den) s4 nx nd ne
      rw [rt_self] at gn rn
      have z := k4 _ _ _ gn rn
      rw [rt_self]
      exact z
    · refine ⟨_, rfl, fun x dx nx nd ne => ?_⟩
      have h1 : upd H4 dx (.own x) x = none := by rw [upd_ne (Ne.symm ne)]; exact nx
      have gd := Gr.new (ms := []) (o := .own x) g4.ih nd
      refine ⟨upd I4 dx (.own x), x, dx, _, _, M, n, bs, as, rfl, sUnder gd.ih (gd.ih.free h1), gd.ih.free h1, upd_same, iA.l (up gd.ii r4), iA_of (fun _ _ => iA_of fun _ _ => iA_of fun _ _ => iA.l) (up gd.ii (up g4.ii r1)), ok, fun I5 H5 va vb g5 h5 p1 p2 => ⟨rfl, ?_⟩⟩
      · obtain ⟨g6, r6⟩ := mach_new g4.ih nx nd ne g5 h5 p1 p2
        exact k _ _ _ ((g1.trans g4).trans g6) r6
end
end K

set_option Elab.async false
set_option linter.all false
set_option maxRecDepth 100000
set_option maxHeartbeats 4000000
set_option exponentiation.threshold 5000
namespace K
open PySem PySem.Spec PyProof.Rows L2 Tk Hd Mt
def i3 : Rp It3 := fun H v x => ∃ a pv, v = .ref a ∧ H a = some (.tup [pv, .int x.2.1, .int x.2.2]) ∧ iQ H pv x.1
instance : Mono i3 := ⟨fun s ⟨a, pv, e, h, r⟩ => ⟨a, pv, e, s _ _ h, up s r⟩⟩
theorem pow60 {i : Nat} (h : i ≤ 7) : 60 ^ i ≤ 2 ^ 400 := Nat.le_trans (Nat.pow_le_pow_right (by decide) h) (by decide)
theorem fit_pow {i B : Nat} {q : Rat} (h : Gd (60 ^ i) B q) (hi : i ≤ 7) (hb : B ≤ 2 ^ 400) : Fit q := fit_gd h hb (pow60 hi)
theorem gd_pow {i j B : Nat} {q : Rat} (h : Gd (60 ^ i) B q) (l : i ≤ j) : Gd (60 ^ j) B q := by
  have := h.scale (M := 60 ^ (j - i)) (Nat.pow_pos (by decide))
  rwa [← Nat.pow_add, Nat.add_sub_cancel' l] at this
theorem zero_val {M : Ma} {n : Nat} {way : Way} {x : It3} (h : x.1.num = 0) : val3 M n way x = 0 := by
  unfold val3; rw [Rat.num_eq_zero.mp h]; simp
section
variable {P : Program} {w : World} {K : PySem.W.Frag} {mg : Str → Option Value} {base : Heap}
def spThr : Sp := fun vs H Q _ => ∃ (I : Hp) (mv wv : V) (M : Ma) (n bs as : Nat) (way : Way), vs = [mv, wv] ∧ Same I H ∧ iLM I mv M ∧ iT iPr I wv way ∧ MOk M n bs as ∧ way.length ≤ 6 ∧ (∀ x ∈ way, x.1 < bs ∧ x.2 < as) ∧ Ret [] I H iQ (chq M n way) Q
theorem sc_thr : FnScope ["machine", "way", "left", "state", "whole", "turn", "part", "at", "row", "k"] ["machine", "way"] (defScope s__law_through) := ⟨rfl, rfl, rfl, by decide +kernel, rfl, by decide +kernel, by decide +kernel⟩
def IOk (way : Way) (n : Nat) (x : It3) : Prop := x.2.2 ≤ way.length ∧ x.2.1 < n ∧ Gd (60 ^ (x.2.2 + 1)) 1 x.1
theorem ok_thr (D : Dt K mg) : Has P w K mg base 3 (He.ga K "_law_through") ["machine", "way"] [] spThr := by
  obtain ⟨fd, F⟩ := fd__law_through D
  have H__law_plus := ok_plus (P := P) (w := w) (base := base) D
  have H__law_times := ok_times (P := P) (w := w) (base := base) D
  refine hasN F (F.bindsN fun _ _ _ _ _ _ us hl => match us, hl with | [_, _], _ => rfl) sc_thr (fun vs H Q E h => ?_) (fun cdv A outer s H vs Q E hr h => ?_)
  · obtain ⟨I, mv, wv, M, n, bs, as, way, rfl, _⟩ := h; rfl
  · obtain ⟨I, mv, wv, M, n, bs, as, way, rfl, s0, ⟨a, x, y, rfl, ha, rx, ry⟩, ⟨b, ps, rfl, hb, b2⟩, ok, hw, hwo, k⟩ := h
    obtain ⟨ax, xs, rfl, hx, x2⟩ := id rx
    obtain ⟨ay, ys, rfl, hy, y2⟩ := id ry
    have n1 := ok.n1
    have l0 := ok.l0
    have l1 := ok.l1
    have hlw := b2.len
    have hlx := x2.len
    refine ⟨_, (pss_cons (ps_setLc (own := [("state", 3)]) (g := gName 3) (i := 2) rfl sc_thr.nd rfl rfl (sw_true rfl rfl rfl (by decide +kernel)) (pi_range1 rfl (free_range D) (pa_cons (pe_callB (call_lenK K) rfl (free_len D) PySem.boot_len (pa_cons (pe_ix (ix_tupK K) (pv 0) pe_int (fun _ _ => rfl)) pa_nil)) pa_nil)) (blkOk_by (own := [("state", 3)]) (N := ["machine", "way", "left", "state", "whole", "turn", "part", "at", "row", "k"]) (by kernel_rfl)) (fun _ _ _ _ _ => (pg_name (i := 3) sc_thr.nd rfl (Or.inl rfl))) (fun _ _ _ _ _ => pts_nil) (fun _ _ _ _ _ => (pe_tup (pa_cons (pe_ix (ix_listK K) (pe_ix (ix_tupK K) (pv 0) pe_int (fun _ _ => rfl)) (pv 3) (fun _ _ => rfl)) (pa_cons (pv 3) (pa_cons pe_int pa_nil))))))
      (pss_cons (ps_set (i := 4) sc_thr.nd rfl (Or.inl rfl) (pe_tup (pa_cons pe_int (pa_cons pe_int pa_nil))))
      (pss_cons (ps_for PassesOwn.never rfl (pi_range1 rfl (free_range D) (pa_cons pe_int pa_nil)) (pg_name (i := 5) sc_thr.nd rfl (Or.inl rfl))
      (pss_cons (ps_if (pt_cmpR op_eq (pe_callB (call_lenK K) rfl (free_len D) PySem.boot_len (pa_cons (pv 2) pa_nil)) pe_int (nomark _))
      (pss_one ps_break)
      pss_nil)
      (pss_cons (ps_asg (pe_bm0 PySem.F.plainAttrs_list PySem.F.slot_list_pop PySem.F.type_list_pop mt_pop (pv 2)) (pg_tupK K rfl (pgs_cons (pg_name (i := 6) sc_thr.nd rfl (Or.inr rfl)) (pgs_cons (pg_name (i := 3) sc_thr.nd rfl (Or.inl rfl)) (pgs_cons (pg_name (i := 7) sc_thr.nd rfl (Or.inr rfl)) pgs_nil)))))
      (pss_one (ps_if (PW.pt (pw_and (pt_cmpR op_ne (pe_ix (ix_tupK K) (pv 6) pe_int (fun _ _ => rfl)) pe_int (nomark _)) (pw_and1 (pt_cmpR op_eq (pv 7) (pe_callB (call_lenK K) rfl (free_len D) PySem.boot_len (pa_cons (pv 1) pa_nil)) (nomark _)))))
      (pss_one (ps_set (i := 4) sc_thr.nd rfl (Or.inl rfl) (pe_callH H__law_plus (hr.mono (by decide)) rfl (glo__law_plus D) passL (pa_cons (pv 4) (pa_cons (pv 6) pa_nil)))))
      (pss_one (ps_if (pt_cmpR op_ne (pe_ix (ix_tupK K) (pv 6) pe_int (fun _ _ => rfl)) pe_int (nomark _))
      (pss_cons (ps_set (i := 8) sc_thr.nd rfl (Or.inr rfl) (pe_ix (ix_listK K) (pe_ix (ix_listK K) (pe_ix (ix_listK K) (pe_ix (ix_tupK K) (pv 0) pe_int (fun _ _ => rfl)) (pe_ix (ix_tupK K) (pe_ix (ix_tupK K) (pv 1) (pv 7) (fun _ _ => rfl)) pe_int (fun _ _ => rfl)) (fun _ _ => rfl)) (pe_ix (ix_tupK K) (pe_ix (ix_tupK K) (pv 1) (pv 7) (fun _ _ => rfl)) pe_int (fun _ _ => rfl)) (fun _ _ => rfl)) (pv 3) (fun _ _ => rfl)))
      (pss_one (ps_set (i := 2) sc_thr.nd rfl (Or.inl rfl) (pe_op op_cat (pv 2) (pe_lc (own := [("k", 9)]) (g := gName 9) rfl sc_thr.nd (pi_range1 rfl (free_range D) (pa_cons (pe_callB (call_lenK K) rfl (free_len D) PySem.boot_len (pa_cons (pv 8) pa_nil)) pa_nil)) (blkOk_by (own := [("k", 9)]) (N := ["machine", "way", "left", "state", "whole", "turn", "part", "at", "row", "k"]) (by kernel_rfl)) (fun _ _ _ _ _ => (pg_name (i := 9) sc_thr.nd rfl (Or.inl rfl))) (fun _ _ _ _ _ => (pts_one (pt_cmpR op_ne (pe_ix (ix_tupK K) (pe_ix (ix_listK K) (pv 8) (pv 9) (fun _ _ => rfl)) pe_int (fun _ _ => rfl)) pe_int (nomark _)))) (fun _ _ _ _ _ => (pe_tup (pa_cons (pe_callH H__law_times (hr.mono (by decide)) rfl (glo__law_times D) passL (pa_cons (pv 6) (pa_cons (pe_ix (ix_listK K) (pv 8) (pv 9) (fun _ _ => rfl)) pa_nil))) (pa_cons (pv 9) (pa_cons (pe_op op_add (pv 7) pe_int) pa_nil))))))))))
      pss_nil)))))))
      (pss_one (ps_ret (pv 4)))))), ?_⟩
    (try dsimp only)
    refine seq_cut (fun σ' H1 => ∃ (I1 : Hp) (L : Addr) (ls : List V), σ' = [some (.ref a), some (.ref b), some (.ref L), none, none, none, none, none, none, none] ∧ Gr [] I H I1 H1 ∧ H L = none ∧ I1 L = none ∧ H1 L = some (.lst ls) ∧ All2 (i3 I1) ls ((List.range n).map fun s => (gq M.1 s, s, 0))) (fun nx q => ?_) ?_
    · refine ⟨_, rfl, _, _, _, _, rfl, rfl, SqT.of (s0 _ _ ha), at_of (j := 0) rfl rfl, _, M.1.length, rfl, .inl ⟨_, SqL.of (s0 _ _ hx), hlx.symm⟩, _, rfl, by omega, by omega, fun L hL => ?_⟩
      rw [Int.toNat_natCast, l0]
      refine lc_flt (lo := 0) i3 (fun _ => true) (fun s => (gq M.1 s, s, 0)) s0 hL (lt_line (by omega)) (fun i I1 H1 Nx Qk hi s1 s2 k1 _ => ?_) (fun I1 H1 ls g1 hI hH a2 => ?_)
      · obtain ⟨u, hu, ru⟩ := x2.get' (gq_lt (l := M.1) (i := i) (by omega))
        have ru := up s1 ru
        refine ⟨rfl, _, rfl, _, _, _, _, rfl, rfl, SqT.of (s2 _ _ (s1 _ _ ha)), at_of (j := 0) rfl rfl, _, rfl, _, _, _, _, rfl, rfl, SqL.of (s2 _ _ (s1 _ _ hx)), at_of (j := i) (by omega) hu, _, rfl, (by show 3 ≤ sizeLine; decide), fun t ht => ?_⟩
        have g := Gr.new (ms := []) (o := .tup [u, .int (0 + (i : Int)), .int 0]) s2 ht
        refine k1 rfl _ _ _ g ⟨t, u, rfl, ?_, up g.ii ru⟩
        show upd I1 t (.tup [u, .int (0 + (i : Int)), .int 0]) t = some (.tup [u, .int (i : Int), .int 0])
        rw [upd_same, Int.zero_add]
      · rw [List.filter_eq_self.mpr fun _ _ => rfl] at a2
        exact q _ _ ⟨I1, L, ls, rfl, g1, hL, hI, hH, a2⟩
    rintro σ' H1 ⟨I1, L, ls, rfl, g1, hL0, hLI1, hLH1, a21⟩
    (try dsimp only)
    refine seq_cut (fun σ' H1 => ∃ (I1 : Hp) (wh : V), σ' = [some (.ref a), some (.ref b), some (.ref L), none, some wh, none, none, none, none, none] ∧ Gr [] I H I1 H1 ∧ I1 L = none ∧ H1 L = some (.lst ls) ∧ All2 (i3 I1) ls ((List.range n).map fun s => (gq M.1 s, s, 0)) ∧ iQ I1 wh 0) (fun nx q => ?_) ?_
    · refine ⟨(by show 2 ≤ sizeLine; decide), fun t ht => ?_⟩
      have g := Gr.new (ms := []) (o := .tup [.int 0, .int 1]) g1.ih ht
      exact q _ _ ⟨_, .ref t, rfl, g1.trans g, g.out hLI1 hLH1, g.at hLH1 (by simp), a21.up g.ii, t, rfl, upd_same⟩
    clear g1 hLI1 hLH1 a21
    rintro σ' H1 ⟨I1, wh, rfl, g1, hLI1, hLH1, a21, rw0⟩
    (try dsimp only)
    refine ⟨20000, rfl, by decide, by decide, ?_⟩
    refine for_wk (n := 20000) (wk_range (I := I))
      (fun σ' H' => ∃ (I' : Hp) (v2 v3 : Option V) (whv : V) (v5 v6 v7 v8 : Option V), σ' = [some (.ref a), some (.ref b), v2, v3, some whv, v5, v6, v7, v8, none] ∧ Gr [] I H I' H' ∧ iQ I' whv (chq M n way))
      (fun i σ' H' => ∃ (I' : Hp) (L : Addr) (ls : List V) (its : List It3) (W : Rat) (whv : V) (v3 v5 v6 v7 v8 : Option V), σ' = [some (.ref a), some (.ref b), some (.ref L), v3, some whv, v5, v6, v7, v8, none] ∧ Gr [] I H I' H' ∧ H L = none ∧ I' L = none ∧ H' L = some (.lst ls) ∧ All2 (i3 I') ls its ∧ (∀ x ∈ its, IOk way n x) ∧ iQ I' whv W ∧ Gd (60 ^ (way.length + 1)) i W ∧ W + tot (its.map (val3 M n way)) = chq M n way ∧ timS way its + i ≤ 20000)
      (fun i σ' H' h => by obtain ⟨I', L, ls, its, W, whv, v3, v5, v6, v7, v8, _, gr, _⟩ := h; exact gr.ii.trans gr.ih)
      ⟨I1, L, ls, _, 0, wh, none, none, none, none, none, rfl, g1, hL0, hLI1, hLH1, a21, fun x hx => ?_, rw0, (Gd.zero (Nat.pow_pos (by decide))), by rw [start_val]; grind, by have := start_tim (M := M) n1 hw; omega⟩ (fun nx q i σ' H' hi h => ?_) (fun σ' H' h => ?_) ?_
    · obtain ⟨s, hs, rfl⟩ := List.mem_map.mp hx
      have hs := List.mem_range.mp hs
      exact ⟨Nat.zero_le _, hs, ok.g0 s hs⟩
    · obtain ⟨I', L, ls, its, W, whv, v3, v5, v6, v7, v8, rfl, gr, hL0, hLI, hLH, a2, oks, rW, gW, ev, et⟩ := h
      have sI := gr.ih
      refine ⟨_, rfl, _, ls.length, rfl, .inl ⟨_, SqL.of hLH, rfl⟩, rfl, _, rfl, ifD (fun h0 => ?_) (fun h0 => ?_)⟩
      · have e0 : its = [] := by
          have h1 : ((ls.length : Nat) : Int) = 0 := by injection h0
          have h2 := a2.len
          exact List.eq_nil_of_length_eq_zero (by omega)
        rw [e0] at ev
        have e : W = chq M n way := by
          rw [← ev]; simp [tot, S]; grind
        rw [e] at rW
        exact q _ _ ⟨I', _, v3, whv, _, v6, v7, v8, rfl, gr, rW⟩
      · have hne : its ≠ [] := by
          rintro rfl
          cases a2
          exact h0 rfl
        obtain ⟨it0, x3, rfl⟩ := (List.eq_nil_or_concat its).resolve_left hne
        rw [List.concat_eq_append] at a2 oks ev et
        obtain ⟨us, u, rfl, a22, ru⟩ := a2.unsnoc
        obtain ⟨pq, st, at'⟩ := x3
        obtain ⟨t, pv, rfl, ht, rq⟩ := id ru
        have okx := oks (pq, st, at') (by simp)
        have okr : ∀ x ∈ it0, IOk way n x := fun x hx => oks x (by simp [hx])
        rw [List.map_append, tot_app, List.map_cons, List.map_nil, tot_one] at ev
        rw [timS_app] at et
        have et1 : timS way [(pq, st, at')] = T (way.length - at') := by simp [timS, tim]
        rw [et1] at et
        have tp := T_pos (way.length - at')
        obtain ⟨o1, o2, o3⟩ := okx
        have o1 : at' ≤ way.length := o1
        have o2 : st < n := o2
        have o3 : Gd (60 ^ (at' + 1)) 1 pq := o3
        refine ⟨_, rfl, .inl ⟨rfl, _, SqL.of hLH⟩, L, _, .ref t, rfl, rfl, hLH, by simp, ?_⟩
        rw [List.dropLast_concat]
        have gm : Gr [] I H I' (upd H' L (.lst us)) := ((gr.mono (ns := [L]) fun _ z => nomatch z).trans (Gr.mut sI hLI List.mem_cons_self)).drop hL0
        have sm := gm.ih
        refine ⟨t, _, rfl, SqT.of (sm _ _ ht), rfl, _, _, rfl, _, _, rfl, _, _, rfl, rfl, ?_⟩
        obtain ⟨tp', rfl, hp⟩ := id rq
        refine ⟨_, rfl, _, _, _, _, rfl, rfl, SqT.of (sm _ _ hp), at_of (j := 0) rfl rfl, rfl, ?_⟩
        have hst : sm = sm := rfl
        by_cases hz : pq.num = 0
        · have c0 : (!decide (V.int pq.num = V.int 0)) = false := by rw [hz]; rfl
          refine ⟨_, rfl, ifF c0 (ifF rfl ?_)⟩
          refine ⟨_, rfl, _, _, _, _, rfl, rfl, SqT.of (sm _ _ hp), at_of (j := 0) rfl rfl, rfl, _, rfl, ifF c0 ?_⟩
          have zv : val3 M n way (pq, st, at') = 0 := zero_val hz
          rw [zv] at ev
          refine ⟨I', L, us, it0, W, whv, _, _, _, _, v8, rfl, gm, hL0, hLI, upd_same, a22, okr, rW, gW.mono (by omega), by rw [← ev]; grind, by omega⟩
        · have c1 : (!decide (V.int pq.num = V.int 0)) = true := by simp [hz]
          refine ⟨_, rfl, ifT c1 ?_⟩
          refine ⟨_, rfl, _, rfl, _, way.length, rfl, .inr ⟨_, SqT.of (sm _ _ (gr.ii _ _ hb)), hlw.symm⟩, rfl, _, rfl, ?_⟩
          rw [dec_vi]
          by_cases he : at' = way.length
          · refine ifT (by simpa using he) ?_
            have big : 20000 ≤ 2 ^ 400 := by decide
            refine ⟨_, rfl, _, rfl, I', _, _, _, _, rfl, sm, iQ_z rW, iQ_z rq, (fit_pow gW (by omega) (by omega)).z, (fit_pow o3 (by omega) (by decide)).z, fun I2 H2 v2 g2 r2 => ?_⟩
            rw [rt_add] at r2
            have vv : val3 M n way (pq, st, at') = pq := by
              unfold val3
              rw [he, List.drop_length]
              simp only [vl]; grind
            rw [vv] at ev
            refine ⟨I2, L, us, it0, W + pq, v2, _, _, _, _, v8, rfl, gm.trans g2, hL0, g2.out hLI upd_same, g2.at upd_same (by simp), a22.up g2.ii, okr, r2, gW.add (gd_pow o3 (by omega)), by rw [← ev]; grind, by omega⟩
          · refine ifF (by simpa using he) ?_
            refine ⟨_, rfl, _, _, _, _, rfl, rfl, SqT.of (sm _ _ hp), at_of (j := 0) rfl rfl, rfl, _, rfl, ifT c1 ?_⟩
            obtain ⟨xx, hxx⟩ : ∃ xx, way[at']? = some xx := ⟨way[at']'(by omega), List.getElem?_eq_getElem (by omega)⟩
            obtain ⟨hx1, hx2⟩ := hwo xx (List.mem_of_getElem? hxx)
            obtain ⟨pr, hpr, c, z1, z2, rfl, hc, e1, e2⟩ := b2.get' hxx
            have e1 : z1 = .int (xx.1 : Int) := e1
            have e2 : z2 = .int (xx.2 : Int) := e2
            rw [e1, e2] at hc
            obtain ⟨u1, h1, d, d1, rfl, hd, d2⟩ := y2.get' (gl_lt (l := M.2) (i := xx.1) (by omega))
            obtain ⟨u2, h2, e, e3, rfl, he3, e4⟩ := d2.get' (gl_lt (l := gl M.2 xx.1) (i := xx.2) (by rw [ok.l2 _ hx1]; exact hx2))
            obtain ⟨u3, h3, f, f1, rfl, hf, f2⟩ := e4.get' (gl_lt (l := gl (gl M.2 xx.1) xx.2) (i := st) (by rw [ok.l3 _ _ hx1 hx2]; exact o2))
            have l4 := ok.l4 xx.1 xx.2 st hx1 hx2 o2
            have hlf := f2.len
            have sIm : Same I (upd H' L (.lst us)) := gm.ii.trans gm.ih
            refine ⟨_, rfl, _, _, _, _, rfl, rfl, SqT.of (sIm _ _ ha), at_of (j := 1) rfl rfl,
              _, rfl, _, rfl, _, _, _, _, rfl, rfl, SqT.of (sIm _ _ hb), at_of (j := at') rfl hpr, _, _, _, _, rfl, rfl, SqT.of (sIm _ _ hc), at_of (j := 0) rfl rfl,
              _, _, _, _, rfl, rfl, SqL.of (sIm _ _ hy), at_of (j := xx.1) rfl h1,
              _, rfl, _, rfl, _, _, _, _, rfl, rfl, SqT.of (sIm _ _ hb), at_of (j := at') rfl hpr, _, _, _, _, rfl, rfl, SqT.of (sIm _ _ hc), at_of (j := 1) rfl rfl,
              _, _, _, _, rfl, rfl, SqL.of (sIm _ _ hd), at_of (j := xx.2) rfl h2,
              _, rfl, _, _, _, _, rfl, rfl, SqL.of (sIm _ _ he3), at_of (j := st) rfl h3, ?_⟩
            refine ⟨_, rfl, _, rfl, _, f1.length, rfl, .inl ⟨_, SqL.of (sIm _ _ hf), rfl⟩, _, rfl, by omega, by omega, fun Dl hDl => ?_⟩
            rw [Int.toNat_natCast, show f1.length = n from by omega]
            have hLm : upd H' L (.lst us) L = some (.lst us) := upd_same
            refine lc_flt (lo := 0) i3 (fun k => decide ((wt M xx.1 xx.2 st k).num ≠ 0)) (fun k => (pq * wt M xx.1 xx.2 st k, k, at' + 1)) sm hDl (lt_line (by omega)) (fun kk I2 H2 Nx Qk hk s1 s2 k1 k0 => ?_) (fun I2 H2 zs g2 hI2 hH2 z2 => ?_)
            · have hrow : I2 f = some (.lst f1) := s1 _ _ (gm.ii _ _ hf)
              obtain ⟨u4, h4, w1, rfl, hw1⟩ := f2.get' (gq_lt (l := gl (gl (gl M.2 xx.1) xx.2) st) (i := kk) (by omega))
              have hw2 := s1 _ _ (gm.ii _ _ hw1)
              refine ⟨rfl, ?_⟩
              refine ⟨_, rfl, _, rfl, _, _, _, _, rfl, rfl, SqL.of (s2 _ _ hrow), at_of (j := kk) (by omega) h4, _, _, _, _, rfl, rfl, SqT.of (s2 _ _ hw2), at_of (j := 0) rfl rfl, rfl, _, rfl, ?_⟩
              by_cases hk0 : (wt M xx.1 xx.2 st kk).num = 0
              · refine ifF (by show (!decide (V.int (wt M xx.1 xx.2 st kk).num = V.int 0)) = false; rw [hk0]; rfl) ?_
                exact k0 (by simp [hk0])
              · refine ifT (by show (!decide (V.int (wt M xx.1 xx.2 st kk).num = V.int 0)) = true; simp [hk0]) ?_
                have gw := ok.g1 xx.1 xx.2 st kk hx1 hx2 o2 hk
                refine ⟨_, rfl, _, rfl, _, rfl, _, _, _, _, rfl, rfl, SqL.of (s2 _ _ hrow), at_of (j := kk) (by omega) h4, I2, _, _, (pq.num, (pq.den : Int)), ((wt M xx.1 xx.2 st kk).num, ((wt M xx.1 xx.2 st kk).den : Int)), rfl, s2, iQ_z (up s1 rq), ⟨w1, rfl, hw2⟩, (fit_pow o3 (by omega) (by decide)).z, (fit_gd gw (by decide) (by decide)).z, fun I3 H3 v3 g3 r3 => ?_⟩
                rw [rt_mul] at r3
                refine ⟨_, rfl, _, rfl, _, _, rfl, rfl, (by show 3 ≤ sizeLine; decide), fun t ht => ?_⟩
                have g4 := Gr.new (ms := []) (o := .tup [v3, .int (0 + (kk : Int)), .int ((at' : Int) + 1)]) g3.ih ht
                refine k1 (by simp [hk0]) _ _ _ (g3.trans g4) ⟨t, v3, rfl, ?_, up g4.ii r3⟩
                rw [upd_same, Int.zero_add]; rfl
            · have hL2 : H2 L = some (.lst us) := g2.at hLm (by simp)
              have z2' : All2 (i3 I2) zs (exs M n pq st at' xx) := z2
              have hx5 := exs_tim ok (q := pq) (s := st) hxx hx1 hx2 o2
              have t5 : tim way (pq, st, at') = T (way.length - at') := rfl
              have le1 := len_tim (way := way) it0
              have le2 := len_tim (way := way) (exs M n pq st at' xx)
              have le3 := a22.len
              have le4 := z2'.len
              refine ⟨L, Dl, us, zs, rfl, rfl, hL2, hH2, Nat.le_of_lt (lt_line (by omega)), fun p hp => ?_⟩
              have gg := gm.trans g2
              have hp0 := gg.none hp
              have ev2 := exs_val (M := M) (n := n) (q := pq) (s := st) hxx
              refine ⟨I2, p, us ++ zs, it0 ++ exs M n pq st at' xx, W, whv, _, _, _, _, _, rfl, gg.trans (Gr.tmp gg.ih hp), hp0, gg.ih.free hp, upd_same, (a22.up g2.ii).append z2', fun y hy => ?_, up g2.ii rW, gW.mono (by omega), by rw [List.map_append, tot_app, ev2]; exact ev, by rw [timS_app]; omega⟩
              rcases List.mem_append.mp hy with hy | hy
              · exact okr y hy
              · obtain ⟨k', hk', rfl⟩ := exs_mem hy
                refine ⟨by show at' + 1 ≤ way.length; omega, hk', ?_⟩
                have := o3.mul (ok.g1 xx.1 xx.2 st k' hx1 hx2 o2 hk')
                show Gd (60 ^ (at' + 1 + 1)) 1 _
                rw [Nat.pow_succ]
                exact this
    · obtain ⟨I', L, ls, its, W, whv, v3, v5, v6, v7, v8, rfl, gr, _, _, _, _, _, rW, _, ev, et⟩ := h
      have : its = [] := timS_nil (way := way) (by omega)
      rw [this] at ev
      have e : W = chq M n way := by
        rw [← ev]; simp [tot, S]; grind
      rw [e] at rW
      exact ⟨I', _, v3, whv, v5, v6, v7, v8, rfl, gr, rW⟩
    · rintro σ' H' ⟨I', v2, v3, whv, v5, v6, v7, v8, rfl, gr, rW⟩
      exact ⟨_, rfl, k _ _ _ gr rW⟩
end
end K

set_option Elab.async false
set_option linter.all false
set_option maxRecDepth 100000
set_option maxHeartbeats 4000000
set_option exponentiation.threshold 5000
namespace K
open PySem PySem.Spec PyProof.Rows L2 Tk Hd Mt
/-! data of ways -/
def dPr (x : Nat × Nat) : PyData := .tuple [.int x.1, .int x.2]
theorem eqv_prs : ∀ l : List (Nat × Nat), PyData.eqvAll (l.map dPr) (l.map dPr) = true
  | [] => by simp [PyData.eqvAll]
  | x :: r => by simp [PyData.eqvAll, dPr, PyData.eqv, eqv_prs r]
theorem lay_prs : ∀ l : List (Nat × Nat), PyData.canLayAll0 (l.map dPr) = true ∧ PyData.depthAll (l.map dPr) ≤ 1
  | [] => by simp [PyData.canLayAll0, PyData.depthAll]
  | x :: r => by simp [PyData.canLayAll0, PyData.depthAll, dPr, PyData.canLay0, PyData.depth, lay_prs r]
theorem shaped_prs (l : List (Nat × Nat)) : SeqAt.shaped (.list (l.map dPr)) = true := by
  unfold SeqAt.shaped
  rw [Bool.and_eq_true, decide_eq_true_iff]
  have := lay_prs l
  exact ⟨this.1, by show PyData.depthAll _ + 1 ≤ 64; omega⟩
theorem dp_prs {K : PySem.W.Frag} {I H : Hp} (s : Same I H) : ∀ {vs : List V} {l : List (Nat × Nat)}, All2 (iP iN iN I) vs l → DpAll K H vs (l.map dPr)
  | _, _, .nil => .nil
  | _, _, .cons h t => by
    obtain ⟨a, x, y, rfl, ha, e1, e2⟩ := h
    cases e1
    cases e2
    exact .cons (.tup (SqT.of (s _ _ ha)) (.cons (.int _) (.cons (.int _) .nil))) (dp_prs s t)
section
variable {P : Program} {w : World} {K : PySem.W.Frag} {mg : Str → Option Value} {base : Heap}
/-- what stands all the time -/
structure Lw (K : PySem.W.Frag) (p : Addr) (vM vD : V) (M : Ma) (I H : Hp) : Prop where
  s : Same I H
  po : PoolOk I H p
  rm : iLM I vM M
  rd : iM (CR K) (CM K) I vD M
theorem Lw.up {p : Addr} {vM vD : V} {M : Ma} {I H I' H' : Hp} (W : Lw K p vM vD M I H) (g : Gr [] I H I' H') : Lw K p vM vD M I' H' := ⟨g.ih, W.po.up g (by simp), Tk.up g.ii W.rm, Tk.up g.ii W.rd⟩
theorem Lw.dr {p : Addr} {vM vD : V} {M : Ma} {I H I' H' : Hp} (W : Lw K p vM vD M I H) (g : Gr [p] I H I' H') (po : PoolOk I' H' p) : Lw K p vM vD M I' H' := ⟨g.ih, po, Tk.up g.ii W.rm, Tk.up g.ii W.rd⟩
def spLaw (K : PySem.W.Frag) : Sp := fun vs H Q _ => ∃ (a : Addr) (ns : List Int), vs = [.ref a] ∧ SqL K H a (ns.map V.int) ∧ ns.length ≤ 63 ∧ ∀ H', Q (.bl true) H'
theorem sc_law : FnScope ["script", "pool", "machine", "made", "turn", "way", "k", "passed", "button", "parts", "answer", "part"] ["script"] (defScope s_law) := ⟨rfl, rfl, rfl, by decide +kernel, rfl, by decide +kernel, by decide +kernel⟩
theorem ok_law (D : Dt K mg) {fd : FuncData} (F : FnP K "law" "law" s_law [] (He.ga K "law") fd) : FnOk P w K mg base (L2.CX P w) 12 (He.ga K "law") fd ["script"] (spLaw K) := by
  have H__law_pool := ok_pool (P := P) (w := w) (base := base) D
  have H__law_draw := ok_draw (P := P) (w := w) (base := base) D
  have H__law_single := ok_lsing (P := P) (w := w) (base := base) D
  have H__law_made := ok_lmade (P := P) (w := w) (base := base) D
  have H__law_is := ok_is (P := P) (w := w) (base := base) D
  have H__law_through := ok_thr (P := P) (w := w) (base := base) D
  have H__law_sum := ok_lsum (P := P) (w := w) (base := base) D
  have H_chance := ok_chance (P := P) (w := w) (base := base) D
  have H_Machine_eq := ok_meq (P := P) (w := w) (base := base) D
  refine fnN F sc_law (fun vs H Q E h => ?_) (fun cdv A outer s H vs Q E hr h => ?_)
  · obtain ⟨a, ns, rfl, _⟩ := h; rfl
  · obtain ⟨a, ns, rfl, hS, hlen, k⟩ := h
    refine ⟨_, (pss_cons (ps_set (i := 1) sc_law.nd rfl (Or.inr rfl) (pe_callH H__law_pool (hr.mono (by decide)) rfl (glo__law_pool D) passL (pa_cons (pv 0) (pa_cons pe_int pa_nil))))
      (pss_cons (ps_set (i := 2) sc_law.nd rfl (Or.inr rfl) (pe_callH H__law_single (hr.mono (by decide)) rfl (glo__law_single D) passL (pa_cons (pv 1) (pa_cons pe_int pa_nil))))
      (pss_cons (ps_set (i := 3) sc_law.nd rfl (Or.inr rfl) (pe_callH H__law_made (hr.mono (by decide)) rfl (glo__law_made D) passL (pa_cons (pv 2) pa_nil)))
      (pss_cons (ps_for PassesOwn.never rfl (pi_range1 rfl (free_range D) (pa_cons pe_int pa_nil)) (pg_name (i := 4) sc_law.nd rfl (Or.inl rfl))
      (pss_cons (ps_set (i := 5) sc_law.nd rfl (Or.inr rfl) (pe_callTy (call_tuple_ofK K) rfl (free_tuple D) (by decide +kernel) (pa_cons (pe_lc (own := [("k", 6)]) (g := gName 6) rfl sc_law.nd (pi_range1 rfl (free_range D) (pa_cons (pe_callH H__law_draw (hr.mono (by decide)) rfl (glo__law_draw D) passL (pa_cons (pv 1) (pa_cons pe_int pa_nil))) pa_nil)) (blkOk_by (own := [("k", 6)]) (N := ["script", "pool", "machine", "made", "turn", "way", "k", "passed", "button", "parts", "answer", "part"]) (by kernel_rfl)) (fun _ _ _ _ _ => (pg_name (i := 6) sc_law.nd rfl (Or.inl rfl))) (fun _ _ _ _ _ => pts_nil) (fun _ _ _ _ _ => (pe_tup (pa_cons (pe_callH H__law_draw (hr.mono (by decide)) rfl (glo__law_draw D) passL (pa_cons (pv 1) (pa_cons (pe_callB (call_lenK K) rfl (free_len D) PySem.boot_len (pa_cons (pe_ix (ix_tupK K) (pv 2) pe_int (fun _ _ => rfl)) pa_nil)) pa_nil))) (pa_cons (pe_callH H__law_draw (hr.mono (by decide)) rfl (glo__law_draw D) passL (pa_cons (pv 1) (pa_cons (pe_callB (call_lenK K) rfl (free_len D) PySem.boot_len (pa_cons (pe_ix (ix_listK K) (pe_ix (ix_tupK K) (pv 2) pe_int (fun _ _ => rfl)) pe_int (fun _ _ => rfl)) pa_nil)) pa_nil))) pa_nil))))) pa_nil)))
      (pss_cons (ps_set (i := 7) sc_law.nd rfl (Or.inl rfl) (pe_ix (ix_tupK K) (pe_tup (pa_cons (pv 5) (pa_cons (pe_callTy (call_list_ofK K) rfl (free_list D) (by decide +kernel) (pa_cons (pv 5) pa_nil)) pa_nil))) (pe_callH H__law_draw (hr.mono (by decide)) rfl (glo__law_draw D) passL (pa_cons (pv 1) (pa_cons pe_int pa_nil))) (fun _ _ => rfl)))
      (pss_cons (ps_if (PW.pt (pw_or (pt_not (pt_val (pe_callH H__law_is (hr.mono (by decide)) rfl (glo__law_is D) passL (pa_cons (pe_callH H_chance (hr.mono (by decide)) rfl (glo_chance D) passL (pa_cons (pv 3) (pa_cons (pv 7) pa_nil))) (pa_cons (pe_callH H__law_through (hr.mono (by decide)) rfl (glo__law_through D) passL (pa_cons (pv 2) (pa_cons (pv 5) pa_nil))) pa_nil))))) (pw_or1 (pt_cmpR (op_neDK K hr.units) (pe_callTy (call_list_ofK K) rfl (free_list D) (by decide +kernel) (pa_cons (pv 7) pa_nil)) (pe_callTy (call_list_ofK K) rfl (free_list D) (by decide +kernel) (pa_cons (pv 5) pa_nil)) (nomark _)))))
      (pss_one (ps_ret pe_bl))
      pss_nil)
      (pss_cons (ps_set (i := 8) sc_law.nd rfl (Or.inr rfl) (pe_callH H__law_draw (hr.mono (by decide)) rfl (glo__law_draw D) passL (pa_cons (pv 1) (pa_cons (pe_callB (call_lenK K) rfl (free_len D) PySem.boot_len (pa_cons (pe_ix (ix_tupK K) (pv 2) pe_int (fun _ _ => rfl)) pa_nil)) pa_nil))))
      (pss_cons (ps_setLc (own := [("answer", 10)]) (g := gName 10) (i := 9) rfl sc_law.nd rfl rfl (sw_true rfl rfl rfl (by decide +kernel)) (pi_range1 rfl (free_range D) (pa_cons (pe_callB (call_lenK K) rfl (free_len D) PySem.boot_len (pa_cons (pe_ix (ix_listK K) (pe_ix (ix_tupK K) (pv 2) pe_int (fun _ _ => rfl)) pe_int (fun _ _ => rfl)) pa_nil)) pa_nil)) (blkOk_by (own := [("answer", 10)]) (N := ["script", "pool", "machine", "made", "turn", "way", "k", "passed", "button", "parts", "answer", "part"]) (by kernel_rfl)) (fun _ _ _ _ _ => (pg_name (i := 10) sc_law.nd rfl (Or.inl rfl))) (fun _ _ _ _ _ => pts_nil) (fun _ _ _ _ _ => (pe_callH H_chance (hr.mono (by decide)) rfl (glo_chance D) passL (pa_cons (pv 3) (pa_cons (pe_op (op_catAK K) (pv 5) (pe_tup (pa_cons (pe_tup (pa_cons (pv 8) (pa_cons (pv 10) pa_nil))) pa_nil))) pa_nil)))))
      (pss_one (ps_if (pt_cmpR (op_neDK K hr.units) (pe_callH H__law_sum (hr.mono (by decide)) rfl (glo__law_sum D) passL (pa_cons (pe_lc (own := [("part", 11)]) (g := gName 11) rfl sc_law.nd (pi_listK K (pv 9)) (blkOk_by (own := [("part", 11)]) (N := ["script", "pool", "machine", "made", "turn", "way", "k", "passed", "button", "parts", "answer", "part"]) (by kernel_rfl)) (fun _ _ _ _ _ => (pg_name (i := 11) sc_law.nd rfl (Or.inl rfl))) (fun _ _ _ _ _ => pts_nil) (fun _ _ _ _ _ => (pe_tup (pa_cons (pe_fldK K (pv 11) rfl) (pa_cons (pe_fldK K (pv 11) rfl) pa_nil))))) pa_nil)) (pe_callH H__law_through (hr.mono (by decide)) rfl (glo__law_through D) passL (pa_cons (pv 2) (pa_cons (pv 5) pa_nil))) (nomark _))
      (pss_one (ps_ret pe_bl))
      pss_nil))))))))
      (pss_one (ps_ret (pe_cmpR (op_eqOwnH H_Machine_eq (hr.mono (by decide)) passL (me_Machine_eq (K := K) D)) (pv 3) (pe_callH H__law_made (hr.mono (by decide)) rfl (glo__law_made D) passL (pa_cons (pv 2) pa_nil)) (nomark _)))))))), ?_⟩
    (try dsimp only)
    refine seq_cut (fun σ' H' => ∃ (I : Hp) (p : Addr), σ' = [some (.ref a), some (.ref p), none, none, none, none, none, none, none, none, none, none] ∧ Same I H' ∧ PoolOk I H' p) (fun nx q => ?_) ?_
    · exact ⟨_, rfl, fun _ => none, a, ns, 0, rfl, (fun _ _ h => nomatch h), hS, by omega, fun I' H' p g po _ => q _ _ ⟨I', p, rfl, g.ih, po⟩⟩
    rintro σ' H1 ⟨I, p, rfl, s1, po1⟩
    (try dsimp only)
    refine seq_cut (fun σ' H' => ∃ (I : Hp) (vM : V) (M : Ma) (n bs as : Nat), σ' = [some (.ref a), some (.ref p), some vM, none, none, none, none, none, none, none, none, none] ∧ Same I H' ∧ PoolOk I H' p ∧ iLM I vM M ∧ MOk M n bs as) (fun nx q => ?_) ?_
    · exact ⟨_, rfl, I, p, rfl, s1, po1, fun I' H' v M n bs as g po r ok => q _ _ ⟨I', v, M, n, bs, as, rfl, g.ih, po, r, ok⟩⟩
    clear s1 po1 I
    rintro σ' H1 ⟨I, vM, M, n, bs, as, rfl, s1, po1, rm, ok⟩
    (try dsimp only)
    refine seq_cut (fun σ' H' => ∃ (I : Hp) (vD : V), σ' = [some (.ref a), some (.ref p), some vM, some vD, none, none, none, none, none, none, none, none] ∧ Lw K p vM vD M I H') (fun nx q => ?_) ?_
    · exact ⟨_, rfl, I, _, M, n, bs, as, rfl, s1, rm, ok, fun I' H' v g r => q _ _ ⟨I', v, rfl, g.ih, po1.up g (by simp), up g.ii rm, r⟩⟩
    clear s1 po1 rm I
    rintro σ' H1 ⟨I, vD, rfl, W⟩
    (try dsimp only)
    refine seq_cut (fun σ' H' => ∃ (I : Hp) (v4 v5 v6 v7 v8 v9 v10 v11 : Option V), σ' = [some (.ref a), some (.ref p), some vM, some vD, v4, v5, v6, v7, v8, v9, v10, v11] ∧ Lw K p vM vD M I H') (fun nx q => ?_) ?_
    · refine ⟨3, rfl, by decide, by decide, ?_⟩
      refine for_range (n := 3) (fun i σ' H' => ∃ (I : Hp) (v4 v5 v6 v7 v8 v9 v10 v11 : Option V), σ' = [some (.ref a), some (.ref p), some vM, some vD, v4, v5, v6, v7, v8, v9, v10, v11] ∧ Lw K p vM vD M I H')
        ⟨I, none, none, none, none, none, none, none, none, rfl, W⟩ (fun i σ' H' hi h => ?_) (fun σ' H' h => q σ' H' h)
      clear W I
      obtain ⟨I, v4, v5, v6, v7, v8, v9, v10, v11, rfl, W⟩ := h
      have n1 := ok.n1
      have l1 := ok.l1
      have l2 := ok.l2 0 ok.b0
      have b0 := ok.b0
      have b1 := ok.b1
      have a0 := ok.a0
      have a1 := ok.a1
      (try dsimp only)
      refine seq_cut (fun σ' H' => ∃ (I : Hp) (v4 v6 v7 v8 v9 v10 v11 : Option V) (wv : V) (way : Way), σ' = [some (.ref a), some (.ref p), some vM, some vD, v4, some wv, v6, v7, v8, v9, v10, v11] ∧ Lw K p vM vD M I H' ∧ iT iPr I wv way ∧ way.length ≤ 6 ∧ ∀ x ∈ way, x.1 < bs ∧ x.2 < as) (fun nx q => ?_) ?_
      · refine ⟨_, rfl, I, p, 7, rfl, W.s, W.po, by decide, by decide, fun v H1 c0 c1 g1 po1 => ⟨v, rfl, by omega, by omega, fun l hD => ?_⟩⟩
        have W1 := W.dr g1 po1
        have npl := po1.ne hD
        refine lc_wk [p] iPr (fun i (z : Nat × Nat) => z.1 < bs ∧ z.2 < as) (fun I H => PoolOk I H p) (wk_range (I := I)) W1.s hD (by simpa using npl.symm) (lt_line (by omega)) (stb_pool npl) po1 (fun j I2 H2 Nx Qk hj s2 s3 pj kk => ?_) (fun I2 H2 ys zs g2 hD' b2 hz rl pj => ?_)
        · obtain ⟨am, xm, ym, rfl, hm, _, ay, mys, rfl, hmy, my2⟩ := up s2 W1.rm
          obtain ⟨u0, hu0, c, cs, rfl, hc, c2⟩ := my2.get' (gl_lt (l := M.2) (i := 0) (by omega))
          have lmy := my2.len
          have lc2 := c2.len
          refine ⟨rfl, ?_⟩
          refine ⟨_, rfl, _, rfl, _, _, _, _, rfl, rfl, SqT.of (s3 _ _ hm), at_of (j := 1) rfl rfl, _, mys.length, rfl, .inl ⟨_, SqL.of (s3 _ _ hmy), rfl⟩, I2, p, mys.length, rfl, s3, pj, by omega, by omega, fun w1 H3 d0 d1 g3 po3 => ?_⟩
          refine ⟨_, rfl, _, rfl, _, _, _, _, rfl, rfl, SqT.of (g3.ih _ _ hm), at_of (j := 1) rfl rfl, _, _, _, _, rfl, rfl, SqL.of (g3.ih _ _ hmy), at_of (j := 0) rfl hu0, _, cs.length, rfl, .inl ⟨_, SqL.of (g3.ih _ _ hc), rfl⟩, I2, p, cs.length, rfl, g3.ih, po3, by omega, by omega, fun w2 H4 e0 e1 g4 po4 => ⟨(by show 2 ≤ sizeLine; decide), fun t ht => ?_⟩⟩
          obtain ⟨m1, rfl⟩ := Int.eq_ofNat_of_zero_le d0
          obtain ⟨m2, rfl⟩ := Int.eq_ofNat_of_zero_le e0
          have g5 := Gr.new (ms := []) (o := .tup [.int (m1 : Int), .int (m2 : Int)]) g4.ih ht
          exact kk _ _ _ (m1, m2) ((g3.trans g4).trans (g5.mono fun _ z => nomatch z)) (po4.up g5 (by simp)) ⟨t, _, _, rfl, upd_same, rfl, rfl⟩ ⟨by show m1 < bs; omega, by show m2 < as; omega⟩
        · have W2 := W1.dr g2 pj
          refine tup_of (iA.l ⟨l, ys, rfl, hD', b2⟩) g2.ih fun I3 H3 wv g3 r3 => ?_
          refine q _ _ ⟨I3, _, v6, v7, v8, v9, v10, v11, wv, zs, rfl, W2.up g3, r3, by omega, fun x hx => ?_⟩
          obtain ⟨j, hj, e⟩ := List.getElem_of_mem hx
          rw [← e]
          exact rl j _ (List.getElem?_eq_getElem hj)
      clear W I v4 v5 v6 v7 v8 v9 v10 v11
      rintro σ' H1 ⟨I, v4, v6, v7, v8, v9, v10, v11, wv, way, rfl, W, rw1, lw, wok⟩
      (try dsimp only)
      refine seq_cut (fun σ' H' => ∃ (I : Hp) (v4 v6 v8 v9 v10 v11 : Option V) (pv : V), σ' = [some (.ref a), some (.ref p), some vM, some vD, v4, some wv, v6, some pv, v8, v9, v10, v11] ∧ Lw K p vM vD M I H' ∧ iT iPr I wv way ∧ iA iPr I pv way) (fun nx q => ?_) ?_
      · obtain ⟨aw, ws, rfl, haw, w2⟩ := id rw1
        refine ⟨_, rfl, _, rfl, aw, ws, rfl, .inr (SqT.of (W.s _ _ haw)), fun l hl => ⟨(by show 2 ≤ sizeLine; decide), fun t ht => ?_⟩⟩
        have g1 := Gr.new (ms := []) (o := .lst ws) W.s hl
        have W1 := W.up g1
        have g2 := Gr.tmp (ms := []) (o := .tup [.ref aw, .ref l]) W1.s ht
        have W2 := W1.up g2
        refine ⟨_, rfl, _, p, 2, rfl, W2.s, W2.po, by decide, by decide, fun v H3 c0 c1 g3 po3 => ?_⟩
        have W3 := W2.dr g3 po3
        have npt := W1.po.ne ht
        obtain ⟨pv, hpv, rp⟩ : ∃ pv, ([.ref aw, .ref l] : List V)[v.toNat]? = some pv ∧ iA iPr (upd I l (.lst ws)) pv way := by
          have hv : v = 0 ∨ v = 1 := by omega
          rcases hv with rfl | rfl
          · exact ⟨_, rfl, iA.t (up g1.ii rw1)⟩
          · exact ⟨_, rfl, iA.l ⟨l, ws, rfl, upd_same, w2.up g1.ii⟩⟩
        refine ⟨_, _, _, _, rfl, rfl, SqT.of (g3.at upd_same (by simpa using npt.symm)), at_of (j := v.toNat) (by omega) hpv, ?_⟩
        exact q _ _ ⟨_, v4, v6, v8, v9, v10, v11, pv, rfl, W3, up g1.ii rw1, rp⟩
      clear W I v4 v6 v7 v8 v9 v10 v11 rw1
      rintro σ' H1 ⟨I, v4, v6, v8, v9, v10, v11, pv, rfl, W, rw1, rp⟩
      (try dsimp only)
      have wk8 : WOk way bs as := ⟨by omega, wok⟩
      refine seq_cut (fun σ' H' => ∃ (I : Hp), σ' = [some (.ref a), some (.ref p), some vM, some vD, v4, some wv, v6, some pv, v8, v9, v10, v11] ∧ Lw K p vM vD M I H' ∧ iT iPr I wv way) (fun nx q => ?_) ?_
      · refine ⟨_, rfl, _, rfl, I, _, _, M, n, bs, as, way, rfl, W.s, W.rd, rp, ok, wk8, fun I1 H2 c1 g1 r1 => ?_⟩
        refine ⟨_, rfl, _, rfl, I1, _, _, M, n, bs, as, way, rfl, g1.ih, up g1.ii W.rm, up g1.ii rw1, ok, lw, wok, fun I2 H3 c2 g2 r2 => ?_⟩
        refine ⟨I2, _, _, _, _, rfl, g2.ih, up g2.ii r1, r2, fun H4 g3 => ⟨_, rfl, ?_⟩⟩
        rw [decide_eq_true rfl]
        have gg := (g1.trans g2).trans g3
        have W4 := W.up gg
        refine ifF rfl ?_
        obtain ⟨ap, ps, rfl, hap, p2⟩ := up gg.ii rp
        obtain ⟨aw, ws, rfl, haw, w2⟩ := id (up gg.ii rw1)
        refine ⟨_, rfl, ap, ps, rfl, hap.elim (fun h => .inl (SqL.of (W4.s _ _ h))) (fun h => .inr (SqT.of (W4.s _ _ h))), fun l hl => ?_⟩
        have g5 := Gr.tmp (ms := []) (o := .lst ps) W4.s hl
        refine ⟨_, rfl, aw, ws, rfl, .inr (SqT.of (g5.ih _ _ haw)), fun l2 hl2 => ?_⟩
        have nll : l ≠ l2 := fun e => by rw [← e, upd_same] at hl2; cases hl2
        have g6 := Gr.tmp (ms := []) (o := .lst ws) g5.ih hl2
        refine ⟨.list (way.map dPr), .list (way.map dPr), .lst (SqL.of (by rw [upd_ne nll]; exact upd_same)) (dp_prs g6.ih p2), .lst (SqL.of upd_same) (dp_prs g6.ih w2), shaped_prs _, shaped_prs _, _, rfl, ifF (by rw [show PyData.eqv (.list (way.map dPr)) (.list (way.map dPr)) = true from eqv_prs way]; rfl) ?_⟩
        exact q _ _ ⟨I2, rfl, (W4.up g5).up g6, up gg.ii rw1⟩
      clear W I rw1 rp
      rintro σ' H1 ⟨I, rfl, W, rw1⟩
      (try dsimp only)
      refine seq_cut (fun σ' H' => ∃ (I : Hp) (bt : Nat), σ' = [some (.ref a), some (.ref p), some vM, some vD, v4, some wv, v6, some pv, some (.int bt), v9, v10, v11] ∧ Lw K p vM vD M I H' ∧ iT iPr I wv way ∧ bt < bs) (fun nx q => ?_) ?_
      · obtain ⟨am, xm, ym, rfl, hm, _, ay, mys, rfl, hmy, my2⟩ := id W.rm
        have lmy := my2.len
        refine ⟨_, rfl, _, rfl, _, _, _, _, rfl, rfl, SqT.of (W.s _ _ hm), at_of (j := 1) rfl rfl, _, mys.length, rfl, .inl ⟨_, SqL.of (W.s _ _ hmy), rfl⟩, I, p, mys.length, rfl, W.s, W.po, by omega, by omega, fun w1 H3 d0 d1 g3 po3 => ?_⟩
        obtain ⟨m1, rfl⟩ := Int.eq_ofNat_of_zero_le d0
        exact q _ _ ⟨I, m1, rfl, W.dr g3 po3, up g3.ii rw1, by omega⟩
      clear W I rw1
      rintro σ' H1 ⟨I, bt, rfl, W, rw1, hbt⟩
      (try dsimp only)
      refine seq_cut (fun σ' H' => ∃ (I : Hp) (pl : Addr), σ' = [some (.ref a), some (.ref p), some vM, some vD, v4, some wv, v6, some pv, some (.int bt), some (.ref pl), v10, v11] ∧ Lw K p vM vD M I H' ∧ iT iPr I wv way ∧ iL (iR (CR K)) I (.ref pl) ((List.range as).map fun an => chq M n (way ++ [(bt, an)]))) (fun nx q => ?_) ?_
      · obtain ⟨am, xm, ym, rfl, hm, _, ay, mys, rfl, hmy, my2⟩ := id W.rm
        obtain ⟨u0, hu0, c, cs, rfl, hc, c2⟩ := my2.get' (gl_lt (l := M.2) (i := 0) (by omega))
        have lc2 := c2.len
        refine ⟨_, rfl, _, _, _, _, rfl, rfl, SqT.of (W.s _ _ hm), at_of (j := 1) rfl rfl, _, _, _, _, rfl, rfl, SqL.of (W.s _ _ hmy), at_of (j := 0) rfl hu0, _, cs.length, rfl, .inl ⟨_, SqL.of (W.s _ _ hc), rfl⟩, _, rfl, by omega, by omega, fun l hD => ?_⟩
        rw [Int.toNat_natCast, show cs.length = as from by omega]
        refine lc_range1 (iR (CR K)) (fun an => chq M n (way ++ [(bt, an)])) W.s hD (lt_line (by omega)) (fun an I2 H2 Nx Qk ha s2 s3 kk => ?_) (fun I2 H2 g2 r2 => q _ _ ⟨I2, l, rfl, W.up g2, up g2.ii rw1, r2⟩)
        refine ⟨rfl, ?_⟩
        have rd2 := up s2 W.rd
        have wok2 : WOk (way ++ [(bt, an)]) bs as := ⟨by rw [List.length_append]; show way.length + 1 ≤ 8; omega, fun x hx => by
          rcases List.mem_append.mp hx with h | h
          · exact wok x h
          · rw [List.mem_singleton.mp h]; exact ⟨hbt, ha⟩⟩
        obtain ⟨aw, ws, rfl, haw, w2⟩ := up s2 rw1
        refine ⟨_, rfl, _, rfl, _, rfl, _, rfl, (by show 2 ≤ sizeLine; decide), fun t1 ht1 => ⟨(by show 1 ≤ sizeLine; decide), fun t2 ht2 => ?_⟩⟩
        have g5 := Gr.new (ms := []) (o := .tup [.int (bt : Int), .int (0 + (an : Int))]) s3 ht1
        have g6 := Gr.new (ms := []) (o := .tup [.ref t1]) g5.ih ht2
        have g56 := g5.trans g6
        have one : All2 (iPr (upd (upd I2 t1 (.tup [.int (bt : Int), .int (0 + (an : Int))])) t2 (.tup [.ref t1]))) [.ref t1] [(bt, an)] :=
          .cons ⟨t1, _, _, rfl, g6.ii _ _ upd_same, rfl, by show V.int (0 + (an : Int)) = V.int (an : Int); rw [Int.zero_add]⟩ .nil
        have lws := w2.len
        have fin : ∀ {I7 H7 : Hp} {tv : V}, Gr [] I2 H2 I7 H7 → iT iPr I7 tv (way ++ [(bt, an)]) → ∃ (I' : Hp) (x y : V) (M' : Ma) (n' b' a' : Nat) (w' : Way), [vD, tv] = [x, y] ∧ Same I' H7 ∧ iM (CR K) (CM K) I' x M' ∧ iA iPr I' y w' ∧ MOk M' n' b' a' ∧ WOk w' b' a' ∧ Ret [] I' H7 (iR (CR K)) (chq M' n' w') Qk :=
          fun {I7 H7 tv} g7 r7 => ⟨I7, _, _, M, n, bs, as, _, rfl, g7.ih, up g7.ii rd2, iA.t r7, ok, wok2, fun I8 H8 v8 g8 r8 => kk _ _ _ (g7.trans g8) r8⟩
        refine ⟨aw, t2, ws, [.ref t1], rfl, rfl, SqT.of (g56.ih _ _ (g56.ii _ _ haw)), SqT.of upd_same, by show ws.length + 1 ≤ sizeLine; exact Nat.le_of_lt (lt_line (by omega)), fun e0 => ?_, fun _ e1 => (nomatch e1), fun _ _ t3 ht3 => ?_⟩
        · subst e0
          have ew : way = [] := List.eq_nil_of_length_eq_zero (by simpa using lws.symm)
          exact fin g56 ⟨t2, _, rfl, upd_same, by rw [ew]; exact one⟩
        · have g7 := Gr.new (ms := []) (o := .tup (ws ++ [.ref t1])) g56.ih ht3
          exact fin (g56.trans g7) ⟨t3, _, rfl, upd_same, ((w2.up g56.ii).append one).up g7.ii⟩
      clear W I rw1
      rintro σ' H1 ⟨I, pl, rfl, W, rw1, rpl⟩
      obtain ⟨_, pvs, epl, hpl, p2⟩ := rpl
      cases epl
      have hl8 : way.length + 1 ≤ 8 := by omega
      obtain ⟨w8, w9⟩ := pows hl8
      have gdq : ∀ x ∈ ((List.range as).map fun an => chq M n (way ++ [(bt, an)])), Gd (60 * 60 ^ (way.length + 1)) (5 * 5 ^ (way.length + 1)) x := fun x hx => by
        obtain ⟨an, han, rfl⟩ := List.mem_map.mp hx
        have han := List.mem_range.mp han
        have wok2 : WOk (way ++ [(bt, an)]) bs as := ⟨by rw [List.length_append]; exact hl8, fun x hx => by
          rcases List.mem_append.mp hx with h | h
          · exact wok x h
          · rw [List.mem_singleton.mp h]; exact ⟨hbt, han⟩⟩
        have e := S_gd (n := n) (f := adv M n (gq M.1) (way ++ [(bt, an)])) (Nat.mul_pos (by decide) (Nat.pow_pos (by decide))) fun s hs => adv_gd0 ok wok2 s hs
        rw [List.length_append] at e
        exact e.mono (Nat.mul_le_mul_right _ n1)
      refine ⟨_, rfl, pl, rfl, ⟨_, SqL.of (W.s _ _ hpl)⟩, fun l hD => lc_id (R := iR (CR K)) (Sy := iQ) (wk_list hpl) p2 W.s hD (lt_line (by simp; omega)) (fun j x I2 H2 Nx Qk hj rx s2 kk => ?_) (fun I2 H2 g2 r2 => ?_)⟩
      · obtain ⟨b, dx, eb, hb⟩ := rx
        rw [eb]
        have hb' := s2 _ _ hb
        refine ⟨rfl, _, rfl, _, _, _, _, _, rfl, hb', cls_Ratio D, na_Ratio_num D, rf_num x, _, rfl, _, _, _, _, _, rfl, hb', cls_Ratio D, na_Ratio_den D, rf_den x, (by show 2 ≤ sizeLine; decide), fun t ht => ?_⟩
        exact kk _ _ _ (Gr.new (o := .tup [.int x.num, .int x.den]) s2 ht) ⟨t, rfl, upd_same⟩
      · have big : 4 * 2 ^ 300 ≤ 2 ^ 400 := by decide
        refine ⟨I2, _, _, rfl, g2.ih, iA.l r2, fits_gd (Nat.mul_pos (by decide) (Nat.pow_pos (by decide))) gdq (by rw [List.length_map, List.length_range]; exact Nat.le_trans (Nat.mul_le_mul a1 w9) big) (le400 w8 (by omega)), fun I3 H3 q3 g3 r3 => ?_⟩
        have g23 := g2.trans g3
        refine ⟨_, rfl, _, rfl, I3, _, _, M, n, bs, as, way, rfl, g3.ih, up g23.ii W.rm, up g23.ii rw1, ok, lw, wok, fun I4 H4 q4 g4 r4 => ?_⟩
        rw [tot_range, one_more ok way hbt] at r3
        obtain ⟨t3, rfl, h3⟩ := up g4.ii r3
        obtain ⟨t4, rfl, h4⟩ := r4
        have sh : SeqAt.shaped (.tuple [.int (chq M n way).num, .int ((chq M n way).den : Int)]) = true := by
          unfold SeqAt.shaped; simp [PyData.canLay0, PyData.canLayAll0, PyData.depth, PyData.depthAll]
        have ee : PyData.eqv (.tuple [.int (chq M n way).num, .int ((chq M n way).den : Int)]) (.tuple [.int (chq M n way).num, .int ((chq M n way).den : Int)]) = true := by
          simp [PyData.eqv, PyData.eqvAll]
        refine ⟨_, _, .tup (SqT.of (g4.ih _ _ h3)) (.cons (.int _) (.cons (.int _) .nil)), .tup (SqT.of (g4.ih _ _ h4)) (.cons (.int _) (.cons (.int _) .nil)), sh, sh, _, rfl, ifF (by rw [ee]; rfl) ?_⟩
        exact ⟨I4, _, _, _, _, _, _, _, _, rfl, W.up (g23.trans g4)⟩
    clear W I
    rintro σ' H1 ⟨I, v4, v5, v6, v7, v8, v9, v10, v11, rfl, W⟩
    refine ⟨_, rfl, _, rfl, I, _, M, n, bs, as, rfl, W.s, W.rm, ok, fun I1 H2 v1 g1 r1 => ?_⟩
    obtain ⟨x1, d1, _, _, rfl, hx1, _⟩ := id (W.up g1).rd
    obtain ⟨x2, d2, _, _, rfl, hx2, _⟩ := id r1
    exact ⟨x1, x2, d1, d2, _, _, rfl, rfl, g1.ih _ _ hx1, g1.ih _ _ hx2, I1, _, _, M, rfl, g1.ih, (W.up g1).rd, r1, fun H3 g3 => k _⟩
end
end K

set_option Elab.async false
set_option linter.all false
set_option maxRecDepth 100000
namespace K
open PySem PySem.Spec PyProof.Rows L2 Tk Hd
theorem facts {P : Program} {w : World} {K : PySem.W.Frag} {h : Heap} {mg : Str → Option Value} {f : Addr} (X : K.In h) (G : h.Ns mainGlobals mg) (hfa : mg ("law" : Str) = some (.ref f)) (c : SaysY ex fn K) :
    ∃ fd : FuncData, (∀ (s : Shared) (v : Value), BindsTo s fd ⟨[v], []⟩ [("script", v)]) ∧ ∀ base : Heap, K.In base → base.Ns mainGlobals mg → FnOk P w K mg base CX0 12 f fd ["script"] (fun vs H Q _ => spLaw K vs H Q E0) := by
  have D : Dt K mg := ⟨c, h, X, G⟩
  obtain ⟨fd, F⟩ := fd_law D
  have e := hfa.symm.trans (glo_law D)
  cases e
  have b := FunD.bindsA (ps := ["script"]) F fun _ _ _ _ _ _ us hl => match us, hl with | [_], _ => rfl
  exact ⟨fd, fun s v => b s [v] rfl, fun base _ _ => fn0 (ok_law D F)⟩
end K
open PySem PySem.W PySem.Calls PyProof.Rows
set_option maxHeartbeats 0 in
theorem PySem.Challenge.cw_notesttells_k02_chances_of_ways_holds : PySem.Challenge.rw_notesttells_k02_chances_of_ways.Holds := by
  w_on; o_law
  refine HandSHeadRun.head_imp (r := Hd.R) (q := Hd.vw) (H := Hd.hk) (ob := Hd.ob) (M := 20000) (loose := Hd.loose) (d := HandSHeadRun.topDef Hd.R.prog 38) (kwd := []) Hd.ob_eq Hd.run
    (by kernel_rfl) (by kernel_rfl) (by kernel_rfl) (by rfl) (by first | assumption | decide +kernel) (by decide +kernel) ⟨rfl, rfl, rfl, rfl, rfl, by decide +kernel⟩ ?hw ?hc
  case hw => w_witness2
  case hc =>
    refine L2.walk_ofE (l := PySem.Challenge.rw_notesttells_k02_chances_of_ways) (n := 63) (k := 12) (x := "script") (CX := L2.CX0) rfl (by decide) (by kernel_rfl) ⟨rfl, by decide, by decide⟩ ?F (fun _ _ _ _ z => z)
    intro w mg fa h Y G hmg0
    obtain ⟨Kf, KX, c⟩ := Y
    have hmg : mg ("law" : PySem.Str) = some (.ref fa) := by
      have e : (HandSHeadRun.topDef Hd.R.prog 38).name = ("law" : PySem.Str) := by kernel_rfl
      rw [← e]
      exact hmg0
    obtain ⟨fd, hb, hF⟩ := K.facts (P := (PySem.Challenge.rw_notesttells_k02_chances_of_ways).prog) (w := w) KX G hmg c
    exact ⟨Kf, fd, _, KX, hb, fun H a ns hl _ hS => ⟨a, ns, rfl, hS, hl, fun _ => rfl⟩, hF⟩

