import PyProof.Rows.All
import Wide.All
import OpenK.AllK
import Wide.FinOn
import HandS.ForMost
import HandS.ForExc
import HandS.Star
import HandS.Strs
import HandS.DictComp
import HandS.Wide
import HandS.IsInst
import HandS.ExcIs
import HandS.SetFor
import KE.KDictZip
import HandS.ListItems
import PyProof.DictRoadsH
import KE.KeyNested
import KE.KDictKeyed
import HandS.TupLen
import PySem.Challenge.RW_missesnone_k07_all_inputs
set_option Elab.async false
set_option maxRecDepth 100000
set_option maxHeartbeats 4000000
/-! Zd1: a reading by data. A value of the layer stands for a tree of data (Dt); a frame's slots stand for data, or for lists that the body still grows. -/
namespace Zd
open PySem L2

/-! ### data -/
inductive Dt where
  | non | bl (b : Bool) | int (i : Int) | str (s : Str) | lst (xs : List Dt) | tup (xs : List Dt)

mutual
/-- at the heap G the value v stands for the data d -/
inductive Dq (G : Hp) : V → Dt → Prop
  | non : Dq G .non .non
  | bl (b : Bool) : Dq G (.bl b) (.bl b)
  | int (i : Int) : Dq G (.int i) (.int i)
  | str (s : Str) : Dq G (.str s) (.str s)
  | lst {a : Addr} {vs : List V} {ds : List Dt} : G a = some (.lst vs) → Dqs G vs ds → Dq G (.ref a) (.lst ds)
  | tup {a : Addr} {vs : List V} {ds : List Dt} : G a = some (.tup vs) → Dqs G vs ds → Dq G (.ref a) (.tup ds)
inductive Dqs (G : Hp) : List V → List Dt → Prop
  | nil : Dqs G [] []
  | cons {v : V} {d : Dt} {vs : List V} {ds : List Dt} : Dq G v d → Dqs G vs ds → Dqs G (v :: vs) (d :: ds)
end

mutual
theorem Dq.up {G G' : Hp} (s : Same G G') : ∀ {v : V} {d : Dt}, Dq G v d → Dq G' v d
  | _, _, .non => .non
  | _, _, .bl b => .bl b
  | _, _, .int i => .int i
  | _, _, .str x => .str x
  | _, _, .lst h hs => .lst (s _ _ h) (Dqs.up s hs)
  | _, _, .tup h hs => .tup (s _ _ h) (Dqs.up s hs)
theorem Dqs.up {G G' : Hp} (s : Same G G') : ∀ {vs : List V} {ds : List Dt}, Dqs G vs ds → Dqs G' vs ds
  | _, _, .nil => .nil
  | _, _, .cons h hs => .cons (Dq.up s h) (Dqs.up s hs)
end

def Dt.scal : Dt → Bool
  | .lst _ => false
  | .tup _ => false
  | _ => true
theorem Dq.anywhere {G G' : Hp} {v : V} {d : Dt} (h : Dq G v d) (hs : d.scal = true) : Dq G' v d := by
  cases h with
  | non => exact .non
  | bl b => exact .bl b
  | int i => exact .int i
  | str x => exact .str x
  | lst _ _ => cases hs
  | tup _ _ => cases hs
theorem Dqs.length {G : Hp} : ∀ {vs : List V} {ds : List Dt}, Dqs G vs ds → vs.length = ds.length
  | _, _, .nil => rfl
  | _, _, .cons _ h => by rw [List.length_cons, List.length_cons, Dqs.length h]
theorem Dqs.get {G : Hp} : ∀ {vs : List V} {ds : List Dt}, Dqs G vs ds → ∀ {i : Nat} {d : Dt}, ds[i]? = some d → ∃ v, vs[i]? = some v ∧ Dq G v d
  | _, _, .nil, i, d, h => by simp at h
  | _, _, .cons h hs, 0, d, e => by
    have e' := Option.some.inj e
    subst e'
    exact ⟨_, rfl, h⟩
  | _, _, .cons h hs, i + 1, d, e => Dqs.get hs (i := i) e
theorem Dqs.get' {G : Hp} : ∀ {vs : List V} {ds : List Dt}, Dqs G vs ds → ∀ {i : Nat} {v : V}, vs[i]? = some v → ∃ d, ds[i]? = some d ∧ Dq G v d
  | _, _, .nil, i, d, h => by simp at h
  | _, _, .cons h hs, 0, d, e => by
    have e' := Option.some.inj e
    subst e'
    exact ⟨_, rfl, h⟩
  | _, _, .cons h hs, i + 1, d, e => Dqs.get' hs (i := i) e
theorem Dqs.append {G : Hp} : ∀ {vs ws : List V} {ds es : List Dt}, Dqs G vs ds → Dqs G ws es → Dqs G (vs ++ ws) (ds ++ es)
  | _, _, _, _, .nil, h => h
  | _, _, _, _, .cons h hs, k => .cons h (Dqs.append hs k)
theorem Dqs.drop {G : Hp} : ∀ (n : Nat) {vs : List V} {ds : List Dt}, Dqs G vs ds → Dqs G (vs.drop n) (ds.drop n)
  | 0, _, _, h => by simpa using h
  | n + 1, _, _, .nil => by simpa using Dqs.nil
  | n + 1, _, _, .cons h hs => by simpa using Dqs.drop n hs
theorem Dqs.take {G : Hp} : ∀ (n : Nat) {vs : List V} {ds : List Dt}, Dqs G vs ds → Dqs G (vs.take n) (ds.take n)
  | 0, _, _, h => by simpa using Dqs.nil
  | n + 1, _, _, .nil => by simpa using Dqs.nil
  | n + 1, _, _, .cons h hs => by simpa using Dqs.cons h (Dqs.take n hs)
theorem Dqs.ints {G : Hp} : ∀ {vs : List V} {ns : List Int}, Dqs G vs (ns.map Dt.int) → vs = ns.map V.int
  | [], [], .nil => rfl
  | _ :: _, _ :: _, .cons h hs => by
    cases h
    rw [Dqs.ints hs]
    rfl
theorem Dqs.of_ints {G : Hp} : ∀ (ns : List Int), Dqs G (ns.map V.int) (ns.map Dt.int)
  | [] => .nil
  | n :: r => .cons (.int n) (Dqs.of_ints r)
theorem Dqs.strs {G : Hp} : ∀ {vs : List V} {ns : List Str}, Dqs G vs (ns.map Dt.str) → vs = ns.map V.str
  | [], [], .nil => rfl
  | _ :: _, _ :: _, .cons h hs => by
    cases h
    rw [Dqs.strs hs]
    rfl
theorem Dqs.of_strs {G : Hp} : ∀ (ns : List Str), Dqs G (ns.map V.str) (ns.map Dt.str)
  | [] => .nil
  | n :: r => .cons (.str n) (Dqs.of_strs r)

/-! ### heaps that grow -/
/-- what a caller lets change, and what it knows of it; the data's heap and the heap at the entry -/
structure Bx where
  S : Addr → Prop
  J : Hp → Prop
  st : ∀ H H', J H → (∀ a, S a → H' a = H a) → J H'
  hs : ∀ H a, J H → S a → H a ≠ none

/-- nothing may change -/
def Bx.pure : Bx := ⟨fun _ => False, fun _ => True, fun _ _ _ _ => trivial, fun _ _ _ h => h.elim⟩

/-- from (G, H) to (G', H') -/
structure Gx (b : Bx) (G H G' H' : Hp) : Prop where
  gg : Same G G'
  hh : ∀ a o, ¬ b.S a → H a = some o → H' a = some o
  gh : Same G' H'
  nw : ∀ a, G' a ≠ none → G a ≠ none ∨ H a = none
  jj : b.J H'

theorem Gx.keep {b : Bx} {G H G' H' : Hp} (j : b.J H) (g : Gx b G H G' H') {a : Addr} (h : H a ≠ none) : H' a ≠ none := by
  by_cases s : b.S a
  · exact b.hs _ _ g.jj s
  · cases e : H a with
    | none => exact absurd e h
    | some o => rw [g.hh a o s e]; simp
theorem Gx.trans {b : Bx} {G H G1 H1 G2 H2 : Hp} (j : b.J H) (g1 : Gx b G H G1 H1) (g2 : Gx b G1 H1 G2 H2) : Gx b G H G2 H2 where
  gg := g1.gg.trans g2.gg
  hh := fun a o s e => g2.hh a o s (g1.hh a o s e)
  gh := g2.gh
  nw := fun a h => by
    rcases g2.nw a h with k | k
    · exact g1.nw a k
    · refine .inr ?_
      cases e : H a with
      | none => rfl
      | some o => exact absurd k (g1.keep j (by rw [e]; simp))
  jj := g2.jj
theorem Gx.refl {b : Bx} {G H : Hp} (s : Same G H) (j : b.J H) : Gx b G H G H := ⟨Same.refl G, fun _ _ _ e => e, s, fun _ h => .inl h, j⟩
/-- where nothing may change, whoever lets more change is served too -/
theorem Gx.of_pure {b : Bx} {G H G' H' : Hp} (j : b.J H) (g : Gx Bx.pure G H G' H') : Gx b G H G' H' :=
  ⟨g.gg, fun a o _ e => g.hh a o (fun z => z) e, g.gh, g.nw, b.st _ _ j fun a s => by
    cases e : H a with
    | none => exact absurd e (b.hs _ _ j s)
    | some o => exact g.hh a o (fun z => z) e⟩
theorem Gx.fresh {b : Bx} {G H G' H' : Hp} (j : b.J H) (g : Gx b G H G' H') {p : Addr} (h : H' p = none) : H p = none := by
  cases e : H p with
  | none => rfl
  | some o => exact absurd h (g.keep j (by rw [e]; simp))
/-- a new object that is not data (yet) -/
theorem Gx.put {b : Bx} {G H : Hp} {p : Addr} {o : HO} (s : Same G H) (j : b.J H) (h : H p = none) : Gx b G H G (upd H p o) :=
  ⟨Same.refl G, fun a u _ e => by rw [upd_ne (ne_of_none e h)]; exact e, fun a u e => by rw [upd_ne (ne_of_none (s a u e) h)]; exact s a u e, fun _ k => .inl k,
    b.st _ _ j fun a sa => upd_ne fun e => b.hs _ _ j sa (by rw [e]; exact h)⟩
/-- an object of the body's own becomes data -/
theorem Gx.freeze {b : Bx} {G H G' H' : Hp} {p : Addr} {o : HO} (g : Gx b G H G' H') (h : H p = none) (n : G' p = none) (e : H' p = some o) : Gx b G H (upd G' p o) H' :=
  ⟨fun a u k => by rw [upd_ne (ne_of_none (g.gg a u k) n)]; exact g.gg a u k, g.hh, fun a u k => by
    by_cases z : a = p
    · subst z
      rw [upd_same] at k
      rw [e, k]
    · rw [upd_ne z] at k
      exact g.gh a u k, fun a k => by
    by_cases z : a = p
    · subst z
      exact .inr h
    · rw [upd_ne z] at k
      exact g.nw a k, g.jj⟩
/-- the object of the body's own is changed -/
theorem Gx.poke {b : Bx} {G H G' H' : Hp} {p : Addr} {o : HO} (j : b.J H) (g : Gx b G H G' H') (h : H p = none) (n : G' p = none) : Gx b G H G' (upd H' p o) :=
  ⟨g.gg, fun a u s e => by rw [upd_ne (ne_of_none e h)]; exact g.hh a u s e, fun a u e => by rw [upd_ne (ne_of_none e n)]; exact g.gh a u e, g.nw,
    b.st _ _ g.jj fun a sa => upd_ne fun e => b.hs _ _ j sa (by rw [e]; exact h)⟩

/-! ### the frame by data -/
inductive Sl where
  /-- nothing is known -/
  | un
  | dat (d : Dt)
  /-- a list of the body's own, which it may change -/
  | own (ds : List Dt)
  /-- another object of the body's own, of which the data's heap, its address and what stands there make Φ true for good -/
  | obj (Φ : Hp → Addr → HO → Prop)
  /-- this very value -/
  | raw (v : V)
abbrev Fe := List Sl

/-- the objects of the slot i -/
def Own (H : Hp) (σ : L2.St) (i : Nat) (p : Addr) : Prop := σ[i]? = some (some (V.ref p))

def Slo (E : Hp) (G H : Hp) (σ : L2.St) (i : Nat) : Sl → Prop
  | .un => True
  | .dat d => ∃ v, σ[i]? = some (some v) ∧ Dq G v d
  | .own ds => ∃ p vs, σ[i]? = some (some (V.ref p)) ∧ H p = some (.lst vs) ∧ G p = none ∧ E p = none ∧ Dqs G vs ds
  | .obj Φ => ∃ p o, σ[i]? = some (some (V.ref p)) ∧ H p = some o ∧ G p = none ∧ E p = none ∧ ∀ G', Same G G' → Φ G' p o
  | .raw v => σ[i]? = some (some v)
def Sl.owns : Sl → Bool
  | .own _ => true
  | .obj _ => true
  | _ => false

/-- the frame's slots σ at the heaps (G, H) stand as δ says; the body was entered at (G0, H0) -/
structure En (b : Bx) (G0 H0 G H : Hp) (σ : L2.St) (δ : Fe) : Prop where
  j0 : b.J H0
  gx : Gx b G0 H0 G H
  len : σ.length = δ.length
  sl : ∀ (i : Nat) (x : Sl), δ[i]? = some x → Slo H0 G H σ i x
  apart : ∀ (i k : Nat) (x y : Sl) (p : Addr), δ[i]? = some x → δ[k]? = some y → x.owns = true → y.owns = true → σ[i]? = some (some (V.ref p)) → σ[k]? = some (some (V.ref p)) → i = k

section
variable {b : Bx} {G0 H0 G H G' H' : Hp} {σ : L2.St} {δ : Fe}
theorem Slo.up {i : Nat} {x : Sl} (j0 : b.J H0) (g0 : Gx b G0 H0 G H) (g : Gx b G H G' H') (h : Slo H0 G H σ i x) : Slo H0 G' H' σ i x := by
  have ns : ∀ p, H0 p = none → H p ≠ none → ¬ b.S p := fun p e _ s => b.hs _ _ j0 s e
  cases x with
  | un => trivial
  | dat d =>
    obtain ⟨v, e, q⟩ := h
    exact ⟨v, e, q.up g.gg⟩
  | own ds =>
    obtain ⟨p, vs, e, h1, h2, h3, h4⟩ := h
    refine ⟨p, vs, e, g.hh p _ (ns p h3 (by rw [h1]; simp)) h1, ?_, h3, h4.up g.gg⟩
    cases k : G' p with
    | none => rfl
    | some o =>
      rcases g.nw p (by rw [k]; simp) with z | z
      · exact absurd h2 z
      · rw [h1] at z; cases z
  | obj Φ =>
    obtain ⟨p, o, e, h1, h2, h3, h4⟩ := h
    refine ⟨p, o, e, g.hh p _ (ns p h3 (by rw [h1]; simp)) h1, ?_, h3, fun G2 s2 => h4 G2 (g.gg.trans s2)⟩
    cases k : G' p with
    | none => rfl
    | some o =>
      rcases g.nw p (by rw [k]; simp) with z | z
      · exact absurd h2 z
      · rw [h1] at z; cases z
  | raw v => exact h
theorem En.up (e : En b G0 H0 G H σ δ) (g : Gx b G H G' H') : En b G0 H0 G' H' σ δ :=
  ⟨e.j0, e.gx.trans e.j0 g, e.len, fun i x h => (e.sl i x h).up e.j0 e.gx g, e.apart⟩
theorem En.same (e : En b G0 H0 G H σ δ) : Same G H := e.gx.gh
theorem En.jj (e : En b G0 H0 G H σ δ) : b.J H := e.gx.jj
/-- a slot gets a value -/
theorem En.set (e : En b G0 H0 G H σ δ) (i : Nat) (v : V) (x : Sl) (hx : x.owns = false) (h : i < δ.length → Slo H0 G H (σ.set i (some v)) i x) : En b G0 H0 G H (σ.set i (some v)) (δ.set i x) := by
  refine ⟨e.j0, e.gx, by rw [List.length_set, List.length_set, e.len], fun k y hk => ?_, fun k l y z p hk hl oy oz sk sl => ?_⟩
  · by_cases hik : i = k
    · subst hik
      have hlt : i < δ.length := by
        have := (List.getElem?_eq_some_iff.mp hk).1
        rwa [List.length_set] at this
      rw [List.getElem?_set_self hlt] at hk
      have := Option.some.inj hk
      subst this
      exact h hlt
    · rw [List.getElem?_set_ne hik] at hk
      have q := e.sl k y hk
      cases y with
      | un => trivial
      | dat d => obtain ⟨v, e1, q1⟩ := q; exact ⟨v, by rw [List.getElem?_set_ne hik]; exact e1, q1⟩
      | own ds => obtain ⟨p, vs, e1, q1⟩ := q; exact ⟨p, vs, by rw [List.getElem?_set_ne hik]; exact e1, q1⟩
      | obj Φ => obtain ⟨p, o, e1, q1⟩ := q; exact ⟨p, o, by rw [List.getElem?_set_ne hik]; exact e1, q1⟩
      | raw v =>
        show (σ.set i _)[k]? = _
        rw [List.getElem?_set_ne hik]; exact q
  · have ne : ∀ {m : Nat} {u : Sl}, (δ.set i x)[m]? = some u → u.owns = true → i ≠ m ∧ δ[m]? = some u := fun {m u} hm ou => by
      by_cases him : i = m
      · subst him
        have hlt : i < δ.length := by
          have := (List.getElem?_eq_some_iff.mp hm).1
          rwa [List.length_set] at this
        rw [List.getElem?_set_self hlt] at hm
        have := Option.some.inj hm
        subst this
        rw [hx] at ou; cases ou
      · rw [List.getElem?_set_ne him] at hm
        exact ⟨him, hm⟩
    obtain ⟨n1, e1⟩ := ne hk oy
    obtain ⟨n2, e2⟩ := ne hl oz
    rw [List.getElem?_set_ne n1] at sk
    rw [List.getElem?_set_ne n2] at sl
    exact e.apart k l y z p e1 e2 oy oz sk sl
theorem En.setDat (e : En b G0 H0 G H σ δ) (i : Nat) {v : V} {d : Dt} (q : Dq G v d) : En b G0 H0 G H (σ.set i (some v)) (δ.set i (.dat d)) :=
  e.set i v _ rfl fun hlt => ⟨v, List.getElem?_set_self (by rw [e.len]; exact hlt), q⟩
theorem En.setRaw (e : En b G0 H0 G H σ δ) (i : Nat) {v : V} : En b G0 H0 G H (σ.set i (some v)) (δ.set i (.raw v)) :=
  e.set i v _ rfl fun hlt => List.getElem?_set_self (by rw [e.len]; exact hlt)
/-- a slot gets a new object of the body's own -/
theorem En.setOwn (e : En b G0 H0 G H σ δ) (i : Nat) {p : Addr} (x : Sl) (hf : ∀ (k : Nat) (y : Sl), δ[k]? = some y → y.owns = true → σ[k]? ≠ some (some (V.ref p))) (h : i < δ.length → Slo H0 G H (σ.set i (some (V.ref p))) i x) : En b G0 H0 G H (σ.set i (some (V.ref p))) (δ.set i x) := by
  have e0 : En b G0 H0 G H (σ.set i (some (V.ref p))) (δ.set i .un) := e.set i _ .un rfl fun _ => trivial
  refine ⟨e.j0, e.gx, by rw [List.length_set, List.length_set, e.len], fun k y hk => ?_, fun k l y z q hk hl oy oz sk sl => ?_⟩
  · by_cases hik : i = k
    · subst hik
      have hlt : i < δ.length := by
        have := (List.getElem?_eq_some_iff.mp hk).1
        rwa [List.length_set] at this
      rw [List.getElem?_set_self hlt] at hk
      have := Option.some.inj hk
      subst this
      exact h hlt
    · exact e0.sl k y (by rw [List.getElem?_set_ne hik] at hk ⊢; exact hk)
  · have lti : ∀ {m : Nat} {u : Sl}, (δ.set i x)[m]? = some u → m < δ.length := fun {m u} hm => by
      have := (List.getElem?_eq_some_iff.mp hm).1
      rwa [List.length_set] at this
    by_cases h1 : i = k
    · by_cases h2 : i = l
      · exact h1.symm.trans h2
      · subst h1
        rw [List.getElem?_set_self (by rw [e.len]; exact lti hk)] at sk
        have := V.ref.inj (Option.some.inj (Option.some.inj sk))
        subst this
        rw [List.getElem?_set_ne h2] at hl sl
        exact absurd sl (hf l z hl oz)
    · by_cases h2 : i = l
      · subst h2
        rw [List.getElem?_set_self (by rw [e.len]; exact lti hl)] at sl
        have := V.ref.inj (Option.some.inj (Option.some.inj sl))
        subst this
        rw [List.getElem?_set_ne h1] at hk sk
        exact absurd sk (hf k y hk oy)
      · rw [List.getElem?_set_ne h1] at hk sk
        rw [List.getElem?_set_ne h2] at hl sl
        exact e.apart k l y z q hk hl oy oz sk sl
/-- an address that the heap did not know is no slot's -/
theorem En.noSlot (e : En b G0 H0 G H σ δ) {p : Addr} (h : H p = none) : ∀ (k : Nat) (y : Sl), δ[k]? = some y → y.owns = true → σ[k]? ≠ some (some (V.ref p)) := fun k y hk oy sk => by
  have q := e.sl k y hk
  cases y with
  | own ds =>
    obtain ⟨a, vs, e1, q1, _⟩ := q
    rw [sk] at e1
    have := V.ref.inj (Option.some.inj (Option.some.inj e1))
    subst this
    rw [h] at q1; cases q1
  | obj Φ =>
    obtain ⟨a, o, e1, q1, _⟩ := q
    rw [sk] at e1
    have := V.ref.inj (Option.some.inj (Option.some.inj e1))
    subst this
    rw [h] at q1; cases q1
  | un => cases oy
  | dat d => cases oy
  | raw v => cases oy
/-- less is known -/
theorem En.forget (e : En b G0 H0 G H σ δ) (i : Nat) : En b G0 H0 G H σ (δ.set i .un) := by
  have ne : ∀ {m : Nat} {u : Sl}, (δ.set i .un)[m]? = some u → u = .un ∨ δ[m]? = some u := fun {m u} hm => by
    by_cases him : i = m
    · subst him
      have hlt : i < δ.length := by
        have := (List.getElem?_eq_some_iff.mp hm).1
        rwa [List.length_set] at this
      rw [List.getElem?_set_self hlt] at hm
      exact .inl (Option.some.inj hm).symm
    · rw [List.getElem?_set_ne him] at hm
      exact .inr hm
  refine ⟨e.j0, e.gx, by rw [List.length_set, e.len], fun k y hk => ?_, fun k l y z q hk hl oy oz sk sl => ?_⟩
  · rcases ne hk with z | z
    · subst z; trivial
    · exact e.sl k y z
  · rcases ne hk with z1 | z1
    · subst z1; cases oy
    · rcases ne hl with z2 | z2
      · subst z2; cases oz
      · exact e.apart k l y z q z1 z2 oy oz sk sl
end
end Zd

set_option Elab.async false
set_option maxRecDepth 100000
set_option maxHeartbeats 4000000
/-! Zd2: what expressions, tests, arguments, walks and statements come to, by data. -/
namespace Zd
open PySem L2 StX

/-- the base of a body: what its caller lets change, the heaps at its entry -/
structure Bs where
  b : Bx
  G0 : Hp
  H0 : Hp
abbrev Ec (c : Bs) (G H : Hp) (σ : L2.St) (δ : Fe) : Prop := En c.b c.G0 c.H0 G H σ δ

def Dn (c : Bs) (te : TE) (δ : Fe) (P : Dt → Prop) : Prop := ∀ (σ : L2.St) (G H : Hp), Ec c G H σ δ → ∀ Q : VK, (∀ v d G' H', Gx c.b G H G' H' → Dq G' v d → P d → Q v H') → te σ H Q
abbrev De (c : Bs) (te : TE) (δ : Fe) (d : Dt) : Prop := Dn c te δ (· = d)
def Ds' (c : Bs) (ta : TA) (δ : Fe) (P : List Dt → Prop) : Prop := ∀ (σ : L2.St) (G H : Hp), Ec c G H σ δ → ∀ Q : List V → Hp → Prop, (∀ vs ds G' H', Gx c.b G H G' H' → Dqs G' vs ds → P ds → Q vs H') → ta σ H Q
def Dt' (c : Bs) (tt : TT) (δ : Fe) (P : Bool → Prop) : Prop := ∀ (σ : L2.St) (G H : Hp), Ec c G H σ δ → ∀ Q : Bool → Hp → Prop, (∀ k G' H', Gx c.b G H G' H' → P k → Q k H') → tt σ H Q
/-- a new list, the body's own as yet -/
def Dl (c : Bs) (te : TE) (δ : Fe) (P : List Dt → Prop) : Prop := ∀ (σ : L2.St) (G H : Hp), Ec c G H σ δ → ∀ Q : VK, (∀ p vs ds G' H', Gx c.b G H G' H' → H p = none → G' p = none → H' p = some (.lst vs) → Dqs G' vs ds → P ds → Q (.ref p) H') → te σ H Q
def Dp' (c : Bs) (to : TO) (δ : Fe) (P : Option Int → Prop) : Prop := ∀ (σ : L2.St) (G H : Hp), Ec c G H σ δ → ∀ Q : Option Int → Hp → Prop, (∀ k G' H', Gx c.b G H G' H' → P k → Q k H') → to σ H Q

/-- a two-place operation by data; a call of a built-in -/
def Rv (b : Bx) (r : R2) (x y : Dt) (T : Dt → Prop) : Prop := ∀ (v w : V) (G H : Hp), Same G H → b.J H → Dq G v x → Dq G w y → ∀ Q : VK, (∀ u d G' H', Gx b G H G' H' → Dq G' u d → T d → Q u H') → r v w H Q
def Rc (b : Bx) (r : List V → Hp → VK → Prop) (xs : List Dt) (T : Dt → Prop) : Prop := ∀ (vs : List V) (G H : Hp), Same G H → b.J H → Dqs G vs xs → ∀ Q : VK, (∀ u d G' H', Gx b G H G' H' → Dq G' u d → T d → Q u H') → r vs H Q

section
variable {c : Bs} {δ : Fe} {te ta tb : TE} {tt tu : TT} {tr : TA} {P R T : Dt → Prop}

theorem Dn.imp (h : Dn c te δ P) (k : ∀ d, P d → T d) : Dn c te δ T := fun σ G H e Q q => h σ G H e Q fun v d G' H' g dq p => q v d G' H' g dq (k d p)
theorem Dt'.imp {P T : Bool → Prop} (h : Dt' c tt δ P) (k : ∀ d, P d → T d) : Dt' c tt δ T := fun σ G H e Q q => h σ G H e Q fun v G' H' g p => q v G' H' g (k v p)
theorem Ds'.imp {P T : List Dt → Prop} (h : Ds' c tr δ P) (k : ∀ d, P d → T d) : Ds' c tr δ T := fun σ G H e Q q => h σ G H e Q fun v d G' H' g dq p => q v d G' H' g dq (k d p)
theorem Dl.imp {P T : List Dt → Prop} (h : Dl c te δ P) (k : ∀ d, P d → T d) : Dl c te δ T := fun σ G H e Q q => h σ G H e Q fun p vs ds G' H' g a1 a2 a3 a4 a5 => q p vs ds G' H' g a1 a2 a3 a4 (k ds a5)
theorem De.eq {d e : Dt} (h : De c te δ d) (k : d = e) : De c te δ e := by rw [← k]; exact h

theorem de_var {i : Nat} {d : Dt} (h : δ[i]? = some (.dat d)) : De c (tVar i) δ d := fun σ G H e Q q => by
  obtain ⟨v, e1, dq⟩ := e.sl i _ h
  exact ⟨v, e1, q v d G H (Gx.refl e.same e.jj) dq rfl⟩
theorem de_raw {i : Nat} {v : V} {d : Dt} (h : δ[i]? = some (.raw v)) (k : ∀ G, Dq G v d) : De c (tVar i) δ d := fun σ G H e Q q =>
  ⟨v, e.sl i _ h, q v d G H (Gx.refl e.same e.jj) (k G) rfl⟩
theorem de_c {v : V} {d : Dt} (k : ∀ G, Dq G v d) : De c (tC v) δ d := fun σ G H e Q q => q v d G H (Gx.refl e.same e.jj) (k G) rfl
theorem de_int {i : Int} : De c (tC (.int i)) δ (.int i) := de_c fun _ => .int i
theorem de_str {s : Str} : De c (tC (.str s)) δ (.str s) := de_c fun _ => .str s
theorem de_bl {k : Bool} : De c (tC (.bl k)) δ (.bl k) := de_c fun _ => .bl k
theorem de_non : De c (tC .non) δ .non := de_c fun _ => .non

theorem dn_op {r : R2} (ha : Dn c ta δ P) (hb : Dn c tb δ R) (h : ∀ x y, P x → R y → Rv c.b r x y T) : Dn c (tOp r ta tb) δ T := fun σ G H e Q q =>
  ha σ G H e _ fun v x G1 H1 g1 d1 p1 => hb σ G1 H1 (e.up g1) _ fun w y G2 H2 g2 d2 p2 =>
    h x y p1 p2 v w G2 H2 g2.gh g2.jj (d1.up g2.gg) d2 Q fun u d G3 H3 g3 d3 p3 => q u d G3 H3 ((g1.trans e.jj g2).trans e.jj g3) d3 p3
theorem de_op {r : R2} {x y z : Dt} (ha : De c ta δ x) (hb : De c tb δ y) (h : Rv c.b r x y (· = z)) : De c (tOp r ta tb) δ z :=
  dn_op ha hb fun _ _ e1 e2 => by rw [e1, e2]; exact h
theorem dn_cb {r : List V → Hp → VK → Prop} {P : List Dt → Prop} (ha : Ds' c tr δ P) (h : ∀ xs, P xs → Rc c.b r xs T) : Dn c (tCB r tr) δ T := fun σ G H e Q q =>
  ha σ G H e _ fun vs ds G1 H1 g1 d1 p1 => h ds p1 vs G1 H1 g1.gh g1.jj d1 Q fun u d G3 H3 g3 d3 p3 => q u d G3 H3 (g1.trans e.jj g3) d3 p3

theorem da_nil : Ds' c tNil δ (· = []) := fun σ G H e Q q => q [] [] G H (Gx.refl e.same e.jj) .nil rfl
theorem da_cons {P : Dt → Prop} {S T : List Dt → Prop} (ha : Dn c ta δ P) (hr : Ds' c tr δ S) (h : ∀ d ds, P d → S ds → T (d :: ds)) : Ds' c (tCons ta tr) δ T := fun σ G H e Q q =>
  ha σ G H e _ fun v x G1 H1 g1 d1 p1 => hr σ G1 H1 (e.up g1) _ fun vs xs G2 H2 g2 d2 p2 => q (v :: vs) (x :: xs) G2 H2 (g1.trans e.jj g2) (.cons (d1.up g2.gg) d2) (h x xs p1 p2)
theorem da_consE {d : Dt} {ds : List Dt} (ha : De c ta δ d) (hr : Ds' c tr δ (· = ds)) : Ds' c (tCons ta tr) δ (· = d :: ds) := da_cons ha hr fun _ _ e1 e2 => by rw [e1, e2]
/-- *xs, .. -/
theorem da_starE {K : PySem.W.Frag} {xs ds : List Dt} (ha : De c ta δ (.lst xs)) (hr : Ds' c tr δ (· = ds)) : Ds' c (tStar K ta tr) δ (· = xs ++ ds) := fun σ G H e Q q =>
  ha σ G H e _ fun v x G1 H1 g1 d1 p1 => by
    subst p1
    cases d1 with
    | lst h1 h2 =>
      refine ⟨_, _, rfl, .inr (SqL.of (g1.gh _ _ h1)), ?_⟩
      exact hr σ G1 H1 (e.up g1) _ fun vs ys G2 H2 g2 d2 p2 => q _ _ G2 H2 (g1.trans e.jj g2) ((h2.up g2.gg).append d2) (by rw [p2])

theorem sz_ok {n : Nat} (h : n ≤ 10000000) : n ≤ sizeLine := Nat.le_trans h (by rw [sizeLine_eq]; decide)
theorem sz_lt' {n : Nat} (h : n ≤ 10000000) : n < sizeLine := Nat.lt_of_le_of_lt h (by rw [sizeLine_eq]; decide)

/-- a new object is data at once -/
theorem Gx.newDat {b : Bx} {G H G1 H1 : Hp} (j : b.J H) (g : Gx b G H G1 H1) {p : Addr} (h : H1 p = none) (o : HO) : Gx b G H (upd G1 p o) (upd H1 p o) := by
  have n1 : G1 p = none := by
    cases e : G1 p with
    | none => rfl
    | some u => rw [g.gh p u e] at h; cases h
  exact g.trans j (Gx.freeze (Gx.put g.gh g.jj h) h n1 upd_same)

theorem dn_tup {S : List Dt → Prop} (ha : Ds' c tr δ S) (hl : ∀ ds, S ds → ds.length ≤ 10000000) (h : ∀ ds, S ds → T (.tup ds)) : Dn c (tTup tr) δ T := fun σ G H e Q q =>
  ha σ G H e _ fun vs ds G1 H1 g1 d1 p1 => ⟨sz_ok (by rw [d1.length]; exact hl ds p1), fun p hp =>
    q (.ref p) (.tup ds) _ _ (g1.newDat e.jj hp (.tup vs)) (.tup upd_same (d1.up fun a u k => by
      rw [upd_ne (ne_of_none (g1.gh a u k) hp)]; exact k)) (h ds p1)⟩
theorem de_tup {ds : List Dt} (ha : Ds' c tr δ (· = ds)) (hl : ds.length ≤ 10000000 := by first | decide | (simp; done)) : De c (tTup tr) δ (.tup ds) := dn_tup ha (fun _ e => by rw [e]; exact hl) fun _ e => by rw [e]
theorem dl_lst {S : List Dt → Prop} (ha : Ds' c tr δ S) (hl : ∀ ds, S ds → ds.length ≤ 10000000) : Dl c (tLst tr) δ S := fun σ G H e Q q =>
  ha σ G H e _ fun vs ds G1 H1 g1 d1 p1 => ⟨sz_ok (by rw [d1.length]; exact hl ds p1), fun p hp =>
    q p vs ds G1 _ (g1.trans e.jj (Gx.put g1.gh g1.jj hp)) (g1.fresh e.jj hp) (by
      cases k : G1 p with
      | none => rfl
      | some u => rw [g1.gh p u k] at hp; cases hp) upd_same d1 p1⟩
/-- a new list that is never changed -/
theorem Dl.dn {S : List Dt → Prop} (h : Dl c te δ S) (k : ∀ ds, S ds → T (.lst ds)) : Dn c te δ T := fun σ G H e Q q =>
  h σ G H e _ fun p vs ds G1 H1 g1 h1 h2 h3 h4 h5 => q (.ref p) (.lst ds) _ H1 (g1.freeze h1 h2 h3) (.lst upd_same (h4.up fun a u z => by rw [upd_ne (ne_of_none z h2)]; exact z)) (k ds h5)
theorem Dl.de {xs : List Dt} (h : Dl c te δ (· = xs)) : De c te δ (.lst xs) := h.dn fun _ e => by rw [e]
theorem de_lst {ds : List Dt} (ha : Ds' c tr δ (· = ds)) (hl : ds.length ≤ 10000000 := by first | decide | (simp; done)) : De c (tLst tr) δ (.lst ds) := (dl_lst ha fun _ e => by rw [e]; exact hl).de

/-! ### operations -/
theorem rv_val {b : Bx} {r : R2} {x y z : Dt} (h : ∀ (v w : V) (G H : Hp), Same G H → Dq G v x → Dq G w y → ∀ Q : VK, (∀ u, Dq G u z → Q u H) → r v w H Q) : Rv b r x y (· = z) := fun v w G H s j d1 d2 Q q =>
  h v w G H s d1 d2 Q fun u du => q u z G H (Gx.refl s j) du rfl
theorem rv_I0 {b : Bx} {f : Int → Int → V} {i j : Int} {z : Dt} (h : ∀ G, Dq G (f i j) z) : Rv b (rI0 f) (.int i) (.int j) (· = z) := rv_val fun v w G H s d1 d2 Q q => by
  cases d1; cases d2
  exact ⟨i, j, rfl, rfl, q _ (h G)⟩
theorem rv_I {b : Bx} {C : Int → Int → Prop} {f : Int → Int → V} {i j : Int} {z : Dt} (hc : C i j) (h : ∀ G, Dq G (f i j) z) : Rv b (rI C f) (.int i) (.int j) (· = z) := rv_val fun v w G H s d1 d2 Q q => by
  cases d1; cases d2
  exact ⟨i, j, rfl, rfl, hc, q _ (h G)⟩
theorem de_add {i j : Int} (ha : De c ta δ (.int i)) (hb : De c tb δ (.int j)) : De c (tOp (rI0 fun i j => .int (i + j)) ta tb) δ (.int (i + j)) := de_op ha hb (rv_I0 fun _ => .int _)
theorem de_sub {i j : Int} (ha : De c ta δ (.int i)) (hb : De c tb δ (.int j)) : De c (tOp (rI0 fun i j => .int (i - j)) ta tb) δ (.int (i - j)) := de_op ha hb (rv_I0 fun _ => .int _)
theorem de_mulL {i j : Int} (ha : De c ta δ (.int i)) (hb : De c tb δ (.int j)) (h : -(2 ^ 64) < i ∧ i < 2 ^ 64) : De c (tOp (rI CMul fun i j => .int (i * j)) ta tb) δ (.int (i * j)) := de_op ha hb (rv_I (.inl h) fun _ => .int _)
theorem de_mulR {i j : Int} (ha : De c ta δ (.int i)) (hb : De c tb δ (.int j)) (h : -(2 ^ 64) < j ∧ j < 2 ^ 64) : De c (tOp (rI CMul fun i j => .int (i * j)) ta tb) δ (.int (i * j)) := de_op ha hb (rv_I (.inr h) fun _ => .int _)
theorem de_mod {i j : Int} (ha : De c ta δ (.int i)) (hb : De c tb δ (.int j)) (h : 0 < j) : De c (tOp (rI (fun _ j => 0 < j) fun i j => .int (i % j)) ta tb) δ (.int (i % j)) := de_op ha hb (rv_I h fun _ => .int _)
theorem de_divW {i j : Int} (ha : De c ta δ (.int i)) (hb : De c tb δ (.int j)) (h : CDivW i j) : De c (tOp (rI CDivW fun i j => .int (i / j)) ta tb) δ (.int (i / j)) := de_op ha hb (rv_I h fun _ => .int _)
theorem de_div {i j : Int} (ha : De c ta δ (.int i)) (hb : De c tb δ (.int j)) (h : CDiv i j) : De c (tOp (rI CDiv fun i j => .int (i / j)) ta tb) δ (.int (i / j)) := de_op ha hb (rv_I h fun _ => .int _)
theorem de_cmp {f : Int → Int → Bool} {i j : Int} (ha : De c ta δ (.int i)) (hb : De c tb δ (.int j)) : De c (tOp (rI0 fun i j => .bl (f i j)) ta tb) δ (.bl (f i j)) := de_op ha hb (rv_I0 fun _ => .bl _)
theorem rv_eqI {b : Bx} {i j : Int} : Rv b rEq (.int i) (.int j) (· = .bl (decide (i = j))) := rv_val fun v w G H s d1 d2 Q q => by
  cases d1; cases d2
  exact ⟨rfl, by rw [show decide (V.int i = V.int j) = decide (i = j) by simp]; exact q _ (.bl _)⟩
theorem rv_neI {b : Bx} {i j : Int} : Rv b rNe (.int i) (.int j) (· = .bl (!decide (i = j))) := rv_val fun v w G H s d1 d2 Q q => by
  cases d1; cases d2
  exact ⟨rfl, by rw [show decide (V.int i = V.int j) = decide (i = j) by simp]; exact q _ (.bl _)⟩
theorem rv_eqS {b : Bx} {i j : Str} : Rv b rEq (.str i) (.str j) (· = .bl (decide (i = j))) := rv_val fun v w G H s d1 d2 Q q => by
  cases d1; cases d2
  exact ⟨rfl, by rw [show decide (V.str i = V.str j) = decide (i = j) by simp]; exact q _ (.bl _)⟩

theorem dqs_at {G : Hp} {vs : List V} {ds : List Dt} (h : Dqs G vs ds) {i : Int} {d : Dt} (e : atI ds i = some d) : ∃ v, atI vs i = some v ∧ Dq G v d := by
  unfold atI at e ⊢
  rw [h.length]
  cases k : ixN ds.length i with
  | none => rw [k] at e; cases e
  | some j =>
    rw [k] at e
    exact h.get (i := j) e
theorem rv_ixL {b : Bx} {K : PySem.W.Frag} {ds : List Dt} {i : Int} {d : Dt} (h : atI ds i = some d) : Rv b (rIxL K) (.lst ds) (.int i) (· = d) := rv_val fun v w G H s d1 d2 Q q => by
  cases d2
  cases d1 with
  | lst h1 h2 =>
    obtain ⟨x, e, dx⟩ := dqs_at h2 h
    exact ⟨_, _, i, x, rfl, rfl, SqL.of (s _ _ h1), e, q x dx⟩
theorem rv_ixT {b : Bx} {K : PySem.W.Frag} {ds : List Dt} {i : Int} {d : Dt} (h : atI ds i = some d) : Rv b (rIxT K) (.tup ds) (.int i) (· = d) := rv_val fun v w G H s d1 d2 Q q => by
  cases d2
  cases d1 with
  | tup h1 h2 =>
    obtain ⟨x, e, dx⟩ := dqs_at h2 h
    exact ⟨_, _, i, x, rfl, rfl, SqT.of (s _ _ h1), e, q x dx⟩
theorem de_ixL {K : PySem.W.Frag} {ds : List Dt} {i : Int} {d : Dt} (ha : De c ta δ (.lst ds)) (hb : De c tb δ (.int i)) (h : atI ds i = some d) : De c (tOp (rIxL K) ta tb) δ d := de_op ha hb (rv_ixL h)
theorem de_ixT {K : PySem.W.Frag} {ds : List Dt} {i : Int} {d : Dt} (ha : De c ta δ (.tup ds)) (hb : De c tb δ (.int i)) (h : atI ds i = some d) : De c (tOp (rIxT K) ta tb) δ d := de_op ha hb (rv_ixT h)
theorem dq_len {K : PySem.W.Frag} {G H : Hp} {v : V} {ds : List Dt} (s : Same G H) (h : Dq G v (.lst ds) ∨ Dq G v (.tup ds)) : LenV K v H ds.length := by
  rcases h with h | h
  · cases h with
    | lst h1 h2 => exact .inl ⟨_, SqL.of (s _ _ h1), h2.length.symm⟩
  · cases h with
    | tup h1 h2 => exact .inr ⟨_, SqT.of (s _ _ h1), h2.length.symm⟩
theorem rc_lenL {b : Bx} {K : PySem.W.Frag} {ds : List Dt} : Rc b (fun xs H Q => ∃ x n, xs = [x] ∧ LenV K x H n ∧ Q (.int n) H) [.lst ds] (· = .int ds.length) := fun vs G H s j d Q q => by
  cases d with
  | cons h hs =>
    cases hs
    exact ⟨_, _, rfl, dq_len s (.inl h), q _ _ G H (Gx.refl s j) (.int _) rfl⟩
theorem rc_lenT {b : Bx} {K : PySem.W.Frag} {ds : List Dt} : Rc b (fun xs H Q => ∃ x n, xs = [x] ∧ LenV K x H n ∧ Q (.int n) H) [.tup ds] (· = .int ds.length) := fun vs G H s j d Q q => by
  cases d with
  | cons h hs =>
    cases hs
    exact ⟨_, _, rfl, dq_len s (.inr h), q _ _ G H (Gx.refl s j) (.int _) rfl⟩
theorem de_lenL {K : PySem.W.Frag} {ds : List Dt} (h : De c ta δ (.lst ds)) : De c (tCB (fun xs H Q => ∃ x n, xs = [x] ∧ LenV K x H n ∧ Q (.int n) H) (tCons ta tNil)) δ (.int ds.length) :=
  dn_cb (da_consE h da_nil) fun _ e => by rw [e]; exact rc_lenL
theorem de_lenT {K : PySem.W.Frag} {ds : List Dt} (h : De c ta δ (.tup ds)) : De c (tCB (fun xs H Q => ∃ x n, xs = [x] ∧ LenV K x H n ∧ Q (.int n) H) (tCons ta tNil)) δ (.int ds.length) :=
  dn_cb (da_consE h da_nil) fun _ e => by rw [e]; exact rc_lenT
theorem de_intI {i : Int} (h : De c ta δ (.int i)) : De c (tCB (fun xs H Q => (∃ i, xs = [.int i] ∧ Q (.int i) H) ∨ ∃ k, xs = [.bl k] ∧ Q (.int (if k then 1 else 0)) H) (tCons ta tNil)) δ (.int i) :=
  dn_cb (da_consE h da_nil) fun _ e => by
    rw [e]
    intro vs G H s j d Q q
    cases d with
    | cons h hs =>
      cases hs; cases h
      exact .inl ⟨i, rfl, q _ _ G H (Gx.refl s j) (.int _) rfl⟩
/-- x in xs, xs ints -/
theorem inV_ints (n : Int) : ∀ ns : List Int, inV (.int n) (ns.map V.int) = decide (n ∈ ns)
  | [] => by simp [inV]
  | m :: r => by
    have ih := inV_ints n r
    unfold inV at ih ⊢
    rw [List.map_cons, List.any_cons, ih]
    by_cases h : m = n
    · subst h; simp [eqV]
    · have h' : ¬ n = m := fun e => h e.symm
      simp [eqV, h, h']
theorem inV_strs (n : Str) : ∀ ns : List Str, inV (.str n) (ns.map V.str) = decide (n ∈ ns)
  | [] => by simp [inV]
  | m :: r => by
    have ih := inV_strs n r
    unfold inV at ih ⊢
    rw [List.map_cons, List.any_cons, ih]
    by_cases h : m = n
    · subst h; simp [eqV]
    · have h' : ¬ n = m := fun e => h e.symm
      simp [eqV, h, h']
theorem flat_ints : ∀ ns : List Int, (ns.map V.int).all flatV = true
  | [] => rfl
  | _ :: r => by rw [List.map_cons, List.all_cons, flat_ints r]; rfl
theorem flat_strs : ∀ ns : List Str, (ns.map V.str).all flatV = true
  | [] => rfl
  | _ :: r => by rw [List.map_cons, List.all_cons, flat_strs r]; rfl
theorem rv_inI {b : Bx} {K : PySem.W.Frag} {neg : Bool} {n : Int} {ns : List Int} : Rv b (rIn K neg) (.int n) (.lst (ns.map Dt.int)) (· = .bl (if neg then !decide (n ∈ ns) else decide (n ∈ ns))) := rv_val fun v w G H s d1 d2 Q q => by
  cases d1
  cases d2 with
  | lst h1 h2 =>
    have e := h2.ints
    subst e
    refine ⟨_, _, rfl, .inl (SqL.of (s _ _ h1)), rfl, flat_ints ns, ?_⟩
    rw [inV_ints]
    exact q _ (.bl _)
theorem rv_inS {b : Bx} {K : PySem.W.Frag} {neg : Bool} {n : Str} {ns : List Str} : Rv b (rIn K neg) (.str n) (.lst (ns.map Dt.str)) (· = .bl (if neg then !decide (n ∈ ns) else decide (n ∈ ns))) := rv_val fun v w G H s d1 d2 Q q => by
  cases d1
  cases d2 with
  | lst h1 h2 =>
    have e := h2.strs
    subst e
    refine ⟨_, _, rfl, .inl (SqL.of (s _ _ h1)), rfl, flat_strs ns, ?_⟩
    rw [inV_strs]
    exact q _ (.bl _)
/-- xs + ys -/
theorem dl_cat {xs ys : List Dt} (ha : De c ta δ (.lst xs)) (hb : De c tb δ (.lst ys)) (hl : xs.length + ys.length ≤ 10000000) : Dl c (tOp rCat ta tb) δ (· = xs ++ ys) := fun σ G H e Q q =>
  ha σ G H e _ fun v x G1 H1 g1 d1 p1 => hb σ G1 H1 (e.up g1) _ fun w y G2 H2 g2 d2 p2 => by
    subst p1; subst p2
    have g12 := g1.trans e.jj g2
    cases d1 with
    | lst a1 a2 =>
      cases d2 with
      | lst b1 b2 =>
        refine ⟨_, _, _, _, rfl, rfl, g2.gh _ _ (g2.gg _ _ a1), g2.gh _ _ b1, sz_ok (by rw [a2.length, b2.length]; exact hl), fun p hp => ?_⟩
        refine q p _ _ G2 _ (g12.trans e.jj (Gx.put g2.gh g2.jj hp)) (g12.fresh e.jj hp) ?_ upd_same ((a2.up g2.gg).append b2) rfl
        cases k : G2 p with
        | none => rfl
        | some u => rw [g2.gh p u k] at hp; cases hp
/-- xs[lo:hi] -/
def cutD (xs : List Dt) (lo hi : Option Int) : List Dt := (xs.drop (HT.sIx xs.length 0 lo)).take (HT.sIx xs.length xs.length hi - HT.sIx xs.length 0 lo)
theorem dqs_cut {G : Hp} {vs : List V} {ds : List Dt} (h : Dqs G vs ds) (lo hi : Option Int) : Dqs G (cutV vs lo hi) (cutD ds lo hi) := by
  unfold cutV cutD
  rw [h.length]
  exact (h.drop _).take _
theorem dp_none : Dp' c tNoPart δ (· = none) := fun σ G H e Q q => q none G H (Gx.refl e.same e.jj) rfl
theorem dp_some {P : Dt → Prop} {T : Option Int → Prop} (h : Dn c te δ P) (hP : ∀ d, P d → ∃ i, d = .int i ∧ T (some i)) : Dp' c (tPart te) δ T := fun σ G H e Q q =>
  h σ G H e _ fun v d G1 H1 g1 d1 p1 => by
    obtain ⟨i, rfl, t⟩ := hP d p1
    cases d1
    exact ⟨i, rfl, q (some i) G1 H1 g1 t⟩
theorem dp_someE {i : Int} (h : De c te δ (.int i)) : Dp' c (tPart te) δ (· = some i) := dp_some h fun _ e => ⟨i, e, rfl⟩
theorem dl_sl {K : PySem.W.Frag} {tl th : TO} {xs : List Dt} {P R : Option Int → Prop} (h : De c te δ (.lst xs)) (hl : Dp' c tl δ P) (hh : Dp' c th δ R) : Dl c (tSl (rSlL K) te tl th) δ (fun ys => ∃ lo hi, P lo ∧ R hi ∧ ys = cutD xs lo hi) := fun σ G H e Q q =>
  h σ G H e _ fun v x G1 H1 g1 d1 p1 => hl σ G1 H1 (e.up g1) _ fun lo G2 H2 g2 p2 => hh σ G2 H2 (e.up (g1.trans e.jj g2)) _ fun hi G3 H3 g3 p3 => by
    subst p1
    have g13 := (g1.trans e.jj g2).trans e.jj g3
    cases d1 with
    | lst a1 a2 =>
      refine ⟨_, _, rfl, SqL.of (g3.gh _ _ (g3.gg _ _ (g2.gg _ _ a1))), fun p hp => ?_⟩
      refine q p _ _ G3 _ (g13.trans e.jj (Gx.put g3.gh g3.jj hp)) (g13.fresh e.jj hp) ?_ upd_same (dqs_cut ((a2.up g2.gg).up g3.gg) lo hi) ⟨lo, hi, p2, p3, rfl⟩
      cases k : G3 p with
      | none => rfl
      | some u => rw [g3.gh p u k] at hp; cases hp
/-- list(xs) -/
theorem dl_listOf {K : PySem.W.Frag} {xs : List Dt} (h : De c te δ (.lst xs)) : Dl c (tCB (fun xs H Q => ∃ p ys, xs = [.ref p] ∧ (SqL K H p ys ∨ SqT K H p ys) ∧ ∀ l, H l = none → Q (.ref l) (upd H l (.lst ys))) (tCons te tNil)) δ (· = xs) := fun σ G H e Q q =>
  h σ G H e _ fun v x G1 H1 g1 d1 p1 => by
    subst p1
    cases d1 with
    | lst a1 a2 =>
      refine ⟨_, _, rfl, .inl (SqL.of (g1.gh _ _ a1)), fun p hp => ?_⟩
      refine q p _ _ G1 _ (g1.trans e.jj (Gx.put g1.gh g1.jj hp)) (g1.fresh e.jj hp) ?_ upd_same a2 rfl
      cases k : G1 p with
      | none => rfl
      | some u => rw [g1.gh p u k] at hp; cases hp
/-- tuple(xs) -/
theorem de_tupleOfL {K : PySem.W.Frag} {xs : List Dt} (h : De c te δ (.lst xs)) : De c (tCB (fun xs H Q => ∃ p ys, xs = [.ref p] ∧ ((SqL K H p ys ∧ ∀ l, H l = none → Q (.ref l) (upd H l (.tup ys))) ∨ (SqT K H p ys ∧ Q (.ref p) H))) (tCons te tNil)) δ (.tup xs) := fun σ G H e Q q =>
  h σ G H e _ fun v x G1 H1 g1 d1 p1 => by
    subst p1
    cases d1 with
    | lst a1 a2 =>
      refine ⟨_, _, rfl, .inl ⟨SqL.of (g1.gh _ _ a1), fun p hp => ?_⟩⟩
      exact q (.ref p) (.tup xs) _ _ (g1.newDat e.jj hp _) (.tup upd_same (a2.up fun a u k => by rw [upd_ne (ne_of_none (g1.gh a u k) hp)]; exact k)) rfl

/-! ### tests -/
theorem dt_test {T : Bool → Prop} (h : Dn c te δ P) (k : ∀ d, P d → ∃ b, d = .bl b ∧ T b) : Dt' c (tTest te) δ T := fun σ G H e Q q =>
  h σ G H e _ fun v d G1 H1 g1 d1 p1 => by
    obtain ⟨b, rfl, t⟩ := k d p1
    cases d1
    exact ⟨b, rfl, q b G1 H1 g1 t⟩
theorem dt_testE {b : Bool} (h : De c te δ (.bl b)) : Dt' c (tTest te) δ (· = b) := dt_test h fun _ e => ⟨b, e, rfl⟩
theorem dt_BE {b : Bool} (h : De c te δ (.bl b)) : Dt' c (tB te) δ (· = b) := fun σ G H e Q q =>
  h σ G H e _ fun v d G1 H1 g1 d1 p1 => by
    subst p1
    cases d1
    exact ⟨b, rfl, q b G1 H1 g1 rfl⟩
theorem dt_and {a b : Bool} (ha : Dt' c tt δ (· = a)) (hb : a = true → Dt' c tu δ (· = b)) : Dt' c (tAnd tt tu) δ (· = (a && b)) := fun σ G H e Q q =>
  ha σ G H e _ fun k G1 H1 g1 p1 => by
    subst p1
    cases k with
    | true =>
      show tu σ H1 Q
      exact hb rfl σ G1 H1 (e.up g1) Q fun k G2 H2 g2 p2 => q k G2 H2 (g1.trans e.jj g2) (by rw [p2]; rfl)
    | false =>
      show Q false H1
      exact q false G1 H1 g1 rfl
theorem dt_or {a b : Bool} (ha : Dt' c tt δ (· = a)) (hb : a = false → Dt' c tu δ (· = b)) : Dt' c (tOr tt tu) δ (· = (a || b)) := fun σ G H e Q q =>
  ha σ G H e _ fun k G1 H1 g1 p1 => by
    subst p1
    cases k with
    | false =>
      show tu σ H1 Q
      exact hb rfl σ G1 H1 (e.up g1) Q fun k G2 H2 g2 p2 => q k G2 H2 (g1.trans e.jj g2) (by rw [p2]; rfl)
    | true =>
      show Q true H1
      exact q true G1 H1 g1 rfl
theorem dt_not {a : Bool} (ha : Dt' c tt δ (· = a)) : Dt' c (tNot tt) δ (· = !a) := fun σ G H e Q q =>
  ha σ G H e _ fun k G1 H1 g1 p1 => q (!k) G1 H1 g1 (by rw [p1])
theorem dt_yes : Dt' c tYes δ (· = true) := fun σ G H e Q q => q true G H (Gx.refl e.same e.jj) rfl
theorem de_notV {a : Bool} (h : De c te δ (.bl a)) : De c (tNotV te) δ (.bl (!a)) := fun σ G H e Q q =>
  h σ G H e _ fun v d G1 H1 g1 d1 p1 => by
    subst p1
    cases d1
    exact ⟨a, rfl, q _ _ G1 H1 g1 (.bl _) rfl⟩
theorem de_andV {a b : Bool} (ha : De c ta δ (.bl a)) (hb : a = true → De c tb δ (.bl b)) : De c (tAndV ta tb) δ (.bl (a && b)) := fun σ G H e Q q =>
  ha σ G H e _ fun v d G1 H1 g1 d1 p1 => by
    subst p1
    cases d1
    refine ⟨a, rfl, ?_⟩
    cases a with
    | true =>
      show tb σ H1 Q
      exact hb rfl σ G1 H1 (e.up g1) Q fun v d G2 H2 g2 d2 p2 => q v d G2 H2 (g1.trans e.jj g2) d2 (by rw [p2]; rfl)
    | false =>
      show Q (.bl false) H1
      exact q _ _ G1 H1 g1 (.bl _) rfl
theorem dn_if {T' : Bool → Prop} (h : Dt' c tt δ T') (h1 : T' true → Dn c ta δ T) (h2 : T' false → Dn c tb δ T) : Dn c (tIf tt ta tb) δ T := fun σ G H e Q q =>
  h σ G H e _ fun k G1 H1 g1 p1 => by
    cases k with
    | true =>
      show ta σ H1 Q
      exact h1 p1 σ G1 H1 (e.up g1) Q fun v d G2 H2 g2 d2 p2 => q v d G2 H2 (g1.trans e.jj g2) d2 p2
    | false =>
      show tb σ H1 Q
      exact h2 p1 σ G1 H1 (e.up g1) Q fun v d G2 H2 g2 d2 p2 => q v d G2 H2 (g1.trans e.jj g2) d2 p2

/-! ### the body's own lists, read -/
/-- a list of the body's own becomes data for good -/
theorem En.freeze {b : Bx} {G0 H0 G H : Hp} {σ : L2.St} (e : En b G0 H0 G H σ δ) {i : Nat} {ds : List Dt} (h : δ[i]? = some (.own ds)) : ∃ p vs, σ[i]? = some (some (.ref p)) ∧ H p = some (.lst vs) ∧ G p = none ∧ H0 p = none ∧ Dqs G vs ds ∧ En b G0 H0 (upd G p (.lst vs)) H σ (δ.set i (.dat (.lst ds))) := by
  obtain ⟨p, vs, e1, h1, h2, h3, h4⟩ := e.sl i _ h
  have up : Same G (upd G p (.lst vs)) := fun a u k => by rw [upd_ne (ne_of_none k h2)]; exact k
  have hi : i < δ.length := (List.getElem?_eq_some_iff.mp h).1
  refine ⟨p, vs, e1, h1, h2, h3, h4, e.j0, e.gx.freeze h3 h2 h1, by rw [List.length_set, e.len], fun k x hk => ?_, fun k l y z q hk hl oy oz sk sl => ?_⟩
  · by_cases hik : i = k
    · subst hik
      rw [List.getElem?_set_self hi] at hk
      have := Option.some.inj hk
      subst this
      exact ⟨_, e1, .lst upd_same (h4.up up)⟩
    · rw [List.getElem?_set_ne hik] at hk
      have q := e.sl k x hk
      have na : ∀ {a : Addr}, x.owns = true → σ[k]? = some (some (.ref a)) → a ≠ p := fun {a} ox s z => hik (e.apart i k _ x p h hk rfl ox e1 (by rw [← z]; exact s))
      cases x with
      | un => trivial
      | dat d => obtain ⟨v, e2, q2⟩ := q; exact ⟨v, e2, q2.up up⟩
      | own es =>
        obtain ⟨a, ws, e2, q1, q2, q3, q4⟩ := q
        exact ⟨a, ws, e2, q1, by rw [upd_ne (na rfl e2)]; exact q2, q3, q4.up up⟩
      | obj Φ =>
        obtain ⟨a, o, e2, q1, q2, q3, q4⟩ := q
        exact ⟨a, o, e2, q1, by rw [upd_ne (na rfl e2)]; exact q2, q3, fun G' s' => q4 G' (up.trans s')⟩
      | raw v => exact q
  · have ne : ∀ {m : Nat} {u : Sl}, (δ.set i (.dat (.lst ds)))[m]? = some u → u.owns = true → δ[m]? = some u := fun {m u} hm ou => by
      by_cases him : i = m
      · subst him
        rw [List.getElem?_set_self hi] at hm
        have := Option.some.inj hm
        subst this
        cases ou
      · rw [List.getElem?_set_ne him] at hm
        exact hm
    exact e.apart k l y z q (ne hk oy) (ne hl oz) oy oz sk sl
/-- what comes of reading it for a while is no part of it -/
theorem Gx.thaw {b : Bx} {G H G' H' : Hp} {p : Addr} {o : HO} (s : Same G H) (n : G p = none) (g : Gx b (upd G p o) H G' H') : Gx b G H G H' :=
  ⟨Same.refl G, g.hh, fun a u k => g.gh a u (g.gg a u (by rw [upd_ne (ne_of_none k n)]; exact k)), fun _ k => .inl k, g.jj⟩
theorem dn_thaw {i : Nat} {ds : List Dt} (h : δ[i]? = some (.own ds)) (k : Dn c te (δ.set i (.dat (.lst ds))) P) (hs : ∀ d, P d → d.scal = true) : Dn c te δ P := fun σ G H e Q q => by
  obtain ⟨p, vs, e1, h1, h2, h3, h4, e'⟩ := e.freeze h
  exact k σ _ H e' Q fun v d G' H' g dq pd => q v d G H' (Gx.thaw e.same h2 g) (dq.anywhere (hs d pd)) pd
theorem dt_thaw {T : Bool → Prop} {i : Nat} {ds : List Dt} (h : δ[i]? = some (.own ds)) (k : Dt' c tt (δ.set i (.dat (.lst ds))) T) : Dt' c tt δ T := fun σ G H e Q q => by
  obtain ⟨p, vs, e1, h1, h2, h3, h4, e'⟩ := e.freeze h
  exact k σ _ H e' Q fun b G' H' g pd => q b G H' (Gx.thaw e.same h2 g) pd

/-! ### walks -/
/-- J walks things that stand for xs, from the data's heap G on -/
def ItOk (b : Bx) (J : It) (G : Hp) (xs : List Dt) : Prop := ∀ (i : Nat) (G1 H1 : Hp), Same G G1 → Same G1 H1 → b.J H1 →
  (i < xs.length → J.go i H1 ∧ ∀ x H', J.yld i H1 x H' → ∃ d G', xs[i]? = some d ∧ Gx b G1 H1 G' H' ∧ Dq G' x d) ∧ (xs.length ≤ i → J.stop i H1)
def Di (c : Bs) (wi : TI) (δ : Fe) (P : List Dt → Prop) : Prop := ∀ (σ : L2.St) (G H : Hp), Ec c G H σ δ → ∀ R : It → Hp → Prop, (∀ J xs G' H', Gx c.b G H G' H' → P xs → ItOk c.b J G' xs → R J H') → wi σ H R
theorem di_list {K : PySem.W.Frag} {xs : List Dt} (h : De c te δ (.lst xs)) : Di c (iList K te) δ (· = xs) := fun σ G H e R q =>
  h σ G H e _ fun v x G1 H1 g1 d1 p1 => by
    subst p1
    cases d1 with
    | lst a1 a2 =>
      rename_i a vs
      refine ⟨a, rfl, ⟨vs, SqL.of (g1.gh _ _ a1)⟩, q _ xs G1 H1 g1 rfl fun i G2 H2 s1 s2 j => ⟨fun hi => ?_, fun hi => ?_⟩⟩
      · obtain ⟨y, hy, dy⟩ := a2.get (List.getElem?_eq_getElem hi)
        refine ⟨⟨vs, y, SqL.of (s2 _ _ (s1 _ _ a1)), hy⟩, fun z H' hz => ?_⟩
        obtain ⟨rfl, hz⟩ := hz
        have e2 := (hz vs (SqL.of (s2 _ _ (s1 _ _ a1)))).symm.trans hy
        have e3 := Option.some.inj e2
        subst e3
        exact ⟨_, G2, List.getElem?_eq_getElem hi, Gx.refl s2 j, dy.up s1⟩
      · exact ⟨vs, SqL.of (s2 _ _ (s1 _ _ a1)), by rw [a2.length]; exact hi⟩
theorem di_tup {K : PySem.W.Frag} {xs : List Dt} (h : De c te δ (.tup xs)) : Di c (iTup K te) δ (· = xs) := fun σ G H e R q =>
  h σ G H e _ fun v x G1 H1 g1 d1 p1 => by
    subst p1
    cases d1 with
    | tup a1 a2 =>
      rename_i a vs
      refine ⟨a, rfl, ⟨vs, SqT.of (g1.gh _ _ a1)⟩, q _ xs G1 H1 g1 rfl fun i G2 H2 s1 s2 j => ⟨fun hi => ?_, fun hi => ?_⟩⟩
      · obtain ⟨y, hy, dy⟩ := a2.get (List.getElem?_eq_getElem hi)
        refine ⟨⟨vs, y, SqT.of (s2 _ _ (s1 _ _ a1)), hy⟩, fun z H' hz => ?_⟩
        obtain ⟨rfl, hz⟩ := hz
        have e2 := (hz vs (SqT.of (s2 _ _ (s1 _ _ a1)))).symm.trans hy
        have e3 := Option.some.inj e2
        subst e3
        exact ⟨_, G2, List.getElem?_eq_getElem hi, Gx.refl s2 j, dy.up s1⟩
      · exact ⟨vs, SqT.of (s2 _ _ (s1 _ _ a1)), by rw [a2.length]; exact hi⟩
def rngD (lo : Int) (n : Nat) : List Dt := (List.range n).map fun (k : Nat) => Dt.int (lo + (k : Int))
theorem rngD_len (lo : Int) (n : Nat) : (rngD lo n).length = n := by simp [rngD]
theorem rngD_get {lo : Int} {n i : Nat} (h : i < n) : (rngD lo n)[i]? = some (.int (lo + (i : Int))) := by simp [rngD, h]
theorem itOk_rng {b : Bx} {G : Hp} (lo : Int) (n : Nat) : ItOk b (Itr lo n) G (rngD lo n) := fun i G2 H2 s1 s2 j => ⟨fun hi => by
    rw [rngD_len] at hi
    refine ⟨hi, fun z H' hz => ?_⟩
    obtain ⟨rfl, rfl⟩ := hz
    exact ⟨_, G2, rngD_get hi, Gx.refl s2 j, .int _⟩, fun hi => by rw [rngD_len] at hi; exact hi⟩
theorem di_rng1 {P : Dt → Prop} (h : Dn c te δ P) (hP : ∀ d, P d → ∃ n : Int, d = .int n ∧ -(2 ^ 62) ≤ n ∧ n < 2 ^ 62) : Di c (iRng1 (tCons te tNil)) δ (fun xs => ∃ n : Int, P (.int n) ∧ xs = rngD 0 n.toNat) := fun σ G H e R q =>
  h σ G H e _ fun v x G1 H1 g1 d1 p1 => by
    obtain ⟨n, rfl, h1, h2⟩ := hP x p1
    cases d1
    exact ⟨n, rfl, h1, h2, q _ _ G1 H1 g1 ⟨n, p1, rfl⟩ (itOk_rng 0 _)⟩
theorem di_rng1E {n : Int} (h : De c te δ (.int n)) (h1 : -(2 ^ 62) ≤ n) (h2 : n < 2 ^ 62) : Di c (iRng1 (tCons te tNil)) δ (· = rngD 0 n.toNat) := fun σ G H e R q =>
  di_rng1 h (fun d e => ⟨n, e, h1, h2⟩) σ G H e R fun J xs G' H' g p => by
    obtain ⟨m, e1, e2⟩ := p
    have := Dt.int.inj e1
    subst this
    exact q J xs G' H' g e2

/-! ### targets -/
/-- storing what stands for d leads to a frame of which K holds; vs: the slots that may change -/
def Dg (c : Bs) (g : TG) (d : Dt) (δ : Fe) (vs : List Nat) (K : Fe → Prop) : Prop := ∀ (σ : L2.St) (G H : Hp) (v : V), Ec c G H σ δ → Dq G v d → ∀ Q : L2.St → Hp → Prop, (∀ δ' σ' G' H', Ec c G' H' σ' δ' → Gx c.b G H G' H' → wipe σ' vs = wipe σ vs → K δ' → Q σ' H') → g v σ H Q
theorem wipe_set {i : Nat} {x : Option V} : ∀ {vs : List Nat} {σ : L2.St}, i ∈ vs → wipe (σ.set i x) vs = wipe σ vs
  | [], _, h => by cases h
  | v :: vs, σ, h => by
    unfold wipe
    by_cases hv : v = i
    · subst hv
      by_cases hm : v ∈ vs
      · rw [wipe_set hm]
      · have sw : ∀ (ws : List Nat) (τ : L2.St), v ∉ ws → wipe (τ.set v x) ws = (wipe τ ws).set v x := by
          intro ws
          induction ws with
          | nil => intro τ _; rfl
          | cons w ws ih =>
            intro τ hw
            rw [List.mem_cons, not_or] at hw
            unfold wipe
            rw [ih τ hw.2, List.set_comm _ _ (Ne.symm (fun e => hw.1 e.symm))]
        rw [sw vs σ hm, List.set_set]
    · have hm : i ∈ vs := by
        rcases List.mem_cons.mp h with e | e
        · exact absurd e.symm hv
        · exact e
      rw [wipe_set hm]
theorem dg_name {i : Nat} {d : Dt} {vs : List Nat} {K : Fe → Prop} (hi : i ∈ vs) (k : K (δ.set i (.dat d))) : Dg c (gName i) d δ vs K := fun σ G H v e dq Q q =>
  q _ _ G H (e.setDat i dq) (Gx.refl e.same e.jj) (wipe_set hi) k
def Dgs (c : Bs) (g : TGs) (ds : List Dt) (δ : Fe) (vs : List Nat) (K : Fe → Prop) : Prop := ∀ (σ : L2.St) (G H : Hp) (xs : List V), Ec c G H σ δ → Dqs G xs ds → ∀ Q : L2.St → Hp → Prop, (∀ δ' σ' G' H', Ec c G' H' σ' δ' → Gx c.b G H G' H' → wipe σ' vs = wipe σ vs → K δ' → Q σ' H') → g xs σ H Q
theorem dgs_nil {vs : List Nat} {K : Fe → Prop} (k : K δ) : Dgs c gNil [] δ vs K := fun σ G H xs e d Q q => by
  cases d
  exact ⟨rfl, q δ σ G H e (Gx.refl e.same e.jj) rfl k⟩
theorem dgs_cons {g : TG} {gs : TGs} {d : Dt} {ds : List Dt} {vs : List Nat} {K M : Fe → Prop} (h : Dg c g d δ vs M) (k : ∀ δ', M δ' → Dgs c gs ds δ' vs K) : Dgs c (gCons g gs) (d :: ds) δ vs K := fun σ G H xs e dd Q q => by
  cases dd with
  | cons d1 d2 =>
    refine ⟨_, _, rfl, h σ G H _ e d1 _ fun δ1 σ1 G1 H1 e1 g1 w1 m1 => ?_⟩
    exact k δ1 m1 σ1 G1 H1 _ e1 (d2.up g1.gg) Q fun δ2 σ2 G2 H2 e2 g2 w2 k2 => q δ2 σ2 G2 H2 e2 (g1.trans e.jj g2) (w2.trans w1) k2
theorem dgs_name {i : Nat} {gs : TGs} {d : Dt} {ds : List Dt} {vs : List Nat} {K : Fe → Prop} (hi : i ∈ vs) (k : Dgs c gs ds (δ.set i (.dat d)) vs K) : Dgs c (gCons (gName i) gs) (d :: ds) δ vs K :=
  dgs_cons (M := (· = δ.set i (.dat d))) (dg_name hi rfl) fun _ e => by rw [e]; exact k
theorem dg_tup {K' : PySem.W.Frag} {n : Nat} {gs : TGs} {ds : List Dt} {vs : List Nat} {K : Fe → Prop} (hn : ds.length = n) (k : Dgs c gs ds δ vs K) : Dg c (gTup K' n gs) (.tup ds) δ vs K := fun σ G H v e d Q q => by
  cases d with
  | tup a1 a2 =>
    exact ⟨_, _, rfl, SqT.of (e.same _ _ a1), by rw [a2.length, hn], k σ G H _ e a2 Q q⟩
end
end Zd

set_option Elab.async false
set_option maxRecDepth 100000
set_option maxHeartbeats 4000000
/-! Zd3: comprehensions, statements, loops, calls of defs, by data. -/
namespace Zd
open PySem L2 StX

/-! ### frames with forgotten slots -/
def wipeF (δ : Fe) : List Nat → Fe
  | [] => δ
  | v :: vs => (wipeF δ vs).set v .un
section
variable {b : Bx} {G0 H0 G H : Hp} {σ : L2.St} {δ : Fe}
theorem En.drop (e : En b G0 H0 G H σ δ) (i : Nat) : En b G0 H0 G H (σ.set i none) (δ.set i .un) := by
  have ne : ∀ {m : Nat} {u : Sl}, (δ.set i .un)[m]? = some u → u = .un ∨ (i ≠ m ∧ δ[m]? = some u) := fun {m u} hm => by
    by_cases him : i = m
    · subst him
      have hlt : i < δ.length := by
        have := (List.getElem?_eq_some_iff.mp hm).1
        rwa [List.length_set] at this
      rw [List.getElem?_set_self hlt] at hm
      exact .inl (Option.some.inj hm).symm
    · rw [List.getElem?_set_ne him] at hm
      exact .inr ⟨him, hm⟩
  refine ⟨e.j0, e.gx, by rw [List.length_set, List.length_set, e.len], fun k y hk => ?_, fun k l y z q hk hl oy oz sk sl => ?_⟩
  · rcases ne hk with z | ⟨z1, z⟩
    · subst z; trivial
    · have q := e.sl k y z
      cases y with
      | un => trivial
      | dat d => obtain ⟨v, e1, q1⟩ := q; exact ⟨v, by rw [List.getElem?_set_ne z1]; exact e1, q1⟩
      | own ds => obtain ⟨p, vs, e1, q1⟩ := q; exact ⟨p, vs, by rw [List.getElem?_set_ne z1]; exact e1, q1⟩
      | obj Φ => obtain ⟨p, o, e1, q1⟩ := q; exact ⟨p, o, by rw [List.getElem?_set_ne z1]; exact e1, q1⟩
      | raw v =>
        show (σ.set i _)[k]? = _
        rw [List.getElem?_set_ne z1]; exact q
  · rcases ne hk with z1 | ⟨n1, z1⟩
    · subst z1; cases oy
    · rcases ne hl with z2 | ⟨n2, z2⟩
      · subst z2; cases oz
      · rw [List.getElem?_set_ne n1] at sk
        rw [List.getElem?_set_ne n2] at sl
        exact e.apart k l y z q z1 z2 oy oz sk sl
theorem En.wipe (e : En b G0 H0 G H σ δ) : ∀ vs : List Nat, En b G0 H0 G H (wipe σ vs) (wipeF δ vs)
  | [] => e
  | v :: vs => by
    unfold L2.wipe wipeF
    exact (En.wipe e vs).drop v
theorem wipe_wipe (σ : L2.St) : ∀ vs : List Nat, L2.wipe (L2.wipe σ vs) vs = L2.wipe σ vs := by
  have key : ∀ (ws vs : List Nat), (∀ w ∈ ws, w ∈ vs) → L2.wipe (L2.wipe σ ws) vs = L2.wipe σ vs := by
    intro ws
    induction ws with
    | nil => intro vs _; rfl
    | cons w ws ih =>
      intro vs h
      show L2.wipe ((L2.wipe σ ws).set w none) vs = _
      rw [wipe_set (h w List.mem_cons_self)]
      exact ih vs fun x hx => h x (List.mem_cons_of_mem _ hx)
  exact fun vs => key vs vs fun _ h => h
end

section
variable {c : Bs} {δ : Fe} {te ta tb : TE} {tt tu : TT} {tr : TA} {P R T : Dt → Prop}

/-! ### comprehensions -/
/-- [e for g in wi if tt]: I says which lists may be made after the first i things; one turn from acc -/
theorem dl_lc {wi : TI} {g : TG} {vs : List Nat} {S T : List Dt → Prop} (hw : Di c wi δ S)
    (h : ∀ xs, S xs → ∃ I : Nat → List Dt → Prop, I 0 [] ∧ (∀ i d acc, xs[i]? = some d → I i acc →
        Dg c g d (wipeF δ vs) vs (fun δ2 => Dt' c tt δ2 (fun k => if k = true then Dn c te δ2 (fun y => I (i + 1) (acc ++ [y])) else I (i + 1) acc))) ∧
      (∀ acc, I xs.length acc → T acc) ∧ xs.length ≤ 10000000) : Dl c (tLc wi g tt te vs) δ T := fun σ G H e Q q => by
  refine hw σ G H e _ fun J xs G1 H1 g1 s1 ok => ?_
  obtain ⟨I, i0, turn, fin, hlen⟩ := h xs s1
  intro D hD
  have hD0 : H D = none := g1.fresh e.jj hD
  have gD1 : G1 D = none := by
    cases k : G1 D with
    | none => rfl
    | some u => rw [g1.gh D u k] at hD; cases hD
  have notS : ¬ c.b.S D := fun s => c.b.hs _ _ g1.jj s hD
  let W : Nat → Nat → Hp → Prop := fun i m Hi => m = xs.length - i ∧ i ≤ xs.length ∧ ∃ Gi acc ws, Gx c.b G H Gi Hi ∧ Same G1 Gi ∧ Hi D = some (.lst ws) ∧ Gi D = none ∧ Dqs Gi ws acc ∧ I i acc ∧ acc.length ≤ i
  refine ⟨W, ⟨xs.length, by simp, Nat.zero_le _, G1, [], [], g1.trans e.jj (Gx.put g1.gh g1.jj hD), Same.refl _, upd_same, gD1, .nil, i0, Nat.le_refl _⟩, ?_⟩
  rintro i m Hi ⟨rfl, hi, Gi, acc, ws, gi, si, hDi, gDi, da, ia, la⟩
  obtain ⟨okgo, okstop⟩ := ok i Gi Hi si gi.gh gi.jj
  by_cases hlt : i < xs.length
  · obtain ⟨go, step⟩ := okgo hlt
    refine .inr ⟨go, fun H' => ∃ Gi' acc' ws', Gx c.b G H Gi' H' ∧ Same G1 Gi' ∧ H' D = some (.lst ws') ∧ Gi' D = none ∧ Dqs Gi' ws' acc' ∧ I (i + 1) acc' ∧ acc'.length ≤ i + 1, fun H' hn => ?_, fun x H' hy => ?_⟩
    · exact ⟨xs.length - (i + 1), by omega, rfl, hlt, hn⟩
    · obtain ⟨d, G2, hd, g2, dx⟩ := step x H' hy
      have gi2 := gi.trans e.jj g2
      have e2 := (e.up gi2).wipe vs
      have keepD : ∀ {Ga Ha Gb Hb : Hp} {ws : List V}, Gx c.b Ga Ha Gb Hb → Ha D = some (.lst ws) → Ga D = none → Hb D = some (.lst ws) ∧ Gb D = none := fun {Ga Ha Gb Hb ws} gg hh nn => ⟨gg.hh D _ notS hh, by
        cases k : Gb D with
        | none => rfl
        | some u =>
          rcases gg.nw D (by rw [k]; simp) with z | z
          · exact absurd nn z
          · rw [hh] at z; cases z⟩
      obtain ⟨hD2, gD2⟩ := keepD g2 hDi gDi
      refine turn i d acc hd ia (L2.wipe σ vs) G2 H' x e2 dx _ fun δ3 σ3 G3 H3 e3 g3 w3 k3 => ?_
      obtain ⟨hD3, gD3⟩ := keepD g3 hD2 gD2
      refine ⟨by rw [w3, wipe_wipe], ?_⟩
      refine k3 σ3 G3 H3 e3 _ fun k G4 H4 g4 p4 => ?_
      obtain ⟨hD4, gD4⟩ := keepD g4 hD3 gD3
      have s14 : Same G1 G4 := ((si.trans g2.gg).trans g3.gg).trans g4.gg
      have gx4 := (gi2.trans e.jj g3).trans e.jj g4
      have da4 := da.up ((g2.gg.trans g3.gg).trans g4.gg)
      cases k with
      | false =>
        rw [if_neg Bool.false_ne_true] at p4 ⊢
        exact ⟨G4, acc, ws, gx4, s14, hD4, gD4, da4, p4, Nat.le_succ_of_le la⟩
      | true =>
        rw [if_pos rfl] at p4 ⊢
        refine p4 σ3 G4 H4 (e3.up g4) _ fun y dy G5 H5 g5 dqy iy => ?_
        obtain ⟨hD5, gD5⟩ := keepD g5 hD4 gD4
        refine ⟨ws, hD5, sz_lt' ?_, G5, acc ++ [dy], ws ++ [y], ?_, s14.trans g5.gg, upd_same, gD5, (da4.up g5.gg).append (.cons dqy .nil), iy, ?_⟩
        · rw [da.length]; omega
        · exact Gx.poke e.jj (gx4.trans e.jj g5) hD0 gD5
        · rw [List.length_append]; simp; exact la
  · have ei : i = xs.length := by omega
    subst ei
    exact .inl ⟨okstop (Nat.le_refl _), q D ws acc Gi Hi gi hD0 gDi hDi da (fin acc ia)⟩
/-- each thing that passes gives f of it -/
theorem dl_lcMap {wi : TI} {g : TG} {vs : List Nat} {xs : List Dt} (f : Dt → Dt) (hw : Di c wi δ (· = xs)) (hlen : xs.length ≤ 10000000)
    (h : ∀ d ∈ xs, Dg c g d (wipeF δ vs) vs (fun δ2 => De c te δ2 (f d))) : Dl c (tLc wi g tYes te vs) δ (· = xs.map f) :=
  dl_lc hw fun ys e => ⟨fun i acc => acc = (xs.take i).map f, by simp, fun i d acc hd ia σ G H v en dq Q q => by
      rw [e] at hd
      refine h d (List.mem_of_getElem? hd) σ G H v en dq Q fun δ' σ' G' H' e1 g1 w1 k1 => q δ' σ' G' H' e1 g1 w1 ?_
      refine dt_yes.imp fun k hk => ?_
      rw [hk, if_pos rfl]
      refine k1.imp fun y ey => ?_
      show acc ++ [y] = (xs.take (i + 1)).map f
      rw [ey, ia, List.take_add_one, hd, List.map_append]
      rfl, fun acc (ia : acc = _) => by rw [ia, e, List.take_length], by rw [e]; exact hlen⟩
theorem dl_lcFilter {wi : TI} {g : TG} {vs : List Nat} {xs : List Dt} (p : Dt → Bool) (f : Dt → Dt) (hw : Di c wi δ (· = xs)) (hlen : xs.length ≤ 10000000)
    (h : ∀ d ∈ xs, Dg c g d (wipeF δ vs) vs (fun δ2 => Dt' c tt δ2 (· = p d) ∧ (p d = true → De c te δ2 (f d)))) : Dl c (tLc wi g tt te vs) δ (· = (xs.filter p).map f) :=
  dl_lc hw fun ys e => ⟨fun i acc => acc = ((xs.take i).filter p).map f, by simp, fun i d acc hd ia σ G H v en dq Q q => by
      rw [e] at hd
      refine h d (List.mem_of_getElem? hd) σ G H v en dq Q fun δ' σ' G' H' e1 g1 w1 k1 => q δ' σ' G' H' e1 g1 w1 ?_
      refine k1.1.imp fun k hk => ?_
      have tk : (xs.take (i + 1)).filter p = (xs.take i).filter p ++ (if p d = true then [d] else []) := by
        rw [List.take_add_one, hd, List.filter_append]
        congr 1
        show List.filter p [d] = _
        by_cases hp : p d = true
        · rw [if_pos hp, List.filter_cons, if_pos hp]; rfl
        · rw [if_neg hp, List.filter_cons, if_neg hp]; rfl
      by_cases hp : p d = true
      · rw [hk, if_pos hp]
        refine (k1.2 hp).imp fun y ey => ?_
        show acc ++ [y] = ((xs.take (i + 1)).filter p).map f
        rw [ey, ia, tk, if_pos hp, List.map_append]
        rfl
      · rw [hk, if_neg hp]
        show acc = ((xs.take (i + 1)).filter p).map f
        rw [tk, if_neg hp, ia, List.append_nil], fun acc (ia : acc = _) => by rw [ia, e, List.take_length], by rw [e]; exact hlen⟩

/-! ### statements -/
/-- what is wanted behind a statement, by frames -/
structure Po where
  N : Fe → Prop
  R : Dt → Prop
  B : Fe → Prop := fun _ => False
  C : Fe → Prop := fun _ => False
def Ds (c : Bs) (ts : TS) (δ : Fe) (p : Po) : Prop := ∀ (D : Ends) (σ : L2.St) (G H : Hp), Ec c G H σ δ →
  (∀ δ' σ' G' H', Same G G' → Ec c G' H' σ' δ' → p.N δ' → D.nx σ' H') → (∀ v d G' H', Gx c.b c.G0 c.H0 G' H' → Dq G' v d → p.R d → D.rt v H') →
  (∀ δ' σ' G' H', Same G G' → Ec c G' H' σ' δ' → p.B δ' → D.bk σ' H') → (∀ δ' σ' G' H', Same G G' → Ec c G' H' σ' δ' → p.C δ' → D.ct σ' H') → ts D σ H
variable {ts tv : TS} {p : Po}
theorem Ds.imp {p' : Po} (h : Ds c ts δ p) (hN : ∀ δ, p.N δ → p'.N δ) (hR : ∀ d, p.R d → p'.R d) (hB : ∀ δ, p.B δ → p'.B δ) (hC : ∀ δ, p.C δ → p'.C δ) : Ds c ts δ p' := fun D σ G H e n r b k =>
  h D σ G H e (fun δ' σ' G' H' s e' q => n δ' σ' G' H' s e' (hN _ q)) (fun v d G' H' g dq q => r v d G' H' g dq (hR _ q)) (fun δ' σ' G' H' s e' q => b δ' σ' G' H' s e' (hB _ q)) fun δ' σ' G' H' s e' q => k δ' σ' G' H' s e' (hC _ q)
theorem ds_seq {M : Fe → Prop} (h : Ds c ts δ { p with N := M }) (k : ∀ δ', M δ' → Ds c tv δ' p) : Ds c (tSeq ts tv) δ p := fun D σ G H e n r b q =>
  h { D with nx := tv D } σ G H e (fun δ' σ' G' H' s e' m => k δ' m D σ' G' H' e' (fun δ2 σ2 G2 H2 s2 => n δ2 σ2 G2 H2 (s.trans s2)) r (fun δ2 σ2 G2 H2 s2 => b δ2 σ2 G2 H2 (s.trans s2)) fun δ2 σ2 G2 H2 s2 => q δ2 σ2 G2 H2 (s.trans s2)) r b q
theorem ds_next (k : p.N δ) : Ds c tNext δ p := fun D σ G H e n r b q => n δ σ G H (Same.refl G) e k
theorem ds_cont (k : p.C δ) : Ds c tCont δ p := fun D σ G H e n r b q => q δ σ G H (Same.refl G) e k
theorem ds_break (k : p.B δ) : Ds c tBreak δ p := fun D σ G H e n r b q => b δ σ G H (Same.refl G) e k
theorem ds_set {i : Nat} (h : Dn c te δ T) (k : ∀ d, T d → p.N (δ.set i (.dat d))) : Ds c (tAsg te (gName i)) δ p := fun D σ G H e n r b q =>
  h σ G H e _ fun v d G1 H1 g1 d1 t1 => n _ _ G1 H1 g1.gg ((e.up g1).setDat i d1) (k d t1)
/-- x = e, then the rest -/
theorem ds_let {i : Nat} (h : Dn c te δ T) (k : ∀ d, T d → Ds c tv (δ.set i (.dat d)) p) : Ds c (tSeq (tAsg te (gName i)) tv) δ p :=
  ds_seq (M := fun δ' => ∃ d, T d ∧ δ' = δ.set i (.dat d)) (ds_set h fun d t => ⟨d, t, rfl⟩) fun δ' ⟨d, t, e⟩ => by rw [e]; exact k d t
theorem ds_letE {i : Nat} {d : Dt} (h : De c te δ d) (k : Ds c tv (δ.set i (.dat d)) p) : Ds c (tSeq (tAsg te (gName i)) tv) δ p := ds_let h fun _ e => by rw [e]; exact k
/-- x = a new list that the body goes on changing -/
theorem ds_setOwn {i : Nat} {S : List Dt → Prop} (h : Dl c te δ S) (k : ∀ ds, S ds → p.N (δ.set i (.own ds))) : Ds c (tAsg te (gName i)) δ p := fun D σ G H e n r b q =>
  h σ G H e _ fun a vs ds G1 H1 g1 h1 h2 h3 h4 h5 => by
    have e1 := e.up g1
    refine n _ _ G1 H1 g1.gg (e1.setOwn i (.own ds) (fun k y hk oy sk => ?_) fun hlt => ?_) (k ds h5)
    · exact e.noSlot h1 k y hk oy sk
    · refine ⟨a, vs, List.getElem?_set_self (by rw [e.len]; exact hlt), h3, h2, ?_, h4⟩
      exact e.gx.fresh e.j0 h1
theorem ds_letOwn {i : Nat} {S : List Dt → Prop} (h : Dl c te δ S) (k : ∀ ds, S ds → Ds c tv (δ.set i (.own ds)) p) : Ds c (tSeq (tAsg te (gName i)) tv) δ p :=
  ds_seq (M := fun δ' => ∃ d, S d ∧ δ' = δ.set i (.own d)) (ds_setOwn h fun d t => ⟨d, t, rfl⟩) fun δ' ⟨d, t, e⟩ => by rw [e]; exact k d t
theorem ds_letOwnE {i : Nat} {ds : List Dt} (h : Dl c te δ (· = ds)) (k : Ds c tv (δ.set i (.own ds)) p) : Ds c (tSeq (tAsg te (gName i)) tv) δ p := ds_letOwn h fun _ e => by rw [e]; exact k
theorem ds_ret (h : Dn c te δ T) (k : ∀ d, T d → p.R d) : Ds c (tRet te) δ p := fun D σ G H e n r b q =>
  h σ G H e _ fun v d G1 H1 g1 d1 t1 => r v d G1 H1 (e.gx.trans e.j0 g1) d1 (k d t1)
theorem ds_retE {d : Dt} (h : De c te δ d) (k : p.R d) : Ds c (tRet te) δ p := ds_ret h fun _ e => by rw [e]; exact k
theorem ds_if {T' : Bool → Prop} (h : Dt' c tt δ T') (h1 : T' true → Ds c ts δ p) (h2 : T' false → Ds c tv δ p) : Ds c (tIfS tt ts tv) δ p := fun D σ G H e n r b q =>
  h σ G H e _ fun k G1 H1 g1 t1 => by
    cases k with
    | true =>
      show ts D σ H1
      exact h1 t1 D σ G1 H1 (e.up g1) (fun δ2 σ2 G2 H2 s2 => n δ2 σ2 G2 H2 (g1.gg.trans s2)) r (fun δ2 σ2 G2 H2 s2 => b δ2 σ2 G2 H2 (g1.gg.trans s2)) fun δ2 σ2 G2 H2 s2 => q δ2 σ2 G2 H2 (g1.gg.trans s2)
    | false =>
      show tv D σ H1
      exact h2 t1 D σ G1 H1 (e.up g1) (fun δ2 σ2 G2 H2 s2 => n δ2 σ2 G2 H2 (g1.gg.trans s2)) r (fun δ2 σ2 G2 H2 s2 => b δ2 σ2 G2 H2 (g1.gg.trans s2)) fun δ2 σ2 G2 H2 s2 => q δ2 σ2 G2 H2 (g1.gg.trans s2)
/-- if a test with the outcome k -/
theorem ds_ifE {k : Bool} (h : Dt' c tt δ (· = k)) (h1 : k = true → Ds c ts δ p) (h2 : k = false → Ds c tv δ p) : Ds c (tIfS tt ts tv) δ p := ds_if h (fun e => h1 e.symm) fun e => h2 e.symm
/-- the body's list at i is data from now on -/
theorem ds_freeze {i : Nat} {ds : List Dt} (h : δ[i]? = some (.own ds)) (k : Ds c ts (δ.set i (.dat (.lst ds))) p) : Ds c ts δ p := fun D σ G H e n r b q => by
  obtain ⟨a, vs, e1, h1, h2, h3, h4, e'⟩ := e.freeze h
  have up : Same G (upd G a (.lst vs)) := fun x u z => by rw [upd_ne (ne_of_none z h2)]; exact z
  exact k D σ _ H e' (fun δ2 σ2 G2 H2 s2 => n δ2 σ2 G2 H2 (up.trans s2)) r (fun δ2 σ2 G2 H2 s2 => b δ2 σ2 G2 H2 (up.trans s2)) fun δ2 σ2 G2 H2 s2 => q δ2 σ2 G2 H2 (up.trans s2)
/-- less is known of slot i -/
theorem ds_forget (i : Nat) (k : Ds c ts (δ.set i .un) p) : Ds c ts δ p := fun D σ G H e n r b q => k D σ G H (e.forget i) n r b q
theorem ds_drop (h : Dn c te δ T) (k : p.N δ) : Ds c (tDrop te) δ p := fun D σ G H e n r b q =>
  h σ G H e _ fun v d G1 H1 g1 d1 t1 => n _ _ G1 H1 g1.gg (e.up g1) k

/-- the body's list at i is changed -/
theorem En.poke {b : Bx} {G0 H0 G H : Hp} {σ : L2.St} (e : En b G0 H0 G H σ δ) {i : Nat} {ds es : List Dt} {ws : List V} {a : Addr} (h : δ[i]? = some (.own ds)) (ha : σ[i]? = some (some (.ref a))) (dq : Dqs G ws es) : En b G0 H0 G (upd H a (.lst ws)) σ (δ.set i (.own es)) := by
  obtain ⟨p, vs, e1, h1, h2, h3, h4⟩ := e.sl i _ h
  rw [ha] at e1
  have ea := V.ref.inj (Option.some.inj (Option.some.inj e1))
  subst ea
  have hi : i < δ.length := (List.getElem?_eq_some_iff.mp h).1
  refine ⟨e.j0, Gx.poke e.j0 e.gx h3 h2, by rw [List.length_set, e.len], fun k x hk => ?_, fun k l y z q hk hl oy oz sk sl => ?_⟩
  · by_cases hik : i = k
    · subst hik
      rw [List.getElem?_set_self hi] at hk
      have := Option.some.inj hk
      subst this
      exact ⟨a, ws, ha, upd_same, h2, h3, dq⟩
    · rw [List.getElem?_set_ne hik] at hk
      have q := e.sl k x hk
      have na : ∀ {p : Addr}, x.owns = true → σ[k]? = some (some (.ref p)) → p ≠ a := fun {p} ox s z => hik (e.apart i k _ x a h hk rfl ox ha (by rw [← z]; exact s))
      cases x with
      | un => trivial
      | dat d => exact q
      | own es =>
        obtain ⟨p, ws, e2, q1, q2, q3, q4⟩ := q
        exact ⟨p, ws, e2, by rw [upd_ne (na rfl e2)]; exact q1, q2, q3, q4⟩
      | obj Φ =>
        obtain ⟨p, o, e2, q1, q2⟩ := q
        exact ⟨p, o, e2, by rw [upd_ne (na rfl e2)]; exact q1, q2⟩
      | raw v => exact q
  · have ne : ∀ {m : Nat} {u : Sl}, (δ.set i (.own es))[m]? = some u → u.owns = true → ∃ u', δ[m]? = some u' ∧ u'.owns = true := fun {m u} hm ou => by
      by_cases him : i = m
      · subst him
        exact ⟨_, h, rfl⟩
      · rw [List.getElem?_set_ne him] at hm
        exact ⟨u, hm, ou⟩
    obtain ⟨y', a1, a2⟩ := ne hk oy
    obtain ⟨z', b1, b2⟩ := ne hl oz
    exact e.apart k l y' z' q a1 b1 a2 b2 sk sl
/-- xs.append(e) -/
theorem ds_append {K : PySem.W.Frag} {i : Nat} {ds : List Dt} (h : δ[i]? = some (.own ds)) (he : Dn c te δ T) (hl : ds.length < 10000000) (k : ∀ d, T d → p.N (δ.set i (.own (ds ++ [d])))) : Ds c (tDrop (tBM K "list" rAppend (tVar i) (tCons te tNil))) δ p := fun D σ G H e n r b q => by
  obtain ⟨a, vs, e1, h1, h2, h3, h4⟩ := e.sl i _ h
  refine ⟨.ref a, e1, .inl ⟨rfl, _, SqL.of h1⟩, ?_⟩
  refine he σ G H e _ fun v d G1 H1 g1 d1 t1 => ?_
  obtain ⟨a', vs', e1', h1', h2', h3', h4'⟩ := (e.up g1).sl i _ h
  rw [e1] at e1'
  have ea := V.ref.inj (Option.some.inj (Option.some.inj e1'))
  subst ea
  refine ⟨a, vs', v, rfl, rfl, h1', sz_lt' (by rw [h4'.length]; omega), ?_⟩
  exact n _ _ G1 _ g1.gg ((e.up g1).poke h e1 (h4'.append (.cons d1 .nil))) (k d t1)
/-- xs.extend(ys) -/
theorem ds_extend {K : PySem.W.Frag} {i : Nat} {ds ys : List Dt} (h : δ[i]? = some (.own ds)) (he : De c te δ (.lst ys)) (hl : ds.length + ys.length ≤ 10000000) (k : p.N (δ.set i (.own (ds ++ ys)))) : Ds c (tDrop (tBM K "list" rExtend (tVar i) (tCons te tNil))) δ p := fun D σ G H e n r b q => by
  obtain ⟨a, vs, e1, h1, h2, h3, h4⟩ := e.sl i _ h
  refine ⟨.ref a, e1, .inl ⟨rfl, _, SqL.of h1⟩, ?_⟩
  refine he σ G H e _ fun v d G1 H1 g1 d1 t1 => ?_
  subst t1
  obtain ⟨a', vs', e1', h1', h2', h3', h4'⟩ := (e.up g1).sl i _ h
  rw [e1] at e1'
  have ea := V.ref.inj (Option.some.inj (Option.some.inj e1'))
  subst ea
  cases d1 with
  | lst b1 b2 =>
    refine ⟨a, _, vs', _, rfl, rfl, h1', g1.gh _ _ b1, sz_ok (by rw [h4'.length, b2.length]; exact hl), ?_⟩
    exact n _ _ G1 _ g1.gg ((e.up g1).poke h e1 (h4'.append b2)) k

/-! ### for -/
theorem ds_for {wi : TI} {g : TG} {vs : List Nat} {S : List Dt → Prop} (hw : Di c wi δ S)
    (h : ∀ xs, S xs → ∃ I : Nat → Fe → Prop, I 0 δ ∧ (∀ i d δ', xs[i]? = some d → I i δ' → Dg c g d δ' vs (fun δ2 => Ds c ts δ2 { N := I (i + 1), R := p.R, B := p.N, C := I (i + 1) })) ∧ ∀ δ', I xs.length δ' → p.N δ') : Ds c (tFor wi g ts) δ p := fun D σ G H e n r b q => by
  refine hw σ G H e _ fun J xs G1 H1 g1 s1 ok => ?_
  obtain ⟨I, i0, turn, fin⟩ := h xs s1
  refine ⟨fun i m σ' Hi => m = xs.length - i ∧ i ≤ xs.length ∧ ∃ Gi δi, Ec c Gi Hi σ' δi ∧ Same G1 Gi ∧ I i δi, ⟨xs.length, by simp, Nat.zero_le _, G1, δ, e.up g1, Same.refl _, i0⟩, ?_⟩
  rintro i m σ' Hi ⟨rfl, hi, Gi, δi, ei, si, ii⟩
  obtain ⟨okgo, okstop⟩ := ok i Gi Hi si ei.same ei.jj
  by_cases hlt : i < xs.length
  · obtain ⟨go, step⟩ := okgo hlt
    refine .inr ⟨go, fun σ2 H2 => ∃ G2 δ2, Ec c G2 H2 σ2 δ2 ∧ Same G1 G2 ∧ I (i + 1) δ2, fun σ2 H2 hn => ⟨xs.length - (i + 1), by omega, rfl, hlt, hn⟩, fun x H' hy => ?_⟩
    obtain ⟨d, G2, hd, g2, dx⟩ := step x H' hy
    refine turn i d δi hd ii σ' G2 H' x (ei.up g2) dx _ fun δ3 σ3 G3 H3 e3 g3 w3 k3 => ?_
    have s3 : Same G1 G3 := (si.trans g2.gg).trans g3.gg
    exact k3 _ σ3 G3 H3 e3 (fun δ4 σ4 G4 H4 s4 e4 n4 => ⟨G4, δ4, e4, s3.trans s4, n4⟩) r (fun δ4 σ4 G4 H4 s4 e4 n4 => n δ4 σ4 G4 H4 (g1.gg.trans (s3.trans s4)) e4 n4) fun δ4 σ4 G4 H4 s4 e4 n4 => ⟨G4, δ4, e4, s3.trans s4, n4⟩
  · have ei' : i = xs.length := by omega
    subst ei'
    exact .inl ⟨okstop (Nat.le_refl _), n δi σ' Gi Hi (g1.gg.trans si) ei (fin δi ii)⟩

/-! ### calls of defs -/
/-- a def that takes data and gives data, and changes nothing -/
def spD (pre : List Dt → Prop) (post : List Dt → Dt → Prop) : Sp := fun vs H Q _ => ∃ G ds, Same G H ∧ Dqs G vs ds ∧ pre ds ∧ ∀ v d G' H', Gx Bx.pure G H G' H' → Dq G' v d → post ds d → Q v H'
theorem dn_call {pre : List Dt → Prop} {post : List Dt → Dt → Prop} {S : List Dt → Prop} {E : XK} (ha : Ds' c tr δ S) (hp : ∀ ds, S ds → pre ds) (k : ∀ ds d, S ds → post ds d → T d) : Dn c (tCall (spD pre post) [] E tr) δ T := fun σ G H e Q q =>
  ha σ G H e _ fun vs ds G1 H1 g1 d1 t1 => ⟨G1, ds, g1.gh, by rw [List.append_nil]; exact d1, hp ds t1, fun v d G2 H2 g2 d2 p2 => q v d G2 H2 (g1.trans e.jj (g2.of_pure g1.jj)) d2 (k ds d t1 p2)⟩
theorem de_call {pre : List Dt → Prop} {f : List Dt → Dt} {ds : List Dt} {E : XK} (ha : Ds' c tr δ (· = ds)) (hp : pre ds) : De c (tCall (spD pre fun ds d => d = f ds) [] E tr) δ (f ds) :=
  dn_call ha (fun _ e => by rw [e]; exact hp) fun _ _ e h => by rw [h, e]
/-- the start of a def's body that keeps such a promise -/
theorem Dqs.start {G H : Hp} (s : Same G H) (N : List Str) : ∀ {vs : List V} {ds : List Dt}, Dqs G vs ds → vs.length ≤ N.length → Ec ⟨Bx.pure, G, H⟩ G H (L2.start N vs) (ds.map Sl.dat ++ List.replicate (N.length - ds.length) .un) := fun {vs ds} h hl => by
  have hlen := h.length
  refine ⟨trivial, Gx.refl s trivial, ?_, fun i x hx => ?_, fun i k x y p hx hy ox oy => ?_⟩
  · show (L2.start N vs).length = _
    simp [L2.start, hlen]
  · by_cases hi : i < ds.length
    · rw [List.getElem?_append_left (by simpa using hi), List.getElem?_map, List.getElem?_eq_getElem hi] at hx
      have := Option.some.inj hx
      subst this
      obtain ⟨v, hv, dv⟩ := h.get (List.getElem?_eq_getElem hi)
      refine ⟨v, ?_, dv⟩
      show (vs.map some ++ _)[i]? = _
      rw [List.getElem?_append_left (by simpa [hlen] using hi), List.getElem?_map, hv]
      rfl
    · rw [List.getElem?_append_right (by simpa using Nat.le_of_not_lt hi)] at hx
      have := List.mem_of_getElem? hx
      rw [List.eq_of_mem_replicate this]
      trivial
  · exfalso
    by_cases hi : i < ds.length
    · rw [List.getElem?_append_left (by simpa using hi), List.getElem?_map, List.getElem?_eq_getElem hi] at hx
      have := Option.some.inj hx
      subst this
      cases ox
    · rw [List.getElem?_append_right (by simpa using Nat.le_of_not_lt hi)] at hx
      have := List.mem_of_getElem? hx
      rw [List.eq_of_mem_replicate this] at ox
      cases ox
/-- from what a body comes to, to what its def promises -/
theorem ok_body {pre : List Dt → Prop} {post : List Dt → Dt → Prop} {N : List Str} {vs : List V} {H : Hp} {Q : VK} {E : XK} {ts : TS} (h : spD pre post vs H Q E) (hl : vs.length ≤ N.length)
    (k : ∀ (c : Bs) (ds : List Dt), pre ds → ds.length = vs.length → c.b = Bx.pure → Ds c ts (ds.map Sl.dat ++ List.replicate (N.length - ds.length) .un) { N := fun _ => post ds .non, R := post ds }) :
    ts { nx := fun _ H' => Q .non H', rt := Q } (L2.start N vs) H := by
  obtain ⟨G, ds, s, d, pr, q⟩ := h
  exact k ⟨Bx.pure, G, H⟩ ds pr d.length.symm rfl _ _ G H (d.start s N hl) (fun δ' σ' G' H' _ e n => q _ _ G' H' e.gx .non n) (fun v d G' H' g dq r => q v d G' H' g dq r) (fun _ _ _ _ _ _ z => z.elim) fun _ _ _ _ _ _ z => z.elim
end
end Zd
namespace Zd
open PySem L2 StX
section
variable {c : Bs} {δ : Fe} {te ta tb : TE} {tt tu : TT} {tr : TA} {P R T : Dt → Prop}
/-- a def whose arguments stand for A a, a of a type of one's own: it gives data of which post a holds, and changes nothing -/
def spT {α : Type} (A : α → List Dt) (pre : α → Prop) (post : α → Dt → Prop) : Sp := fun vs H Q _ => ∃ G a, Same G H ∧ Dqs G vs (A a) ∧ pre a ∧ ∀ v d G' H', Gx Bx.pure G H G' H' → Dq G' v d → post a d → Q v H'
theorem dn_callT {α : Type} {A : α → List Dt} {pre : α → Prop} {post : α → Dt → Prop} {E : XK} (a : α) (ha : Ds' c tr δ (· = A a)) (hp : pre a) : Dn c (tCall (spT A pre post) [] E tr) δ (post a) := fun σ G H e Q q =>
  ha σ G H e _ fun vs ds G1 H1 g1 d1 t1 => ⟨G1, a, g1.gh, by rw [List.append_nil, ← t1]; exact d1, hp, fun v d G2 H2 g2 d2 p2 => q v d G2 H2 (g1.trans e.jj (g2.of_pure g1.jj)) d2 p2⟩
theorem de_callT {α : Type} {A : α → List Dt} {pre : α → Prop} {f : α → Dt} {E : XK} (a : α) (ha : Ds' c tr δ (· = A a)) (hp : pre a) : De c (tCall (spT A pre fun a d => d = f a) [] E tr) δ (f a) := dn_callT a ha hp
theorem spT_len {α : Type} {A : α → List Dt} {pre : α → Prop} {post : α → Dt → Prop} {vs : List V} {H : Hp} {Q : VK} {E : XK} {n : Nat} (hn : ∀ a, (A a).length = n) (h : spT A pre post vs H Q E) : vs.length = n := by
  obtain ⟨G, a, s, d, pr, q⟩ := h
  rw [d.length, hn]
theorem ok_bodyT {α : Type} {A : α → List Dt} {pre : α → Prop} {post : α → Dt → Prop} {N : List Str} {vs : List V} {H : Hp} {Q : VK} {E : XK} {ts : TS} (δ : α → Fe) (h : spT A pre post vs H Q E) (hl : ∀ a, (A a).length ≤ N.length) (hδ : ∀ a, (A a).map Sl.dat ++ List.replicate (N.length - (A a).length) .un = δ a)
    (k : ∀ (c : Bs) (a : α), c.b = Bx.pure → pre a → Ds c ts (δ a) { N := fun _ => post a .non, R := post a }) :
    ts { nx := fun _ H' => Q .non H', rt := Q } (L2.start N vs) H := by
  obtain ⟨G, a, s, d, pr, q⟩ := h
  have e := d.start s N (by rw [d.length]; exact hl a)
  rw [hδ] at e
  exact k ⟨Bx.pure, G, H⟩ a rfl pr _ _ G H e (fun δ' σ' G' H' _ e n => q _ _ G' H' e.gx .non n) (fun v d G' H' g dq r => q v d G' H' g dq r) (fun _ _ _ _ _ _ z => z.elim) fun _ _ _ _ _ _ z => z.elim
end
/-- a def of the text: where it stands, and how its arguments bind -/
structure Kn (K : PySem.W.Frag) (mg : Str → Option Value) (nm : Str) (st : Stmt) (ps : List Str) (f : Addr) (fd : FuncData) : Prop where
  g : mg nm = some (.ref f)
  F : Fun K nm nm st f fd
  b : Binds K fd ps []
end Zd
/-! ### rules that name the written part, with its name told (within a block the context's own field would hang on the block's letters) -/
namespace Zd
open PySem L2 StX
section
variable {X : Cx} {K : PySem.W.Frag} {tg : Expr}
theorem pi_listK (hK : X.K = K) {l : Expr} {tl : TE} (hl : PE X l tl) : PI X tg l (iList K tl) := by subst hK; exact pi_list hl
theorem pi_tupK (hK : X.K = K) {l : Expr} {tl : TE} (hl : PE X l tl) : PI X tg l (iTup K tl) := by subst hK; exact pi_tup hl
theorem ix_listK (hK : X.K = K) : IxR X (rIxL K) := by subst hK; exact ix_list
theorem ix_tupK (hK : X.K = K) : IxR X (rIxT K) := by subst hK; exact ix_tup
theorem sl_listK (hK : X.K = K) : SlR X (rSlL K) := by subst hK; exact sl_list
theorem sl_tupK (hK : X.K = K) : SlR X (rSlT K) := by subst hK; exact sl_tup
theorem op_in_seqK (hK : X.K = K) : OpR X (compareOp .In) (rIn K false) := by subst hK; exact op_in_seq
theorem op_notIn_seqK (hK : X.K = K) : OpR X (compareOp .NotIn) (rIn K true) := by subst hK; exact op_notIn_seq
theorem op_eqDK (hK : X.K = K) (hu : X.A.units + 64 < cLine) : OpR X (compareOp .Eq) (rEqD K) := by subst hK; exact op_eqD hu
theorem op_neDK (hK : X.K = K) (hu : X.A.units + 64 < cLine) : OpR X (compareOp .NotEq) (rNeD K) := by subst hK; exact op_neD hu
theorem op_catTK (hK : X.K = K) : OpR X (binaryOp .Add) (rCatT K) := by subst hK; exact op_catT
def rLen (K : PySem.W.Frag) : List V → Hp → VK → Prop := fun xs H Q => ∃ x n, xs = [x] ∧ LenV K x H n ∧ Q (.int n) H
theorem call_lenK (hK : X.K = K) : CallR X (.builtin "len") (rLen K) := by subst hK; exact call_len
def rListOf (K : PySem.W.Frag) : List V → Hp → VK → Prop := fun xs H Q => ∃ p ys, xs = [.ref p] ∧ (SqL K H p ys ∨ SqT K H p ys) ∧ ∀ l, H l = none → Q (.ref l) (upd H l (.lst ys))
theorem call_list_ofK (hK : X.K = K) : CallR X (.type "list") (rListOf K) := by subst hK; exact call_list_of
def rTupOf (K : PySem.W.Frag) : List V → Hp → VK → Prop := fun xs H Q => ∃ p ys, xs = [.ref p] ∧ ((SqL K H p ys ∧ ∀ l, H l = none → Q (.ref l) (upd H l (.tup ys))) ∨ (SqT K H p ys ∧ Q (.ref p) H))
theorem call_tuple_ofK (hK : X.K = K) : CallR X (.type "tuple") (rTupOf K) := by subst hK; exact call_tuple_of
theorem pg_tupK (hK : X.K = K) {es : List Expr} {k : Nat} {t : TGs} {n : Nat} {pos : Pos} (hc : X.calm = true) (h : PGs X es t)
    (hn : (assignEach es X.env).length = n := by rfl) (hst : (assignEach es X.env).findIdx? (·.1) = none := by rfl) : PG X (.Tuple es k pos) (gTup K n t) := by subst hK; exact pg_tup hc h hn hst
theorem pa_starK (hK : X.K = K) {e : Expr} {es : List Expr} {te : TE} {t : TA} {p : Pos} (he : PE X e te) (hr : PA X es t) (hs : starEach (.Starred e p :: es) X.env = (true, eval e X.env) :: starEach es X.env := by rfl) : PA X (.Starred e p :: es) (tStar K te t) := by subst hK; exact pa_star he hr hs
theorem pe_bmK (hK : X.K = K) {o e : Expr} {es : List Expr} {name : Str} {T id : String} {r : V → List V → Hp → VK → Prop} {to : TE} {t : TA} {apos cpos : Pos} (pa : PlainAttrs T) (slot : Slot T name id) (hty : typeOf (.builtin id) = pure (.type "method_descriptor")) (hm : MtR X id r) (ho : PE X o to) (ha : PA X (e :: es) t)
    (h : PE X (.Call (.Attribute o name apos) (e :: es) [] cpos) (tBM X.K T r to t)) : PE X (.Call (.Attribute o name apos) (e :: es) [] cpos) (tBM K T r to t) := by subst hK; exact h
def rIsiK' (K : PySem.W.Frag) : List V → Hp → VK → Prop := rIsi K
theorem call_isiK' (hK : X.K = K) : CallR X (.builtin "isinstance") (rIsi K) := by subst hK; exact call_isi
def iEnumK := iEnum
theorem pi_enumK (hK : X.K = K) {e : Expr} {ta : TA} {p pos tpos : Pos} {elts : List Expr} {kk : Nat} (hg : Gl X "enumerate") (hm : X.mg "enumerate" = none) (ha : PA X [e] ta) (hs : starEach [e] X.env = [(false, eval e X.env)] := by rfl) :
    PI X (.Tuple elts kk tpos) (.Call (.Name "enumerate" p) [e] [] pos) (iEnum K ta) := by subst hK; exact pi_enum hg hm ha hs
end
section
variable {c : Bs} {δ : Fe} {te ta tb : TE} {K : PySem.W.Frag}
theorem de_lenLK {ds : List Dt} (h : De c ta δ (.lst ds)) : De c (tCB (rLen K) (tCons ta tNil)) δ (.int ds.length) := de_lenL h
theorem de_lenTK {ds : List Dt} (h : De c ta δ (.tup ds)) : De c (tCB (rLen K) (tCons ta tNil)) δ (.int ds.length) := de_lenT h
theorem dl_listOfK {xs : List Dt} (h : De c te δ (.lst xs)) : Dl c (tCB (rListOf K) (tCons te tNil)) δ (· = xs) := dl_listOf h
theorem de_tupleOfLK {xs : List Dt} (h : De c te δ (.lst xs)) : De c (tCB (rTupOf K) (tCons te tNil)) δ (.tup xs) := de_tupleOfL h
end
end Zd

set_option Elab.async false
set_option maxRecDepth 100000
set_option maxHeartbeats 4000000
/-! Zd4: a source of draws that is handed on and changed. -/
namespace Zd
open PySem L2 StX
def Src (H : Hp) (p : Addr) : Prop := ∃ x y : Int, H p = some (.lst [.int x, .int y]) ∧ 0 ≤ y ∧ y < 2147483648
def Bx.src (p : Addr) : Bx := ⟨fun a => a = p, fun H => Src H p, fun H H' h k => by
    obtain ⟨x, y, e, q⟩ := h
    exact ⟨x, y, (k p rfl).trans e, q⟩, fun H a h e => by
    obtain ⟨x, y, e', _⟩ := h
    rw [e, e']; simp⟩
def spS {α : Type} (A : α → List Dt) (pre : α → Prop) (post : α → Dt → Prop) : Sp := fun vs H Q _ => ∃ p G a us, vs = .ref p :: us ∧ Same G H ∧ G p = none ∧ Src H p ∧ Dqs G us (A a) ∧ pre a ∧
  ∀ v d G' H', Gx (Bx.src p) G H G' H' → Dq G' v d → post a d → Q v H'
/-- the body draws from p -/
structure SrcC (c : Bs) (p : Addr) : Prop where
  b : c.b = Bx.src p
  g : c.G0 p = none
section
variable {c : Bs} {δ : Fe} {te ta tb : TE} {tr : TA} {p : Addr}
theorem SrcC.free {G H : Hp} {σ : L2.St} (S : SrcC c p) (e : Ec c G H σ δ) : G p = none := by
  cases k : G p with
  | none => rfl
  | some o =>
    rcases e.gx.nw p (by rw [k]; simp) with z | z
    · exact absurd S.g z
    · have j := e.j0
      rw [S.b] at j
      obtain ⟨x, y, e', _⟩ := j
      rw [e'] at z; cases z
theorem dn_callS {α : Type} {A : α → List Dt} {pre : α → Prop} {post : α → Dt → Prop} {E : XK} {i : Nat} {P : List Dt → Prop} {T : Dt → Prop} (S : SrcC c p) (hi : δ[i]? = some (.raw (.ref p))) (ha : Ds' c tr δ P) (hp : ∀ ds, P ds → ∃ a, ds = A a ∧ pre a ∧ ∀ d, post a d → T d) :
    Dn c (tCall (spS A pre post) [] E (tCons (tVar i) tr)) δ T := fun σ G H e Q q => by
  refine ⟨.ref p, e.sl i _ hi, ?_⟩
  refine ha σ G H e _ fun vs ds G1 H1 g1 d1 t1 => ?_
  obtain ⟨a, rfl, pr, po⟩ := hp ds t1
  have e1 := e.up g1
  have j := e1.jj
  rw [S.b] at j
  refine ⟨p, G1, a, vs, by rw [List.append_nil], e1.same, S.free e1, j, d1, pr, fun v d G2 H2 g2 d2 p2 => ?_⟩
  rw [← S.b] at g2
  exact q v d G2 H2 (g1.trans e.jj g2) d2 (po d p2)
theorem spS_len {α : Type} {A : α → List Dt} {pre : α → Prop} {post : α → Dt → Prop} {vs : List V} {H : Hp} {Q : VK} {E : XK} {n : Nat} (hn : ∀ a, (A a).length = n) (h : spS A pre post vs H Q E) : vs.length = n + 1 := by
  obtain ⟨p, G, a, us, rfl, s, _, _, d, pr, q⟩ := h
  rw [List.length_cons, d.length, hn]
theorem Dqs.startS {G H : Hp} (s : Same G H) (n : G p = none) (j : Src H p) (N : List Str) : ∀ {us : List V} {ds : List Dt}, Dqs G us ds → us.length + 1 ≤ N.length →
    Ec ⟨Bx.src p, G, H⟩ G H (L2.start N (.ref p :: us)) (.raw (.ref p) :: ds.map Sl.dat ++ List.replicate (N.length - (ds.length + 1)) .un) := fun {us ds} h hl => by
  have hlen := h.length
  have noown : ∀ (i : Nat) (x : Sl), (Sl.raw (.ref p) :: ds.map Sl.dat ++ List.replicate (N.length - (ds.length + 1)) .un)[i]? = some x → x.owns = false := by
    intro i x hx
    have hm := List.mem_of_getElem? hx
    rcases List.mem_append.mp hm with hm | hm
    · rcases List.mem_cons.mp hm with rfl | hm
      · rfl
      · obtain ⟨d, _, rfl⟩ := List.mem_map.mp hm
        rfl
    · rw [List.eq_of_mem_replicate hm]; rfl
  refine ⟨j, Gx.refl s j, ?_, fun i x hx => ?_, fun i k x y q hx hy ox oy => by rw [noown i x hx] at ox; cases ox⟩
  · show (L2.start N (.ref p :: us)).length = _
    simp [L2.start, hlen]
  · cases i with
    | zero =>
      have := Option.some.inj hx
      subst this
      rfl
    | succ i =>
      have hx' : (ds.map Sl.dat ++ List.replicate (N.length - (ds.length + 1)) .un)[i]? = some x := hx
      by_cases hi : i < ds.length
      · rw [List.getElem?_append_left (by simpa using hi), List.getElem?_map, List.getElem?_eq_getElem hi] at hx'
        have := Option.some.inj hx'
        subst this
        obtain ⟨v, hv, dv⟩ := h.get (List.getElem?_eq_getElem hi)
        refine ⟨v, ?_, dv⟩
        show (us.map some ++ _)[i]? = _
        rw [List.getElem?_append_left (by simpa [hlen] using hi), List.getElem?_map, hv]
        rfl
      · rw [List.getElem?_append_right (by simpa using Nat.le_of_not_lt hi)] at hx'
        rw [List.eq_of_mem_replicate (List.mem_of_getElem? hx')]
        trivial
theorem ok_bodyS {α : Type} {A : α → List Dt} {pre : α → Prop} {post : α → Dt → Prop} {N : List Str} {vs : List V} {H : Hp} {Q : VK} {E : XK} {ts : TS} (δ : Addr → α → Fe) (h : spS A pre post vs H Q E) (hl : ∀ a, (A a).length + 1 ≤ N.length)
    (hδ : ∀ p a, .raw (.ref p) :: (A a).map Sl.dat ++ List.replicate (N.length - ((A a).length + 1)) .un = δ p a)
    (k : ∀ (c : Bs) (p : Addr) (a : α), SrcC c p → pre a → Ds c ts (δ p a) { N := fun _ => post a .non, R := post a }) :
    ts { nx := fun _ H' => Q .non H', rt := Q } (L2.start N vs) H := by
  obtain ⟨p, G, a, us, rfl, s, n, j, d, pr, q⟩ := h
  have e := d.startS s n j N (by rw [d.length]; exact hl a)
  rw [hδ] at e
  exact k ⟨Bx.src p, G, H⟩ p a ⟨rfl, n⟩ pr _ _ G H e (fun δ' σ' G' H' _ e n => q _ _ G' H' e.gx .non n) (fun v d G' H' g dq r => q v d G' H' g dq r) (fun _ _ _ _ _ _ z => z.elim) fun _ _ _ _ _ _ z => z.elim
end
/-- a draw: below m, the source's two ints are others behind it -/
def spPick : Sp := fun vs H Q _ => ∃ (p : Addr) (x y m : Int), vs = [.ref p, .int m] ∧ H p = some (.lst [.int x, .int y]) ∧ 0 ≤ y ∧ y < 2147483648 ∧ 0 < m ∧ m < 1000000000 ∧
  ∀ x' y' r : Int, 0 ≤ y' → y' < 2147483648 → 0 ≤ r → r < m → Q (.int r) (upd H p (.lst [.int x', .int y']))
abbrev spPickS : Sp := spS (fun m : Int => [.int m]) (fun m => 0 < m ∧ m < 1000000000) fun m d => ∃ r : Int, d = .int r ∧ 0 ≤ r ∧ r < m
theorem pick_S (vs : List V) (H : Hp) (Q : VK) (E : XK) (h : spPickS vs H Q E) : spPick vs H Q E := by
  obtain ⟨p, G, m, us, rfl, s, n, ⟨x, y, e, y0, y1⟩, d, ⟨m0, m1⟩, q⟩ := h
  cases d with
  | cons d1 d2 =>
    cases d2; cases d1
    refine ⟨p, x, y, m, rfl, e, y0, y1, m0, m1, fun x' y' r a0 a1 r0 r1 => ?_⟩
    refine q (.int r) (.int r) G _ ⟨Same.refl G, fun a o na ea => ?_, fun a o ea => ?_, fun _ z => .inl z, ⟨x', y', upd_same, a0, a1⟩⟩ (.int r) ⟨r, rfl, r0, r1⟩
    · rw [upd_ne (fun z => na z)]; exact ea
    · rw [upd_ne (ne_of_none ea n)]; exact s a o ea
end Zd

set_option Elab.async false
set_option maxRecDepth 100000
set_option maxHeartbeats 8000000
/-! Zd5: set(xs) of a list of ints, len of a set, sorted of it. -/
namespace Zd
open PySem PySem.Spec PyProof.Rows L2
/-- the empty set as it is made -/
abbrev o0 (w : World) : Obj := { cls := .type "set", dict := none, data := .set #[] 0 (.fresh 0 0 (!w.params.followText "set-order")) }
section
variable {P : Program} {w : World} {A : Around} {E : Value → Shared → Prop} {s : Shared}
theorem set_of_lst {l : Addr} {xs : Array Value} (ns : List Int) {Q : Value → Shared → Prop} (hh : A.handled = none) (hl : s.heap.IsList l xs) (hx : IntsAre xs.toList ns) (hb : ns.length + 1 < scanBound)
    (hQ : ∀ (h' : Heap) (tk c : Nat), SetR w h' s.heap.objs.size (fun j => decide (j ∈ ns)) c → c ≤ ns.length → (∀ b o, s.heap.get? b = some o → h'.get? b = some o) → Q (.ref s.heap.objs.size) { s with heap := h', toks := tk }) :
    wpAny (model P w) A (call (.type "set") [.ref l]) Q E s := by
  have lx : xs.size = ns.length := by have q := hx.length; rwa [Array.length_toList] at q
  obtain ⟨_, _, hmro⟩ := F.called_set.mro
  have t1 := F.called_set.made
  have t2 := F.called_set.sub
  have t3 := F.called_set.notType
  have t4 := F.called_set.canCreate
  have t5 := F.typeCall_set_1 (.ref l)
  refine wpAny_call (codeAny_of_tree (show wpAny _ _ (callAny (.type "set") _) _ _ _ from ?_))
  have t0 := Around.under_plain (A := A) (weight_type_call_type "set" [.ref l] []) rfl
  have qb : (Code.builtin "type.__call__" ⟨.type "set" :: [.ref l], []⟩).quiet = true := Code.quiet_builtin _ (by decide +kernel)
  refine wpAny_pure ⟨qb, codeAny_builtin F.entry_type_call (t0 ▸ ?_)⟩
  repeat (any_goals (first | assumption | wp_step))
  refine codeAny_mono (code_set_led1 (.ref l) (E := E) (Q₁ := fun v z => v = .ref s.heap.objs.size ∧ z = { s with heap := s.heap.push (o0 w) }) ⟨rfl, rfl⟩) fun r z hr => ?_
  rcases r with e | fl
  · exact hr
  rcases fl with _ | _ | _ | v
  · exact hr.elim
  · exact hr.elim
  · exact hr.elim
  obtain ⟨rfl, rfl⟩ := hr
  have gS : (s.heap.push (o0 w)).get? s.heap.objs.size = some (o0 w) := Heap.get?_push_size _ rfl
  have tS : Shared.TypeIs { s with heap := s.heap.push (o0 w) } (.ref s.heap.objs.size) "set" := ⟨_, gS, rfl⟩
  have t6 := F.called_set.init.lookup
  have t7 := F.called_set.init.bind (.ref s.heap.objs.size)
  repeat (any_goals (first | assumption | wp_step))
  refine codeAny_mono (codeAny_call_builtin (R := wants (fun v z => v = .none ∧ ∃ h' tk n, z = { s with heap := h', toks := tk } ∧ SetR w h' s.heap.objs.size (fun j => decide (j ∈ ns)) n ∧ n ≤ ns.length ∧
      ∀ b o, s.heap.get? b = some o → h'.get? b = some o) E) F.called_set.init.plain F.entry_set_init (check_set_init_1 tS ?_)) fun r z hr => ?_
  · obtain ⟨⟨oc, od, oda, osl⟩, hol, hcl, nl, hdl⟩ := hl
    simp only at hcl hdl
    subst hcl hdl
    have gl : (s.heap.push (o0 w)).get? l = some { cls := .type "list", dict := od, data := .seq xs nl, slots := osl } := Heap.get?_push_of_some _ hol
    have t8 := F.sub_list_set
    have t9 := F.sub_list_frozenset
    have ta : (Value.type "list" == Value.type "dict") = false := by decide
    have gL : (s.heap.push (o0 w)).IsList l xs := ⟨_, gl, rfl, nl, rfl⟩
    have ll : l < s.heap.objs.size := Heap.lt_size hol
    unfold Builtin.«set.__init__» noKeywords Builtin.Frozenset.updateFrom
    generalize hPI : pyIter = PI
    wp_walk
    subst hPI
    refine wpAny_pyIter_list gL (wpAny_bind (wpAny_runValue ?_))
    have sz : (s.heap.push (o0 w)).objs.size = s.heap.objs.size + 1 := Heap.size_push ..
    have hA3 : A.in1.in1.in1.handled = none := by simp [hh]
    have nI : l ≠ (s.heap.push (o0 w)).objs.size := by rw [sz]; exact Nat.ne_of_lt (Nat.lt_succ_of_lt ll)
    have nS : s.heap.objs.size ∉ [(s.heap.push (o0 w)).objs.size, l] := by
      rw [sz]
      simp only [List.mem_cons, List.not_mem_nil, or_false, not_or]
      exact ⟨Nat.ne_of_lt (Nat.lt_succ_self _), Nat.ne_of_gt ll⟩
    have vals : ∀ (i : Nat) (v : Value), xs[i]? = some v → ∃ k t, ns[i]? = some k ∧ v = .int k t := by
      intro i v hv
      have hi : i < ns.length := by
        have := (Array.getElem?_eq_some_iff.mp hv).1
        omega
      obtain ⟨t, e⟩ := hx.int_at i v (by rw [Array.getElem?_toList]; exact hv)
      exact ⟨ns[i], t, List.getElem?_eq_getElem hi, by rw [e, List.getD_eq_getElem?_getD, List.getElem?_eq_getElem hi]; rfl⟩
    refine set_update_ints ((Walks.list hA3 _ l nI xs).toS) s.heap.objs.size nS ns lx hb vals (xs.size - 0) 0 _ (by omega) (Nat.zero_le _) ⟨⟨_, Heap.get?_push_size _ rfl, rfl, rfl⟩, gL.push _⟩ ⟨0, Nat.le_refl 0, setR_new_at (Heap.get?_push_of_some _ gS)⟩ ?_
    rintro ⟨h', g', d', tk', os'⟩ n hm hn hS
    obtain rfl : g' = s.gens := hm.gens
    obtain rfl : d' = s.drawn := hm.drawn
    obtain rfl : os' = s.os := hm.os
    refine wpAny_pure (show wpAny _ _ (ret Value.none) _ _ _ from wpAny_pure ⟨rfl, h', tk', n, rfl, hS, by omega, fun b o e => ?_⟩)
    have lb := Heap.lt_size e
    refine hm.heap b o ?_ (Heap.get?_push_of_some _ (Heap.get?_push_of_some _ e))
    rw [sz]
    simp only [List.mem_cons, List.not_mem_nil, or_false, not_or]
    exact ⟨Nat.ne_of_lt lb, Nat.ne_of_lt (Nat.lt_succ_of_lt lb)⟩
  · rcases r with e | fl
    · exact hr
    rcases fl with _ | _ | _ | v
    · exact hr.elim
    · exact hr.elim
    · exact hr.elim
    obtain ⟨rfl, h', tk, n, rfl, a1, a2, a3⟩ := hr
    repeat (any_goals (first | assumption | wp_step))
    exact hQ _ _ _ a1 a2 a3
end
end Zd

set_option Elab.async false
set_option maxRecDepth 100000
set_option maxHeartbeats 8000000
/-! Zd6: list(zip(xs, ys)) of a list of texts and a list of anything. -/
namespace Zd
open PySem PySem.Spec PyProof.Rows L2
theorem zip_noLen : typeLookup (.type "zip") "__len__" = pure none := am_miss_of_fast (by decide +kernel)
theorem zip_noHint : typeLookup (.type "zip") "__length_hint__" = pure none := am_miss_of_fast (by decide +kernel)
abbrev lstO (acc : Array Value) (c : Nat) : Obj := { cls := .type "list", dict := none, data := .seq acc c, slots := #[] }
section
variable {P : Program} {w : World} {A : Around} {E : Value → Shared → Prop} {s : Shared} {R : Result → Shared → Prop}
/-- the loop of list.extend over an iterator at I that is told by St: how many it has given, what it gave, the heap -/
theorem ext_loop {S I : Addr} {n : Nat} {res : Value} {St : Nat → List Value → Heap → Prop} (hn : n ≤ sizeLine)
    (hItem : ∀ (i : Nat) (l : List Value) (s : Shared) (Q : Option Value → Shared → Prop) (E : Value → Shared → Prop), i < n → St i l s.heap →
      (∀ v h', St (i + 1) (l ++ [v]) h' → h'.get? S = s.heap.get? S → Q (some v) { s with heap := h' }) → wpAny (model P w) A.in1 (pyNext (.ref I)) Q E s)
    (hPush : ∀ (i : Nat) (l : List Value) (h h' : Heap), St i l h → (∀ b o, b ≠ S → h.get? b = some o → h'.get? b = some o) → (∃ o, h'.get? S = some o) → St i l h')
    (hDone : ∀ (l : List Value) (h : Heap) (Q : Option Value → Shared → Prop) (E : Value → Shared → Prop) (acc : Array Value) (c : Nat), St n l h → acc.toList = l → h.get? S = some (lstO acc c) →
      (∀ h', R (.ok (.ret res)) { s with heap := h' } → Q none { s with heap := h' }) → wpAny (model P w) A.in1 (pyNext (.ref I)) Q E { s with heap := h }) :
    ∀ (k i : Nat) (h : Heap) (acc : Array Value) (c : Nat), n - i = k → i ≤ n → acc.size = i → St i acc.toList h → h.get? S = some (lstO acc c) →
      codeAny (model P w) A (.builtin "list.extend.loop" ⟨[.ref S, .ref I, res], []⟩) R { s with heap := h } := by
  intro k
  induction k with
  | zero =>
    intro i h acc c hk hi ha hst hS
    have e : i = n := by omega
    subst e
    refine codeAny_builtin PySem.F.entry_extend_loop ?_
    rw [Around.under_plainId PySem.F.plain_extend_loop _]
    show wpAny _ A.in1 (pyNext (.ref I) >>= _) _ _ _
    exact wpAny_bind (hDone acc.toList h _ _ acc c hst rfl hS fun h' r => wpAny_pure r)
  | succ k ih =>
    intro i h acc c hk hi ha hst hS
    refine codeAny_builtin PySem.F.entry_extend_loop ?_
    rw [Around.under_plainId PySem.F.plain_extend_loop _]
    show wpAny _ A.in1 (pyNext (.ref I) >>= _) _ _ _
    refine wpAny_bind (hItem i acc.toList { s with heap := h } _ _ (by omega) hst fun v h' st' eS => ?_)
    have eS : h'.get? S = some (lstO acc c) := eS.trans hS
    show wpAny _ A.in1 (updateSeq S (·.push v) >>= _) _ _ _
    refine wpAny_bind ?_
    refine wpAny_updateSeq eS rfl (wpAny_pure ⟨plainId_quiet PySem.F.plain_extend_loop _, ih (i + 1) (h'.update S (Obj.mapSeq (·.push v))) (acc.push v) _ (by omega) (by omega) (by rw [Array.size_push, ha]) ?_ (Heap.get?_update_self _ eS rfl)⟩) (by rw [ha]; omega) (by show (acc.push v).size ≤ sizeLine + 1; rw [Array.size_push, ha]; omega)
    rw [Array.toList_push]
    exact hPush _ _ _ _ st' (fun b o hb e => (Heap.get?_update_other _ _ (Ne.symm hb)).trans e) ⟨_, Heap.get?_update_self _ eS rfl⟩
/-- a zip over the lists at l1, l2 that has given i pairs, all of them kept, above S -/
structure ZSt (S z TI TO i1 i2 l1 l2 : Addr) (xs ys : Array Value) (h0 : Heap) (i : Nat) (l : List Value) (h : Heap) : Prop where
  ti : IsPair h TI (.ref i1) (.ref i2)
  a1 : h.IsListIter i1 l1 i
  a2 : h.IsListIter i2 l2 i
  b1 : h.IsList l1 xs
  b2 : h.IsList l2 ys
  zs : (i = 0 ∧ IsZip h z TI TO .none ∧ ∃ a b, IsPair h TO a b) ∨ ∃ T f oT, IsZipHeld h z TI TO T f ∧ h.get? T = some oT ∧ S < T
  there : ∃ o, h.get? S = some o
  out : ∃ as : List Addr, l = as.map Value.ref ∧ as.length = i ∧ as.Pairwise (· < ·) ∧ (∀ a ∈ as, S < a) ∧ ∀ (j : Nat) (a : Addr), as[j]? = some a → ∃ x y, xs[j]? = some x ∧ ys[j]? = some y ∧ IsPair h a x y
  old : ∀ b o, b ≠ S → b ≠ z → b ≠ TO → b ≠ i1 → b ≠ i2 → h0.get? b = some o → h.get? b = some o
/-- the zip's own objects lie below S -/
structure ZLow (S z TI TO i1 i2 l1 l2 : Addr) : Prop where
  z : z < S
  ti : TI < S
  to : TO < S
  i1 : i1 < S
  i2 : i2 < S
  l1 : l1 < S
  l2 : l2 < S
variable {S z TI TO i1 i2 l1 l2 : Addr} {xs ys : Array Value} {h0 : Heap}
theorem ZSt.push (L : ZLow S z TI TO i1 i2 l1 l2) {i : Nat} {l : List Value} {h h' : Heap} (x : ZSt S z TI TO i1 i2 l1 l2 xs ys h0 i l h) (k : ∀ b o, b ≠ S → h.get? b = some o → h'.get? b = some o) (hz : ∃ o, h'.get? S = some o) : ZSt S z TI TO i1 i2 l1 l2 xs ys h0 i l h' where
  ti := k _ _ (Nat.ne_of_lt L.ti) x.ti
  a1 := let ⟨o, e, r⟩ := x.a1; ⟨o, k _ _ (Nat.ne_of_lt L.i1) e, r⟩
  a2 := let ⟨o, e, r⟩ := x.a2; ⟨o, k _ _ (Nat.ne_of_lt L.i2) e, r⟩
  b1 := let ⟨o, e, r⟩ := x.b1; ⟨o, k _ _ (Nat.ne_of_lt L.l1) e, r⟩
  b2 := let ⟨o, e, r⟩ := x.b2; ⟨o, k _ _ (Nat.ne_of_lt L.l2) e, r⟩
  zs := by
    rcases x.zs with ⟨e, e1, a, b, e2⟩ | ⟨T, f, oT, e1, e2, e3⟩
    · exact .inl ⟨e, k _ _ (Nat.ne_of_lt L.z) e1, a, b, k _ _ (Nat.ne_of_lt L.to) e2⟩
    · exact .inr ⟨T, f, oT, k _ _ (Nat.ne_of_lt L.z) e1, k _ _ (Nat.ne_of_gt e3) e2, e3⟩
  there := hz
  out := by
    obtain ⟨as, e1, e2, e3, e4, e5⟩ := x.out
    refine ⟨as, e1, e2, e3, e4, fun j a hj => ?_⟩
    obtain ⟨u, v, c1, c2, c3⟩ := e5 j a hj
    exact ⟨u, v, c1, c2, k _ _ (Nat.ne_of_gt (e4 a (List.mem_of_getElem? hj))) c3⟩
  old := fun b o n1 n2 n3 n4 n5 e => k b o n1 (x.old b o n1 n2 n3 n4 n5 e)
theorem ZSt.item (D : ZipApart z TI TO i1 i2 l1 l2) (L : ZLow S z TI TO i1 i2 l1 l2) {i : Nat} {l : List Value} {Q : Option Value → Shared → Prop} (x : ZSt S z TI TO i1 i2 l1 l2 xs ys h0 i l s.heap) (h1 : i < xs.size) (h2 : i < ys.size)
    (q : ∀ v h', ZSt S z TI TO i1 i2 l1 l2 xs ys h0 (i + 1) (l ++ [v]) h' → h'.get? S = s.heap.get? S → Q (some v) { s with heap := h' }) : wpAny (model P w) A (pyNext (.ref z)) Q E s := by
  obtain ⟨oS, hoS⟩ := x.there
  have lS : S < s.heap.objs.size := Heap.lt_size hoS
  have fin : ∀ h' : Heap, (∃ T f oT, IsZipHeld h' z TI TO T f ∧ h'.get? T = some oT ∧ S < T) → h'.IsListIter i1 l1 (i + 1) → h'.IsListIter i2 l2 (i + 1) → IsPair h' s.heap.objs.size xs[i] ys[i] → h'.objs.size = s.heap.objs.size + 1 →
      (∀ c o, c ≠ z → c ≠ TO → c ≠ i1 → c ≠ i2 → s.heap.get? c = some o → h'.get? c = some o) → Q (some (.ref s.heap.objs.size)) { s with heap := h' } := by
    intro h' hf c1 c2 c3 c4 kp
    obtain ⟨as, e1, e2, e3, e4, e5⟩ := x.out
    have kpS : ∀ (c : Addr) (o : Obj), S < c → s.heap.get? c = some o → h'.get? c = some o := fun c o hc e => kp c o (Nat.ne_of_gt (Nat.lt_trans L.z hc)) (Nat.ne_of_gt (Nat.lt_trans L.to hc)) (Nat.ne_of_gt (Nat.lt_trans L.i1 hc)) (Nat.ne_of_gt (Nat.lt_trans L.i2 hc)) e
    refine q _ h' ⟨kp _ _ D.TIz D.TITO D.TIi1 D.TIi2 x.ti, c1, c2, ?_, ?_, .inr hf, ⟨oS, kp S oS (Nat.ne_of_gt L.z) (Nat.ne_of_gt L.to) (Nat.ne_of_gt L.i1) (Nat.ne_of_gt L.i2) hoS⟩, ⟨as ++ [s.heap.objs.size], ?_, ?_, ?_, ?_, ?_⟩, fun b o n1 n2 n3 n4 n5 e => kp b o n2 n3 n4 n5 (x.old b o n1 n2 n3 n4 n5 e)⟩ ?_
    · obtain ⟨o, e, r⟩ := x.b1
      exact ⟨o, kp _ _ D.l1z D.l1TO D.l1i1 D.l1i2 e, r⟩
    · obtain ⟨o, e, r⟩ := x.b2
      exact ⟨o, kp _ _ D.l2z D.l2TO D.l2i1 D.l2i2 e, r⟩
    · rw [e1, List.map_append]; rfl
    · rw [List.length_append, e2]; rfl
    · refine List.pairwise_append.mpr ⟨e3, List.pairwise_singleton _ _, fun a ha b hb => ?_⟩
      rw [List.mem_singleton.mp hb]
      obtain ⟨j, hj⟩ := List.mem_iff_getElem?.mp ha
      obtain ⟨_, _, _, _, e⟩ := e5 j a hj
      exact Heap.lt_size e
    · intro a ha
      rcases List.mem_append.mp ha with ha | ha
      · exact e4 a ha
      · rw [List.mem_singleton.mp ha]; exact lS
    · intro j a hj
      by_cases hlt : j < as.length
      · rw [List.getElem?_append_left hlt] at hj
        obtain ⟨u, v, d1, d2, d3⟩ := e5 j a hj
        exact ⟨u, v, d1, d2, kpS a _ (e4 a (List.mem_of_getElem? hj)) d3⟩
      · have hlen := (List.getElem?_eq_some_iff.mp hj).1
        rw [List.length_append, List.length_singleton] at hlen
        have ej : j = i := by omega
        subst ej
        rw [List.getElem?_append_right (by omega), e2, Nat.sub_self] at hj
        have := Option.some.inj hj
        subst this
        exact ⟨_, _, Array.getElem?_eq_getElem h1, Array.getElem?_eq_getElem h2, c3⟩
    · rw [hoS]
      exact kp S oS (Nat.ne_of_gt L.z) (Nat.ne_of_gt L.to) (Nat.ne_of_gt L.i1) (Nat.ne_of_gt L.i2) hoS
  rcases x.zs with ⟨e, e1, a, b, e2⟩ | ⟨T, f, oT, e1, e2, e3⟩
  · exact wpAny_pyNext_zip_item D e1 x.ti e2 x.a1 x.a2 x.b1 x.b2 (Array.getElem?_eq_getElem h1) (Array.getElem?_eq_getElem h2) fun h' a1 a2 a3 a4 a5 a6 a7 => fin h' ⟨_, false, _, a1, a5, lS⟩ a3 a4 a5 a6 a7
  · exact wpAny_pyNext_zip_item_held D e1 e2 x.ti x.a1 x.a2 x.b1 x.b2 (Array.getElem?_eq_getElem h1) (Array.getElem?_eq_getElem h2) fun h' a1 a3 a4 a5 a6 a7 => fin h' ⟨T, true, oT, a1, a7 T oT (Nat.ne_of_gt (Nat.lt_trans L.z e3)) (Nat.ne_of_gt (Nat.lt_trans L.i1 e3)) (Nat.ne_of_gt (Nat.lt_trans L.i2 e3)) e2, e3⟩ a3 a4 a5 a6 fun c o n1 _ n3 n4 e => a7 c o n1 n3 n4 e
theorem ZSt.done (hh : A.handled = none) (D : ZipApart z TI TO i1 i2 l1 l2) (L : ZLow S z TI TO i1 i2 l1 l2) {i : Nat} {l : List Value} {Q : Option Value → Shared → Prop} (x : ZSt S z TI TO i1 i2 l1 l2 xs ys h0 i l s.heap) (h1 : xs.size ≤ i ∨ ys.size ≤ i)
    (q : ∀ h', (∀ b o, b ≠ z → b ≠ TO → b ≠ i1 → b ≠ i2 → s.heap.get? b = some o → h'.get? b = some o) → Q none { s with heap := h' }) : wpAny (model P w) A (pyNext (.ref z)) Q E s := by
  have he : xs[i]? = none ∨ ys[i]? = none := h1.imp (fun h => by simp [h]) fun h => by simp [h]
  rcases x.zs with ⟨e, e1, a, b, e2⟩ | ⟨T, f, oT, e1, e2, e3⟩
  · exact wpAny_pyNext_zip_end hh D e1 x.ti e2 x.a1 x.a2 x.b1 x.b2 he q
  · exact wpAny_pyNext_zip_end_held hh D e1 e2 x.ti x.a1 x.a2 x.b1 x.b2 he fun h' k => q h' fun b o n1 _ n3 n4 e => k b o n1 n3 n4 e
/-- list(a zip just made) -/
theorem list_of_zip {n : Nat} {Q : Value → Shared → Prop} (hh : A.handled = none) (D : ZipApart z TI TO i1 i2 l1 l2) (L : ZLow s.heap.objs.size z TI TO i1 i2 l1 l2) (hz : IsZip s.heap z TI TO .none) (hTI : IsPair s.heap TI (.ref i1) (.ref i2)) (hTO : ∃ a b, IsPair s.heap TO a b)
    (a1 : s.heap.IsListIter i1 l1 0) (a2 : s.heap.IsListIter i2 l2 0) (b1 : s.heap.IsList l1 xs) (b2 : s.heap.IsList l2 ys) (n1 : xs.size = n) (n2 : ys.size = n) (hn : n ≤ sizeLine)
    (q : ∀ (h' : Heap) (tk : Nat) (acc : Array Value) (c : Nat) (as : List Addr), (∀ b o, b ≠ z → b ≠ TO → b ≠ i1 → b ≠ i2 → s.heap.get? b = some o → h'.get? b = some o) → h'.get? s.heap.objs.size = some (lstO acc c) → acc.toList = as.map Value.ref → as.length = n → as.Pairwise (· < ·) → (∀ a ∈ as, s.heap.objs.size < a) →
      (∀ (j : Nat) (a : Addr), as[j]? = some a → ∃ x y, xs[j]? = some x ∧ ys[j]? = some y ∧ IsPair h' a x y) → Q (.ref s.heap.objs.size) { s with heap := h', toks := tk }) :
    wpAny (model P w) A (call (.type "list") [.ref z]) Q E s := by
  let S := s.heap.objs.size
  refine callType_codes (Q₁ := fun v t => v = .ref S ∧ t = { s with heap := s.heap.push (lstO #[] 0) }) PySem.F.called_list (PySem.F.typeCall_list_1 _) PySem.F.entry_list_init (code_list_new _ ⟨rfl, rfl⟩) fun v t ht => ?_
  obtain ⟨rfl, rfl⟩ := ht
  have gS : (s.heap.push (lstO #[] 0)).get? S = some (lstO #[] 0) := Heap.get?_push_size _ rfl
  refine ⟨⟨_, gS, rfl⟩, PySem.F.args_list_init_2 _ _, ?_⟩
  show wpAny _ _ (do
    let old ← Builtin.List.listItems (.ref S)
    Builtin.List.listUpdate (.ref S) (fun _ => #[])
    letGo old.toList.reverse
    Builtin.List.listExtendWith (.ref S) (.ref z) .none) _ _ _
  refine wpAny_bind (m := Builtin.List.listItems (.ref S)) ?_
  unfold Builtin.List.listItems
  refine wpAny_bind (wpAny_seqItems gS rfl (wpAny_pure ?_))
  refine wpAny_bind (m := Builtin.List.listUpdate (.ref S) fun _ => #[]) ?_
  show wpAny _ _ (updateSeq S fun _ => #[]) _ _ _
  refine wpAny_updateSeq gS rfl ?_
  have gS1 := Heap.get?_update_self (Obj.mapSeq fun _ => (#[] : Array Value)) gS rfl
  generalize hh1 : (s.heap.push (lstO #[] 0)).update S (Obj.mapSeq fun _ => (#[] : Array Value)) = H1 at gS1 ⊢
  have k1 : ∀ b o, b ≠ S → s.heap.get? b = some o → H1.get? b = some o := fun b o hb e => by
    rw [← hh1]
    exact (Heap.get?_update_other _ _ (Ne.symm hb)).trans (Heap.get?_push_of_some _ e)
  refine wpAny_bind (wpAny_letGo ?_)
  have zS : z ≠ S := Nat.ne_of_lt L.z
  have x1 : ZSt S z TI TO i1 i2 l1 l2 xs ys s.heap 0 [] H1 := {
    ti := k1 _ _ (Nat.ne_of_lt L.ti) hTI
    a1 := let ⟨o, e, r⟩ := a1; ⟨o, k1 _ _ (Nat.ne_of_lt L.i1) e, r⟩
    a2 := let ⟨o, e, r⟩ := a2; ⟨o, k1 _ _ (Nat.ne_of_lt L.i2) e, r⟩
    b1 := let ⟨o, e, r⟩ := b1; ⟨o, k1 _ _ (Nat.ne_of_lt L.l1) e, r⟩
    b2 := let ⟨o, e, r⟩ := b2; ⟨o, k1 _ _ (Nat.ne_of_lt L.l2) e, r⟩
    zs := let ⟨a, b, e⟩ := hTO; .inl ⟨rfl, k1 _ _ zS hz, a, b, k1 _ _ (Nat.ne_of_lt L.to) e⟩
    there := ⟨_, gS1⟩
    out := ⟨[], rfl, rfl, .nil, (fun _ h => nomatch h), fun j _ h => by cases j <;> cases h⟩
    old := fun b o n1 _ _ _ _ e => k1 b o n1 e }
  have ty : Shared.TypeIs { s with heap := H1 } (.ref z) "zip" := ⟨_, k1 _ _ zS hz, rfl⟩
  unfold Builtin.List.listExtendWith
  refine wpAny_bind (wpAny_typeOf (T := "zip") ty ?_)
  have f1 : Builtin.List.listSameRef (.ref S) (.ref z) = false := by simp [Builtin.List.listSameRef, Ne.symm zS]
  have f2 : (Value.type "zip" == Value.type "list") = false := by decide
  have f3 : (Value.type "zip" == Value.type "tuple") = false := by decide
  simp only [f1, f2, f3, Bool.or_false, Bool.false_eq_true, if_false]
  refine wpAny_bind (wpAny_pyIter_zip (k1 _ _ zS hz) ?_)
  refine wpAny_bind (wpAny_holding ?_)
  unfold Builtin.List.listLengthHint
  refine wpAny_bind (wpAny_specialOf ty zip_noLen ?_)
  refine wpAny_bind (wpAny_specialOf ty zip_noHint (wpAny_pure ?_))
  refine wpAny_bind (m := rule "list.extend.makes-room") (wpAny_rule ?_)
  refine wpAny_bind (m := Builtin.List.listTouch (.ref S)) ?_
  show wpAny _ _ (updateSeq S (·.push .none) >>= fun _ => updateSeq S (·.pop)) _ _ _
  refine wpAny_bind (wpAny_updateSeq gS1 rfl ?_)
  have gS2 := Heap.get?_update_self (Obj.mapSeq (·.push Value.none)) gS1 rfl
  refine wpAny_updateSeq (hz := by seq_fits) gS2 rfl ?_
  have gS3 := Heap.get?_update_self (Obj.mapSeq (·.pop)) gS2 rfl
  have k2 : ∀ b o, b ≠ S → H1.get? b = some o → ((H1.update S (Obj.mapSeq (·.push Value.none))).update S (Obj.mapSeq (·.pop))).get? b = some o := fun b o hb e =>
    (Heap.get?_update_other _ _ (Ne.symm hb)).trans ((Heap.get?_update_other _ _ (Ne.symm hb)).trans e)
  have x2 := x1.push L k2 ⟨_, gS3⟩
  have hA : A.in1.in1.handled = none := hh
  refine wpAny_pure ⟨plainId_quiet PySem.F.plain_extend_loop _, ?_⟩
  refine ext_loop (n := n) (St := ZSt S z TI TO i1 i2 l1 l2 xs ys s.heap) hn (fun i l t Q' E' hi x k => x.item D L (by omega) (by omega) k) (fun i l h h' x k e => x.push L k e)
    (fun l h Q' E' acc c x el eS k => x.done (s := { s with heap := h }) hA D L (.inl (by omega)) fun h' kp => k h' ⟨rfl, ?_⟩) n 0 _ #[] _ rfl (Nat.zero_le _) rfl x2 gS3
  obtain ⟨as, e1, e2, e3, e4, e5⟩ := x.out
  have kS : ∀ (b : Addr) (o : Obj), S ≤ b → h.get? b = some o → h'.get? b = some o := fun b o hb e => kp b o (Nat.ne_of_gt (Nat.lt_of_lt_of_le L.z hb)) (Nat.ne_of_gt (Nat.lt_of_lt_of_le L.to hb)) (Nat.ne_of_gt (Nat.lt_of_lt_of_le L.i1 hb)) (Nat.ne_of_gt (Nat.lt_of_lt_of_le L.i2 hb)) e
  refine q h' s.toks acc c as (fun b o m1 m2 m3 m4 e => kp b o m1 m2 m3 m4 (x.old b o (Nat.ne_of_lt (Heap.lt_size e)) m1 m2 m3 m4 e)) (kS S _ (Nat.le_refl _) eS) (el.trans e1) e2 e3 e4 fun j a hj => ?_
  obtain ⟨u, v, d1, d2, d3⟩ := e5 j a hj
  exact ⟨u, v, d1, d2, kS a _ (Nat.le_of_lt (e4 a (List.mem_of_getElem? hj))) d3⟩
end
end Zd

set_option Elab.async false
set_option maxRecDepth 100000
set_option maxHeartbeats 8000000
/-! Zd7: the rules over the layer for set(xs), sorted(set(xs)), len(set(xs)), list(zip(xs, ys)). -/
namespace Zd
open PySem PySem.Spec PyProof.Rows L2
/-- new pairs at their addresses -/
def layT (H : Hp) : List Addr → List (V × V) → Hp
  | a :: as, p :: ps => upd (layT H as ps) a (.tup [p.1, p.2])
  | _, _ => H
theorem layT_off {H : Hp} {b : Addr} : ∀ (as : List Addr) (ps : List (V × V)), b ∉ as → layT H as ps b = H b
  | [], _, _ => rfl
  | _ :: _, [], _ => rfl
  | a :: as, p :: ps, h => by
    rw [List.mem_cons, not_or] at h
    show upd (layT H as ps) a _ b = _
    rw [upd_ne h.1, layT_off as ps h.2]
theorem layT_at {H : Hp} : ∀ (as : List Addr) (ps : List (V × V)), as.Nodup → ∀ (j : Nat) (a : Addr) (p : V × V), as[j]? = some a → ps[j]? = some p → layT H as ps a = some (.tup [p.1, p.2])
  | [], _, _, j, _, _, h, _ => by cases j <;> cases h
  | _ :: _, [], _, j, _, _, _, h => by cases j <;> cases h
  | c :: as, q :: ps, nd, 0, a, p, h1, h2 => by
    have e1 := Option.some.inj h1
    have e2 := Option.some.inj h2
    subst e1 e2
    exact upd_same
  | c :: as, q :: ps, nd, j + 1, a, p, h1, h2 => by
    have h1' : as[j]? = some a := h1
    have nc : a ≠ c := fun e => (List.nodup_cons.mp nd).1 (by rw [← e]; exact List.mem_of_getElem? h1')
    show upd (layT H as ps) c _ a = _
    rw [upd_ne nc]
    exact layT_at as ps (List.nodup_cons.mp nd).2 j a p h1' h2
section
variable {X : Cx} {pins : List (Addr × Obj)} {σ : L2.St} {H : Hp} {s : Shared}
/-- a new list of new pairs -/
theorem pairs_laid {h' : Heap} {tk c : Nat} {S : Addr} {acc : Array Value} {as : List Addr} {ps : List (V × V)} (I : Inv X pins σ H s) (hS0 : s.heap.objs.size ≤ S) (hk : ∀ b o, s.heap.get? b = some o → h'.get? b = some o) (hS : h'.get? S = some (lstO acc c)) (ha : acc.toList = as.map Value.ref)
    (hl : as.length = ps.length) (rise : as.Pairwise (· < ·)) (above : ∀ a ∈ as, S < a) (hz : ps.length ≤ sizeLine) (hp : ∀ (j : Nat) (a : Addr), as[j]? = some a → ∃ p u v, ps[j]? = some p ∧ RelV p.1 u ∧ RelV p.2 v ∧ IsPair h' a u v) :
    Inv X pins σ (layT (upd H S (.lst (as.map V.ref))) as ps) { s with heap := h', toks := tk } := by
  have nS : S ∉ as := fun z => Nat.lt_irrefl _ (above S z)
  have nd : as.Nodup := rise.imp fun h => Nat.ne_of_lt h
  have new : ∀ b, b = S ∨ b ∈ as → H b = none := fun b hb => I.hok.fresh (by
    rcases hb with e | e
    · rw [e]; exact hS0
    · exact Nat.le_trans hS0 (Nat.le_of_lt (above b e)))
  have low : ∀ b o, s.heap.get? b = some o → ¬ (b = S ∨ b ∈ as) := fun b o e z => by
    have := Heap.lt_size e
    rcases z with z | z
    · rw [z] at this; exact Nat.lt_irrefl _ (Nat.lt_of_lt_of_le this hS0)
    · exact Nat.lt_irrefl _ (Nat.lt_trans (Nat.lt_of_lt_of_le this hS0) (above b z))
  have off : ∀ b, ¬ (b = S ∨ b ∈ as) → layT (upd H S (.lst (as.map V.ref))) as ps b = H b := fun b z => by
    rw [not_or] at z
    rw [layT_off as ps z.2, upd_ne z.1]
  have kp : ∀ b u, H b = some u → layT (upd H S (.lst (as.map V.ref))) as ps b = some u := fun b u e => by
    rw [off b fun z => by rw [new b z] at e; cases e]
    exact e
  have u : Un (frs X.stack) [] H (layT (upd H S (.lst (as.map V.ref))) as ps) s.heap h' := {
    keep := fun b o q _ _ _ => hk b o q
    slot := fun b o q _ _ _ => ⟨o.slots, hk b o q⟩
    free := fun b o q n _ => by rw [off b (low b o q)]; exact n
    there := fun b o q _ => ⟨o, hk b o q⟩
    tups := fun b xs q => kp b _ q
    frzs := fun b o u q => kp b _ q
    tbls := fun b ps q => ⟨#[], by rw [kp b _ q]; simp⟩ }
  refine I.call' (ch := []) rfl u (fun b o q => ?_) I.bare fun b z => nomatch z
  by_cases hb : b ∈ as
  · obtain ⟨j, hj⟩ := List.mem_iff_getElem?.mp hb
    obtain ⟨p, x, y, e1, e2, e3, e4⟩ := hp j b hj
    rw [layT_at as ps nd j b p hj e1] at q
    cases q
    exact ⟨by show 2 ≤ sizeLine; decide, [x, y], .cons e2 (.cons e3 .nil), ⟨_, e4, rfl, _, rfl⟩⟩
  by_cases hb2 : b = S
  · subst hb2
    rw [layT_off as ps nS, upd_same] at q
    cases q
    exact ⟨by rw [List.length_map, hl]; exact hz, acc.toList, c, by rw [ha]; exact LiI.vals_refs as, by rw [Array.toArray_toList]; exact hS⟩
  · rw [off b (not_or.mpr ⟨hb2, hb⟩)] at q
    exact (I.hok b o q).stay (fun d v _ y => hk d v y) (fun d y => kp d _ y) fun d xs y => kp d _ y
end
/-- list(zip(a, b)): a list of new pairs -/
def tListZip (K : PySem.W.Frag) (ta : TA) : TE := fun σ H Q => ta σ H fun vs H1 => ∃ (a b : Addr) (xs ys : List V), vs = [.ref a, .ref b] ∧ SqL K H1 a xs ∧ SqL K H1 b ys ∧ xs.length = ys.length ∧ xs.length ≤ sizeLine ∧
  ∀ (p : Addr) (as : List Addr), H1 p = none → (∀ t ∈ as, H1 t = none) → p ∉ as → as.Nodup → as.length = xs.length → Q (.ref p) (layT (upd H1 p (.lst (as.map V.ref))) as (xs.zip ys))
section
variable {X : Cx} {K : PySem.W.Frag}
theorem pe_listZip (hK : X.K = K) {e e2 : Expr} {ta : TA} {p p2 q pos : Pos} (hc : X.calm = true) (hg : Gl X "list") (hm : X.mg "list" = none) (hg2 : Gl X "zip") (hm2 : X.mg "zip" = none) (ha : PA X [e, e2] ta)
    (hs : starEach [e, e2] X.env = (false, eval e X.env) :: starEach [e2] X.env := by rfl) (hpl : (backTo q (starEach [e2] X.env)).any (·.1) = false := by rfl)
    (hs0 : starEach [.Call (.Name "zip" p2) [e, e2] [] q] X.env = (false, eval (.Call (.Name "zip" p2) [e, e2] [] q) X.env) :: starEach [] X.env := by rfl) :
    PE X (.Call (.Name "list" p) [.Call (.Name "zip" p2) [e, e2] [] q] [] pos) (tListZip K ta) := by
  subst hK
  refine ⟨fun pins s σ H Q I h => ?_⟩
  refine wpAny_Call_Name_kw (ld_blt I hg hm PyProof.Rows.boot_list (PyProof.Rows.callWith_type1 ?_ hs0 rfl))
  rw [hs0]
  show wpAny _ _ (spliced ((false, eval (.Call (.Name "zip" p2) [e, e2] [] q) X.env) :: backTo pos (starEach [] X.env))) _ _ s
  refine Calls.spliced_cons ?_
  refine Call_ (ld_blt I hg2 hm2 PyProof.Rows.boot_zip (PyProof.Rows.callWith_type1 (thn (ha.run q pins s σ H _ I h) fun us s1 ⟨vs, H1, I1, r1, q1⟩ => ?_) hs hpl))
  obtain ⟨a, b, xs, ys, rfl, hx, hy, hl, hz, qq⟩ := q1
  cases r1 with
  | cons ra rr =>
    cases rr with
    | cons rb rr =>
      cases rr; cases ra; cases rb
      obtain ⟨us1, rv1, p1, _⟩ := I1.list hx
      obtain ⟨us2, rv2, p2', _⟩ := I1.list hy
      have la : a < s1.heap.objs.size := p1.lt
      have lb : b < s1.heap.objs.size := p2'.lt
      refine call_zip_2 p1.isList p2'.isList fun hz' z1 z2 z3 z4 z5 z6 z7 => Calls.spliced_nil ?_
      have l1 := rv1.length
      have l2 := rv2.length
      have bl : ∀ {l : Addr} {zs : Array Value}, s1.heap.IsList l zs → hz'.IsList l zs := fun ⟨o, eo, r⟩ => ⟨o, z7 _ o eo, r⟩
      refine list_of_zip (s := { s1 with heap := hz' }) (n := xs.length) (I1.ok.hd hc) (PySem.W.ktu_apart s1.heap.objs.size a b la lb) ⟨?_, ?_, ?_, ?_, ?_, ?_, ?_⟩ z1 z2 ⟨_, _, z3⟩ z4 z5 (bl p1.isList) (bl p2'.isList) (by rw [List.size_toArray]; omega) (by rw [List.size_toArray]; omega) hz fun h' tk acc c as kp hS hacc hal rise above hpr => ?_
      · show s1.heap.objs.size + 4 < hz'.objs.size; omega
      · show s1.heap.objs.size + 2 < hz'.objs.size; omega
      · show s1.heap.objs.size + 3 < hz'.objs.size; omega
      · show s1.heap.objs.size < hz'.objs.size; omega
      · show s1.heap.objs.size + 1 < hz'.objs.size; omega
      · show a < hz'.objs.size; exact Nat.lt_of_lt_of_le la (by omega)
      · show b < hz'.objs.size; exact Nat.lt_of_lt_of_le lb (by omega)
      have keep : ∀ b o, s1.heap.get? b = some o → h'.get? b = some o := fun b o e => by
        have lt := Heap.lt_size e
        exact kp b o (Nat.ne_of_lt (Nat.lt_of_lt_of_le lt (Nat.le_add_right _ _))) (Nat.ne_of_lt (Nat.lt_of_lt_of_le lt (Nat.le_add_right _ _))) (Nat.ne_of_lt lt) (Nat.ne_of_lt (Nat.lt_succ_of_lt lt)) (z7 b o e)
      have le0 : s1.heap.objs.size ≤ hz'.objs.size := by omega
      have zl : (xs.zip ys).length = xs.length := by rw [List.length_zip, ← hl, Nat.min_self]
      have J := pairs_laid (tk := tk) (ps := xs.zip ys) I1 le0 keep hS hacc (by rw [hal, zl]) rise above (by rw [zl]; exact hz) fun j t hj => by
        obtain ⟨u, v, e1, e2, e3⟩ := hpr j t hj
        have hjl : j < xs.length := by rw [← hal]; exact (List.getElem?_eq_some_iff.mp hj).1
        obtain ⟨u', hu', ru⟩ := rv1.get (List.getElem?_eq_getElem hjl)
        obtain ⟨v', hv', rvv⟩ := rv2.get (List.getElem?_eq_getElem (show j < ys.length by omega))
        have eu : u' = u := by
          have : us1[j]? = some u := by simpa using e1
          exact Option.some.inj (hu'.symm.trans this)
        have ev : v' = v := by
          have : us2[j]? = some v := by simpa using e2
          exact Option.some.inj (hv'.symm.trans this)
        subst eu ev
        exact ⟨(xs[j], ys[j]), u', v', by rw [List.getElem?_zip_eq_some]; exact ⟨List.getElem?_eq_getElem hjl, List.getElem?_eq_getElem (by omega)⟩, ru, rvv, e3⟩
      refine ⟨.ref hz'.objs.size, _, J, rfl, qq _ as (I1.hok.fresh le0) (fun t ht => I1.hok.fresh (Nat.le_trans le0 (Nat.le_of_lt (above t ht)))) (fun z => Nat.lt_irrefl _ (above _ z)) (rise.imp fun h => Nat.ne_of_lt h) hal⟩
/-- set(xs) of a list of ints -/
def rSetL (K : PySem.W.Frag) (w : World) : List V → Hp → VK → Prop := fun vs H Q => ∃ (a : Addr) (ns : List Int), vs = [.ref a] ∧ SqL K H a (ns.map V.int) ∧ ns.length ≤ 1000 ∧
  ∀ (p : Addr) (n : Nat), H p = none → (∀ ms : List Int, ms.Nodup → (∀ k, k ∈ ms ↔ k ∈ ns) → ms.length = n) → n ≤ ns.length → Q (.ref p) (upd H p (SetO w p (fun j => decide (j ∈ ns)) n))
theorem cr_setL (hK : X.K = K) {w : World} (hw : X.w = w) (hc : X.calm = true) : CallR X (.type "set") (rSetL K w) := by
  subst hK hw
  intro pins s σ H vs us Q I r h
  obtain ⟨a, ns, rfl, hq, hl, q⟩ := h
  rw [Vals.ref1 r]
  obtain ⟨its, rv, pl, _⟩ := I.list hq
  refine set_of_lst ns (I.ok.hd hc) pl.isList (by simpa using ints_of_vals rv) (by unfold scanBound; omega) fun h' tk n R hn k => ?_
  have hp : H s.heap.objs.size = none := I.hok.fresh (Nat.le_refl _)
  refine ⟨.ref _, _, I.laid (t' := tk) k (Nat.le_refl _) (setO_new R), rfl, q _ n hp (fun ms nd hm => ?_) hn⟩
  obtain ⟨o, es, ep, t, _, _, _, _, nk, hmem, _, _, hsz, _, _⟩ := R
  have pm : ms.Perm (es.toList.map keyOf) := (List.perm_ext_iff_of_nodup nd nk).mpr fun k => by rw [hm k, ← hmem k, decide_eq_true_eq]
  rw [pm.length_eq, List.length_map, Array.length_toList, hsz]
theorem cr_sortedSetW {w : World} (hw : X.w = w) (hc : X.calm = true) : CallR X (.builtin "sorted") (rSortedSet w) := by
  subst hw
  exact cr_sortedSet hc
/-- len of a set -/
def rLenSet (w : World) : List V → Hp → VK → Prop := fun vs H Q => ∃ (a : Addr) (S : Int → Bool) (n : Nat), vs = [.ref a] ∧ H a = some (SetO w a S n) ∧ Q (.int n) H
theorem cr_lenSet {w : World} (hw : X.w = w) : CallR X (.builtin "len") (rLenSet w) := by
  subst hw
  intro pins s σ H vs us Q I r h
  obtain ⟨a, S, n, rfl, ha, q⟩ := h
  rw [Vals.ref1 r]
  obtain ⟨o, es, ep, t, ho, hex, hd, _, _, _, hb, hf, hn, _, _⟩ := setO_get I ha
  exact call_len_set ho hex hd hf (by unfold scanBound at hb; omega) ⟨.int n, H, I.tok _, ⟨_, by rw [hn]⟩, q⟩
end
end Zd

set_option Elab.async false
set_option maxRecDepth 100000
set_option maxHeartbeats 8000000
/-! Zd8: sets, zips, enumerates, dicts of scalars, by data. -/
namespace Zd
open PySem L2 StX
section
variable {c : Bs} {δ : Fe} {te ta tb tk tv : TE} {tt : TT} {tr : TA} {P R T : Dt → Prop}
/-- a set of a list of ints, within an expression -/
theorem set_go {K : PySem.W.Frag} {w : World} {ns : List Int} {σ : L2.St} {G H : Hp} (ha : De c ta δ (.lst (ns.map Dt.int))) (hl : ns.length ≤ 1000) (e : Ec c G H σ δ) {Q : VK}
    (q : ∀ p n G' H', Gx c.b G H G' H' → H' p = some (SetO w p (fun j => decide (j ∈ ns)) n) → (∀ ms : List Int, ms.Nodup → (∀ k, k ∈ ms ↔ k ∈ ns) → ms.length = n) → n ≤ ns.length → Q (.ref p) H') : tCB (rSetL K w) (tCons ta tNil) σ H Q :=
  ha σ G H e _ fun v d G1 H1 g1 d1 p1 => by
    subst p1
    cases d1 with
    | lst a1 a2 =>
      have ev := a2.ints
      subst ev
      exact ⟨_, ns, rfl, SqL.of (g1.gh _ _ a1), hl, fun p n hp hd hn => q p n G1 _ (g1.trans e.jj (Gx.put g1.gh g1.jj hp)) upd_same hd hn⟩
/-- sorted(set(xs)) -/
theorem dl_sortedSet {K : PySem.W.Frag} {w : World} {ns : List Int} (ha : De c ta δ (.lst (ns.map Dt.int))) (hl : ns.length < 64) :
    Dl c (tCB (rSortedSet w) (tCons (tCB (rSetL K w) (tCons ta tNil)) tNil)) δ (fun ds => ∃ ms : List Int, ds = ms.map Dt.int ∧ ms.Pairwise (· < ·) ∧ (∀ k, k ∈ ms ↔ k ∈ ns)) := fun σ G H e Q q =>
  set_go ha (by omega) e fun p n G1 H1 g1 h1 hd hn => ⟨p, _, n, rfl, h1, by omega, fun ms l as hm _ hl' => by
    refine q l (ms.map V.int) (ms.map Dt.int) G1 _ (g1.trans e.jj (Gx.put g1.gh g1.jj hl')) (g1.fresh e.jj hl') ?_ upd_same (Dqs.of_ints ms) ⟨ms, rfl, as, fun k => by rw [hm k, decide_eq_true_eq]⟩
    cases k : G1 l with
    | none => rfl
    | some u => rw [g1.gh l u k] at hl'; cases hl'⟩
/-- len(set(xs)) -/
theorem de_lenSet {K : PySem.W.Frag} {w : World} {ns ms : List Int} (ha : De c ta δ (.lst (ns.map Dt.int))) (hl : ns.length ≤ 1000) (hm : ms.Nodup) (hk : ∀ k, k ∈ ms ↔ k ∈ ns) :
    De c (tCB (rLenSet w) (tCons (tCB (rSetL K w) (tCons ta tNil)) tNil)) δ (.int ms.length) := fun σ G H e Q q =>
  set_go ha hl e fun p n G1 H1 g1 h1 hd hn => ⟨p, _, n, rfl, h1, q _ _ G1 H1 g1 (.int _) (by rw [hd ms hm hk])⟩
/-- list(zip(xs, ys)) -/
def zipD (xs ys : List Dt) : List Dt := (xs.zip ys).map fun p => .tup [p.1, p.2]
theorem dqs_zip {G : Hp} : ∀ {vs us : List V} {xs ys : List Dt} {as : List Addr}, Dqs G vs xs → Dqs G us ys → as.length = vs.length → vs.length = us.length →
    (∀ (j : Nat) (a : Addr) (p : V × V), as[j]? = some a → (vs.zip us)[j]? = some p → G a = some (.tup [p.1, p.2])) → Dqs G (as.map V.ref) (zipD xs ys)
  | _, _, _, _, [], .nil, .nil, _, _, _ => .nil
  | _, _, _, _, a :: as, .cons h1 t1, .cons h2 t2, hl, hl2, k => by
    refine .cons (.tup (k 0 a _ rfl rfl) (.cons h1 (.cons h2 .nil))) (dqs_zip t1 t2 (by simpa using hl) (by simpa using hl2) fun j b p e1 e2 => k (j + 1) b p e1 e2)
theorem layT_sub {H : Hp} {p : Addr} {o : HO} {as : List Addr} {ps : List (V × V)} (hp : H p = none) (ha : ∀ t ∈ as, H t = none) : Same H (layT (upd H p o) as ps) := fun b u e => by
  rw [layT_off as ps (fun z => by rw [ha b z] at e; cases e), upd_ne (ne_of_none e hp)]
  exact e
theorem layT_only {H : Hp} {b : Addr} : ∀ (as : List Addr) (ps : List (V × V)), layT H as ps b ≠ none → H b ≠ none ∨ b ∈ as
  | [], _, h => .inl h
  | _ :: _, [], h => .inl h
  | a :: as, p :: ps, h => by
    by_cases e : b = a
    · exact .inr (by rw [e]; exact List.mem_cons_self)
    · have h' : layT H as ps b ≠ none := by
        have : upd (layT H as ps) a (.tup [p.1, p.2]) b ≠ none := h
        rwa [upd_ne e] at this
      exact (layT_only as ps h').imp id fun z => List.mem_cons_of_mem _ z
theorem layT_same {G H : Hp} (s : Same G H) : ∀ (as : List Addr) (ps : List (V × V)), Same (layT G as ps) (layT H as ps)
  | [], _ => s
  | _ :: _, [] => s
  | a :: as, p :: ps => fun b o e => by
    have e' : upd (layT G as ps) a (.tup [p.1, p.2]) b = some o := e
    show upd (layT H as ps) a (.tup [p.1, p.2]) b = some o
    by_cases h : b = a
    · subst h
      rw [upd_same] at e' ⊢
      exact e'
    · rw [upd_ne h] at e' ⊢
      exact layT_same s as ps b o e'
theorem dl_listZip {K : PySem.W.Frag} {xs ys : List Dt} (ha : De c ta δ (.lst xs)) (hb : De c tb δ (.lst ys)) (hl : xs.length = ys.length) (hz : xs.length ≤ 10000000) : Dl c (tListZip K (tCons ta (tCons tb tNil))) δ (· = zipD xs ys) := fun σ G H e Q q =>
  ha σ G H e _ fun v x G1 H1 g1 d1 p1 => hb σ G1 H1 (e.up g1) _ fun u y G2 H2 g2 d2 p2 => by
    subst p1 p2
    have g := g1.trans e.jj g2
    cases d1 with
    | lst a1 a2 =>
      cases d2 with
      | lst b1 b2 =>
        rename_i va vs ua us
        have l1 := a2.length
        have l2 := b2.length
        refine ⟨_, _, vs, us, rfl, SqL.of (g2.gh _ _ (g2.gg _ _ a1)), SqL.of (g2.gh _ _ b1), by omega, sz_ok (by omega), fun p as hp ht np nd hal => ?_⟩
        have fr : ∀ t, H2 t = none → G2 t = none := fun t h => by
          cases k : G2 t with
          | none => rfl
          | some o => rw [g2.gh t o k] at h; cases h
        have sub : Same G2 (layT G2 as (vs.zip us)) := fun b o k => by
          rw [layT_off as _ (fun z => by rw [fr b (ht b z)] at k; cases k)]
          exact k
        have big : Same (layT G2 as (vs.zip us)) (layT (upd H2 p (.lst (as.map V.ref))) as (vs.zip us)) := layT_same (fun b o k => by
          rw [upd_ne (ne_of_none (g2.gh b o k) hp)]
          exact g2.gh b o k) as _
        have at' : ∀ (j : Nat) (a : Addr) (w : V × V), as[j]? = some a → (vs.zip us)[j]? = some w → layT G2 as (vs.zip us) a = some (.tup [w.1, w.2]) := fun j a w e1 e2 => layT_at as _ nd j a w e1 e2
        refine q p (as.map V.ref) _ (layT G2 as (vs.zip us)) _ ⟨g.gg.trans sub, fun b o ns k => layT_sub hp ht b o (g.hh b o ns k), big, fun b k => ?_, c.b.st _ _ g.jj fun b sb => ?_⟩ (g.fresh e.jj hp) ?_ ?_ (dqs_zip ((a2.up g2.gg).up sub) (b2.up sub) hal (by omega) at') rfl
        · rcases layT_only as _ k with z | z
          · exact g.nw b z
          · exact .inr (g.fresh e.jj (ht b z))
        · have hb2 := c.b.hs _ _ g.jj sb
          rw [layT_off as _ (fun z => hb2 (ht b z)), upd_ne (fun z => hb2 (by rw [z]; exact hp))]
        · rw [layT_off as _ np]; exact fr p hp
        · rw [layT_off as _ np, upd_same]
/-- enumerate(xs) -/
def enumD (xs : List Dt) : List Dt := xs.mapIdx fun i d => .tup [.int (i : Int), d]
theorem di_enum {K : PySem.W.Frag} {xs : List Dt} (h : De c te δ (.lst xs)) : Di c (iEnum K (tCons te tNil)) δ (· = enumD xs) := fun σ G H e R q =>
  h σ G H e _ fun v x G1 H1 g1 d1 p1 => by
    subst p1
    cases d1 with
    | lst a1 a2 =>
      rename_i a vs
      refine ⟨a, vs, rfl, SqL.of (g1.gh _ _ a1), q _ (enumD xs) G1 H1 g1 rfl fun i G2 H2 s1 s2 j => ⟨fun hi => ?_, fun hi => ?_⟩⟩
      · have hi' : i < xs.length := by simpa [enumD] using hi
        obtain ⟨y, hy, dy⟩ := a2.get (List.getElem?_eq_getElem hi')
        refine ⟨⟨vs, y, SqL.of (s2 _ _ (s1 _ _ a1)), hy⟩, fun z H' hz => ?_⟩
        obtain ⟨T, y', rfl, hT, rfl, hx⟩ := hz
        have e3 := Option.some.inj ((hx vs (SqL.of (s2 _ _ (s1 _ _ a1)))).symm.trans hy)
        subst e3
        refine ⟨.tup [.int (i : Int), xs[i]], _, by simp [enumD, hi'], (Gx.refl s2 j).newDat j hT (.tup [.int (i : Nat), y']), .tup upd_same (.cons (.int _) (.cons ?_ .nil))⟩
        exact dy.up fun b o k => by
          have k2 := s1 b o k
          rw [upd_ne (ne_of_none (s2 b o k2) hT)]
          exact k2
      · exact ⟨vs, SqL.of (s2 _ _ (s1 _ _ a1)), by rw [a2.length]; simpa [enumD] using hi⟩

/-! ### dicts of scalars -/
def vOf : Dt → V
  | .bl b => .bl b
  | .int i => .int i
  | .str s => .str s
  | _ => .non
theorem vOf_dq {G : Hp} {v : V} {d : Dt} (h : Dq G v d) (s : d.scal = true) : v = vOf d ∧ ∀ G', Dq G' (vOf d) d := by
  cases h with
  | non => exact ⟨rfl, fun _ => .non⟩
  | bl b => exact ⟨rfl, fun _ => .bl b⟩
  | int i => exact ⟨rfl, fun _ => .int i⟩
  | str x => exact ⟨rfl, fun _ => .str x⟩
  | lst _ _ => cases s
  | tup _ _ => cases s
def keyD : Key → Dt
  | .inl i => .int i
  | .inr s => .str s
theorem keyD_dq {G : Hp} {v : V} {k : Key} (h : Dq G v (keyD k)) : v = kV k := by
  cases k with
  | inl i => cases h; rfl
  | inr s => cases h; rfl
/-- a new dict -/
def Dd (c : Bs) (te : TE) (δ : Fe) (P : List (Key × V) → Prop) : Prop := ∀ (σ : L2.St) (G H : Hp), Ec c G H σ δ → ∀ Q : VK, (∀ p kvs G' H', Gx c.b G H G' H' → H p = none → G' p = none → H' p = some (.dK kvs) → P kvs → Q (.ref p) H') → te σ H Q
theorem dd_dc {wi : TI} {g : TG} {vs : List Nat} {S : List Dt → Prop} {T : List (Key × V) → Prop} (hw : Di c wi δ S)
    (h : ∀ xs, S xs → ∃ I : Nat → List (Key × V) → Prop, I 0 [] ∧ (∀ i d acc, xs[i]? = some d → I i acc →
        Dg c g d (wipeF δ vs) vs (fun δ2 => ∃ k x, De c tk δ2 (keyD k) ∧ De c tv δ2 x ∧ x.scal = true ∧ I (i + 1) (putK acc k (vOf x)))) ∧
      (∀ acc, I xs.length acc → T acc) ∧ xs.length ≤ 10000000 ∧ ∀ i acc, I i acc → acc.length ≤ i) : Dd c (tDc wi g tYes tk tv vs) δ T := fun σ G H e Q q => by
  refine hw σ G H e _ fun J xs G1 H1 g1 s1 ok => ?_
  obtain ⟨I, i0, turn, fin, hlen, hsz⟩ := h xs s1
  intro D hD
  have hD0 : H D = none := g1.fresh e.jj hD
  have gD1 : G1 D = none := by
    cases k : G1 D with
    | none => rfl
    | some u => rw [g1.gh D u k] at hD; cases hD
  have notS : ¬ c.b.S D := fun s => c.b.hs _ _ g1.jj s hD
  have keepD : ∀ {Ga Ha Gb Hb : Hp} {ws : List (Key × V)}, Gx c.b Ga Ha Gb Hb → Ha D = some (.dK ws) → Ga D = none → Hb D = some (.dK ws) ∧ Gb D = none := fun {Ga Ha Gb Hb ws} gg hh nn => ⟨gg.hh D _ notS hh, by
    cases k : Gb D with
    | none => rfl
    | some u =>
      rcases gg.nw D (by rw [k]; simp) with z | z
      · exact absurd nn z
      · rw [hh] at z; cases z⟩
  refine ⟨fun i m Hi => m = xs.length - i ∧ i ≤ xs.length ∧ ∃ Gi acc, Gx c.b G H Gi Hi ∧ Same G1 Gi ∧ Hi D = some (.dK acc) ∧ Gi D = none ∧ I i acc, ⟨xs.length, by simp, Nat.zero_le _, G1, [], g1.trans e.jj (Gx.put g1.gh g1.jj hD), Same.refl _, upd_same, gD1, i0⟩, ?_⟩
  rintro i m Hi ⟨rfl, hi, Gi, acc, gi, si, hDi, gDi, ia⟩
  obtain ⟨okgo, okstop⟩ := ok i Gi Hi si gi.gh gi.jj
  by_cases hlt : i < xs.length
  · obtain ⟨go, step⟩ := okgo hlt
    refine .inr ⟨go, fun H' => ∃ Gi' acc', Gx c.b G H Gi' H' ∧ Same G1 Gi' ∧ H' D = some (.dK acc') ∧ Gi' D = none ∧ I (i + 1) acc', fun H' hn => ⟨xs.length - (i + 1), by omega, rfl, hlt, hn⟩, fun x H' hy => ?_⟩
    obtain ⟨d, G2, hd, g2, dx⟩ := step x H' hy
    have gi2 := gi.trans e.jj g2
    obtain ⟨hD2, gD2⟩ := keepD g2 hDi gDi
    refine turn i d acc hd ia (L2.wipe σ vs) G2 H' x ((e.up gi2).wipe vs) dx _ fun δ3 σ3 G3 H3 e3 g3 w3 k3 => ?_
    obtain ⟨hD3, gD3⟩ := keepD g3 hD2 gD2
    obtain ⟨key, y, hk, hv, hs, hI⟩ := k3
    refine ⟨by rw [w3, wipe_wipe], ?_⟩
    show tk σ3 H3 _
    refine hk σ3 G3 H3 e3 _ fun u du G4 H4 g4 dq4 p4 => hv σ3 G4 H4 (e3.up g4) _ fun z dz G5 H5 g5 dq5 p5 => ?_
    subst p4 p5
    obtain ⟨hD4, gD4⟩ := keepD g4 hD3 gD3
    obtain ⟨hD5, gD5⟩ := keepD g5 hD4 gD4
    have gx5 := ((gi2.trans e.jj g3).trans e.jj g4).trans e.jj g5
    refine ⟨acc, key, keyD_dq dq4, hD5, sz_lt' (by have := hsz i acc ia; omega), G5, putK acc key z, Gx.poke e.jj gx5 hD0 gD5, (((si.trans g2.gg).trans g3.gg).trans g4.gg).trans g5.gg, upd_same, gD5, ?_⟩
    rw [(vOf_dq dq5 hs).1]
    exact hI
  · have ei : i = xs.length := by omega
    subst ei
    exact .inl ⟨okstop (Nat.le_refl _), q D acc Gi Hi gi hD0 gDi hDi (fin acc ia)⟩
/-- a dict of keys and scalars -/
abbrev DKo (kvs : List (Key × V)) : Hp → Addr → HO → Prop := fun _ _ o => o = .dK kvs
/-- x = a new dict -/
theorem ds_letObj {i : Nat} {ts : TS} {p : Po} {S : List (Key × V) → Prop} (h : Dd c te δ S) (k : ∀ kvs, S kvs → Ds c ts (δ.set i (.obj (DKo kvs))) p) : Ds c (tSeq (tAsg te (gName i)) ts) δ p :=
  ds_seq (M := fun δ' => ∃ kvs, S kvs ∧ δ' = δ.set i (.obj (DKo kvs))) (fun D σ G H e n r b q =>
    h σ G H e _ fun a kvs G1 H1 g1 h1 h2 h3 h4 => n _ _ G1 H1 g1.gg ((e.up g1).setOwn i (.obj (DKo kvs)) (fun k y hk oy sk => e.noSlot h1 k y hk oy sk) fun hlt => ⟨a, _, List.getElem?_set_self (by rw [e.len]; exact hlt), h3, h2, e.gx.fresh e.j0 h1, fun _ _ => rfl⟩) ⟨kvs, h4, rfl⟩) fun δ' ⟨kvs, hs, e⟩ => by rw [e]; exact k kvs hs
/-- d[k] -/
theorem de_dget {i : Nat} {kvs : List (Key × V)} {k : Key} {x : Dt} (h : δ[i]? = some (.obj (DKo kvs))) (hk : De c te δ (keyD k)) (hx : valV kvs k = some (vOf x)) (hs : ∀ G, Dq G (vOf x) x) : De c (tDGet (tVar i) te) δ x := fun σ G H e Q q => by
  obtain ⟨a, o, e1, h1, h2, h3, h4⟩ := e.sl i _ h
  refine ⟨.ref a, e1, ?_⟩
  refine hk σ G H e _ fun v d G1 H1 g1 d1 p1 => ?_
  subst p1
  obtain ⟨a', o', e1', h1', _, _, h4'⟩ := (e.up g1).sl i _ h
  rw [e1] at e1'
  have ea := V.ref.inj (Option.some.inj (Option.some.inj e1'))
  subst ea
  refine ⟨a, vOf x, rfl, ?_, q _ _ G1 H1 g1 (hs G1) rfl⟩
  rw [keyD_dq d1, ← hx]
  exact DGet.k (by rw [h1', h4' G1 (Same.refl _)])
end
end Zd

set_option Elab.async false
set_option maxRecDepth 100000
set_option maxHeartbeats 8000000
/-! Zd9: comprehensions with two clauses, == of data, by data. -/
namespace Zd
open PySem L2 StX
/-- a frame without objects of its own stands wherever the data's heap has grown -/
theorem En.upNo {b : Bx} {G0 H0 G H G' H' : Hp} {σ : L2.St} {δ : Fe} (e : En b G0 H0 G H σ δ) (hno : (δ.all fun x => !x.owns) = true) (gg : Same G G') (gx : Gx b G0 H0 G' H') : En b G0 H0 G' H' σ δ := by
  have no : ∀ (k : Nat) (y : Sl), δ[k]? = some y → y.owns = false := fun k y h => by
    have := List.all_eq_true.mp hno y (List.mem_of_getElem? h)
    simpa using this
  refine ⟨e.j0, gx, e.len, fun i x h => ?_, fun i k x y p hx _ ox _ _ _ => by rw [no i x hx] at ox; cases ox⟩
  have q := e.sl i x h
  have n := no i x h
  cases x with
  | un => trivial
  | dat d => obtain ⟨v, e1, q1⟩ := q; exact ⟨v, e1, q1.up gg⟩
  | own ds => cases n
  | obj o => cases n
  | raw v => exact q
section
variable {c : Bs} {δ : Fe} {te ta tb : TE} {P R T : Dt → Prop}
/-- [f d y for d in xs for y in ys d] -/
theorem dl_lc2 {wi wi1 : TI} {g g1 : TG} {vs vs1 : List Nat} {xs : List Dt} (f : Dt → Dt → Dt) (ys : Dt → List Dt) (hw : Di c wi δ (· = xs)) (hlen : (xs.flatMap fun d => (ys d).map (f d)).length ≤ 10000000)
    (h : ∀ d ∈ xs, Dg c g d (wipeF δ vs) vs (fun δ2 => (δ2.all fun x => !x.owns) = true ∧ Di c wi1 δ2 (· = ys d) ∧ ∀ y ∈ ys d, Dg c g1 y (wipeF δ2 vs1) vs1 (fun δ3 => De c te δ3 (f d y)))) :
    Dl c (tLc2 wi g tYes wi1 g1 tYes te vs vs1) δ (· = xs.flatMap fun d => (ys d).map (f d)) := fun σ G H e Q q => by
  refine hw σ G H e _ fun J xs' G1 H1 g1' s1 ok => ?_
  subst s1
  intro D hD
  have hD0 : H D = none := g1'.fresh e.jj hD
  have gD1 : G1 D = none := by
    cases k : G1 D with
    | none => rfl
    | some u => rw [g1'.gh D u k] at hD; cases hD
  have notS : ¬ c.b.S D := fun s => c.b.hs _ _ g1'.jj s hD
  have keepD : ∀ {Ga Ha Gb Hb : Hp} {ws : List V}, Gx c.b Ga Ha Gb Hb → Ha D = some (.lst ws) → Ga D = none → Hb D = some (.lst ws) ∧ Gb D = none := fun {Ga Ha Gb Hb ws} gg hh nn => ⟨gg.hh D _ notS hh, by
    cases k : Gb D with
    | none => rfl
    | some u =>
      rcases gg.nw D (by rw [k]; simp) with z | z
      · exact absurd nn z
      · rw [hh] at z; cases z⟩
  have part : ∀ (i : Nat) (d : Dt), xs'[i]? = some d → (xs'.take (i + 1)).flatMap (fun d => (ys d).map (f d)) = (xs'.take i).flatMap (fun d => (ys d).map (f d)) ++ (ys d).map (f d) := fun i d hd => by
    rw [List.take_add_one, hd, List.flatMap_append]
    simp
  have small : ∀ (i : Nat), ((xs'.take i).flatMap (fun d => (ys d).map (f d))).length ≤ 10000000 := fun i => by
    have e1 : xs' = xs'.take i ++ xs'.drop i := (List.take_append_drop i xs').symm
    have : (xs'.flatMap fun d => (ys d).map (f d)).length = ((xs'.take i).flatMap fun d => (ys d).map (f d)).length + ((xs'.drop i).flatMap fun d => (ys d).map (f d)).length := by
      conv => lhs; rw [e1]
      rw [List.flatMap_append, List.length_append]
    omega
  refine ⟨fun i m Hi => m = xs'.length - i ∧ i ≤ xs'.length ∧ ∃ Gi ws, Gx c.b G H Gi Hi ∧ Same G1 Gi ∧ Hi D = some (.lst ws) ∧ Gi D = none ∧ Dqs Gi ws ((xs'.take i).flatMap fun d => (ys d).map (f d)), ⟨xs'.length, by simp, Nat.zero_le _, G1, [], g1'.trans e.jj (Gx.put g1'.gh g1'.jj hD), Same.refl _, upd_same, gD1, by simpa using Dqs.nil⟩, ?_⟩
  rintro i m Hi ⟨rfl, hi, Gi, ws, gi, si, hDi, gDi, da⟩
  obtain ⟨okgo, okstop⟩ := ok i Gi Hi si gi.gh gi.jj
  by_cases hlt : i < xs'.length
  · obtain ⟨go, step⟩ := okgo hlt
    refine .inr ⟨go, fun H' => ∃ Gi' ws', Gx c.b G H Gi' H' ∧ Same G1 Gi' ∧ H' D = some (.lst ws') ∧ Gi' D = none ∧ Dqs Gi' ws' ((xs'.take (i + 1)).flatMap fun d => (ys d).map (f d)), fun H' hn => ⟨xs'.length - (i + 1), by omega, rfl, hlt, hn⟩, fun x H' hy => ?_⟩
    obtain ⟨d, G2, hd, g2, dx⟩ := step x H' hy
    have gi2 := gi.trans e.jj g2
    obtain ⟨hD2, gD2⟩ := keepD g2 hDi gDi
    refine h d (List.mem_of_getElem? hd) (L2.wipe σ vs) G2 H' x ((e.up gi2).wipe vs) dx _ fun δ3 σ3 G3 H3 e3 g3 w3 k3 => ?_
    obtain ⟨hD3, gD3⟩ := keepD g3 hD2 gD2
    obtain ⟨hno, hw1, hin⟩ := k3
    refine ⟨by rw [w3, wipe_wipe], ?_⟩
    show wi1 σ3 H3 _
    have gx3 := gi2.trans e.jj g3
    refine hw1 σ3 G3 H3 e3 _ fun J1 zs G4 H4 g4 s4 ok1 => ?_
    subst s4
    obtain ⟨hD4, gD4⟩ := keepD g4 hD3 gD3
    have gx4 := gx3.trans e.jj g4
    have s14 : Same G1 G4 := ((si.trans g2.gg).trans g3.gg).trans g4.gg
    have len1 : ∀ j : Nat, j ≤ (ys d).length → ((xs'.take i).flatMap (fun d => (ys d).map (f d))).length + j ≤ 10000000 := fun j hj => by
      have := small (i + 1)
      rw [part i d hd, List.length_append, List.length_map] at this
      omega
    refine ⟨fun j m Hj => m = (ys d).length - j ∧ j ≤ (ys d).length ∧ ∃ Gj ws', Gx c.b G H Gj Hj ∧ Same G4 Gj ∧ Hj D = some (.lst ws') ∧ Gj D = none ∧ Dqs Gj ws' ((xs'.take i).flatMap (fun d => (ys d).map (f d)) ++ ((ys d).take j).map (f d)),
      ⟨(ys d).length, by simp, Nat.zero_le _, G4, ws, gx4, Same.refl _, hD4, gD4, by simpa using da.up ((g2.gg.trans g3.gg).trans g4.gg)⟩, ?_⟩
    rintro j m Hj ⟨rfl, hj, Gj, ws', gj, sj, hDj, gDj, dj⟩
    obtain ⟨okgo1, okstop1⟩ := ok1 j Gj Hj sj gj.gh gj.jj
    by_cases hlt1 : j < (ys d).length
    · obtain ⟨go1, step1⟩ := okgo1 hlt1
      refine .inr ⟨go1, fun H' => ∃ Gj' ws', Gx c.b G H Gj' H' ∧ Same G4 Gj' ∧ H' D = some (.lst ws') ∧ Gj' D = none ∧ Dqs Gj' ws' ((xs'.take i).flatMap (fun d => (ys d).map (f d)) ++ ((ys d).take (j + 1)).map (f d)), fun H' hn => ⟨(ys d).length - (j + 1), by omega, rfl, hlt1, hn⟩, fun x1 H5 hy1 => ?_⟩
      obtain ⟨y, G5, hy, g5, dy⟩ := step1 x1 H5 hy1
      obtain ⟨hD5, gD5⟩ := keepD g5 hDj gDj
      have gx5 := gj.trans e.jj g5
      have e5 : Ec c G5 H5 σ3 δ3 := e3.upNo hno ((g4.gg.trans sj).trans g5.gg) (e.gx.trans e.j0 gx5)
      refine hin y (List.mem_of_getElem? hy) (L2.wipe σ3 vs1) G5 H5 x1 (e5.wipe vs1) dy _ fun δ6 σ6 G6 H6 e6 g6 w6 k6 => ?_
      obtain ⟨hD6, gD6⟩ := keepD g6 hD5 gD5
      refine ⟨by rw [w6, wipe_wipe], ?_⟩
      show te σ6 H6 _
      refine k6 σ6 G6 H6 e6 _ fun u du G7 H7 g7 dq7 p7 => ?_
      subst p7
      obtain ⟨hD7, gD7⟩ := keepD g7 hD6 gD6
      refine ⟨ws', hD7, sz_lt' ?_, G7, ws' ++ [u], Gx.poke e.jj ((gx5.trans e.jj g6).trans e.jj g7) hD0 gD7, (((sj.trans g5.gg).trans g6.gg).trans g7.gg), upd_same, gD7, ?_⟩
      · rw [dj.length, List.length_append, List.length_map, List.length_take]
        have := len1 (min j (ys d).length) (Nat.min_le_right _ _)
        omega
      · rw [List.take_add_one, hy, List.map_append, ← List.append_assoc]
        exact (dj.up ((g5.gg.trans g6.gg).trans g7.gg)).append (.cons dq7 .nil)
    · have ej : j = (ys d).length := by omega
      subst ej
      refine .inl ⟨okstop1 (Nat.le_refl _), Gj, ws', gj, s14.trans sj, hDj, gDj, ?_⟩
      rw [part i d hd]
      rw [List.take_length] at dj
      exact dj
  · have ei : i = xs'.length := by omega
    subst ei
    rw [List.take_length] at da
    exact .inl ⟨okstop (Nat.le_refl _), q D ws _ Gi Hi gi hD0 gDi hDi da rfl⟩
end
end Zd

set_option Elab.async false
set_option maxRecDepth 100000
set_option maxHeartbeats 4000000
/-! Zd10: a dict of the body's own whose keys are tuples of pairs of a text and an int. -/
namespace Zd
open PySem L2 StX PySem.Spec PyProof.Rows
/-- the key that a tuple of pairs is -/
def pairK (e : Str × Int) : NestedKey := .tup [.text e.1, .num e.2]
def pairsK (es : List (Str × Int)) : NestedKey := .tup (es.map pairK)
def pairD (e : Str × Int) : Dt := .tup [.str e.1, .int e.2]
theorem pairsK_inj {as bs : List (Str × Int)} (h : pairsK as = pairsK bs) : as = bs := by
  have h1 := NestedKey.tup.inj h
  have key : ∀ as bs : List (Str × Int), as.map pairK = bs.map pairK → as = bs := by
    intro as
    induction as with
    | nil => intro bs h; cases bs with
      | nil => rfl
      | cons b bs => cases h
    | cons a as ih => intro bs h; cases bs with
      | nil => cases h
      | cons b bs =>
        have e1 : pairK a = pairK b ∧ as.map pairK = bs.map pairK := List.cons.inj h
        obtain ⟨x, i⟩ := a
        obtain ⟨y, j⟩ := b
        have e2 := NestedKey.tup.inj e1.1
        have e3 := List.cons.inj e2
        have e4 := (List.cons.inj e3.2).1
        have e5 : x = y := NestedKey.text.inj e3.1
        have e6 : i = j := NestedKey.num.inj e4
        rw [e5, e6, ih bs e1.2]
  exact key as bs h1
theorem pairs_depth (es : List (Str × Int)) : (pairsK es).depth ≤ 8 := by
  have key : ∀ es : List (Str × Int), NestedKey.depthAll (es.map pairK) ≤ 1 := by
    intro es
    induction es with
    | nil => exact Nat.zero_le _
    | cons e r ih =>
      rw [List.map_cons, NestedKey.depthAll]
      have : (pairK e).depth ≤ 1 := by
        show NestedKey.depthAll [NestedKey.text e.1, NestedKey.num e.2] + 1 ≤ 1
        simp [NestedKey.depthAll, NestedKey.depth]
      omega
  have := key es
  show NestedKey.depthAll (es.map pairK) + 1 ≤ 8
  omega
section
variable {P : Program} {w : World} {G H : Hp} {h : Heap}
theorem pair_is (ok : HOk P w H h) (s : Same G H) {v : V} {u : Value} {e : Str × Int} (d : Dq G v (pairD e)) (r : RelV v u) : NestedIs h (pairK e) u := by
  cases d with
  | tup a1 a2 =>
    cases a2 with
    | cons b1 b2 =>
      cases b2 with
      | cons c1 c2 =>
        cases c2; cases b1; cases c1
        cases r
        obtain ⟨_, its, rv, o, ho, hc, n, hd⟩ := ok _ _ (s _ _ a1)
        refine .tup ho hc hd ?_
        cases rv with
        | cons r1 r2 =>
          cases r2 with
          | cons r3 r4 =>
            cases r4
            obtain ⟨t1, rfl⟩ := r1
            obtain ⟨t2, rfl⟩ := r3
            exact .cons (.text _ _) (.cons (.int _ _) .nil)
theorem pairs_all (ok : HOk P w H h) (s : Same G H) : ∀ {vs : List V} {us : List Value} {es : List (Str × Int)}, Dqs G vs (es.map pairD) → Vals vs us → NestedAll h (es.map pairK) us
  | [], _, [], .nil, r => by cases r; exact .nil
  | _ :: _, _, _ :: _, .cons d1 d2, r => by
    cases r with
    | cons r1 r2 => exact .cons (pair_is ok s d1 r1) (pairs_all ok s d2 r2)
theorem pairs_is (ok : HOk P w H h) (s : Same G H) {b : Addr} {es : List (Str × Int)} (d : Dq G (.ref b) (.tup (es.map pairD))) : (nestedKind P w).is h (pairsK es) b := by
  cases d with
  | tup a1 a2 =>
    obtain ⟨_, its, rv, o, ho, hc, n, hd⟩ := ok _ _ (s _ _ a1)
    exact ⟨.tup ho hc hd (by simpa using pairs_all ok s a2 rv), pairs_depth es⟩
end
/-- the dict, by its entries -/
def DRaw (P : Program) (w : World) (a : Addr) (xs : List (NestedKey × Addr × Value)) : HO := .ext fun h => (a == sysModules) = false ∧ ∃ o es ep, h.get? a = some o ∧ o.ExactDict ∧ o.data = .dict es ep ∧ es.toList = xs.map (entryOfKey (nestedKind P w)) ∧ (xs.map (·.1)).Nodup
section
variable {P : Program} {w : World} {H : Hp} {h h' : Heap} {a : Addr} {xs : List (NestedKey × Addr × Value)}
theorem dRaw_ok (hd : (a == sysModules) = false) (m : h.DictOfH (nestedKind P w) a xs) : ObjOk P w H h a (DRaw P w a xs) := by
  obtain ⟨o, es, ep, ho, h1, h2, h3, _, h4⟩ := m
  exact ⟨⟨hd, o, es, ep, ho, h1, h2, h3, h4⟩, ⟨o, ho⟩, fun g1 g2 ⟨z, o, es, ep, e, r⟩ k => ⟨z, o, es, ep, k o e, r⟩⟩
theorem dRaw_get (ok : HOk P w H h) (e : H a = some (DRaw P w a xs)) (hk : ∀ x ∈ xs, (nestedKind P w).is h x.1 x.2.1) : (a == sysModules) = false ∧ h.DictOfH (nestedKind P w) a xs := by
  obtain ⟨⟨z, o, es, ep, ho, h1, h2, h3, h4⟩, _, _⟩ := ok a _ e
  exact ⟨z, o, es, ep, ho, h1, h2, h3, hk, h4⟩
end
/-- {} -/
def tDNewN (P : Program) (w : World) : TE := fun _ H Q => ∀ p, H p = none → Q (.ref p) (upd H p (DRaw P w p []))
/-- d[y] = a bool -/
def sDPutN (P : Program) (w : World) (td ty tv : TE) : TS := fun D σ H => tv σ H fun v H1 => td σ H1 fun x H2 => ty σ H2 fun y H3 => ∃ (a b : Addr) (k : NestedKey) (vb : Bool) (xs : List (NestedKey × Addr × Value)),
  x = .ref a ∧ y = .ref b ∧ v = .bl vb ∧ H3 a = some (DRaw P w a xs) ∧ (∀ h, HOk P w H3 h → (∀ x ∈ xs, (nestedKind P w).is h x.1 x.2.1) ∧ (nestedKind P w).is h k b) ∧ xs.length ≤ sizeLine ∧ D.nx σ (upd H3 a (DRaw P w a (storedH xs k b (.bool vb))))
/-- len(d) -/
def rLenN (P : Program) (w : World) : List V → Hp → VK → Prop := fun vs H Q => ∃ (a : Addr) (xs : List (NestedKey × Addr × Value)), vs = [.ref a] ∧ H a = some (DRaw P w a xs) ∧ (∀ h, HOk P w H h → ∀ x ∈ xs, (nestedKind P w).is h x.1 x.2.1) ∧ xs.length ≤ sizeLine ∧ Q (.int xs.length) H
section
variable {X : Cx} {P : Program} {w : World} {o i value : Expr} {td ty tv : TE} {pos pos' : Pos}
theorem pe_dnewN (hP : X.prog = P) (hw : X.w = w) : PE X (.Dict [] [] pos) (tDNewN P w) := by
  subst hP hw
  refine ⟨fun pins s σ H Q I h => ?_⟩
  refine wpAny_Dict_empty ⟨.ref s.heap.objs.size, _, I.laid (a := s.heap.objs.size) (o := DRaw X.prog X.w s.heap.objs.size []) (t' := s.toks) (fun _ _ q => Heap.get?_push_of_some _ q) (Nat.le_refl _) (dRaw_ok (beq_eq_false_iff_ne.mpr (Ne.symm (Nat.ne_of_lt I.big))) (Heap.DictOfH.new s.heap)), rfl, h _ (I.hok.fresh (Nat.le_refl _))⟩
theorem ps_dputN (hP : X.prog = P) (hw : X.w = w) (hu : X.A.units + 64 < cLine) (ho : PE X o td) (hi : PE X i ty) (hv : PE X value tv) (hs : swapsWith value (some (.Subscript o i pos')) pos.line X.env = pure false) :
    PS X (.Assign [.Subscript o i pos'] value pos) (sDPutN P w td ty tv) := by
  subst hP hw
  refine ⟨fun pins s σ H D I h => ?_⟩
  refine wpAny_Assign_Subscript (thn (hv.run pins s σ H _ I h) fun r s1 ⟨v, H1, I1, rv, q1⟩ => thn (ho.run pins s1 σ H1 _ I1 q1) fun u s2 ⟨x, H2, I2, rx, q2⟩ => thn (hi.run pins s2 σ H2 _ I2 q2) fun iv s3 ⟨y, H3, I3, ry, a, b, k, vb, xs, ex, ey, ev, hd, hk, hz, q3⟩ => ?_) hs
  subst ex ey ev
  cases rx
  cases ry
  cases rv
  obtain ⟨k1, k2⟩ := hk _ I3.hok
  obtain ⟨z, m⟩ := dRaw_get I3.hok hd k1
  refine wpAny_setItem_heap (hsz := hz) (show X.A.in1.units + 8 < cLine from by rw [Around.in1_units]; omega) k2 m fun h' m' hs' => ?_
  have he : ∃ q, h'.get? a = some q := by
    obtain ⟨q, _, _, hq, _⟩ := m'
    exact ⟨q, hq⟩
  exact ⟨σ, _, I3.write (x := a) (e := a) (by rw [hd]; trivial) (.inl rfl) (fun b q hb e => (hs'.2 b hb).trans e) he (dRaw_ok z m'), q3⟩
theorem call_lenN (hP : X.prog = P) (hw : X.w = w) : CallR X (.builtin "len") (rLenN P w) := by
  subst hP hw
  intro pins s σ H vs us Q I r h
  obtain ⟨a, xs, rfl, hd, hk, hz, q⟩ := h
  rw [Vals.ref1 r]
  obtain ⟨z, m⟩ := dRaw_get I.hok hd (hk _ I.hok)
  exact call_len_dictH z m (by have := sizeLine_eq; have : (sizeLine : Nat) < 2 ^ 62 := by rw [sizeLine_eq]; decide
                               omega) ⟨.int _, H, I.tok _, ⟨_, rfl⟩, q⟩
end
/-- in a slot: the dict with the keys of the told rows of pairs, in order -/
def DSeen (P : Program) (w : World) (ks : List (List (Str × Int))) : Hp → Addr → HO → Prop := fun G p o => ∃ xs : List (NestedKey × Addr × Value), o = DRaw P w p xs ∧ xs.map (·.1) = ks.map pairsK ∧ ∀ x ∈ xs, ∃ es : List (Str × Int), x.1 = pairsK es ∧ Dq G (.ref x.2.1) (.tup (es.map pairD))
section
variable {c : Bs} {δ : Fe} {te ta tb : TE} {p : Po} {P : Program} {w : World}
theorem ds_letSeen {i : Nat} {ts : TS} (k : Ds c ts (δ.set i (.obj (DSeen P w []))) p) : Ds c (tSeq (tAsg (tDNewN P w) (gName i)) ts) δ p :=
  ds_seq (M := (· = δ.set i (.obj (DSeen P w [])))) (fun D σ G H e n r b q => fun a ha =>
    n _ _ G _ (Same.refl G) ((e.up (Gx.put e.same e.jj ha)).setOwn i (.obj (DSeen P w [])) (fun k y hk oy sk => e.noSlot ha k y hk oy sk) fun hlt =>
      ⟨a, _, List.getElem?_set_self (by rw [e.len]; exact hlt), upd_same, (by
        cases k : G a with
        | none => rfl
        | some u => rw [e.same a u k] at ha; cases ha), e.gx.fresh e.j0 ha, fun _ _ => ⟨[], rfl, rfl, fun _ h => by cases h⟩⟩) rfl) fun δ' e => by rw [e]; exact k
/-- the body's object at i is replaced -/
theorem En.pokeO {b : Bx} {G0 H0 G H : Hp} {σ : L2.St} (e : En b G0 H0 G H σ δ) {i : Nat} {Φ Ψ : Hp → Addr → HO → Prop} {a : Addr} {o : HO} (h : δ[i]? = some (.obj Φ)) (ha : σ[i]? = some (some (.ref a))) (hΨ : ∀ G', Same G G' → Ψ G' a o) : En b G0 H0 G (upd H a o) σ (δ.set i (.obj Ψ)) := by
  obtain ⟨p, o0, e1, h1, h2, h3, h4⟩ := e.sl i _ h
  rw [ha] at e1
  have ea := V.ref.inj (Option.some.inj (Option.some.inj e1))
  subst ea
  have hi : i < δ.length := (List.getElem?_eq_some_iff.mp h).1
  refine ⟨e.j0, Gx.poke e.j0 e.gx h3 h2, by rw [List.length_set, e.len], fun k x hk => ?_, fun k l y z q hk hl oy oz sk sl => ?_⟩
  · by_cases hik : i = k
    · subst hik
      rw [List.getElem?_set_self hi] at hk
      have := Option.some.inj hk
      subst this
      exact ⟨a, o, ha, upd_same, h2, h3, hΨ⟩
    · rw [List.getElem?_set_ne hik] at hk
      have q := e.sl k x hk
      have na : ∀ {p : Addr}, x.owns = true → σ[k]? = some (some (.ref p)) → p ≠ a := fun {p} ox s z => hik (e.apart i k _ x a h hk rfl ox ha (by rw [← z]; exact s))
      cases x with
      | un => trivial
      | dat d => exact q
      | own es =>
        obtain ⟨p, ws, e2, q1, q2, q3, q4⟩ := q
        exact ⟨p, ws, e2, by rw [upd_ne (na rfl e2)]; exact q1, q2, q3, q4⟩
      | obj Φ =>
        obtain ⟨p, o, e2, q1, q2⟩ := q
        exact ⟨p, o, e2, by rw [upd_ne (na rfl e2)]; exact q1, q2⟩
      | raw v => exact q
  · have ne : ∀ {m : Nat} {u : Sl}, (δ.set i (.obj Ψ))[m]? = some u → u.owns = true → ∃ u', δ[m]? = some u' ∧ u'.owns = true := fun {m u} hm ou => by
      by_cases him : i = m
      · subst him
        exact ⟨_, h, rfl⟩
      · rw [List.getElem?_set_ne him] at hm
        exact ⟨u, hm, ou⟩
    obtain ⟨y', a1, a2⟩ := ne hk oy
    obtain ⟨z', b1, b2⟩ := ne hl oz
    exact e.apart k l y' z' q a1 b1 a2 b2 sk sl
/-- seen[tuple(es)] = a bool, es a new key -/
theorem ds_seenPut {i : Nat} {ks : List (List (Str × Int))} {es : List (Str × Int)} {vb : Bool} (h : δ[i]? = some (.obj (DSeen P w ks))) (hv : De c tb δ (.bl vb)) (hy : De c te δ (.tup (es.map pairD))) (hn : es ∉ ks) (hl : ks.length ≤ 10000000)
    (k : p.N (δ.set i (.obj (DSeen P w (ks ++ [es]))))) : Ds c (sDPutN P w (tVar i) te tb) δ p := fun D σ G H e n r b q => by
  refine hv σ G H e _ fun v d G1 H1 g1 d1 p1 => ?_
  subst p1
  cases d1
  obtain ⟨a, o, e1, h1, h2, h3, h4⟩ := (e.up g1).sl i _ h
  refine ⟨.ref a, e1, ?_⟩
  refine hy σ G1 H1 (e.up g1) _ fun y d G2 H2 g2 d2 p2 => ?_
  subst p2
  have e2 := (e.up g1).up g2
  obtain ⟨a', o', e1', h1', h2', h3', h4'⟩ := e2.sl i _ h
  rw [e1] at e1'
  have ea := V.ref.inj (Option.some.inj (Option.some.inj e1'))
  subst ea
  obtain ⟨xs, rfl, hks, hx⟩ := h4' G2 (Same.refl _)
  have hlen : xs.length = ks.length := by
    have := congrArg List.length hks
    simpa using this
  generalize hD : Dt.tup (es.map pairD) = dd at d2
  cases d2 with
  | tup a1 a2 =>
    rename_i bb vs ds
    have dk : Dq G2 (.ref bb) (.tup (es.map pairD)) := by rw [hD]; exact .tup a1 a2
    refine ⟨a, bb, pairsK es, vb, xs, rfl, rfl, rfl, h1', fun hh ok => ⟨fun x hxx => ?_, pairs_is ok e2.same dk⟩, sz_ok (by omega), ?_⟩
    · obtain ⟨fs, e3, d3⟩ := hx x hxx
      rw [e3]
      exact pairs_is ok e2.same d3
    · have no : atKey xs (pairsK es) = none := by
        unfold atKey
        rw [Option.map_eq_none_iff, List.find?_eq_none]
        intro x hxx hdec
        have e4 : x.1 = pairsK es := of_decide_eq_true hdec
        have : pairsK es ∈ ks.map pairsK := by
          rw [← hks, ← e4]
          exact List.mem_map.mpr ⟨x, hxx, rfl⟩
        obtain ⟨fs, hf, e5⟩ := List.mem_map.mp this
        exact hn (pairsK_inj e5 ▸ hf)
      rw [storedH_new no]
      refine n _ _ G2 _ (g1.gg.trans g2.gg) (e2.pokeO h e1 fun G' s' => ⟨_, rfl, ?_, fun x hxx => ?_⟩) k
      · rw [List.map_append, List.map_append, hks]; rfl
      · rcases List.mem_append.mp hxx with hxx | hxx
        · obtain ⟨fs, e3, d3⟩ := hx x hxx
          exact ⟨fs, e3, d3.up s'⟩
        · rw [List.mem_singleton.mp hxx]
          exact ⟨es, rfl, dk.up s'⟩
  | _ => cases hD
/-- len(seen) -/
theorem de_lenSeen {i : Nat} {ks : List (List (Str × Int))} (h : δ[i]? = some (.obj (DSeen P w ks))) (hl : ks.length ≤ 10000000) : De c (tCB (rLenN P w) (tCons (tVar i) tNil)) δ (.int ks.length) := fun σ G H e Q q => by
  obtain ⟨a, o, e1, h1, h2, h3, h4⟩ := e.sl i _ h
  refine ⟨.ref a, e1, ?_⟩
  obtain ⟨xs, rfl, hks, hx⟩ := h4 G (Same.refl _)
  have hlen : xs.length = ks.length := by
    have := congrArg List.length hks
    simpa using this
  refine ⟨a, xs, rfl, h1, fun hh ok x hxx => ?_, sz_ok (by omega), ?_⟩
  · obtain ⟨fs, e3, d3⟩ := hx x hxx
    rw [e3]
    exact pairs_is ok e.same d3
  · rw [hlen]
    exact q _ _ G H (Gx.refl e.same e.jj) (.int _) rfl
end
end Zd

set_option Elab.async false
set_option maxRecDepth 100000
set_option maxHeartbeats 4000000
namespace K07
open PySem L2 StX Zd
def topS (i : Nat) : Stmt := PySem.Challenge.pw_missesnone_k07_all_inputs.main.body.getD i (.Pass ⟨0, 0, 0, 0⟩)
abbrev s_ranks : Stmt := topS 6
abbrev N_ranks : List Str := ["numbers", "ascending", "rank_of", "rank", "number"]
theorem sc_ranks : FnScope N_ranks ["numbers"] (defScope s_ranks) := ⟨rfl, rfl, rfl, by decide +kernel, rfl, by decide +kernel, by decide +kernel⟩
abbrev s_ranked : Stmt := topS 7
abbrev N_ranked : List Str := ["events", "names", "name", "_", "number"]
theorem sc_ranked : FnScope N_ranked ["events"] (defScope s_ranked) := ⟨rfl, rfl, rfl, by decide +kernel, rfl, by decide +kernel, by decide +kernel⟩
abbrev s_alike : Stmt := topS 8
abbrev N_alike : List Str := ["first", "second"]
theorem sc_alike : FnScope N_alike ["first", "second"] (defScope s_alike) := ⟨rfl, rfl, rfl, by decide +kernel, rfl, by decide +kernel, by decide +kernel⟩
abbrev s_all_inputs : Stmt := topS 9
abbrev N_all_inputs : List Str := ["names", "length", "found", "shorter", "_", "longer", "events"]
theorem sc_all_inputs : FnScope N_all_inputs ["names", "length"] (defScope s_all_inputs) := ⟨rfl, rfl, rfl, by decide +kernel, rfl, by decide +kernel, by decide +kernel⟩
abbrev s_one_longer : Stmt := topS 10
abbrev N_one_longer : List Str := ["names", "events", "doubled", "name", "number", "count", "_", "position"]
theorem sc_one_longer : FnScope N_one_longer ["names", "events"] (defScope s_one_longer) := ⟨rfl, rfl, rfl, by decide +kernel, rfl, by decide +kernel, by decide +kernel⟩
abbrev s__law_cell : Stmt := topS 12
abbrev N__law_cell : List Str := ["script", "k"]
theorem sc__law_cell : FnScope N__law_cell ["script", "k"] (defScope s__law_cell) := ⟨rfl, rfl, rfl, by decide +kernel, rfl, by decide +kernel, by decide +kernel⟩
abbrev s__law_source : Stmt := topS 13
abbrev N__law_source : List Str := ["cell", "k"]
theorem sc__law_source : FnScope N__law_source ["cell", "k"] (defScope s__law_source) := ⟨rfl, rfl, rfl, by decide +kernel, rfl, by decide +kernel, by decide +kernel⟩
abbrev s__law_pick : Stmt := topS 14
abbrev N__law_pick : List Str := ["source", "many", "picked", "mixed"]
theorem sc__law_pick : FnScope N__law_pick ["source", "many"] (defScope s__law_pick) := ⟨rfl, rfl, rfl, by decide +kernel, rfl, by decide +kernel, by decide +kernel⟩
abbrev s__law_worded : Stmt := topS 15
abbrev N__law_worded : List Str := ["source", "words"]
theorem sc__law_worded : FnScope N__law_worded ["source", "words"] (defScope s__law_worded) := ⟨rfl, rfl, rfl, by decide +kernel, rfl, by decide +kernel, by decide +kernel⟩
abbrev s__law_ranked : Stmt := topS 16
abbrev N__law_ranked : List Str := ["events", "numbers", "event", "n"]
theorem sc__law_ranked : FnScope N__law_ranked ["events"] (defScope s__law_ranked) := ⟨rfl, rfl, rfl, by decide +kernel, rfl, by decide +kernel, by decide +kernel⟩
abbrev s__law_put : Stmt := topS 17
abbrev N__law_put : List Str := ["events", "name", "position", "doubled", "event"]
theorem sc__law_put : FnScope N__law_put ["events", "name", "position"] (defScope s__law_put) := ⟨rfl, rfl, rfl, by decide +kernel, rfl, by decide +kernel, by decide +kernel⟩
abbrev s__law_size : Stmt := topS 18
abbrev N__law_size : List Str := ["events", "numbers", "event"]
theorem sc__law_size : FnScope N__law_size ["events"] (defScope s__law_size) := ⟨rfl, rfl, rfl, by decide +kernel, rfl, by decide +kernel, by decide +kernel⟩
abbrev s__law_every : Stmt := topS 19
abbrev N__law_every : List Str := ["names", "length", "every", "last", "k", "longer", "events", "name", "position"]
theorem sc__law_every : FnScope N__law_every ["names", "length"] (defScope s__law_every) := ⟨rfl, rfl, rfl, by decide +kernel, rfl, by decide +kernel, by decide +kernel⟩
abbrev s__law_told : Stmt := topS 20
abbrev N__law_told : List Str := ["names", "length", "e"]
theorem sc__law_told : FnScope N__law_told ["names", "length"] (defScope s__law_told) := ⟨rfl, rfl, rfl, by decide +kernel, rfl, by decide +kernel, by decide +kernel⟩
abbrev s_law : Stmt := topS 21
abbrev N_law : List Str := ["script", "source", "names", "length", "due", "told", "seen", "events", "k", "j", "other", "numbers", "event", "number"]
theorem sc_law : FnScope N_law ["script"] (defScope s_law) := ⟨rfl, rfl, rfl, by decide +kernel, rfl, by decide +kernel, by decide +kernel⟩
/-! ### the law's own ranking -/
abbrev Evt := Str × Int
def evD (e : Evt) : Dt := .tup [.str e.1, .int e.2]
def evsD (es : List Evt) : Dt := .lst (es.map evD)
def addNew (acc : List Int) (n : Int) : List Int := if n ∈ acc then acc else acc ++ [n]
def firsts (ns : List Int) : List Int := ns.foldl addNew []
def rankN (ns : List Int) (n : Int) : Int := ((firsts ns).filter fun m => decide (m < n)).length
def rankE (es : List Evt) : List Evt := es.map fun e => (e.1, rankN (es.map (·.2)) e.2)
theorem addNew_len (acc : List Int) (n : Int) : (addNew acc n).length ≤ acc.length + 1 := by
  unfold addNew
  split <;> simp
theorem firsts_take_succ (ns : List Int) (i : Nat) (n : Int) (h : ns[i]? = some n) : firsts (ns.take (i + 1)) = addNew (firsts (ns.take i)) n := by
  unfold firsts
  rw [List.take_add_one, h, List.foldl_append]
  rfl
theorem firsts_len (ns : List Int) : (firsts ns).length ≤ ns.length := by
  have key : ∀ (l acc : List Int), (l.foldl addNew acc).length ≤ acc.length + l.length := by
    intro l
    induction l with
    | nil => intro acc; simp
    | cons x r ih =>
      intro acc
      have := ih (addNew acc x)
      have := addNew_len acc x
      simp only [List.foldl_cons, List.length_cons]
      omega
  simpa [firsts] using key ns []
section
variable {P : Program} {w : World} {K : PySem.W.Frag} {mg : Str → Option Value} {base : Heap}
abbrev spRanked : Sp := spT (fun es : List Evt => [evsD es]) (fun es => es.length ≤ 100000) fun es d => d = evsD (rankE es)
theorem ok__law_ranked {f : Addr} {fd : FuncData} (F : Fun K "_law_ranked" "_law_ranked" s__law_ranked f fd) (m_len : mg "len" = none) : FnOk P w K mg base CX0 1 f fd ["events"] spRanked := by
  have nd := sc__law_ranked.nd
  refine F.ok sc__law_ranked (fun vs H Q E h => spT_len (fun _ => rfl) h) (fun cdv A outer s H vs Q E hr h => ⟨_, (pss_cons (ps_set (i := 1) nd rfl (by first | exact Or.inl rfl | exact Or.inr rfl) (pe_lst pa_nil))
      (pss_cons (ps_for PassesOwn.never rfl (pi_listK (K := K) rfl (pv 0)) (pg_name (i := 2) nd rfl (by first | exact Or.inl rfl | exact Or.inr rfl)) (pss_one (ps_if (pt_cmpR (op_notIn_seqK (K := K) rfl) (pe_ix (ix_tupK (K := K) rfl) (pv 2) pe_int (fun _ _ => rfl)) (pv 1) (by rfl)) (pss_one (ps_expr (pe_bm PySem.F.plainAttrs_list PySem.F.slot_list_append PySem.F.type_list_append mt_append (pv 1) (pa_cons (pe_ix (ix_tupK (K := K) rfl) (pv 2) pe_int (fun _ _ => rfl)) pa_nil)))) pss_nil)))
      (pss_one (ps_ret (pe_lc (own := [("event", 2)]) (g := gName 2) rfl nd (pi_listK (K := K) rfl (pv 0)) (by refine blkOk_by ?_; show blkC N__law_ranked (defScope s__law_ranked) _ _ = true; decide +kernel) (fun _ _ _ _ _ => (pg_name (i := 2) nd rfl (by first | exact Or.inl rfl | exact Or.inr rfl))) (fun _ _ _ _ _ => pts_nil) (fun _ _ _ _ _ => (pe_tup (pa_cons (pe_ix (ix_tupK (K := K) rfl) (pv 2) pe_int (fun _ _ => rfl)) (pa_cons (pe_callB (call_lenK (K := K) rfl) (by rfl) m_len PySem.boot_len (pa_cons (pe_lc (own := [("n", 3)]) (g := gName 3) rfl nd (pi_listK (K := K) rfl (pv 1)) (by refine blkOk_by ?_; show blkC N__law_ranked (relS _ (defScope s__law_ranked)) _ _ = true; decide +kernel) (fun _ _ _ _ _ => (pg_name (i := 3) nd rfl (by first | exact Or.inl rfl | exact Or.inr rfl))) (fun _ _ _ _ _ => pts_one (pt_cmpR op_lt (pv 3) (pe_ix (ix_tupK (K := K) rfl) (pv 2) pe_int (fun _ _ => rfl)) (nomark _))) (fun _ _ _ _ _ => (pv 3))) pa_nil)) pa_nil))))))))) , ?_⟩)
  refine ok_bodyT (fun es => [.dat (evsD es), .un, .un, .un]) h (fun _ => by show 1 ≤ 4; decide) (fun _ => rfl) fun c es hc hp => ?_
  refine ds_letOwnE (dl_lst da_nil fun _ e => by rw [e]; exact Nat.zero_le _) ?_
  refine ds_seq (M := fun δ' => ∃ x, δ' = [.dat (evsD es), .own ((firsts (es.map (·.2))).map Dt.int), x, .un]) (ds_for (vs := [2]) (di_list (de_var rfl)) fun xs e => ?_) ?_
  · subst e
    refine ⟨fun i δ' => ∃ x, δ' = [.dat (evsD es), .own ((firsts ((es.map (·.2)).take i)).map Dt.int), x, .un], ⟨.un, by rw [List.take_zero]; rfl⟩, ?_, ?_⟩
    · rintro i d δ' hd ⟨x, rfl⟩
      have hi : i < es.length := by
        have := (List.getElem?_eq_some_iff.mp hd).1
        simpa using this
      have he : es[i]? = some es[i] := List.getElem?_eq_getElem hi
      rw [List.getElem?_map, he] at hd
      have hd := Option.some.inj hd
      subst hd
      have hn : (es.map (·.2))[i]? = some es[i].2 := by rw [List.getElem?_map, he]; rfl
      have hstep := firsts_take_succ _ i _ hn
      refine dg_name (by decide) ?_
      refine ds_ifE (dt_thaw (i := 1) rfl (dt_testE (de_op (de_ixT (d := .int es[i].2) (de_var rfl) de_int rfl) (de_var rfl) rv_inI))) (fun hk => ?_) (fun hk => ?_)
      · refine ds_append (i := 1) rfl (de_ixT (d := .int es[i].2) (de_var rfl) de_int rfl) ?_ fun d e => ?_
        · have h1 := firsts_len ((es.map (·.2)).take i)
          have h2 : ((es.map (·.2)).take i).length ≤ es.length := by rw [List.length_take, List.length_map]; omega
          rw [List.length_map]
          omega
        · subst e
          refine ⟨.dat (evD es[i]), ?_⟩
          rw [hstep, addNew, if_neg (by simpa using hk), List.map_append]
          rfl
      · refine ds_next ⟨.dat (evD es[i]), ?_⟩
        rw [hstep, addNew, if_pos (by simpa using hk)]
        rfl
    · rintro δ' ⟨x, rfl⟩
      refine ⟨x, ?_⟩
      rw [List.take_of_length_le (by simp)]
  rintro δ' ⟨x, rfl⟩
  refine ds_freeze (i := 1) rfl ?_
  refine ds_retE (Dl.de (dl_lcMap (fun d => match d with
    | .tup [.str s, .int n] => .tup [.str s, .int (rankN (es.map (·.2)) n)]
    | d => d) (di_list (de_var rfl)) (by rw [List.length_map]; omega) fun d hd => ?_)) ?_
  · obtain ⟨e, he, rfl⟩ := List.mem_map.mp hd
    refine dg_name (by decide) ?_
    refine de_tup (da_consE (de_ixT (d := .str e.1) (de_var rfl) de_int rfl) (da_consE (De.eq (de_lenLK (Dl.de (dl_lcFilter (fun d => match d with
      | .int m => decide (m < e.2)
      | _ => false) (fun d => d) (di_list (de_var rfl)) ?_ fun d hd => ?_))) ?_) da_nil))
    · have h1 := firsts_len (es.map (·.2))
      rw [List.length_map] at h1 ⊢
      omega
    · obtain ⟨m, hm, rfl⟩ := List.mem_map.mp hd
      refine dg_name (by decide) ⟨dt_testE (de_cmp (f := fun i j => decide (i < j)) (de_var rfl) (de_ixT (d := .int e.2) (de_var rfl) de_int rfl)), fun _ => de_var rfl⟩
    · congr 1
      rw [List.map_id', List.filter_map, List.length_map]
      rfl
  · show Dt.lst _ = _
    rw [List.map_map]
    unfold evsD rankE
    rw [List.map_map]
    rfl
end
end K07

set_option Elab.async false
set_option maxRecDepth 100000
set_option maxHeartbeats 4000000
namespace K07
open PySem L2 StX Zd
section
variable {P : Program} {w : World} {K : PySem.W.Frag} {mg : Str → Option Value} {base : Heap}
/-! ### the law's draws -/
def spCell (K : PySem.W.Frag) : Sp := fun vs H Q _ => ∃ (a : Addr) (ns : List Int) (k : Int), vs = [.ref a, .int k] ∧ SqL K H a (ns.map V.int) ∧ ns.length ≤ 1000 ∧ 0 ≤ k ∧ ∀ n : Int, Q (.int n) H
theorem ok__law_cell {f : Addr} {fd : FuncData} (F : Fun K "_law_cell" "_law_cell" s__law_cell f fd) (m_len : mg "len" = none) : FnOk P w K mg base CX0 1 f fd ["script", "k"] (spCell K) := by
  have nd := sc__law_cell.nd
  refine F.ok sc__law_cell (fun vs H Q E h => by obtain ⟨a, ns, k, rfl, _⟩ := h; rfl) (fun cdv A outer s H vs Q E hr h => ⟨_, (pss_cons (ps_if (pt_cmpR op_lt (pv 1) (pe_callB (call_lenK (K := K) rfl) (by rfl) m_len PySem.boot_len (pa_cons (pv 0) pa_nil)) (nomark _)) (pss_one (ps_ret (pe_ix (ix_listK (K := K) rfl) (pv 0) (pv 1) (fun _ _ => rfl)))) pss_nil)
      (pss_one (ps_ret pe_int))) , ?_⟩)
  obtain ⟨a, ns, k, rfl, hS, hl, hk, q⟩ := h
  refine ⟨.int k, rfl, .ref a, rfl, _, _, rfl, .inl ⟨_, hS, rfl⟩, k, _, rfl, rfl, _, rfl, ?_⟩
  refine ite2 (fun e => ?_) (fun e => ?_)
  · have hlt : k.toNat < ns.length := by
      have := of_decide_eq_true e
      rw [List.length_map] at this
      omega
    refine ⟨.ref a, rfl, .int k, rfl, a, _, k, .int ns[k.toNat], rfl, rfl, hS, ?_, q _⟩
    exact at_of (j := k.toNat) (by omega) (by rw [List.getElem?_map, List.getElem?_eq_getElem hlt]; rfl)
  · exact q 0
/-- a new source -/
def spSource : Sp := fun vs H Q _ => ∃ (n k : Int), vs = [.int n, .int k] ∧ 0 ≤ k ∧ k < 1000000 ∧ ∀ (p : Addr) (x y : Int), H p = none → 0 ≤ y → y < 2147483648 → Q (.ref p) (upd H p (.lst [.int x, .int y]))
theorem ok__law_source {f : Addr} {fd : FuncData} (F : Fun K "_law_source" "_law_source" s__law_source f fd) (m_int : mg "int" = none) : FnOk P w K mg base CX0 1 f fd ["cell", "k"] spSource := by
  have nd := sc__law_source.nd
  refine F.ok sc__law_source (fun vs H Q E h => by obtain ⟨n, k, rfl, _⟩ := h; rfl) (fun cdv A outer s H vs Q E hr h => ⟨_, (pss_cons (ps_if (pt_cmpR op_ge (pv 0) (pe_op op_pow pe_int pe_int) (nomark _)) (pss_one (ps_ret (pe_lst (pa_cons (pe_op op_sub (pv 0) (pe_op op_pow pe_int pe_int)) (pa_cons (pe_op op_add (pv 1) pe_int) pa_nil))))) pss_nil)
      (pss_one (ps_ret (pe_lst (pa_cons pe_int (pa_cons (pe_op op_mod (pe_callTy call_int1 (by rfl) m_int (by decide +kernel) (pa_cons (pe_op op_add (pe_op op_add (pe_op op_mul (pv 0) pe_int) (pe_op op_mul (pv 1) pe_int)) pe_int) pa_nil)) pe_int) pa_nil)))))) , ?_⟩)
  obtain ⟨n, k, rfl, hk, hk2, q⟩ := h
  refine ⟨.int n, rfl, 10, 18, rfl, rfl, ⟨by decide, by decide, by decide⟩, n, _, rfl, rfl, _, rfl, ?_⟩
  refine ite2 (fun e => ?_) (fun e => ?_)
  · refine ⟨.int n, rfl, 10, 18, rfl, rfl, ⟨by decide, by decide, by decide⟩, n, _, rfl, rfl, .int k, rfl, k, 1, rfl, rfl, sz_ok (by show 2 ≤ 10000000; decide), fun p hp => q p _ _ hp (by omega) (by omega)⟩
  · refine ⟨.int n, rfl, n, 7919, rfl, rfl, .inr ⟨by decide, by decide⟩, .int k, rfl, k, 104729, rfl, rfl, .inr ⟨by decide, by decide⟩, _, _, rfl, rfl, _, _, rfl, rfl, .inl ⟨_, rfl, _, _, rfl, rfl, by show (0 : Int) < 2147483647; decide, sz_ok (by show 2 ≤ 10000000; decide), fun p hp => q p _ _ hp ?_ ?_⟩⟩
    · exact Int.emod_nonneg _ (by decide)
    · have := Int.emod_lt_of_pos (n * 7919 + k * 104729 + 1) (b := 2147483647) (by decide)
      omega
theorem ok__law_pick {f : Addr} {fd : FuncData} (F : Fun K "_law_pick" "_law_pick" s__law_pick f fd) (m_int : mg "int" = none) : FnOk P w K mg base CX0 1 f fd ["source", "many"] spPick := by
  have nd := sc__law_pick.nd
  refine F.ok sc__law_pick (fun vs H Q E h => by obtain ⟨p, x, y, m, rfl, _⟩ := h; rfl) (fun cdv A outer s H vs Q E hr h => ⟨_, (pss_cons (ps_if (pt_cmpR op_gt (pe_ix (ix_listK (K := K) rfl) (pv 0) pe_int (fun _ _ => rfl)) pe_int (nomark _)) (pss_cons (ps_set (i := 2) nd rfl (by first | exact Or.inl rfl | exact Or.inr rfl) (pe_op op_mod (pe_callTy call_int1 (by rfl) m_int (by decide +kernel) (pa_cons (pe_ix (ix_listK (K := K) rfl) (pv 0) pe_int (fun _ _ => rfl)) pa_nil)) (pv 1)))
      (pss_cons (ps_asg (pe_op op_fdivW (pe_ix (ix_listK (K := K) rfl) (pv 0) pe_int (fun _ _ => rfl)) (pv 1)) (pg_sub (pv 0) pe_int set_list))
      (pss_one (ps_ret (pv 2))))) pss_nil)
      (pss_cons (ps_asg (pe_op op_mod (pe_callTy call_int1 (by rfl) m_int (by decide +kernel) (pa_cons (pe_op op_add (pe_op op_mul (pe_ix (ix_listK (K := K) rfl) (pv 0) pe_int (fun _ _ => rfl)) pe_int) pe_int) pa_nil)) pe_int) (pg_sub (pv 0) pe_int set_list))
      (pss_cons (ps_set (i := 3) nd rfl (by first | exact Or.inl rfl | exact Or.inr rfl) (pe_op op_mod (pe_callTy call_int1 (by rfl) m_int (by decide +kernel) (pa_cons (pe_op op_add (pe_op op_add (pe_op op_mul (pe_ix (ix_listK (K := K) rfl) (pv 0) pe_int (fun _ _ => rfl)) pe_int) (pe_op op_fdiv (pe_ix (ix_listK (K := K) rfl) (pv 0) pe_int (fun _ _ => rfl)) pe_int)) pe_int) pa_nil)) pe_int))
      (pss_one (ps_ret (pe_op op_mod (pe_callTy call_int1 (by rfl) m_int (by decide +kernel) (pa_cons (pe_op op_fdiv (pv 3) pe_int) pa_nil)) (pv 1))))))) , ?_⟩)
  obtain ⟨p, x, y, m, rfl, e, y0, y1, m0, m1, q⟩ := h
  have hS : SqL K H p [.int x, .int y] := SqL.of e
  have cm : CDivW x m := wide_div m0 (b := 30) (by omega) (by decide) (by decide)
  refine ⟨.ref p, rfl, p, _, 0, .int x, rfl, rfl, hS, rfl, x, 1, rfl, rfl, _, rfl, ite2 (fun h1 => ?_) (fun h1 => ?_)⟩
  · refine ⟨.ref p, rfl, p, _, 0, .int x, rfl, rfl, hS, rfl, .inl ⟨x, rfl, .int m, rfl, x, m, rfl, rfl, m0, ?_⟩⟩
    refine ⟨.ref p, rfl, p, _, 0, .int x, rfl, rfl, hS, rfl, .int m, rfl, x, m, rfl, rfl, cm, .ref p, rfl, p, _, 0, 0, rfl, rfl, e, rfl, .int (x % m), rfl, ?_⟩
    exact q _ _ _ y0 y1 (Int.emod_nonneg _ (by omega)) (Int.emod_lt_of_pos _ m0)
  · have e1 : ∀ z : Int, (upd H p (.lst ([V.int x, V.int y].set 1 (.int z)))) p = some (.lst [.int x, .int z]) := fun z => upd_same
    have b1 : (0 : Int) ≤ (y * 48271 + 12345) % 2147483647 := Int.emod_nonneg _ (by decide)
    have b2 : (y * 48271 + 12345) % 2147483647 < 2147483647 := Int.emod_lt_of_pos _ (by decide)
    refine ⟨.ref p, rfl, p, _, 1, .int y, rfl, rfl, hS, rfl, y, 48271, rfl, rfl, .inl ⟨by omega, by omega⟩, _, 12345, rfl, rfl, .inl ⟨_, rfl, _, _, rfl, rfl, by show (0 : Int) < 2147483647; decide, .ref p, rfl, p, _, 1, 1, rfl, rfl, e, rfl, ?_⟩⟩
    have hS2 : SqL K (upd H p (.lst ([V.int x, V.int y].set 1 (.int ((y * 48271 + 12345) % 2147483647))))) p [.int x, .int ((y * 48271 + 12345) % 2147483647)] := SqL.of (e1 _)
    refine ⟨.ref p, rfl, p, _, 1, _, rfl, rfl, hS2, rfl, _, 69621, rfl, rfl, .inl ⟨by omega, by omega⟩, .ref p, rfl, p, _, 1, _, rfl, rfl, hS2, rfl, _, 127, rfl, rfl, ⟨by decide, by decide⟩, _, _, rfl, rfl, _, 7, rfl, rfl, .inl ⟨_, rfl, _, _, rfl, rfl, by show (0 : Int) < 2147483629; decide, ?_⟩⟩
    refine ⟨_, rfl, _, 16, rfl, rfl, ⟨by decide, by decide⟩, .inl ⟨_, rfl, .int m, rfl, _, m, rfl, rfl, m0, ?_⟩⟩
    exact q x _ _ b1 (by omega) (Int.emod_nonneg _ (by omega)) (Int.emod_lt_of_pos _ m0)
abbrev spWorded : Sp := spS (fun ds : List Dt => [.lst ds]) (fun ds => 0 < ds.length ∧ ds.length < 1000000) fun ds d => d ∈ ds
theorem at_of' {α : Type} {xs : List α} {z : Int} {j : Nat} {v : α} (e : z = (j : Int)) (h : xs[j]? = some v) : atI xs z = some v := by
  rw [e]
  exact atI_nat h
theorem atI_nat' {α : Type} {xs : List α} {r : Int} (h0 : 0 ≤ r) (h : r < xs.length) : ∃ d, atI xs r = some d ∧ d ∈ xs := by
  have hlt : r.toNat < xs.length := by omega
  refine ⟨xs[r.toNat], ?_, List.getElem_mem hlt⟩
  exact at_of' (by omega) (List.getElem?_eq_getElem hlt)
theorem ok__law_worded {f f2 : Addr} {fd fd2 : FuncData} (F : Fun K "_law_worded" "_law_worded" s__law_worded f fd) (k__law_pick : Kn K mg "_law_pick" s__law_pick ["source", "many"] f2 fd2) (m_int : mg "int" = none) (m_len : mg "len" = none) : FnOk P w K mg base CX0 2 f fd ["source", "words"] spWorded := by
  have nd := sc__law_worded.nd
  have G__law_pick : FnOk P w K mg base CX0 1 f2 fd2 ["source", "many"] spPickS := (ok__law_pick k__law_pick.F m_int).imp pick_S
  refine F.ok sc__law_worded (fun vs H Q E h => spS_len (fun _ => rfl) h) (fun cdv A outer s H vs Q E hr h => ⟨_, (pss_one (ps_ret (pe_ix (ix_listK (K := K) rfl) (pv 1) (pe_call G__law_pick (hr.mono (by decide)) (by rfl) k__law_pick.g k__law_pick.F.kp k__law_pick.b .nil pass0 (pa_cons (pv 0) (pa_cons (pe_callB (call_lenK (K := K) rfl) (by rfl) m_len PySem.boot_len (pa_cons (pv 1) pa_nil)) pa_nil))) (fun _ _ => rfl)))) , ?_⟩)
  refine ok_bodyS (fun p ds => [.raw (.ref p), .dat (.lst ds)]) h (fun _ => Nat.le_refl 2) (fun _ _ => rfl) fun c p ds S hp => ?_
  refine ds_ret (T := fun d => d ∈ ds) (dn_op (P := (· = .lst ds)) (R := fun d => ∃ r : Int, d = .int r ∧ 0 ≤ r ∧ r < ds.length) (de_var rfl) (dn_callS S rfl (da_consE (de_lenLK (de_var rfl)) da_nil) fun xs e => ⟨ds.length, e, ⟨by omega, by omega⟩, fun d h => h⟩) ?_) fun d h => h
  rintro x y rfl ⟨r, rfl, r0, r1⟩
  obtain ⟨d, h1, h2⟩ := atI_nat' (xs := ds) r0 r1
  intro v w G H s j d1 d2 Q q
  exact rv_ixL h1 v w G H s j d1 d2 Q fun u d' G' H' g dq e => q u d' G' H' g dq (by rw [e]; exact h2)
end
end K07

set_option Elab.async false
set_option maxRecDepth 100000
set_option maxHeartbeats 4000000
namespace K07
open PySem L2 StX Zd
section
variable {P : Program} {w : World} {K : PySem.W.Frag} {mg : Str → Option Value} {base : Heap}
def putE (es : List Evt) (nm : Str) (pos : Int) : List Evt := rankE (es.map (fun e => (e.1, 2 * e.2 + 1)) ++ [(nm, pos)])
theorem rankE_len (es : List Evt) : (rankE es).length = es.length := by unfold rankE; rw [List.length_map]
theorem putE_len (es : List Evt) (nm : Str) (pos : Int) : (putE es nm pos).length = es.length + 1 := by unfold putE; rw [rankE_len]; simp
abbrev spPut : Sp := spT (fun a : List Evt × Str × Int => [evsD a.1, .str a.2.1, .int a.2.2]) (fun a => a.1.length ≤ 10000) fun a d => d = evsD (putE a.1 a.2.1 a.2.2)
theorem ok__law_put {f f2 : Addr} {fd fd2 : FuncData} (F : Fun K "_law_put" "_law_put" s__law_put f fd) (k__law_ranked : Kn K mg "_law_ranked" s__law_ranked ["events"] f2 fd2) (m_len : mg "len" = none) : FnOk P w K mg base CX0 2 f fd ["events", "name", "position"] spPut := by
  have nd := sc__law_put.nd
  have G__law_ranked : FnOk P w K mg base CX0 1 f2 fd2 ["events"] spRanked := ok__law_ranked k__law_ranked.F m_len
  refine F.ok sc__law_put (fun vs H Q E h => spT_len (fun _ => rfl) h) (fun cdv A outer s H vs Q E hr h => ⟨_, (pss_cons (ps_setLc (i := 3) (own := [("event", 4)]) (g := gName 4) rfl nd rfl rfl (sw_true rfl rfl rfl (by decide +kernel)) (pi_listK (K := K) rfl (pv 0)) (by refine blkOk_by ?_; show blkC N__law_put (defScope s__law_put) _ _ = true; decide +kernel) (fun _ _ _ _ _ => (pg_name (i := 4) nd rfl (by first | exact Or.inl rfl | exact Or.inr rfl))) (fun _ _ _ _ _ => pts_nil) (fun _ _ _ _ _ => (pe_tup (pa_cons (pe_ix (ix_tupK (K := K) rfl) (pv 4) pe_int (fun _ _ => rfl)) (pa_cons (pe_op op_add (pe_op op_mul pe_int (pe_ix (ix_tupK (K := K) rfl) (pv 4) pe_int (fun _ _ => rfl))) pe_int) pa_nil)))))
      (pss_one (ps_ret (pe_call G__law_ranked (hr.mono (by decide)) (by rfl) k__law_ranked.g k__law_ranked.F.kp k__law_ranked.b .nil pass0 (pa_cons (pe_op op_cat (pv 3) (pe_lst (pa_cons (pe_tup (pa_cons (pv 1) (pa_cons (pv 2) pa_nil))) pa_nil))) pa_nil))))) , ?_⟩)
  refine ok_bodyT (fun a => [.dat (evsD a.1), .dat (.str a.2.1), .dat (.int a.2.2), .un, .un]) h (fun _ => by show 3 ≤ 5; decide) (fun _ => rfl) fun c a hc hp => ?_
  obtain ⟨es, nm, pos⟩ := a
  have hp : es.length ≤ 10000 := hp
  refine ds_letE (d := evsD (es.map fun e => (e.1, 2 * e.2 + 1))) (De.eq (Dl.de (dl_lcMap (fun d => match d with
    | .tup [.str s, .int n] => .tup [.str s, .int (2 * n + 1)]
    | d => d) (di_list (de_var rfl)) (by rw [List.length_map]; omega) fun d hd => ?_)) ?_) ?_
  · obtain ⟨e, he, rfl⟩ := List.mem_map.mp hd
    refine dg_name (by decide) ?_
    exact de_tup (da_consE (de_ixT (d := .str e.1) (de_var rfl) de_int rfl) (da_consE (de_add (de_mulL de_int (de_ixT (d := .int e.2) (de_var rfl) de_int rfl) (by decide)) de_int) da_nil))
  · unfold evsD
    rw [List.map_map, List.map_map]
    rfl
  refine ds_retE (de_callT (A := fun es : List Evt => [evsD es]) (f := fun es => evsD (rankE es)) (es.map (fun e => (e.1, 2 * e.2 + 1)) ++ [(nm, pos)]) (Ds'.imp (da_consE (Dl.de (dl_cat (de_var rfl) (de_lst (da_consE (de_tup (da_consE (de_var rfl) (da_consE (de_var rfl) da_nil))) da_nil)) ?_)) da_nil) fun d e => ?_) ?_) rfl
  · simp; omega
  · rw [e, evsD, List.map_append]; rfl
  · simp; omega
def sizeE (es : List Evt) : Nat := (firsts (es.map (·.2))).length
theorem sizeE_le (es : List Evt) : sizeE es ≤ es.length := by
  have := firsts_len (es.map (·.2))
  rwa [List.length_map] at this
abbrev spSize : Sp := spT (fun es : List Evt => [evsD es]) (fun es => es.length ≤ 100000) fun es d => d = .int (sizeE es)
theorem ok__law_size {f : Addr} {fd : FuncData} (F : Fun K "_law_size" "_law_size" s__law_size f fd) (m_len : mg "len" = none) : FnOk P w K mg base CX0 1 f fd ["events"] spSize := by
  have nd := sc__law_size.nd
  refine F.ok sc__law_size (fun vs H Q E h => spT_len (fun _ => rfl) h) (fun cdv A outer s H vs Q E hr h => ⟨_, (pss_cons (ps_set (i := 1) nd rfl (by first | exact Or.inl rfl | exact Or.inr rfl) (pe_lst pa_nil))
      (pss_cons (ps_for PassesOwn.never rfl (pi_listK (K := K) rfl (pv 0)) (pg_name (i := 2) nd rfl (by first | exact Or.inl rfl | exact Or.inr rfl)) (pss_one (ps_if (pt_cmpR (op_notIn_seqK (K := K) rfl) (pe_ix (ix_tupK (K := K) rfl) (pv 2) pe_int (fun _ _ => rfl)) (pv 1) (by rfl)) (pss_one (ps_expr (pe_bm PySem.F.plainAttrs_list PySem.F.slot_list_append PySem.F.type_list_append mt_append (pv 1) (pa_cons (pe_ix (ix_tupK (K := K) rfl) (pv 2) pe_int (fun _ _ => rfl)) pa_nil)))) pss_nil)))
      (pss_one (ps_ret (pe_callB (call_lenK (K := K) rfl) (by rfl) m_len PySem.boot_len (pa_cons (pv 1) pa_nil)))))) , ?_⟩)
  refine ok_bodyT (fun es => [.dat (evsD es), .un, .un]) h (fun _ => by show 1 ≤ 3; decide) (fun _ => rfl) fun c es hc hp => ?_
  refine ds_letOwnE (dl_lst da_nil fun _ e => by rw [e]; exact Nat.zero_le _) ?_
  refine ds_seq (M := fun δ' => ∃ x, δ' = [.dat (evsD es), .own ((firsts (es.map (·.2))).map Dt.int), x]) (ds_for (vs := [2]) (di_list (de_var rfl)) fun xs e => ?_) ?_
  · subst e
    refine ⟨fun i δ' => ∃ x, δ' = [.dat (evsD es), .own ((firsts ((es.map (·.2)).take i)).map Dt.int), x], ⟨.un, by rw [List.take_zero]; rfl⟩, ?_, ?_⟩
    · rintro i d δ' hd ⟨x, rfl⟩
      have hi : i < es.length := by
        have := (List.getElem?_eq_some_iff.mp hd).1
        simpa using this
      have he : es[i]? = some es[i] := List.getElem?_eq_getElem hi
      rw [List.getElem?_map, he] at hd
      have hd := Option.some.inj hd
      subst hd
      have hn : (es.map (·.2))[i]? = some es[i].2 := by rw [List.getElem?_map, he]; rfl
      have hstep := firsts_take_succ _ i _ hn
      refine dg_name (by decide) ?_
      refine ds_ifE (dt_thaw (i := 1) rfl (dt_testE (de_op (de_ixT (d := .int es[i].2) (de_var rfl) de_int rfl) (de_var rfl) rv_inI))) (fun hk => ?_) (fun hk => ?_)
      · refine ds_append (i := 1) rfl (de_ixT (d := .int es[i].2) (de_var rfl) de_int rfl) ?_ fun d e => ?_
        · have h1 := firsts_len ((es.map (·.2)).take i)
          have h2 : ((es.map (·.2)).take i).length ≤ es.length := by rw [List.length_take, List.length_map]; omega
          rw [List.length_map]
          omega
        · subst e
          refine ⟨.dat (evD es[i]), ?_⟩
          rw [hstep, addNew, if_neg (by simpa using hk), List.map_append]
          rfl
      · refine ds_next ⟨.dat (evD es[i]), ?_⟩
        rw [hstep, addNew, if_pos (by simpa using hk)]
        rfl
    · rintro δ' ⟨x, rfl⟩
      refine ⟨x, ?_⟩
      rw [List.take_of_length_le (by simp)]
  rintro δ' ⟨x, rfl⟩
  refine ds_retE (dn_thaw (i := 1) rfl (de_lenLK (de_var rfl)) fun d e => by rw [e]; rfl) ?_
  show Dt.int _ = _
  rw [List.length_map]
  rfl
/-! ### the law's own listing -/
def levelIn (every longer : List (List Evt)) (es : List Evt) (nm : Str) : List (List Evt) :=
  if longer.length + every.length < 1000 then longer ++ (List.range (2 * sizeE es + 1)).map (fun (p : Nat) => putE es nm (p : Int)) else longer
def levelOf (every last : List (List Evt)) (names : List Str) : List (List Evt) := last.foldl (fun lg es => names.foldl (fun lg nm => levelIn every lg es nm) lg) []
/-- every, last after k turns -/
def everyK (names : List Str) : Nat → List (List Evt) × List (List Evt)
  | 0 => ([], [[]])
  | k + 1 => let (ev, la) := everyK names k; (ev ++ levelOf ev la names, levelOf ev la names)
def everyL (names : List Str) (n : Nat) : List (List Evt) := (everyK names n).1
def insD (l : List (List Evt)) : Dt := .lst (l.map evsD)
theorem levelIn_len {every longer : List (List Evt)} {es : List Evt} {nm : Str} {k : Nat} (h : es.length ≤ k) (hl : longer.length ≤ 1000 + 2 * k + 1) : (levelIn every longer es nm).length ≤ 1000 + 2 * k + 1 := by
  unfold levelIn
  have := sizeE_le es
  split
  · rw [List.length_append, List.length_map, List.length_range]; omega
  · exact hl
theorem levelIn_mem {every longer : List (List Evt)} {es : List Evt} {nm : Str} {k : Nat} (h : es.length ≤ k) (hl : ∀ x ∈ longer, x.length ≤ k + 1) : ∀ x ∈ levelIn every longer es nm, x.length ≤ k + 1 := by
  unfold levelIn
  split
  · intro x hx
    rcases List.mem_append.mp hx with hx | hx
    · exact hl x hx
    · obtain ⟨p, _, rfl⟩ := List.mem_map.mp hx
      rw [putE_len]; omega
  · exact hl
structure LvOk (k : Nat) (l : List (List Evt)) : Prop where
  len : l.length ≤ 1000 + 2 * k + 1
  mem : ∀ x ∈ l, x.length ≤ k + 1
theorem LvOk.step {k : Nat} {every l : List (List Evt)} {es : List Evt} (h : es.length ≤ k) (o : LvOk k l) (nm : Str) : LvOk k (levelIn every l es nm) := ⟨levelIn_len h o.len, levelIn_mem h o.mem⟩
theorem LvOk.names {k : Nat} {every : List (List Evt)} {es : List Evt} (h : es.length ≤ k) : ∀ (names : List Str) (l : List (List Evt)), LvOk k l → LvOk k (names.foldl (fun lg nm => levelIn every lg es nm) l)
  | [], _, o => o
  | nm :: r, l, o => LvOk.names h r _ (o.step h nm)
theorem LvOk.level {k : Nat} {every : List (List Evt)} (names : List Str) : ∀ (last l : List (List Evt)), (∀ x ∈ last, x.length ≤ k) → LvOk k l → LvOk k (last.foldl (fun lg es => names.foldl (fun lg nm => levelIn every lg es nm) lg) l)
  | [], _, _, o => o
  | es :: r, l, h, o => LvOk.level names r _ (fun x hx => h x (List.mem_cons_of_mem _ hx)) (LvOk.names (h es List.mem_cons_self) names l o)
theorem everyK_ok (names : List Str) : ∀ k : Nat, k ≤ 10 → (everyK names k).1.length ≤ k * 1100 ∧ (everyK names k).2.length ≤ 1100 ∧ ∀ x ∈ (everyK names k).2, x.length ≤ k
  | 0, _ => ⟨Nat.zero_le _, by show 1 ≤ 1100; decide, fun x hx => by
      have : x = [] := by simpa [everyK] using hx
      rw [this]; exact Nat.le_refl _⟩
  | k + 1, hk => by
    obtain ⟨h1, h2, h3⟩ := everyK_ok names k (by omega)
    have o : LvOk k (levelOf (everyK names k).1 (everyK names k).2 names) := LvOk.level names _ _ h3 ⟨Nat.zero_le _, fun x hx => by cases hx⟩
    have hl := o.len
    refine ⟨?_, ?_, o.mem⟩
    · show ((everyK names k).1 ++ levelOf (everyK names k).1 (everyK names k).2 names).length ≤ _
      rw [List.length_append]
      omega
    · show (levelOf (everyK names k).1 (everyK names k).2 names).length ≤ _
      omega
end
end K07

set_option Elab.async false
set_option maxRecDepth 100000
set_option maxHeartbeats 4000000
namespace K07
open PySem L2 StX Zd
theorem foldl_take_succ {α β : Type} (f : β → α → β) (a : β) {xs : List α} {i : Nat} {x : α} (h : xs[i]? = some x) : (xs.take (i + 1)).foldl f a = f ((xs.take i).foldl f a) x := by
  rw [List.take_add_one, h, List.foldl_append]
  rfl
theorem foldl_all {α β : Type} (f : β → α → β) (a : β) (xs : List α) {n : Nat} (h : n = xs.length) : (xs.take n).foldl f a = xs.foldl f a := by
  rw [h, List.take_length]
theorem get_map {α β : Type} {f : α → β} {xs : List α} {i : Nat} {d : β} (h : (xs.map f)[i]? = some d) : ∃ x, xs[i]? = some x ∧ d = f x := by
  rw [List.getElem?_map] at h
  cases e : xs[i]? with
  | none => rw [e] at h; cases h
  | some x =>
    rw [e] at h
    exact ⟨x, rfl, (Option.some.inj h).symm⟩
theorem LvOk.take {k : Nat} {every last : List (List Evt)} {names : List Str} (h : ∀ x ∈ last, x.length ≤ k) (j : Nat) : LvOk k ((last.take j).foldl (fun lg es => names.foldl (fun lg nm => levelIn every lg es nm) lg) []) :=
  LvOk.level names _ [] (fun x hx => h x (List.mem_of_mem_take hx)) ⟨Nat.zero_le _, fun x hx => by cases hx⟩
section
variable {P : Program} {w : World} {K : PySem.W.Frag} {mg : Str → Option Value} {base : Heap}
abbrev strsD (xs : List Str) : Dt := .lst (xs.map Dt.str)
abbrev spEvery : Sp := spT (fun a : List Str × Nat => [strsD a.1, .int a.2]) (fun a => a.1.length ≤ 1000 ∧ a.2 ≤ 10) fun a d => d = insD (everyL a.1 a.2)
theorem ok__law_every {f f2 f3 f4 : Addr} {fd fd2 fd3 fd4 : FuncData} (F : Fun K "_law_every" "_law_every" s__law_every f fd) (k__law_put : Kn K mg "_law_put" s__law_put ["events", "name", "position"] f2 fd2) (k__law_size : Kn K mg "_law_size" s__law_size ["events"] f3 fd3)
    (k__law_ranked : Kn K mg "_law_ranked" s__law_ranked ["events"] f4 fd4) (m_len : mg "len" = none) (m_range : mg "range" = none) : FnOk P w K mg base CX0 3 f fd ["names", "length"] spEvery := by
  have nd := sc__law_every.nd
  have G__law_put : FnOk P w K mg base CX0 2 f2 fd2 ["events", "name", "position"] spPut := ok__law_put k__law_put.F k__law_ranked m_len
  have G__law_size : FnOk P w K mg base CX0 1 f3 fd3 ["events"] spSize := ok__law_size k__law_size.F m_len
  refine F.ok sc__law_every (fun vs H Q E h => spT_len (fun _ => rfl) h) (fun cdv A outer s H vs Q E hr h => ⟨_, (pss_cons (ps_set (i := 2) nd rfl (by first | exact Or.inl rfl | exact Or.inr rfl) (pe_lst pa_nil))
      (pss_cons (ps_set (i := 3) nd rfl (by first | exact Or.inl rfl | exact Or.inr rfl) (pe_lst (pa_cons (pe_lst pa_nil) pa_nil)))
      (pss_cons (ps_for PassesOwn.never rfl (pi_range1 rfl m_range (pa_cons (pv 1) pa_nil)) (pg_name (i := 4) nd rfl (by first | exact Or.inl rfl | exact Or.inr rfl)) (pss_cons (ps_set (i := 5) nd rfl (by first | exact Or.inl rfl | exact Or.inr rfl) (pe_lst pa_nil))
      (pss_cons (ps_for PassesOwn.never rfl (pi_listK (K := K) rfl (pv 3)) (pg_name (i := 6) nd rfl (by first | exact Or.inl rfl | exact Or.inr rfl)) (pss_one (ps_for PassesOwn.never rfl (pi_listK (K := K) rfl (pv 0)) (pg_name (i := 7) nd rfl (by first | exact Or.inl rfl | exact Or.inr rfl)) (pss_one (ps_if (pt_cmpR op_lt (pe_op op_add (pe_callB (call_lenK (K := K) rfl) (by rfl) m_len PySem.boot_len (pa_cons (pv 5) pa_nil)) (pe_callB (call_lenK (K := K) rfl) (by rfl) m_len PySem.boot_len (pa_cons (pv 2) pa_nil))) pe_int (nomark _)) (pss_one (ps_set (i := 5) nd rfl (by first | exact Or.inl rfl | exact Or.inr rfl) (pe_op op_cat (pv 5) (pe_lc (own := [("position", 8)]) (g := gName 8) rfl nd (pi_range1 rfl m_range (pa_cons (pe_op op_add (pe_op op_mul pe_int (pe_call G__law_size (hr.mono (by decide)) (by rfl) k__law_size.g k__law_size.F.kp k__law_size.b .nil pass0 (pa_cons (pv 6) pa_nil))) pe_int) pa_nil)) (by refine blkOk_by ?_; show blkC N__law_every (defScope s__law_every) _ _ = true; decide +kernel) (fun _ _ _ _ _ => (pg_name (i := 8) nd rfl (by first | exact Or.inl rfl | exact Or.inr rfl))) (fun _ _ _ _ _ => pts_nil) (fun _ _ _ _ _ => (pe_call G__law_put (hr.mono (by decide)) (by rfl) k__law_put.g k__law_put.F.kp k__law_put.b .nil pass0 (pa_cons (pv 6) (pa_cons (pv 7) (pa_cons (pv 8) pa_nil))))))))) pss_nil)))))
      (pss_cons (ps_set (i := 2) nd rfl (by first | exact Or.inl rfl | exact Or.inr rfl) (pe_op op_cat (pv 2) (pv 5)))
      (pss_one (ps_set (i := 3) nd rfl (by first | exact Or.inl rfl | exact Or.inr rfl) (pv 5)))))))
      (pss_one (ps_ret (pv 2)))))) , ?_⟩)
  refine ok_bodyT (fun a => [.dat (strsD a.1), .dat (.int a.2), .un, .un, .un, .un, .un, .un, .un]) h (fun _ => by show 2 ≤ 9; decide) (fun _ => rfl) fun c a hc hp => ?_
  obtain ⟨names, n⟩ := a
  obtain ⟨hp1, hp2⟩ : names.length ≤ 1000 ∧ n ≤ 10 := hp
  refine ds_letE (d := insD []) (de_lst da_nil) ?_
  refine ds_letE (d := insD [[]]) (de_lst (da_consE (de_lst da_nil) da_nil)) ?_
  refine ds_seq (M := fun δ' => ∃ x3 x4 x5 x6 x7 x8, δ' = [.dat (strsD names), .dat (.int n), .dat (insD (everyL names n)), x3, x4, x5, x6, x7, x8]) (ds_for (vs := [4]) (di_rng1E (n := n) (de_var rfl) (by omega) (by omega)) fun xs e => ?_) ?_
  · subst e
    refine ⟨fun i δ' => ∃ x4 x5 x6 x7 x8, δ' = [.dat (strsD names), .dat (.int n), .dat (insD (everyK names i).1), .dat (insD (everyK names i).2), x4, x5, x6, x7, x8], ⟨.un, .un, .un, .un, .un, rfl⟩, ?_, ?_⟩
    · rintro i d δ' hd ⟨x4, x5, x6, x7, x8, rfl⟩
      have hi : i < n := by
        have := (List.getElem?_eq_some_iff.mp hd).1
        rw [rngD_len] at this
        omega
      obtain ⟨ho1, ho2, ho3⟩ := everyK_ok names i (by omega)
      generalize hE : everyK names i = EL at ho1 ho2 ho3 ⊢
      obtain ⟨every, last⟩ := EL
      have ho1 : every.length ≤ i * 1100 := ho1
      refine dg_name (by decide) ?_
      refine ds_letE (d := insD []) (de_lst da_nil) ?_
      refine ds_seq (M := fun δ' => ∃ x4 x6 x7 x8, δ' = [.dat (strsD names), .dat (.int n), .dat (insD every), .dat (insD last), x4, .dat (insD (levelOf every last names)), x6, x7, x8]) (ds_for (vs := [6]) (di_list (de_var rfl)) fun xs e => ?_) ?_
      · subst e
        refine ⟨fun j δ' => ∃ x6 x7 x8, δ' = [.dat (strsD names), .dat (.int n), .dat (insD every), .dat (insD last), .dat d, .dat (insD ((last.take j).foldl (fun lg es => names.foldl (fun lg nm => levelIn every lg es nm) lg) [])), x6, x7, x8], ⟨x6, x7, x8, rfl⟩, ?_, ?_⟩
        · rintro j d6 δ' hd6 ⟨y6, y7, y8, rfl⟩
          obtain ⟨es, hes, rfl⟩ := get_map hd6
          have hk : es.length ≤ i := ho3 es (List.mem_of_getElem? hes)
          have lv := LvOk.take (every := every) (names := names) ho3 j
          generalize hlg : (last.take j).foldl (fun lg es => names.foldl (fun lg nm => levelIn every lg es nm) lg) [] = lg0 at lv
          refine dg_name (by decide) ?_
          refine ds_for (vs := [7]) (di_list (de_var rfl)) fun xs e => ?_
          subst e
          refine ⟨fun l δ' => ∃ x7 x8, δ' = [.dat (strsD names), .dat (.int n), .dat (insD every), .dat (insD last), .dat d, .dat (insD ((names.take l).foldl (fun lg nm => levelIn every lg es nm) lg0)), .dat (evsD es), x7, x8], ⟨y7, y8, rfl⟩, ?_, ?_⟩
          · rintro l d7 δ' hd7 ⟨z7, z8, rfl⟩
            obtain ⟨nm, hnm, rfl⟩ := get_map hd7
            have lv2 : LvOk i ((names.take l).foldl (fun lg nm => levelIn every lg es nm) lg0) := LvOk.names hk _ _ lv
            generalize hlg2 : (names.take l).foldl (fun lg nm => levelIn every lg es nm) lg0 = lg at lv2
            have step : (names.take (l + 1)).foldl (fun lg nm => levelIn every lg es nm) lg0 = levelIn every lg es nm := by rw [foldl_take_succ _ _ hnm, hlg2]
            have hlen := lv2.len
            have hsz := sizeE_le es
            refine dg_name (by decide) ?_
            refine ds_ifE (k := decide ((lg.length : Int) + every.length < 1000)) (dt_testE (De.eq (de_cmp (f := fun i j => decide (i < j)) (de_add (de_lenLK (de_var rfl)) (de_lenLK (de_var rfl))) de_int) ?_)) (fun ht => ?_) (fun ht => ?_)
            · rw [List.length_map, List.length_map]
            · have ht' := of_decide_eq_true ht
              refine ds_set (i := 5) (De.eq (e := insD (lg ++ (List.range (2 * sizeE es + 1)).map (fun (p : Nat) => putE es nm (p : Int)))) (Dl.de (dl_cat (xs := lg.map evsD) (ys := ((List.range (2 * sizeE es + 1)).map (fun (p : Nat) => putE es nm (p : Int))).map evsD) (de_var rfl) (De.eq (Dl.de (dl_lcMap (fun d => match d with
                | .int p => evsD (putE es nm p)
                | d => d) (di_rng1E (n := 2 * (sizeE es : Int) + 1) (de_add (de_mulL de_int (de_callT (A := fun es : List Evt => [evsD es]) (f := fun es => .int (sizeE es)) es (da_consE (de_var rfl) da_nil) (by omega)) (by decide)) de_int) (by omega) (by omega)) ?_ fun d hd => ?_)) ?_) ?_)) ?_) fun d e => ?_
              · rw [rngD_len]; omega
              · obtain ⟨p, hp, rfl⟩ := List.mem_map.mp hd
                refine dg_name (by decide) ?_
                refine De.eq (de_callT (A := fun a : List Evt × Str × Int => [evsD a.1, .str a.2.1, .int a.2.2]) (f := fun a => evsD (putE a.1 a.2.1 a.2.2)) (es, nm, (0 : Int) + (p : Int)) (da_consE (de_var rfl) (da_consE (de_var rfl) (da_consE (de_var rfl) da_nil))) (by show es.length ≤ 10000; omega)) rfl
              · show Dt.lst _ = Dt.lst _
                congr 1
                have e1 : (2 * (sizeE es : Int) + 1).toNat = 2 * sizeE es + 1 := by omega
                rw [e1, rngD, List.map_map, List.map_map]
                refine List.map_congr_left fun p _ => ?_
                show evsD (putE es nm (0 + (p : Int))) = _
                rw [Int.zero_add]
                rfl
              · simp only [List.length_map, List.length_range]; omega
              · show Dt.lst _ = insD _
                rw [insD, List.map_append]
              · subst e
                refine ⟨.dat (.str nm), z8, ?_⟩
                rw [step, levelIn, if_pos (by omega)]
                rfl
            · have ht' := of_decide_eq_false ht
              refine ds_next ⟨.dat (.str nm), z8, ?_⟩
              rw [step, levelIn, if_neg (by omega), ← hlg2]
              rfl
          · rintro δ' ⟨z7, z8, rfl⟩
            refine ⟨.dat (evsD es), z7, z8, ?_⟩
            rw [foldl_take_succ _ _ hes, hlg, foldl_all _ _ _ (by simp)]
            
        · rintro δ' ⟨y6, y7, y8, rfl⟩
          refine ⟨.dat d, y6, y7, y8, ?_⟩
          rw [foldl_all _ _ _ (by simp)]
          rfl
      · rintro δ' ⟨y4, y6, y7, y8, rfl⟩
        refine ds_letE (Dl.de (dl_cat (xs := every.map evsD) (ys := (levelOf every last names).map evsD) (de_var rfl) (de_var rfl) ?_)) ?_
        · have o : LvOk i (levelOf every last names) := LvOk.level names _ _ ho3 ⟨Nat.zero_le _, fun x hx => by cases hx⟩
          have := o.len
          simp only [List.length_map]; omega
        · refine ds_set (i := 3) (de_var rfl) fun d e => ?_
          subst e
          refine ⟨y4, .dat (insD (levelOf every last names)), y6, y7, y8, ?_⟩
          rw [show everyK names (i + 1) = (every ++ levelOf every last names, levelOf every last names) by
            show (let (ev, la) := everyK names i; (ev ++ levelOf ev la names, levelOf ev la names)) = _
            rw [hE]]
          rw [← List.map_append]
          rfl
    · rintro δ' ⟨x4, x5, x6, x7, x8, rfl⟩
      refine ⟨.dat (insD (everyK names n).2), x4, x5, x6, x7, x8, ?_⟩
      rw [rngD_len]
      rfl
  · rintro δ' ⟨x3, x4, x5, x6, x7, x8, rfl⟩
    exact ds_retE (de_var rfl) rfl
end
end K07

set_option Elab.async false
set_option maxRecDepth 100000
set_option maxHeartbeats 4000000
namespace K07
open PySem L2 StX Zd
/-! ### ranks -/
theorem mem_addNew {acc : List Int} {n k : Int} : k ∈ addNew acc n ↔ k ∈ acc ∨ k = n := by
  unfold addNew
  split
  · constructor
    · exact .inl
    · rintro (h | h)
      · exact h
      · rw [h]; assumption
  · simp
theorem nodup_addNew {acc : List Int} {n : Int} (h : acc.Nodup) : (addNew acc n).Nodup := by
  unfold addNew
  split
  · exact h
  · rw [List.nodup_append]
    refine ⟨h, by simp, fun a ha b hb e => ?_⟩
    have : b = n := by simpa using hb
    subst this e
    contradiction
theorem firsts_spec (ns : List Int) : (firsts ns).Nodup ∧ ∀ k, k ∈ firsts ns ↔ k ∈ ns := by
  have key : ∀ (l acc : List Int), acc.Nodup → (l.foldl addNew acc).Nodup ∧ ∀ k, k ∈ l.foldl addNew acc ↔ k ∈ acc ∨ k ∈ l := by
    intro l
    induction l with
    | nil => intro acc h; exact ⟨h, fun k => by simp⟩
    | cons x r ih =>
      intro acc h
      obtain ⟨h1, h2⟩ := ih (addNew acc x) (nodup_addNew h)
      refine ⟨h1, fun k => ?_⟩
      rw [List.foldl_cons, h2 k, mem_addNew, List.mem_cons]
      constructor
      · rintro ((h | h) | h)
        · exact .inl h
        · exact .inr (.inl h)
        · exact .inr (.inr h)
      · rintro (h | h | h)
        · exact .inl (.inl h)
        · exact .inl (.inr h)
        · exact .inr h
  obtain ⟨h1, h2⟩ := key ns [] List.nodup_nil
  exact ⟨h1, fun k => by rw [firsts, h2 k]; simp⟩
/-- any list of the different ones counts the ranks -/
theorem rankN_of {ns ms : List Int} (hn : ms.Nodup) (hm : ∀ k, k ∈ ms ↔ k ∈ ns) (n : Int) : rankN ns n = ((ms.filter fun m => decide (m < n)).length : Int) := by
  obtain ⟨f1, f2⟩ := firsts_spec ns
  unfold rankN
  have p : ((firsts ns).filter fun m => decide (m < n)).Perm (ms.filter fun m => decide (m < n)) :=
    ((List.perm_ext_iff_of_nodup f1 hn).mpr fun k => by rw [f2 k, hm k]).filter _
  rw [p.length_eq]
theorem asc_filter : ∀ {ms : List Int} {j : Nat} {n : Int}, ms.Pairwise (· < ·) → ms[j]? = some n → (ms.filter fun m => decide (m < n)).length = j
  | [], j, n, _, h => by cases j <;> cases h
  | a :: r, 0, n, hp, h => by
    have e := Option.some.inj h
    subst e
    have hp' := List.pairwise_cons.mp hp
    have : ∀ m ∈ (a :: r), ¬ m < a := by
      intro m hm
      rcases List.mem_cons.mp hm with rfl | hm
      · omega
      · have := hp'.1 m hm; omega
    rw [List.length_eq_zero_iff, List.filter_eq_nil_iff]
    intro m hm
    simpa using this m hm
  | a :: r, j + 1, n, hp, h => by
    have hp' := List.pairwise_cons.mp hp
    have h' : r[j]? = some n := h
    have lt : a < n := hp'.1 n (List.mem_of_getElem? h')
    rw [List.filter_cons, if_pos (by simpa using lt), List.length_cons, asc_filter hp'.2 h']
theorem asc_nodup {ms : List Int} (h : ms.Pairwise (· < ·)) : ms.Nodup := h.imp fun h => by omega
/-- the dict of the ranks -/
def dictO (o : Nat) : List Int → List (Key × V)
  | [] => []
  | m :: r => (.inl m, .int (o : Int)) :: dictO (o + 1) r
theorem dictO_len : ∀ (ms : List Int) (o : Nat), (dictO o ms).length = ms.length
  | [], _ => rfl
  | _ :: r, o => by
    show (dictO (o + 1) r).length + 1 = _
    rw [dictO_len r (o + 1)]; rfl
theorem dictO_snoc : ∀ (ms : List Int) (o : Nat) (n : Int), dictO o (ms ++ [n]) = dictO o ms ++ [(.inl n, .int ((o + ms.length : Nat) : Int))]
  | [], o, n => rfl
  | m :: r, o, n => by
    show _ :: dictO (o + 1) (r ++ [n]) = _ :: (dictO (o + 1) r ++ _)
    rw [dictO_snoc r (o + 1) n, List.length_cons, Nat.add_assoc o 1, Nat.add_comm 1]
theorem dictO_keys : ∀ (ms : List Int) (o : Nat), (dictO o ms).map (·.1) = ms.map Sum.inl
  | [], _ => rfl
  | m :: r, o => by
    show _ :: (dictO (o + 1) r).map (·.1) = _ :: r.map Sum.inl
    rw [dictO_keys r (o + 1)]
theorem dictO_put {ms : List Int} {n : Int} (h : n ∉ ms) : putK (dictO 0 ms) (.inl n) (.int (ms.length : Int)) = dictO 0 (ms ++ [n]) := by
  have no : ((dictO 0 ms).any fun kv => decide (kv.1 = (Sum.inl n : Key))) = false := by
    rw [List.any_eq_false]
    intro kv hkv hd
    have e := of_decide_eq_true hd
    have : (Sum.inl n : Key) ∈ (dictO 0 ms).map (·.1) := List.mem_map.mpr ⟨kv, hkv, e⟩
    rw [dictO_keys] at this
    obtain ⟨m, hm, em⟩ := List.mem_map.mp this
    exact h (Sum.inl.inj em ▸ hm)
  unfold putK
  rw [no, if_neg Bool.false_ne_true, dictO_snoc, Nat.zero_add]
theorem dictO_get : ∀ {ms : List Int} {o j : Nat} {n : Int}, ms.Nodup → ms[j]? = some n → valV (dictO o ms) (.inl n) = some (.int ((o + j : Nat) : Int))
  | [], _, j, _, _, h => by cases j <;> cases h
  | a :: r, o, 0, n, nd, h => by
    have e := Option.some.inj h
    subst e
    exact valV_pos rfl
  | a :: r, o, j + 1, n, nd, h => by
    have h' : r[j]? = some n := h
    have ne : ¬ ((Sum.inl a : Key) = Sum.inl n) := fun e => (List.nodup_cons.mp nd).1 (by rw [Sum.inl.inj e]; exact List.mem_of_getElem? h')
    show valV ((Sum.inl a, V.int (o : Int)) :: dictO (o + 1) r) (.inl n) = _
    rw [valV_neg ne, dictO_get (List.nodup_cons.mp nd).2 h', Nat.add_assoc, Nat.add_comm 1]
section
variable {P : Program} {w : World} {K : PySem.W.Frag} {mg : Str → Option Value} {base : Heap}
abbrev spRanks : Sp := spT (fun ns : List Int => [.lst (ns.map Dt.int)]) (fun ns => ns.length < 64) fun ns d => d = .lst ((ns.map (rankN ns)).map Dt.int)
theorem ok_ranks {f : Addr} {fd : FuncData} (F : Fun K "ranks" "ranks" s_ranks f fd) (m_set : mg "set" = none) (m_sorted : mg "sorted" = none) (m_enumerate : mg "enumerate" = none) : FnOk P w K mg base CX0 1 f fd ["numbers"] spRanks := by
  have nd := sc_ranks.nd
  refine F.ok sc_ranks (fun vs H Q E h => spT_len (fun _ => rfl) h) (fun cdv A outer s H vs Q E hr h => ⟨_, (pss_cons (ps_set (i := 1) nd rfl (by first | exact Or.inl rfl | exact Or.inr rfl) (pe_callB (cr_sortedSetW (w := w) rfl rfl) (by rfl) m_sorted (by decide +kernel) (pa_cons (pe_callTy (cr_setL (K := K) (w := w) rfl rfl rfl) (by rfl) m_set (by decide +kernel) (pa_cons (pv 0) pa_nil)) pa_nil)))
      (pss_cons (ps_set (i := 2) nd rfl (by first | exact Or.inl rfl | exact Or.inr rfl) (pe_dc (own := [("rank", 3), ("number", 4)]) (g := _) (tt := _) rfl nd (pi_enumK (K := K) rfl (by rfl) m_enumerate (pa_cons (pv 1) pa_nil)) (by refine blkOk_by ?_; show blkC N_ranks (defScope s_ranks) _ _ = true; decide +kernel) (fun _ _ _ _ _ => (pg_tupK (K := K) (n := 2) rfl rfl (pgs_cons (pg_name (i := 3) nd rfl (by first | exact Or.inl rfl | exact Or.inr rfl)) (pgs_cons (pg_name (i := 4) nd rfl (by first | exact Or.inl rfl | exact Or.inr rfl)) pgs_nil)))) (fun _ _ _ _ _ => pts_nil) (fun _ _ _ _ _ => (pv 4)) (fun _ _ _ _ _ => (pv 3))))
      (pss_one (ps_ret (pe_lc (own := [("number", 4)]) (g := gName 4) rfl nd (pi_listK (K := K) rfl (pv 0)) (by refine blkOk_by ?_; show blkC N_ranks (defScope s_ranks) _ _ = true; decide +kernel) (fun _ _ _ _ _ => (pg_name (i := 4) nd rfl (by first | exact Or.inl rfl | exact Or.inr rfl))) (fun _ _ _ _ _ => pts_nil) (fun _ _ _ _ _ => (pe_dget (hu_of hr) (pv 2) (pv 4) (fun _ _ => rfl)))))))) , ?_⟩)
  refine ok_bodyT (fun ns => [.dat (.lst (ns.map Dt.int)), .un, .un, .un, .un]) h (fun _ => by show 1 ≤ 5; decide) (fun _ => rfl) fun c ns hc hp => ?_
  refine ds_let (T := fun d => ∃ ms : List Int, d = .lst (ms.map Dt.int) ∧ ms.Pairwise (· < ·) ∧ ∀ k, k ∈ ms ↔ k ∈ ns) (Dl.dn (dl_sortedSet (de_var rfl) hp) fun ds h => by
    obtain ⟨ms, e, h1, h2⟩ := h
    exact ⟨ms, by rw [e], h1, h2⟩) fun d h => ?_
  obtain ⟨ms, rfl, has, hmem⟩ := h
  have hnd := asc_nodup has
  have hml : ms.length ≤ 10000000 := by
    have : ms.Perm (firsts ns) := (List.perm_ext_iff_of_nodup hnd (firsts_spec ns).1).mpr fun k => by rw [hmem k, (firsts_spec ns).2 k]
    have := this.length_eq
    have := firsts_len ns
    omega
  refine ds_letObj (S := fun kvs => kvs = dictO 0 ms) (dd_dc (di_enum (de_var rfl)) fun xs e => ?_) fun kvs e => ?_
  · subst e
    refine ⟨fun i acc => acc = dictO 0 (ms.take i), rfl, ?_, ?_, ?_, ?_⟩
    · rintro i d acc hd rfl
      have hi : i < ms.length := by
        have := (List.getElem?_eq_some_iff.mp hd).1
        simpa [enumD] using this
      have ed : d = .tup [.int (i : Int), .int ms[i]] := by
        have : (enumD (ms.map Dt.int))[i]? = some (.tup [.int (i : Int), .int ms[i]]) := by simp [enumD, hi]
        rw [this] at hd
        exact (Option.some.inj hd).symm
      subst ed
      refine dg_tup rfl (dgs_name (by decide) (dgs_name (by decide) (dgs_nil ?_)))
      refine ⟨.inl ms[i], .int (i : Int), de_var rfl, de_var rfl, rfl, ?_⟩
      have nin : ms[i] ∉ ms.take i := fun hm => by
        obtain ⟨j, hj, e⟩ := List.getElem_of_mem hm
        rw [List.length_take] at hj
        rw [List.getElem_take] at e
        have := (List.getElem_inj hnd).mp e
        omega
      have tl : (ms.take i).length = i := by rw [List.length_take]; omega
      have pt := dictO_put nin
      rw [tl] at pt
      show putK (dictO 0 (ms.take i)) (.inl ms[i]) (.int (i : Int)) = _
      rw [pt, List.take_add_one, List.getElem?_eq_getElem hi]
      rfl
    · rintro acc rfl
      rw [show (enumD (ms.map Dt.int)).length = ms.length by simp [enumD], List.take_length]
    · simpa [enumD] using hml
    · rintro i acc rfl
      rw [dictO_len, List.length_take]; omega
  · subst e
    refine ds_retE (Dl.de (dl_lcMap (fun d => match d with
      | .int n => .int (rankN ns n)
      | d => d) (di_list (de_var rfl)) (by rw [List.length_map]; omega) fun d hd => ?_)) ?_
    · obtain ⟨n, hn, rfl⟩ := List.mem_map.mp hd
      obtain ⟨j, hj⟩ := List.mem_iff_getElem?.mp ((hmem n).mpr hn)
      refine dg_name (by decide) (de_dget (k := .inl n) (x := .int (rankN ns n)) rfl (de_var rfl) ?_ fun _ => .int _)
      rw [dictO_get hnd hj, rankN_of hnd hmem n, asc_filter has hj, Nat.zero_add]
      rfl
    · rw [List.map_map, List.map_map]
      rfl
end
end K07

set_option Elab.async false
set_option maxRecDepth 100000
set_option maxHeartbeats 4000000
namespace K07
open PySem L2 StX Zd
/-! ### data as the model's own data -/
def evP (e : Evt) : PyData := .tuple [.str e.1, .int e.2]
theorem dp_evs {K : PySem.W.Frag} {G H : Hp} (s : Same G H) : ∀ {vs : List V} {es : List Evt}, Dqs G vs (es.map evD) → DpAll K H vs (es.map evP)
  | [], [], .nil => .nil
  | _ :: _, _ :: _, .cons h hs => by
    refine .cons ?_ (dp_evs s hs)
    cases h with
    | tup a1 a2 =>
      cases a2 with
      | cons b1 b2 =>
        cases b2 with
        | cons c1 c2 =>
          cases c2; cases b1; cases c1
          exact .tup (SqT.of (s _ _ a1)) (.cons (.str _) (.cons (.int _) .nil))
theorem dp_ev {K : PySem.W.Frag} {G H : Hp} (s : Same G H) {v : V} {es : List Evt} (h : Dq G v (evsD es)) : Dp K H v (.list (es.map evP)) := by
  cases h with
  | lst a1 a2 => exact .lst (SqL.of (s _ _ a1)) (dp_evs s a2)
def nameOk (e : Evt) : Prop := PyData.strOk e.1 = true
theorem can_evs : ∀ {es : List Evt}, (∀ e ∈ es, nameOk e) → PyData.canLayAll0 (es.map evP) = true
  | [], _ => rfl
  | e :: r, h => by
    have h1 : PyData.strOk e.1 = true := h e List.mem_cons_self
    simp only [List.map_cons, PyData.canLayAll0, evP, PyData.canLay0, h1, can_evs (es := r) fun x hx => h x (List.mem_cons_of_mem _ hx), Bool.and_self, Bool.and_true]
theorem deep_evs : ∀ es : List Evt, PyData.depthAll (es.map evP) ≤ 1
  | [] => Nat.zero_le _
  | e :: r => by
    have := deep_evs r
    simp only [List.map_cons, PyData.depthAll, evP, PyData.depth]
    omega
theorem shaped_evs {es : List Evt} (h : ∀ e ∈ es, nameOk e) : SeqAt.shaped (.list (es.map evP)) = true := by
  unfold SeqAt.shaped
  have := deep_evs es
  rw [Bool.and_eq_true]
  refine ⟨by rw [PyData.canLay0]; exact can_evs h, decide_eq_true ?_⟩
  rw [PyData.depth]
  exact Nat.le_trans (Nat.succ_le_succ this) (by decide)
theorem eqv_evs : ∀ as bs : List Evt, PyData.eqvAll (as.map evP) (bs.map evP) = decide (as = bs)
  | [], [] => by simp [PyData.eqvAll]
  | [], _ :: _ => by simp [PyData.eqvAll]
  | _ :: _, [] => by simp [PyData.eqvAll]
  | (n, i) :: r, (m, j) :: t => by
    have ih := eqv_evs r t
    have e1 : PyData.eqv (evP (n, i)) (evP (m, j)) = decide ((n, i) = (m, j)) := by
      show PyData.eqvAll [.str n, .int i] [.str m, .int j] = _
      simp only [PyData.eqvAll, PyData.eqv, Bool.and_true]
      by_cases h1 : n = m <;> by_cases h2 : i = j <;> simp [h1, h2]
    rw [List.map_cons, List.map_cons, PyData.eqvAll, e1, ih]
    by_cases h1 : (n, i) = (m, j) <;> by_cases h2 : r = t <;> simp [h1, h2]
theorem rv_eqEvs {b : Bx} {K : PySem.W.Frag} {as bs : List Evt} (ha : ∀ e ∈ as, nameOk e) (hb : ∀ e ∈ bs, nameOk e) : Rv b (rEqD K) (evsD as) (evsD bs) (· = .bl (decide (as = bs))) := rv_val fun v w G H s d1 d2 Q q => by
  refine ⟨_, _, dp_ev s d1, dp_ev s d2, shaped_evs ha, shaped_evs hb, ?_⟩
  rw [show PyData.eqv (.list (as.map evP)) (.list (bs.map evP)) = PyData.eqvAll (as.map evP) (bs.map evP) by rw [PyData.eqv], eqv_evs]
  exact q _ (.bl _)
theorem rv_neEvs {b : Bx} {K : PySem.W.Frag} {as bs : List Evt} (ha : ∀ e ∈ as, nameOk e) (hb : ∀ e ∈ bs, nameOk e) : Rv b (rNeD K) (evsD as) (evsD bs) (· = .bl (!decide (as = bs))) := rv_val fun v w G H s d1 d2 Q q => by
  refine ⟨_, _, dp_ev s d1, dp_ev s d2, shaped_evs ha, shaped_evs hb, ?_⟩
  rw [show PyData.eqv (.list (as.map evP)) (.list (bs.map evP)) = PyData.eqvAll (as.map evP) (bs.map evP) by rw [PyData.eqv], eqv_evs]
  exact q _ (.bl _)
theorem rankE_names {es : List Evt} (h : ∀ e ∈ es, nameOk e) : ∀ e ∈ rankE es, nameOk e := fun e he => by
  obtain ⟨x, hx, rfl⟩ := List.mem_map.mp he
  exact h x hx
section
variable {P : Program} {w : World} {K : PySem.W.Frag} {mg : Str → Option Value} {base : Heap}
theorem zip_rank (es : List Evt) : zipD (es.map fun e => Dt.str e.1) (((es.map (·.2)).map (rankN (es.map (·.2)))).map Dt.int) = (rankE es).map evD := by
  have key : ∀ (f : Int → Int) (l : List Evt), zipD (l.map fun e => Dt.str e.1) (((l.map (·.2)).map f).map Dt.int) = (l.map fun e => (e.1, f e.2)).map evD := by
    intro f l
    induction l with
    | nil => rfl
    | cons e r ih =>
      have ih' : ((r.map fun e => Dt.str e.1).zip (((r.map (·.2)).map f).map Dt.int)).map (fun p => Dt.tup [p.1, p.2]) = (r.map fun e => (e.1, f e.2)).map evD := ih
      show _ :: ((r.map fun e => Dt.str e.1).zip (((r.map (·.2)).map f).map Dt.int)).map (fun p => Dt.tup [p.1, p.2]) = _
      rw [ih']
      rfl
  exact key _ es
abbrev spRankedP : Sp := spT (fun es : List Evt => [evsD es]) (fun es => es.length < 64) fun es d => d = evsD (rankE es)
theorem ok_ranked {f f2 : Addr} {fd fd2 : FuncData} (F : Fun K "ranked" "ranked" s_ranked f fd) (k_ranks : Kn K mg "ranks" s_ranks ["numbers"] f2 fd2) (m_set : mg "set" = none) (m_sorted : mg "sorted" = none) (m_enumerate : mg "enumerate" = none) (m_list : mg "list" = none) (m_zip : mg "zip" = none) : FnOk P w K mg base CX0 2 f fd ["events"] spRankedP := by
  have nd := sc_ranked.nd
  have G_ranks : FnOk P w K mg base CX0 1 f2 fd2 ["numbers"] spRanks := ok_ranks k_ranks.F m_set m_sorted m_enumerate
  refine F.ok sc_ranked (fun vs H Q E h => spT_len (fun _ => rfl) h) (fun cdv A outer s H vs Q E hr h => ⟨_, (pss_cons (ps_setLc (i := 1) (own := [("name", 2), ("_", 3)]) (g := _) rfl nd rfl rfl (sw_true rfl rfl rfl (by decide +kernel)) (pi_listK (K := K) rfl (pv 0)) (by refine blkOk_by ?_; show blkC N_ranked (defScope s_ranked) _ _ = true; decide +kernel) (fun _ _ _ _ _ => (pg_tupK (K := K) (n := 2) rfl rfl (pgs_cons (pg_name (i := 2) nd rfl (by first | exact Or.inl rfl | exact Or.inr rfl)) (pgs_cons (pg_name (i := 3) nd rfl (by first | exact Or.inl rfl | exact Or.inr rfl)) pgs_nil)))) (fun _ _ _ _ _ => pts_nil) (fun _ _ _ _ _ => (pv 2)))
      (pss_one (ps_ret (pe_listZip (K := K) rfl rfl (by rfl) m_list (by rfl) m_zip (pa_cons (pv 1) (pa_cons (pe_call G_ranks (hr.mono (by decide)) (by rfl) k_ranks.g k_ranks.F.kp k_ranks.b .nil pass0 (pa_cons (pe_lc (own := [("_", 3), ("number", 4)]) (g := _) rfl nd (pi_listK (K := K) rfl (pv 0)) (by refine blkOk_by ?_; show blkC N_ranked (defScope s_ranked) _ _ = true; decide +kernel) (fun _ _ _ _ _ => (pg_tupK (K := K) (n := 2) rfl rfl (pgs_cons (pg_name (i := 3) nd rfl (by first | exact Or.inl rfl | exact Or.inr rfl)) (pgs_cons (pg_name (i := 4) nd rfl (by first | exact Or.inl rfl | exact Or.inr rfl)) pgs_nil)))) (fun _ _ _ _ _ => pts_nil) (fun _ _ _ _ _ => (pv 4))) pa_nil)) pa_nil)))))) , ?_⟩)
  refine ok_bodyT (fun es => [.dat (evsD es), .un, .un, .un, .un]) h (fun _ => by show 1 ≤ 5; decide) (fun _ => rfl) fun c es hc hp => ?_
  have hp : es.length < 64 := hp
  refine ds_letE (d := .lst (es.map fun e => Dt.str e.1)) (De.eq (Dl.de (dl_lcMap (fun d => match d with
    | .tup [.str s, .int n] => .str s
    | d => d) (di_list (de_var rfl)) (by rw [List.length_map]; omega) fun d hd => ?_)) ?_) ?_
  · obtain ⟨e, he, rfl⟩ := List.mem_map.mp hd
    exact dg_tup rfl (dgs_name (by decide) (dgs_name (by decide) (dgs_nil (de_var rfl))))
  · rw [List.map_map]; rfl
  refine ds_retE (Dl.de (dl_listZip (de_var rfl) (de_callT (A := fun ns : List Int => [.lst (ns.map Dt.int)]) (f := fun ns => .lst ((ns.map (rankN ns)).map Dt.int)) (es.map (·.2)) (Ds'.imp (da_consE (Dl.de (dl_lcMap (fun d => match d with
    | .tup [.str s, .int n] => .int n
    | d => d) (di_list (de_var rfl)) (by rw [List.length_map]; omega) fun d hd => ?_)) da_nil) fun ds e => ?_) ?_) ?_ ?_)) ?_
  · obtain ⟨e, he, rfl⟩ := List.mem_map.mp hd
    exact dg_tup rfl (dgs_name (by decide) (dgs_name (by decide) (dgs_nil (de_var rfl))))
  · rw [e, List.map_map, List.map_map]; rfl
  · show (es.map _).length < 64
    rw [List.length_map]; exact hp
  · simp
  · rw [List.length_map]; omega
  · show Dt.lst _ = Dt.lst _
    rw [zip_rank]
abbrev spAlike : Sp := spT (fun a : List Evt × List Evt => [evsD a.1, evsD a.2]) (fun a => (a.1.length < 64 ∧ a.2.length < 64) ∧ (∀ e ∈ a.1, nameOk e) ∧ ∀ e ∈ a.2, nameOk e) fun a d => d = .bl (decide (rankE a.1 = rankE a.2))
theorem ok_alike {f f2 f3 : Addr} {fd fd2 fd3 : FuncData} (F : Fun K "alike" "alike" s_alike f fd) (k_ranked : Kn K mg "ranked" s_ranked ["events"] f3 fd3) (k_ranks : Kn K mg "ranks" s_ranks ["numbers"] f2 fd2) (m_set : mg "set" = none) (m_sorted : mg "sorted" = none) (m_enumerate : mg "enumerate" = none) (m_list : mg "list" = none) (m_zip : mg "zip" = none) : FnOk P w K mg base CX0 3 f fd ["first", "second"] spAlike := by
  have nd := sc_alike.nd
  have G_ranked : FnOk P w K mg base CX0 2 f3 fd3 ["events"] spRankedP := ok_ranked k_ranked.F k_ranks m_set m_sorted m_enumerate m_list m_zip
  refine F.ok sc_alike (fun vs H Q E h => spT_len (fun _ => rfl) h) (fun cdv A outer s H vs Q E hr h => ⟨_, (pss_one (ps_ret (pe_cmpR (op_eqDK (K := K) rfl hr.units) (pe_call G_ranked (hr.mono (by decide)) (by rfl) k_ranked.g k_ranked.F.kp k_ranked.b .nil pass0 (pa_cons (pv 0) pa_nil)) (pe_call G_ranked (hr.mono (by decide)) (by rfl) k_ranked.g k_ranked.F.kp k_ranked.b .nil pass0 (pa_cons (pv 1) pa_nil)) (nomark _)))) , ?_⟩)
  refine ok_bodyT (fun a => [.dat (evsD a.1), .dat (evsD a.2)]) h (fun _ => Nat.le_refl 2) (fun _ => rfl) fun c a hc hp => ?_
  obtain ⟨x, y⟩ := a
  obtain ⟨⟨h1, h2⟩, h3, h4⟩ := hp
  refine ds_retE (de_op (de_callT (A := fun es : List Evt => [evsD es]) (f := fun es => evsD (rankE es)) x (da_consE (de_var rfl) da_nil) h1) (de_callT (A := fun es : List Evt => [evsD es]) (f := fun es => evsD (rankE es)) y (da_consE (de_var rfl) da_nil) h2) (rv_eqEvs (rankE_names h3) (rankE_names h4))) rfl
end
end K07

set_option Elab.async false
set_option maxRecDepth 100000
set_option maxHeartbeats 4000000
namespace K07
open PySem L2 StX Zd
/-! ### order alone -/
theorem rankN_mono {f : Int → Int} (hf : ∀ a b, a < b ↔ f a < f b) (ns : List Int) (n : Int) : rankN (ns.map f) (f n) = rankN ns n := by
  obtain ⟨h1, h2⟩ := firsts_spec ns
  have inj : ∀ a b, f a = f b → a = b := fun a b e => by
    rcases Int.lt_trichotomy a b with h | h | h
    · have := (hf a b).mp h; omega
    · exact h
    · have := (hf b a).mp h; omega
  have nd : ((firsts ns).map f).Nodup := by
    rw [List.nodup_iff_pairwise_ne, List.pairwise_map]
    exact h1.imp fun h e => h (inj _ _ e)
  have hm : ∀ k, k ∈ (firsts ns).map f ↔ k ∈ ns.map f := fun k => by
    simp only [List.mem_map]
    constructor
    · rintro ⟨x, hx, rfl⟩; exact ⟨x, (h2 x).mp hx, rfl⟩
    · rintro ⟨x, hx, rfl⟩; exact ⟨x, (h2 x).mpr hx, rfl⟩
  rw [rankN_of nd hm, List.filter_map, List.length_map]
  unfold rankN
  congr 2
  refine List.filter_congr fun m _ => ?_
  show decide (f m < f n) = decide (m < n)
  by_cases h : m < n
  · simp [h, (hf m n).mp h]
  · have : ¬ f m < f n := fun z => h ((hf m n).mpr z)
    simp [h, this]
theorem rankE_mono {f : Int → Int} (hf : ∀ a b, a < b ↔ f a < f b) (es : List Evt) : rankE (es.map fun e => (e.1, f e.2)) = rankE es := by
  unfold rankE
  rw [List.map_map, List.map_map]
  refine List.map_congr_left fun e _ => ?_
  show (e.1, rankN (es.map (fun e => f e.2)) (f e.2)) = _
  have : es.map (fun e => f e.2) = (es.map (·.2)).map f := by rw [List.map_map]; rfl
  rw [this, rankN_mono hf]
theorem putE_alt (es : List Evt) (nm : Str) (p : Int) : rankE (es.map (fun e => (e.1, 2 * e.2)) ++ [(nm, p - 1)]) = putE es nm p := by
  have := rankE_mono (f := fun i => i + 1) (fun a b => by omega) (es.map (fun e => (e.1, 2 * e.2)) ++ [(nm, p - 1)])
  rw [← this, putE, List.map_append, List.map_map]
  congr 2
  show [(nm, p - 1 + 1)] = _
  rw [Int.sub_add_cancel]
def oneL (names : List Str) (es : List Evt) : List (List Evt) := names.flatMap fun nm => (List.range (2 * sizeE es + 1)).map fun (p : Nat) => putE es nm (p : Int)
section
variable {P : Program} {w : World} {K : PySem.W.Frag} {mg : Str → Option Value} {base : Heap}
abbrev strsT (xs : List Str) : Dt := .tup (xs.map Dt.str)
abbrev spOne : Sp := spT (fun a : List Str × List Evt => [strsT a.1, evsD a.2]) (fun a => a.1.length ≤ 100 ∧ a.2.length ≤ 50) fun a d => d = insD (oneL a.1 a.2)
theorem ok_one_longer {f f2 f3 : Addr} {fd fd2 fd3 : FuncData} (F : Fun K "one_longer" "one_longer" s_one_longer f fd) (k_ranked : Kn K mg "ranked" s_ranked ["events"] f3 fd3) (k_ranks : Kn K mg "ranks" s_ranks ["numbers"] f2 fd2) (m_set : mg "set" = none) (m_sorted : mg "sorted" = none) (m_enumerate : mg "enumerate" = none) (m_list : mg "list" = none) (m_zip : mg "zip" = none) (m_len : mg "len" = none) (m_range : mg "range" = none) : FnOk P w K mg base CX0 3 f fd ["names", "events"] spOne := by
  have nd := sc_one_longer.nd
  have G_ranked : FnOk P w K mg base CX0 2 f3 fd3 ["events"] spRankedP := ok_ranked k_ranked.F k_ranks m_set m_sorted m_enumerate m_list m_zip
  refine F.ok sc_one_longer (fun vs H Q E h => spT_len (fun _ => rfl) h) (fun cdv A outer s H vs Q E hr h => ⟨_, (pss_cons (ps_set (i := 2) nd rfl (by first | exact Or.inl rfl | exact Or.inr rfl) (pe_lc (own := [("name", 3), ("number", 4)]) (g := _) rfl nd (pi_listK (K := K) rfl (pv 1)) (by refine blkOk_by ?_; show blkC N_one_longer (defScope s_one_longer) _ _ = true; decide +kernel) (fun _ _ _ _ _ => (pg_tupK (K := K) (n := 2) rfl rfl (pgs_cons (pg_name (i := 3) nd rfl (by first | exact Or.inl rfl | exact Or.inr rfl)) (pgs_cons (pg_name (i := 4) nd rfl (by first | exact Or.inl rfl | exact Or.inr rfl)) pgs_nil)))) (fun _ _ _ _ _ => pts_nil) (fun _ _ _ _ _ => (pe_tup (pa_cons (pv 3) (pa_cons (pe_op op_mul pe_int (pv 4)) pa_nil))))))
      (pss_cons (ps_set (i := 5) nd rfl (by first | exact Or.inl rfl | exact Or.inr rfl) (pe_callB (cr_lenSet (w := w) rfl) (by rfl) m_len PySem.boot_len (pa_cons (pe_callTy (cr_setL (K := K) (w := w) rfl rfl rfl) (by rfl) m_set (by decide +kernel) (pa_cons (pe_lc (own := [("_", 6), ("number", 4)]) (g := _) rfl nd (pi_listK (K := K) rfl (pv 1)) (by refine blkOk_by ?_; show blkC N_one_longer (defScope s_one_longer) _ _ = true; decide +kernel) (fun _ _ _ _ _ => (pg_tupK (K := K) (n := 2) rfl rfl (pgs_cons (pg_name (i := 6) nd rfl (by first | exact Or.inl rfl | exact Or.inr rfl)) (pgs_cons (pg_name (i := 4) nd rfl (by first | exact Or.inl rfl | exact Or.inr rfl)) pgs_nil)))) (fun _ _ _ _ _ => pts_nil) (fun _ _ _ _ _ => (pv 4))) pa_nil)) pa_nil)))
      (pss_one (ps_ret (pe_lc2 (own := [("name", 3), ("position", 7)]) (g := gName 3) (vs1 := [7]) rfl nd (pi_tupK (K := K) rfl (pv 0)) (by refine blkOk_by ?_; show blkC N_one_longer (defScope s_one_longer) _ _ = true; decide +kernel) (by decide) (fun _ _ _ _ _ => (pg_name (i := 3) nd rfl (by first | exact Or.inl rfl | exact Or.inr rfl))) (fun _ _ _ _ _ => pts_nil) (fun _ _ _ _ _ => (pi_range1 rfl m_range (pa_cons (pe_op op_add (pe_op op_mul pe_int (pv 5)) pe_int) pa_nil))) (fun _ _ _ _ _ => (pg_name (i := 7) nd rfl (by first | exact Or.inl rfl | exact Or.inr rfl))) (fun _ _ _ _ _ => pts_nil) (fun _ _ _ _ _ => (pe_call G_ranked (hr.mono (by decide)) (by rfl) k_ranked.g k_ranked.F.kp k_ranked.b .nil pass0 (pa_cons (pe_lst (pa_starK (K := K) rfl (pv 2) (pa_cons (pe_tup (pa_cons (pv 3) (pa_cons (pe_op op_sub (pv 7) pe_int) pa_nil))) pa_nil))) pa_nil)))))))) , ?_⟩)
  refine ok_bodyT (fun a => [.dat (strsT a.1), .dat (evsD a.2), .un, .un, .un, .un, .un, .un]) h (fun _ => by show 2 ≤ 8; decide) (fun _ => rfl) fun c a hc hp => ?_
  obtain ⟨names, es⟩ := a
  obtain ⟨hp1, hp2⟩ : names.length ≤ 100 ∧ es.length ≤ 50 := hp
  refine ds_letE (d := evsD (es.map fun e => (e.1, 2 * e.2))) (De.eq (Dl.de (dl_lcMap (fun d => match d with
    | .tup [.str s, .int n] => .tup [.str s, .int (2 * n)]
    | d => d) (di_list (de_var rfl)) (by rw [List.length_map]; exact Nat.le_trans hp2 (by decide)) fun d hd => ?_)) ?_) ?_
  · obtain ⟨e, he, rfl⟩ := List.mem_map.mp hd
    refine dg_tup rfl (dgs_name (by decide) (dgs_name (by decide) (dgs_nil ?_)))
    exact de_tup (da_consE (de_var rfl) (da_consE (de_mulL de_int (de_var rfl) (by decide)) da_nil))
  · unfold evsD
    rw [List.map_map, List.map_map]
    rfl
  refine ds_letE (d := .int (sizeE es)) (de_lenSet (ns := es.map (·.2)) (ms := firsts (es.map (·.2))) (De.eq (Dl.de (dl_lcMap (fun d => match d with
    | .tup [.str s, .int n] => .int n
    | d => d) (di_list (de_var rfl)) (by rw [List.length_map]; exact Nat.le_trans hp2 (by decide)) fun d hd => ?_)) ?_) (by rw [List.length_map]; omega) (firsts_spec _).1 (firsts_spec _).2) ?_
  · obtain ⟨e, he, rfl⟩ := List.mem_map.mp hd
    exact dg_tup rfl (dgs_name (by decide) (dgs_name (by decide) (dgs_nil (de_var rfl))))
  · rw [List.map_map, List.map_map]; rfl
  have hsz := sizeE_le es
  refine ds_retE (Dl.de (dl_lc2 (fun d y => match d, y with
    | .str nm, .int p => evsD (putE es nm p)
    | _, _ => .non) (fun _ => rngD 0 (2 * (sizeE es : Int) + 1).toNat) (di_tup (de_var rfl)) ?_ fun d hd => ?_)) ?_
  · rw [List.length_flatMap]
    have : ∀ (l : List Dt) (k : Nat), (l.map fun _ => k).sum = l.length * k := by
      intro l k
      induction l with
      | nil => simp
      | cons x r ih => rw [List.map_cons, List.sum_cons, ih, List.length_cons, Nat.succ_mul]; omega
    simp only [List.length_map, rngD_len, this]
    have h1 : (2 * (sizeE es : Int) + 1).toNat ≤ 101 := by omega
    have := Nat.mul_le_mul hp1 h1
    omega
  · obtain ⟨nm, hnm, rfl⟩ := List.mem_map.mp hd
    refine dg_name (by decide) ⟨rfl, di_rng1E (n := 2 * (sizeE es : Int) + 1) (de_add (de_mulL de_int (de_var rfl) (by decide)) de_int) (by omega) (by omega), fun y hy => ?_⟩
    obtain ⟨p, hp, rfl⟩ := List.mem_map.mp hy
    refine dg_name (by decide) ?_
    refine De.eq (de_callT (A := fun es : List Evt => [evsD es]) (f := fun es => evsD (rankE es)) (es.map (fun e => (e.1, 2 * e.2)) ++ [(nm, (0 : Int) + (p : Int) - 1)]) (Ds'.imp (da_consE (de_lst (da_starE (xs := (es.map fun e => (e.1, 2 * e.2)).map evD) (de_var rfl) (da_consE (de_tup (da_consE (de_var rfl) (da_consE (de_sub (de_var rfl) de_int) da_nil))) da_nil)) ?_) da_nil) fun ds e => ?_) ?_) ?_
    · simp only [List.length_append, List.length_map, List.length_singleton]; omega
    · rw [e]; show [Dt.lst _] = [Dt.lst _]; rw [List.map_append]; rfl
    · show (_ ++ _ : List Evt).length < 64
      rw [List.length_append, List.length_map]
      have : ([(nm, (0 : Int) + (p : Int) - 1)] : List Evt).length = 1 := rfl
      omega
    · show evsD (rankE (es.map (fun e => (e.1, 2 * e.2)) ++ [(nm, (0 : Int) + (p : Int) - 1)])) = evsD (putE es nm ((0 : Int) + (p : Int)))
      rw [putE_alt]
  · show Dt.lst _ = Dt.lst _
    congr 1
    have e1 : (2 * (sizeE es : Int) + 1).toNat = 2 * sizeE es + 1 := by omega
    rw [e1, oneL, List.flatMap_map, List.map_flatMap]
    congr 1
    funext nm
    rw [rngD, List.map_map, List.map_map]
    refine List.map_congr_left fun p _ => ?_
    show evsD (putE es nm (0 + (p : Int))) = _
    rw [Int.zero_add]
    rfl
end
end K07

set_option Elab.async false
set_option maxRecDepth 100000
set_option maxHeartbeats 4000000
namespace K07
open PySem L2 StX Zd
/-- an own error class over ValueError, without a method of its own -/
structure Exq (K : PySem.W.Frag) (mg : Str → Option Value) (nm : Str) (C : Addr) : Prop where
  x : PySem.W.excIn K C [.type "ValueError", .type "Exception", .type "BaseException", .type "object"] "ValueError.__new__" = true
  g : mg nm = some (.ref C)
  k : PySem.W.keepIn K (.ref C) = true
  b : PySem.W.subIn K (.ref C) (.type "BaseException") = some true
  t : PySem.W.typeIn K (.ref C) = some (.type "type")
/-- one level of the program's listing, with its bound -/
def levelP (f : Nat) (names : List Str) : List (List Evt) → List (List Evt) → Option (List (List Evt))
  | [], lg => some lg
  | es :: r, lg => if f + (lg ++ oneL names es).length > 300 then none else levelP f names r (lg ++ oneL names es)
def allR (names : List Str) : Nat → List (List Evt) → List (List Evt) → Option (List (List Evt))
  | 0, fo, _ => some fo
  | k + 1, fo, la => match levelP fo.length names la [] with
    | none => none
    | some lg => allR names k (fo ++ lg) lg
def allP (names : List Str) (n : Nat) : Option (List (List Evt)) := allR names n [] [[]]
theorem oneL_len (names : List Str) (es : List Evt) : (oneL names es).length = names.length * (2 * sizeE es + 1) := by
  unfold oneL
  generalize 2 * sizeE es + 1 = k
  induction names with
  | nil => simp
  | cons a r ih => rw [List.flatMap_cons, List.length_append, ih, List.length_map, List.length_range, List.length_cons, Nat.succ_mul, Nat.add_comm]
theorem oneL_mem {names : List Str} {es : List Evt} {x : List Evt} (h : x ∈ oneL names es) : x.length = es.length + 1 := by
  obtain ⟨nm, _, hx⟩ := List.mem_flatMap.mp h
  obtain ⟨p, _, rfl⟩ := List.mem_map.mp hx
  exact putE_len es nm p
section
variable {P : Program} {w : World} {K : PySem.W.Frag} {mg : Str → Option Value} {base : Heap} {CT : Addr} {tM : Tok}
def spAll (C : Addr) : Sp := fun vs H Q E => ∃ (G : Hp) (names : List Str) (n : Nat), Same G H ∧ Dqs G vs [strsT names, .int n] ∧ (names.length ≤ 100 ∧ n ≤ 10) ∧
  (∀ l v G' H', allP names n = some l → Gx Bx.pure G H G' H' → Dq G' v (insD l) → Q v H') ∧ (allP names n = none → ∀ G' H', Gx Bx.pure G H G' H' → E (.ref C) none H')
theorem ok_all_inputs {f f2 f3 f4 : Addr} {fd fd2 fd3 fd4 : FuncData} (F : Fun K "all_inputs" "all_inputs" s_all_inputs f fd) (k_one_longer : Kn K mg "one_longer" s_one_longer ["names", "events"] f4 fd4) (k_ranked : Kn K mg "ranked" s_ranked ["events"] f3 fd3) (k_ranks : Kn K mg "ranks" s_ranks ["numbers"] f2 fd2)
    (x_TooLarge : Exq K mg "TooLarge" CT) (c_MOST_INPUTS : mg "MOST_INPUTS" = some (.int 300 tM))
    (m_set : mg "set" = none) (m_sorted : mg "sorted" = none) (m_enumerate : mg "enumerate" = none) (m_list : mg "list" = none) (m_zip : mg "zip" = none) (m_len : mg "len" = none) (m_range : mg "range" = none) : FnOk P w K mg base (L2.CX P w) 4 f fd ["names", "length"] (spAll CT) := by
  have nd := sc_all_inputs.nd
  have G_one_longer : FnOk P w K mg base CX0 3 f4 fd4 ["names", "events"] spOne := ok_one_longer k_one_longer.F k_ranked k_ranks m_set m_sorted m_enumerate m_list m_zip m_len m_range
  refine F.okX sc_all_inputs (fun vs H Q E h => by obtain ⟨G, names, n, _, d, _⟩ := h; exact d.length) (fun cdv A outer s H vs Q E hr h => ⟨_, (pss_cons (ps_set (i := 2) nd rfl (by first | exact Or.inl rfl | exact Or.inr rfl) (pe_lst pa_nil))
      (pss_cons (ps_set (i := 3) nd rfl (by first | exact Or.inl rfl | exact Or.inr rfl) (pe_lst (pa_cons (pe_lst pa_nil) pa_nil)))
      (pss_cons (ps_for (passes_of rfl) rfl (pi_range1 rfl m_range (pa_cons (pv 1) pa_nil)) (pg_name (i := 4) nd rfl (by first | exact Or.inl rfl | exact Or.inr rfl)) (pss_cons (ps_set (i := 5) nd rfl (by first | exact Or.inl rfl | exact Or.inr rfl) (pe_lst pa_nil))
      (pss_cons (ps_for (passes_of rfl) rfl (pi_listK (K := K) rfl (pv 3)) (pg_name (i := 6) nd rfl (by first | exact Or.inl rfl | exact Or.inr rfl)) (pss_cons (ps_expr (pe_bm PySem.F.plainAttrs_list PySem.F.slot_list_extend PySem.F.type_list_extend mt_extend (pv 5) (pa_cons (pe_call G_one_longer (hr.mono (by decide)) (by rfl) k_one_longer.g k_one_longer.F.kp k_one_longer.b .nil pass0 (pa_cons (pv 0) (pa_cons (pv 6) pa_nil))) pa_nil)))
      (pss_one (ps_if (pt_cmpR op_gt (pe_op op_add (pe_callB (call_lenK (K := K) rfl) (by rfl) m_len PySem.boot_len (pa_cons (pv 2) pa_nil)) (pe_callB (call_lenK (K := K) rfl) (by rfl) m_len PySem.boot_len (pa_cons (pv 5) pa_nil))) (pe_glob (v := .int 300) rfl c_MOST_INPUTS ⟨_, rfl⟩) (nomark _)) (pss_one (ps_raise rfl (takes_of rfl rfl rfl rfl) (pmk_own PySem.F.excBase_ValueError x_TooLarge.x x_TooLarge.g x_TooLarge.k (raises_own x_TooLarge.b x_TooLarge.t) rfl))) pss_nil))))
      (pss_cons (ps_expr (pe_bm PySem.F.plainAttrs_list PySem.F.slot_list_extend PySem.F.type_list_extend mt_extend (pv 2) (pa_cons (pv 5) pa_nil)))
      (pss_one (ps_set (i := 3) nd rfl (by first | exact Or.inl rfl | exact Or.inr rfl) (pe_callTy (call_list_ofK (K := K) rfl) (by rfl) m_list (by decide +kernel) (pa_cons (pv 5) pa_nil))))))))
      (pss_one (ps_ret (pv 2)))))) , ?_⟩)
  obtain ⟨G, names, n, s0, d, ⟨hp1, hp2⟩, qN, qE⟩ := h
  refine (?_ : Ds ⟨Bx.pure, G, H⟩ _ [.dat (strsT names), .dat (.int n), .un, .un, .un, .un, .un] { N := fun _ => False, R := fun d => ∃ l, allP names n = some l ∧ d = insD l }) _ _ G H (d.start s0 N_all_inputs (by rw [d.length]; show 2 ≤ 7; decide)) (fun _ _ _ _ _ _ z => z.elim) (fun v d G' H' g dq r => by obtain ⟨l, h1, rfl⟩ := r; exact qN l v G' H' h1 g dq) (fun _ _ _ _ _ _ z => z.elim) (fun _ _ _ _ _ _ z => z.elim)
  refine ds_letOwnE (dl_lst da_nil fun _ e => by rw [e]; exact Nat.zero_le _) ?_
  refine ds_letE (d := insD [[]]) (de_lst (da_consE (de_lst da_nil) da_nil)) ?_
  refine ds_seq (M := fun δ' => ∃ fo x3 x4 x5 x6, allP names n = some fo ∧ δ' = [.dat (strsT names), .dat (.int n), .own (fo.map evsD), x3, x4, x5, x6]) (ds_for (vs := [4]) (di_rng1E (n := n) (de_var rfl) (by omega) (by omega)) fun xs e => ?_) ?_
  · subst e
    refine ⟨fun i δ' => ∃ fo la x4 x5 x6, (allP names n = allR names (n - i) fo la ∧ fo.length ≤ 300 ∧ ∀ x ∈ la, x.length ≤ i) ∧ δ' = [.dat (strsT names), .dat (.int n), .own (fo.map evsD), .dat (insD la), x4, x5, x6],
      ⟨[], [[]], .un, .un, .un, ⟨rfl, by decide, fun x hx => by rw [List.mem_singleton.mp hx]; exact Nat.le_refl _⟩, rfl⟩, ?_, ?_⟩
    · rintro i d δ' hd ⟨fo, la, x4, x5, x6, ⟨hA, hF, hL⟩, rfl⟩
      have hi : i < n := by
        have := (List.getElem?_eq_some_iff.mp hd).1
        rw [rngD_len] at this
        omega
      have hni : n - i = (n - (i + 1)) + 1 := by omega
      refine dg_name (by decide) ?_
      refine ds_letOwnE (dl_lst da_nil fun _ e => by rw [e]; exact Nat.zero_le _) ?_
      refine ds_seq (M := fun δ' => ∃ lg x6, levelP fo.length names la [] = some lg ∧ (fo.length + lg.length ≤ 300 ∧ ∀ x ∈ lg, x.length ≤ i + 1) ∧ δ' = [.dat (strsT names), .dat (.int n), .own (fo.map evsD), .dat (insD la), .dat d, .own (lg.map evsD), x6]) (ds_for (vs := [6]) (di_list (de_var rfl)) fun xs e => ?_) ?_
      · subst e
        refine ⟨fun j δ' => ∃ lg x6, (levelP fo.length names la [] = levelP fo.length names (la.drop j) lg ∧ fo.length + lg.length ≤ 300 ∧ ∀ x ∈ lg, x.length ≤ i + 1) ∧ δ' = [.dat (strsT names), .dat (.int n), .own (fo.map evsD), .dat (insD la), .dat d, .own (lg.map evsD), x6],
          ⟨[], x6, ⟨rfl, hF, fun x hx => by cases hx⟩, rfl⟩, ?_, ?_⟩
        · rintro j d6 δ' hd6 ⟨lg, y6, ⟨hV, hG, hM⟩, rfl⟩
          obtain ⟨es, hes, rfl⟩ := get_map hd6
          have hk : es.length ≤ i := hL es (List.mem_of_getElem? hes)
          have hsz := sizeE_le es
          have hjl := (List.getElem?_eq_some_iff.mp hes).1
          have hdrop : la.drop j = es :: la.drop (j + 1) := by
            rw [List.drop_eq_getElem_cons hjl]
            congr 1
            exact Option.some.inj ((List.getElem?_eq_getElem hjl).symm.trans hes)
          have ho := oneL_len names es
          have hob : (oneL names es).length ≤ 100 * 101 := by
            rw [ho]
            exact Nat.mul_le_mul hp1 (by omega)
          refine dg_name (by decide) ?_
          refine ds_seq (M := (· = [.dat (strsT names), .dat (.int n), .own (fo.map evsD), .dat (insD la), .dat d, .own ((lg ++ oneL names es).map evsD), .dat (evsD es)])) (ds_extend (i := 5) (ys := (oneL names es).map evsD) rfl (de_callT (A := fun a : List Str × List Evt => [strsT a.1, evsD a.2]) (f := fun a => insD (oneL a.1 a.2)) (names, es) (da_consE (de_var rfl) (da_consE (de_var rfl) da_nil)) ⟨hp1, by show es.length ≤ 50; omega⟩) (by simp only [List.length_map]; omega) (by rw [List.map_append]; rfl)) ?_
          rintro δ' rfl
          refine ds_ifE (k := decide ((300 : Int) < fo.length + (lg ++ oneL names es).length)) (dt_thaw (i := 2) rfl (dt_thaw (i := 5) rfl (dt_testE (De.eq (de_cmp (f := fun i j => decide (j < i)) (de_add (de_lenLK (de_var rfl)) (de_lenLK (de_var rfl))) (de_c fun _ => .int _)) ?_)))) (fun ht => ?_) (fun ht => ?_)
          · rw [List.length_map, List.length_map]
          · have ht' := of_decide_eq_true ht
            intro D σ G1 H1 e n' r' b' c'
            refine qE ?_ G1 H1 e.gx
            rw [hA, hni, allR, hV, hdrop, levelP, if_pos (by omega)]
          · have ht' := of_decide_eq_false ht
            refine ds_next ⟨lg ++ oneL names es, .dat (evsD es), ⟨?_, by omega, ?_⟩, rfl⟩
            · rw [hV, hdrop, levelP, if_neg (by omega)]
            · intro x hx
              rcases List.mem_append.mp hx with hx | hx
              · exact hM x hx
              · have := oneL_mem hx; omega
        · rintro δ' ⟨lg, y6, ⟨hV, hG, hM⟩, rfl⟩
          refine ⟨lg, y6, ?_, ⟨hG, hM⟩, rfl⟩
          rw [hV, List.drop_of_length_le (by simp)]
          rfl
      · rintro δ' ⟨lg, y6, hV, ⟨hG, hM⟩, rfl⟩
        have hlgl : lg.length ≤ 300 := by omega
        refine ds_freeze (i := 5) rfl ?_
        refine ds_seq (M := (· = [.dat (strsT names), .dat (.int n), .own ((fo ++ lg).map evsD), .dat (insD la), .dat d, .dat (insD lg), y6])) (ds_extend (i := 2) (ys := lg.map evsD) rfl (de_var rfl) (by simp only [List.length_map]; omega) (by rw [List.map_append]; rfl)) ?_
        rintro δ' rfl
        refine ds_set (i := 3) (Dl.de (dl_listOfK (de_var rfl))) fun d' e => ?_
        subst e
        refine ⟨fo ++ lg, lg, .dat d, .dat (insD lg), y6, ⟨?_, by rw [List.length_append]; omega, hM⟩, rfl⟩
        rw [hA, hni, allR, hV]
    · rintro δ' ⟨fo, la, x4, x5, x6, ⟨hA, hF, hL⟩, rfl⟩
      refine ⟨fo, .dat (insD la), x4, x5, x6, ?_, rfl⟩
      rw [hA, rngD_len, show n - ((n : Int)).toNat = 0 by omega]
      rfl
  · rintro δ' ⟨fo, x3, x4, x5, x6, hA, rfl⟩
    exact ds_freeze (i := 2) rfl (ds_retE (de_var rfl) ⟨fo, hA, rfl⟩)
end
end K07

set_option Elab.async false
set_option maxRecDepth 100000
set_option maxHeartbeats 4000000
namespace K07
open PySem L2 StX Zd
/-- isinstance(e, c) in a suite that holds e -/
def rIsX (K : PySem.W.Frag) (a : Addr) (cls : Value) (d : Option Addr) : List V → Hp → VK → Prop := fun xs H Q => ∃ D, cls = .ref D ∧ d = none ∧ ExcC K D ∧ rIsE K D a xs H Q
theorem call_isX {X : Cx} {K : PySem.W.Frag} (hK : X.K = K) {a : Addr} {cls : Value} {d : Option Addr} {oe : Obj} {pn : List (Addr × Obj)} (hz : Zc cls d oe) (hf : ∃ vs, oe.data = .fields vs) : CallR (X.suite a ((a, oe) :: pn)) (.builtin "isinstance") (rIsX K a cls d) := by
  subst hK
  intro pins s σ H xs us Q I r h
  obtain ⟨D, rfl, rfl, C, q⟩ := h
  exact call_isE C hz hf pins s σ H xs us Q I r q
section
variable {P : Program} {w : World} {K : PySem.W.Frag} {mg : Str → Option Value} {base : Heap} {CT CM CO : Addr} {tM : Tok}
def toldD (names : List Str) (n : Nat) : Dt := match allP names n with
  | some l => insD l
  | none => .tup [.str "refused", .bl true]
/-- the own errors: which is which -/
structure ErrK (K : PySem.W.Frag) (mg : Str → Option Value) (CT CM CO : Addr) : Prop where
  mM : mg "MissError" = some (.ref CM)
  mT : mg "TooLarge" = some (.ref CT)
  mO : mg "OtherFace" = some (.ref CO)
  te : PySem.W.exmOne K (.ref CT) (.ref CM) = some true
  tt : PySem.W.kitOne K (.ref CT) (.ref CT) = some true
  to : PySem.W.kitOne K (.ref CT) (.ref CO) = some false
  ec : ExcC K CT
abbrev spTold : Sp := spT (fun a : List Str × Nat => [strsT a.1, .int a.2]) (fun a => a.1.length ≤ 100 ∧ a.2 ≤ 10) fun a d => d = toldD a.1 a.2
theorem ok__law_told {f f2 f3 f4 f5 : Addr} {fd fd2 fd3 fd4 fd5 : FuncData} (F : Fun K "_law_told" "_law_told" s__law_told f fd) (k_all_inputs : Kn K mg "all_inputs" s_all_inputs ["names", "length"] f5 fd5) (k_one_longer : Kn K mg "one_longer" s_one_longer ["names", "events"] f4 fd4) (k_ranked : Kn K mg "ranked" s_ranked ["events"] f3 fd3) (k_ranks : Kn K mg "ranks" s_ranks ["numbers"] f2 fd2)
    (x_TooLarge : Exq K mg "TooLarge" CT) (c_MOST_INPUTS : mg "MOST_INPUTS" = some (.int 300 tM)) (T : ErrK K mg CT CM CO)
    (m_set : mg "set" = none) (m_sorted : mg "sorted" = none) (m_enumerate : mg "enumerate" = none) (m_list : mg "list" = none) (m_zip : mg "zip" = none) (m_len : mg "len" = none) (m_range : mg "range" = none) (m_isinstance : mg "isinstance" = none) : FnOk P w K mg base CX0 5 f fd ["names", "length"] spTold := by
  have nd := sc__law_told.nd
  have G_all_inputs : FnOk P w K mg base (L2.CX P w) 4 f5 fd5 ["names", "length"] (spAll CT) := ok_all_inputs k_all_inputs.F k_one_longer k_ranked k_ranks x_TooLarge c_MOST_INPUTS m_set m_sorted m_enumerate m_list m_zip m_len m_range
  refine F.ok sc__law_told (fun vs H Q E h => spT_len (fun _ => rfl) h) (fun cdv A outer s H vs Q E hr h => ⟨_, pss_one (ps_try_as (i := 2) (c := .ref CM) rfl rfl nd rfl rfl ⟨by rfl, by decide, .inl T.mM⟩ takes0
    (fun W pn xe tk _ => pss_one (ps_ret (pe_callS G_all_inputs (hr.mono (by decide)) (by rfl) k_all_inputs.g k_all_inputs.F.kp k_all_inputs.b (fun σ => passAt tk σ) (pa_cons (pv 0) (pa_cons (pv 1) pa_nil)))))
    (fun a oe cls d pn hz hf => pss_one (ps_ret (pe_tup (pa_cons pe_str (pa_cons (pe_and (pe_callB (call_isX (K := K) rfl hz hf) (by rfl) m_isinstance (by decide +kernel) (pa_cons (pv 2) (pa_cons (pe_glob (v := .ref CT) rfl T.mT rfl) pa_nil)))
      (pe_one (pe_not (pe_callB (call_isX (K := K) rfl hz hf) (by rfl) m_isinstance (by decide +kernel) (pa_cons (pv 2) (pa_cons (pe_glob (v := .ref CO) rfl T.mO rfl) pa_nil)))))) pa_nil)))))), ?_⟩)
  obtain ⟨G, ⟨names, n⟩, s0, d, ⟨hp1, hp2⟩, q⟩ := h
  have e := d.start s0 N__law_told (by rw [d.length]; show 2 ≤ 3; decide)
  cases d with
  | cons d1 dr =>
    cases dr with
    | cons d2 dn =>
      cases dn
      refine ⟨_, rfl, _, rfl, G, names, n, s0, .cons d1 (.cons d2 .nil), ⟨hp1, hp2⟩, fun l v G' H' ha g dq => ?_, fun ha G' H' g => ?_⟩
      · exact q v _ G' H' g dq (by show _ = toldD names n; rw [toldD, ha])
      · refine ⟨true, T.te, fun _ a hn => ?_, fun z => nomatch z⟩
        have isT : ∀ (Q' : VK), Q' (.bl true) H' → rIsX K a (.ref CT) none [.ref a, .ref CT] H' Q' := fun Q' q' => ⟨CT, rfl, rfl, T.ec, .ref CT, .ref CT, true, rfl, fun u hu => hu, T.tt, q'⟩
        have isO : ∀ (Q' : VK), Q' (.bl false) H' → rIsX K a (.ref CT) none [.ref a, .ref CO] H' Q' := fun Q' q' => ⟨CT, rfl, rfl, T.ec, .ref CO, .ref CO, false, rfl, fun u hu => hu, T.to, q'⟩
        refine ⟨.ref a, rfl, isT _ ⟨true, rfl, ⟨.ref a, rfl, isO _ ⟨false, rfl, ?_⟩⟩⟩⟩
        refine ⟨by show 2 ≤ sizeLine; decide, fun p hp => ?_⟩
        refine q (.ref p) _ _ _ (g.newDat trivial hp (.tup [.str "refused", .bl true])) (.tup upd_same (.cons (.str _) (.cons (.bl _) .nil))) ?_
        show _ = toldD names n
        rw [toldD, ha]
end
end K07

set_option Elab.async false
set_option maxRecDepth 100000
set_option maxHeartbeats 4000000
namespace K07
open PySem L2 StX Zd
/-! ### the mathematics of the listing -/
theorem rankN_lt {ns : List Int} {a b : Int} (ha : a ∈ ns) (h : a < b) : rankN ns a < rankN ns b := by
  have key : ∀ l : List Int, (l.filter fun m => decide (m < a)).length ≤ (l.filter fun m => decide (m < b)).length ∧ (a ∈ l → (l.filter fun m => decide (m < a)).length < (l.filter fun m => decide (m < b)).length) := by
    intro l
    induction l with
    | nil => exact ⟨Nat.le_refl _, fun h => by cases h⟩
    | cons x r ih =>
      obtain ⟨i1, i2⟩ := ih
      by_cases h1 : x < a
      · have h2 : x < b := by omega
        rw [List.filter_cons, List.filter_cons, if_pos (by simpa using h1), if_pos (by simpa using h2)]
        refine ⟨Nat.succ_le_succ i1, fun hm => ?_⟩
        rcases List.mem_cons.mp hm with e | hm
        · omega
        · exact Nat.succ_lt_succ (i2 hm)
      · rw [List.filter_cons, List.filter_cons, if_neg (by simpa using h1)]
        by_cases h2 : x < b
        · rw [if_pos (by simpa using h2)]
          exact ⟨Nat.le_succ_of_le i1, fun _ => Nat.lt_succ_of_le i1⟩
        · rw [if_neg (by simpa using h2)]
          refine ⟨i1, fun hm => ?_⟩
          rcases List.mem_cons.mp hm with e | hm
          · omega
          · exact i2 hm
  have := (key (firsts ns)).2 (((firsts_spec ns).2 a).mpr ha)
  unfold rankN
  omega
theorem rankN_le {ns : List Int} {a b : Int} (h : a ≤ b) : rankN ns a ≤ rankN ns b := by
  have key : ∀ l : List Int, (l.filter fun m => decide (m < a)).length ≤ (l.filter fun m => decide (m < b)).length := by
    intro l
    induction l with
    | nil => exact Nat.le_refl _
    | cons x r ih =>
      by_cases h1 : x < a
      · have h2 : x < b := by omega
        rw [List.filter_cons, List.filter_cons, if_pos (by simpa using h1), if_pos (by simpa using h2)]
        exact Nat.succ_le_succ ih
      · rw [List.filter_cons, List.filter_cons, if_neg (by simpa using h1)]
        by_cases h2 : x < b
        · rw [if_pos (by simpa using h2)]
          exact Nat.le_succ_of_le ih
        · rw [if_neg (by simpa using h2)]
          exact ih
  have := key (firsts ns)
  unfold rankN
  omega
theorem rankN_iff {ns : List Int} {a b : Int} (ha : a ∈ ns) : a < b ↔ rankN ns a < rankN ns b := by
  constructor
  · exact rankN_lt ha
  · intro h
    by_cases z : a < b
    · exact z
    · have := rankN_le (ns := ns) (show b ≤ a by omega)
      omega
theorem rankN_nn (ns : List Int) (a : Int) : 0 ≤ rankN ns a := by unfold rankN; omega
theorem rankN_size (ns : List Int) (a : Int) : rankN ns a ≤ (firsts ns).length := by
  have := List.length_filter_le (fun m => decide (m < a)) (firsts ns)
  unfold rankN
  omega
theorem rankN_sizeLt {ns : List Int} {a : Int} (h : a ∈ ns) : rankN ns a < (firsts ns).length := by
  have h1 := rankN_lt (b := a + 1) h (by omega)
  have h2 := rankN_size ns (a + 1)
  omega
/-- an ascending list of the different ones -/
def insA (n : Int) : List Int → List Int
  | [] => [n]
  | m :: r => if n < m then n :: m :: r else if n = m then m :: r else m :: insA n r
theorem insA_mem {n k : Int} : ∀ l : List Int, k ∈ insA n l ↔ k = n ∨ k ∈ l
  | [] => by simp [insA]
  | m :: r => by
    unfold insA
    split
    · simp
    · split
      · rename_i h1 h2
        subst h2
        simp
      · rw [List.mem_cons, insA_mem r, List.mem_cons]
        constructor
        · rintro (h | h | h)
          · exact .inr (.inl h)
          · exact .inl h
          · exact .inr (.inr h)
        · rintro (h | h | h)
          · exact .inr (.inl h)
          · exact .inl h
          · exact .inr (.inr h)
theorem insA_asc {n : Int} : ∀ {l : List Int}, l.Pairwise (· < ·) → (insA n l).Pairwise (· < ·)
  | [], _ => by simp [insA]
  | m :: r, h => by
    obtain ⟨h1, h2⟩ := List.pairwise_cons.mp h
    unfold insA
    split
    · rename_i z
      refine List.pairwise_cons.mpr ⟨fun x hx => ?_, h⟩
      rcases List.mem_cons.mp hx with e | hx
      · omega
      · have := h1 x hx; omega
    · split
      · exact h
      · rename_i z1 z2
        refine List.pairwise_cons.mpr ⟨fun x hx => ?_, insA_asc h2⟩
        rcases (insA_mem r).mp hx with e | hx
        · omega
        · exact h1 x hx
theorem asc_of : ∀ ns : List Int, ∃ ms : List Int, ms.Pairwise (· < ·) ∧ ∀ k, k ∈ ms ↔ k ∈ ns
  | [] => ⟨[], .nil, fun _ => Iff.rfl⟩
  | n :: r => by
    obtain ⟨ms, h1, h2⟩ := asc_of r
    exact ⟨insA n ms, insA_asc h1, fun k => by rw [insA_mem, h2, List.mem_cons]⟩
theorem rankN_onto {ns : List Int} {i : Int} (h0 : 0 ≤ i) (h1 : i < (firsts ns).length) : ∃ a ∈ ns, rankN ns a = i := by
  obtain ⟨ms, ha, hm⟩ := asc_of ns
  have pl : ms.Perm (firsts ns) := (List.perm_ext_iff_of_nodup (asc_nodup ha) (firsts_spec ns).1).mpr fun k => by rw [hm k, (firsts_spec ns).2 k]
  have hl := pl.length_eq
  have hi : i.toNat < ms.length := by omega
  refine ⟨ms[i.toNat], (hm _).mp (List.getElem_mem hi), ?_⟩
  rw [rankN_of (asc_nodup ha) hm, asc_filter ha (List.getElem?_eq_getElem hi)]
  omega
/-- a list without what is there twice -/
def ddL {α : Type} [DecidableEq α] : List α → List α
  | [] => []
  | a :: r => if a ∈ ddL r then ddL r else a :: ddL r
theorem ddL_mem {α : Type} [DecidableEq α] {k : α} : ∀ l : List α, k ∈ ddL l ↔ k ∈ l
  | [] => Iff.rfl
  | a :: r => by
    unfold ddL
    split
    · rename_i h
      rw [ddL_mem r, List.mem_cons]
      constructor
      · exact .inr
      · rintro (e | e)
        · rw [e]; exact (ddL_mem r).mp h
        · exact e
    · rw [List.mem_cons, List.mem_cons, ddL_mem r]
theorem ddL_nodup {α : Type} [DecidableEq α] : ∀ l : List α, (ddL l).Nodup
  | [] => List.nodup_nil
  | a :: r => by
    unfold ddL
    split
    · exact ddL_nodup r
    · rename_i h
      exact List.nodup_cons.mpr ⟨h, ddL_nodup r⟩
theorem isoZ {zs : List (Int × Int)} (h : ∀ z ∈ zs, ∀ z' ∈ zs, z.1 < z'.1 ↔ z.2 < z'.2) {z : Int × Int} (hz : z ∈ zs) : rankN (zs.map (·.1)) z.1 = rankN (zs.map (·.2)) z.2 := by
  have hD := ddL_nodup zs
  have inj1 : ∀ a ∈ ddL zs, ∀ b ∈ ddL zs, a.1 = b.1 → a = b := fun a ha b hb e => by
    have h1 := h a ((ddL_mem zs).mp ha) b ((ddL_mem zs).mp hb)
    have h2 := h b ((ddL_mem zs).mp hb) a ((ddL_mem zs).mp ha)
    exact Prod.ext e (by omega)
  have inj2 : ∀ a ∈ ddL zs, ∀ b ∈ ddL zs, a.2 = b.2 → a = b := fun a ha b hb e => by
    have h1 := h a ((ddL_mem zs).mp ha) b ((ddL_mem zs).mp hb)
    have h2 := h b ((ddL_mem zs).mp hb) a ((ddL_mem zs).mp ha)
    exact Prod.ext (by omega) e
  have nd : ∀ (f : Int × Int → Int), (∀ a ∈ ddL zs, ∀ b ∈ ddL zs, f a = f b → a = b) → ((ddL zs).map f).Nodup := fun f hf => by
    rw [List.nodup_iff_pairwise_ne, List.pairwise_map]
    rw [List.nodup_iff_pairwise_ne] at hD
    exact hD.imp_of_mem fun ha hb hne e => hne (hf _ ha _ hb e)
  have mm : ∀ (f : Int × Int → Int) (k : Int), k ∈ (ddL zs).map f ↔ k ∈ zs.map f := fun f k => by
    simp only [List.mem_map, ddL_mem]
  rw [rankN_of (nd _ inj1) (mm _), rankN_of (nd _ inj2) (mm _), List.filter_map, List.filter_map, List.length_map, List.length_map]
  congr 2
  refine List.filter_congr fun z' hz' => ?_
  show decide (z'.1 < z.1) = decide (z'.2 < z.2)
  have := h z' ((ddL_mem zs).mp hz') z hz
  by_cases q : z'.1 < z.1
  · simp [q, this.mp q]
  · have q2 : ¬ z'.2 < z.2 := fun e => q (this.mpr e)
    simp [q, q2]
/-- the same order: the same ranks -/
theorem rankE_iso {T : List (Str × Int × Int)} (h : ∀ t ∈ T, ∀ t' ∈ T, t.2.1 < t'.2.1 ↔ t.2.2 < t'.2.2) : rankE (T.map fun t => (t.1, t.2.1)) = rankE (T.map fun t => (t.1, t.2.2)) := by
  unfold rankE
  rw [List.map_map, List.map_map, List.map_map, List.map_map]
  refine List.map_congr_left fun t ht => ?_
  have := isoZ (zs := T.map (·.2)) (fun z hz z' hz' => by
    obtain ⟨a, ha, rfl⟩ := List.mem_map.mp hz
    obtain ⟨b, hb, rfl⟩ := List.mem_map.mp hz'
    exact h a ha b hb) (List.mem_map.mpr ⟨t, ht, rfl⟩)
  rw [List.map_map, List.map_map] at this
  exact congrArg (Prod.mk t.1) this
theorem rankE_get {es : List Evt} {i : Nat} {e : Evt} (h : es[i]? = some e) : (rankE es)[i]? = some (e.1, rankN (es.map (·.2)) e.2) := by
  unfold rankE
  rw [List.getElem?_map, h]
  rfl
theorem mem_snd {es : List Evt} {i : Nat} {e : Evt} (h : es[i]? = some e) : e.2 ∈ es.map (·.2) := List.mem_map.mpr ⟨e, List.mem_of_getElem? h, rfl⟩
/-- the same ranks: the same order -/
theorem rankE_conv {as bs : List Evt} (h : rankE as = rankE bs) {i j : Nat} {x y x' y' : Evt} (h1 : as[i]? = some x) (h2 : as[j]? = some y) (h3 : bs[i]? = some x') (h4 : bs[j]? = some y') : x.1 = x'.1 ∧ (x.2 < y.2 ↔ x'.2 < y'.2) := by
  have e1 := rankE_get h1
  have e2 := rankE_get h2
  rw [h, rankE_get h3] at e1
  rw [h, rankE_get h4] at e2
  have e1 := Prod.mk.inj (Option.some.inj e1)
  have e2 := Prod.mk.inj (Option.some.inj e2)
  refine ⟨e1.1.symm, ?_⟩
  rw [rankN_iff (mem_snd h1), rankN_iff (mem_snd h3), e1.2, e2.2]
theorem rankE_idem (es : List Evt) : rankE (rankE es) = rankE es := by
  have := rankE_iso (T := es.map fun e => (e.1, e.2, rankN (es.map (·.2)) e.2)) (fun t ht t' ht' => by
    obtain ⟨a, ha, rfl⟩ := List.mem_map.mp ht
    obtain ⟨b, hb, rfl⟩ := List.mem_map.mp ht'
    exact rankN_iff (List.mem_map.mpr ⟨a, ha, rfl⟩))
  rw [List.map_map, List.map_map] at this
  have e1 : es.map ((fun t : Str × Int × Int => (t.1, t.2.1)) ∘ fun e => (e.1, e.2, rankN (es.map (·.2)) e.2)) = es := by
    conv => rhs; rw [← List.map_id es]
    exact List.map_congr_left fun _ _ => rfl
  rw [e1] at this
  exact this.symm
theorem sizeE_rank (es : List Evt) : sizeE (rankE es) = sizeE es := by
  have hr : (rankE es).map (·.2) = (es.map (·.2)).map (rankN (es.map (·.2))) := by
    unfold rankE
    rw [List.map_map, List.map_map]
    rfl
  unfold sizeE
  rw [hr]
  generalize es.map (·.2) = ns
  obtain ⟨f1, f2⟩ := firsts_spec ns
  have nd : ((firsts ns).map (rankN ns)).Nodup := by
    rw [List.nodup_iff_pairwise_ne, List.pairwise_map]
    rw [List.nodup_iff_pairwise_ne] at f1
    refine f1.imp_of_mem fun {a b} ha hb hne e => ?_
    have h1 := rankN_iff (b := b) ((f2 a).mp ha)
    have h2 := rankN_iff (b := a) ((f2 b).mp hb)
    omega
  have mm : ∀ k, k ∈ firsts (ns.map (rankN ns)) ↔ k ∈ (firsts ns).map (rankN ns) := fun k => by
    rw [(firsts_spec _).2]
    simp only [List.mem_map, f2]
  have := ((List.perm_ext_iff_of_nodup (firsts_spec _).1 nd).mpr mm).length_eq
  rw [this, List.length_map]
/-! ### the levels -/
def lev (names : List Str) : Nat → List (List Evt)
  | 0 => [[]]
  | k + 1 => (lev names k).flatMap (oneL names)
theorem putE_ranked (es : List Evt) (nm : Str) (p : Int) : rankE (putE es nm p) = putE es nm p := rankE_idem _
theorem putE_names {es : List Evt} {nm : Str} {p : Int} {e : Evt} (h : e ∈ putE es nm p) : e.1 = nm ∨ ∃ x ∈ es, e.1 = x.1 := by
  unfold putE rankE at h
  obtain ⟨x, hx, rfl⟩ := List.mem_map.mp h
  rcases List.mem_append.mp hx with hx | hx
  · obtain ⟨y, hy, rfl⟩ := List.mem_map.mp hx
    exact .inr ⟨y, hy, rfl⟩
  · rw [List.mem_singleton.mp hx]
    exact .inl rfl
theorem lev_all (names : List Str) : ∀ k : Nat, ∀ x ∈ lev names k, x.length = k ∧ rankE x = x ∧ ∀ e ∈ x, e.1 ∈ names
  | 0, x, hx => by
    rw [List.mem_singleton.mp hx]
    exact ⟨rfl, rfl, fun e he => by cases he⟩
  | k + 1, x, hx => by
    obtain ⟨es, he, hx⟩ := List.mem_flatMap.mp hx
    obtain ⟨nm, hn, hx⟩ := List.mem_flatMap.mp hx
    obtain ⟨p, hp, rfl⟩ := List.mem_map.mp hx
    obtain ⟨h1, h2, h3⟩ := lev_all names k es he
    refine ⟨by rw [putE_len, h1], putE_ranked _ _ _, fun e hm => ?_⟩
    rcases putE_names hm with e1 | ⟨y, hy, e1⟩
    · rw [e1]; exact hn
    · rw [e1]; exact h3 y hy
/-- every input stands, ranked, in its level -/
theorem lev_has {names : List Str} : ∀ (k : Nat) (es : List Evt), es.length = k → (∀ e ∈ es, e.1 ∈ names) → rankE es ∈ lev names k
  | 0, es, hl, _ => by
    rw [List.length_eq_zero_iff.mp hl]
    exact List.mem_singleton.mpr rfl
  | k + 1, es, hl, hn => by
    have hne : es ≠ [] := fun z => by rw [z] at hl; cases hl
    obtain ⟨fs, ⟨nm, v⟩, rfl⟩ : ∃ fs e, es = fs ++ [e] := ⟨es.dropLast, es.getLast hne, (List.dropLast_concat_getLast hne).symm⟩
    have hfl : fs.length = k := by simpa using hl
    have ih := lev_has k fs hfl fun e he => hn e (List.mem_append_left _ he)
    have hnm : nm ∈ names := hn (nm, v) (by simp)
    let ns := fs.map (·.2)
    let p : Int := if v ∈ ns then 2 * rankN ns v + 1 else 2 * rankN ns v
    have hp0 : 0 ≤ p := by
      have := rankN_nn ns v
      show 0 ≤ if v ∈ ns then 2 * rankN ns v + 1 else 2 * rankN ns v
      split <;> omega
    have hp1 : p ≤ 2 * (sizeE (rankE fs) : Int) := by
      rw [sizeE_rank]
      show (if v ∈ ns then 2 * rankN ns v + 1 else 2 * rankN ns v) ≤ 2 * ((firsts ns).length : Int)
      split
      · rename_i h
        have := rankN_sizeLt h
        omega
      · have := rankN_size ns v
        omega
    have key : rankE (fs ++ [(nm, v)]) = putE (rankE fs) nm p := by
      have iso := rankE_iso (T := (fs.map fun e => (e.1, e.2, 2 * rankN ns e.2 + 1)) ++ [(nm, v, p)]) (fun t ht t' ht' => by
        have pq : ∀ u ∈ ns, (u < v ↔ 2 * rankN ns u + 1 < p) ∧ (v < u ↔ p < 2 * rankN ns u + 1) := fun u hu => by
          have h1 := rankN_iff (b := v) hu
          show (u < v ↔ 2 * rankN ns u + 1 < if v ∈ ns then 2 * rankN ns v + 1 else 2 * rankN ns v) ∧ (v < u ↔ (if v ∈ ns then 2 * rankN ns v + 1 else 2 * rankN ns v) < 2 * rankN ns u + 1)
          by_cases hv : v ∈ ns
          · rw [if_pos hv]
            have h2 := rankN_iff (b := u) hv
            omega
          · rw [if_neg hv]
            have : u ≠ v := fun e => hv (e ▸ hu)
            omega
        rcases List.mem_append.mp ht with ht | ht
        · obtain ⟨a, ha, rfl⟩ := List.mem_map.mp ht
          have hA : a.2 ∈ ns := List.mem_map.mpr ⟨a, ha, rfl⟩
          rcases List.mem_append.mp ht' with ht' | ht'
          · obtain ⟨b, hb, rfl⟩ := List.mem_map.mp ht'
            have := rankN_iff (b := b.2) hA
            show a.2 < b.2 ↔ 2 * rankN ns a.2 + 1 < 2 * rankN ns b.2 + 1
            omega
          · rw [List.mem_singleton.mp ht']
            exact (pq _ hA).1
        · rw [List.mem_singleton.mp ht]
          rcases List.mem_append.mp ht' with ht' | ht'
          · obtain ⟨b, hb, rfl⟩ := List.mem_map.mp ht'
            exact (pq _ (List.mem_map.mpr ⟨b, hb, rfl⟩)).2
          · rw [List.mem_singleton.mp ht']
            show v < v ↔ p < p
            omega)
      rw [List.map_append, List.map_append, List.map_map, List.map_map] at iso
      have e1 : fs.map ((fun t : Str × Int × Int => (t.1, t.2.1)) ∘ fun e => (e.1, e.2, 2 * rankN ns e.2 + 1)) = fs := by
        conv => rhs; rw [← List.map_id fs]
        exact List.map_congr_left fun _ _ => rfl
      have e2 : fs.map ((fun t : Str × Int × Int => (t.1, t.2.2)) ∘ fun e => (e.1, e.2, 2 * rankN ns e.2 + 1)) = (rankE fs).map fun e => (e.1, 2 * e.2 + 1) := by
        unfold rankE
        rw [List.map_map]
        rfl
      rw [e1, e2] at iso
      exact iso
    rw [key]
    refine List.mem_flatMap.mpr ⟨rankE fs, ih, List.mem_flatMap.mpr ⟨nm, hnm, List.mem_map.mpr ⟨p.toNat, List.mem_range.mpr (by omega), ?_⟩⟩⟩
    rw [Int.toNat_of_nonneg hp0]
/-- what is put tells what it was put to -/
theorem putE_inj {r s : List Evt} {nm nm' : Str} {p q : Int} (hl : r.length = s.length) (hr : rankE r = r) (hs : rankE s = s) (hp0 : 0 ≤ p) (hq0 : 0 ≤ q) (hp : p ≤ 2 * (sizeE r : Int)) (hq : q ≤ 2 * (sizeE s : Int)) (h : putE r nm p = putE s nm' q) : r = s ∧ nm = nm' ∧ p = q := by
  unfold putE at h
  have gl : ∀ {t : List Evt} {x : Str} {y : Int} {i : Nat} {e : Evt}, t[i]? = some e → (t.map (fun e => (e.1, 2 * e.2 + 1)) ++ [(x, y)])[i]? = some (e.1, 2 * e.2 + 1) := fun {t x y i e} he => by
    have hi := (List.getElem?_eq_some_iff.mp he).1
    rw [List.getElem?_append_left (by rw [List.length_map]; exact hi), List.getElem?_map, he]
    rfl
  have gr : ∀ {t : List Evt} {x : Str} {y : Int}, (t.map (fun e => (e.1, 2 * e.2 + 1)) ++ [(x, y)])[t.length]? = some (x, y) := fun {t x y} => by
    rw [List.getElem?_append_right (by rw [List.length_map]; exact Nat.le_refl _), List.length_map, Nat.sub_self]
    rfl
  have gr' : (s.map (fun e => (e.1, 2 * e.2 + 1)) ++ [(nm', q)])[r.length]? = some (nm', q) := by rw [hl]; exact gr
  have hrs : r = s := by
    rw [← hr, ← hs]
    have iso := rankE_iso (T := List.zipWith (fun a b : Evt => (a.1, a.2, b.2)) r s) (fun t ht t' ht' => by
      obtain ⟨i, hi⟩ := List.mem_iff_getElem?.mp ht
      obtain ⟨j, hj⟩ := List.mem_iff_getElem?.mp ht'
      rw [List.getElem?_zipWith_eq_some] at hi hj
      obtain ⟨a, b, h1, h2, rfl⟩ := hi
      obtain ⟨c, d, h3, h4, rfl⟩ := hj
      have := (rankE_conv h (gl h1) (gl h3) (gl h2) (gl h4)).2
      show a.2 < c.2 ↔ b.2 < d.2
      have this : 2 * a.2 + 1 < 2 * c.2 + 1 ↔ 2 * b.2 + 1 < 2 * d.2 + 1 := this
      omega)
    have e1 : (List.zipWith (fun a b : Evt => (a.1, a.2, b.2)) r s).map (fun t => (t.1, t.2.1)) = r := by
      refine List.ext_getElem? fun i => ?_
      rw [List.getElem?_map]
      by_cases hi : i < r.length
      · rw [(List.getElem?_zipWith_eq_some (f := fun a b : Evt => (a.1, a.2, b.2))).mpr ⟨r[i], s[i], List.getElem?_eq_getElem hi, List.getElem?_eq_getElem (by omega), rfl⟩, List.getElem?_eq_getElem hi]
        rfl
      · rw [List.getElem?_eq_none (by rw [List.length_zipWith]; omega), List.getElem?_eq_none (by omega)]
        rfl
    have e2 : (List.zipWith (fun a b : Evt => (a.1, a.2, b.2)) r s).map (fun t => (t.1, t.2.2)) = s := by
      refine List.ext_getElem? fun i => ?_
      rw [List.getElem?_map]
      by_cases hi : i < r.length
      · have h1 := List.getElem?_eq_getElem hi
        have h2 := List.getElem?_eq_getElem (show i < s.length by omega)
        rw [(List.getElem?_zipWith_eq_some (f := fun a b : Evt => (a.1, a.2, b.2))).mpr ⟨r[i], s[i], h1, h2, rfl⟩, h2]
        have := (rankE_conv h (gl h1) (gl h1) (gl h2) (gl h2)).1
        have this : r[i].1 = s[i].1 := this
        show some (r[i].1, s[i].2) = some s[i]
        rw [this]
      · rw [List.getElem?_eq_none (by rw [List.length_zipWith]; omega), List.getElem?_eq_none (by omega)]
        rfl
    rw [e1, e2] at iso
    exact iso
  subst hrs
  have hnm : nm = nm' := (rankE_conv h gr gr gr' gr').1
  refine ⟨rfl, hnm, ?_⟩
  have rel : ∀ a ∈ r.map (·.2), (2 * a + 1 < p ↔ 2 * a + 1 < q) ∧ (p < 2 * a + 1 ↔ q < 2 * a + 1) := fun a ha => by
    obtain ⟨e, he, rfl⟩ := List.mem_map.mp ha
    obtain ⟨i, hi⟩ := List.mem_iff_getElem?.mp he
    exact ⟨(rankE_conv h (gl hi) gr (gl hi) gr').2, (rankE_conv h gr (gl hi) gr' (gl hi)).2⟩
  have onto : ∀ i : Int, 0 ≤ i → i < (sizeE r : Int) → i ∈ r.map (·.2) := fun i h0 h1 => by
    obtain ⟨a, ha, e⟩ := rankN_onto (ns := r.map fun e : Evt => e.2) h0 h1
    obtain ⟨x, hx, rfl⟩ := List.mem_map.mp ha
    have : (x.1, rankN (r.map (·.2)) x.2) ∈ rankE r := List.mem_map.mpr ⟨x, hx, rfl⟩
    rw [hr] at this
    rw [← e]
    exact List.mem_map.mpr ⟨_, this, rfl⟩
  have half : ∀ u v : Int, 0 ≤ u → u < v → v ≤ 2 * (sizeE r : Int) → ∃ i : Int, 0 ≤ i ∧ i < (sizeE r : Int) ∧ ((u ≤ 2 * i + 1 ∧ 2 * i + 1 < v) ∨ (u < 2 * i + 1 ∧ 2 * i + 1 ≤ v)) := fun u v h0 h1 h2 => ⟨u / 2, by omega, by omega, by omega⟩
  rcases Int.lt_trichotomy p q with z | z | z
  · obtain ⟨i, i0, i1, i2⟩ := half p q hp0 z hq
    have := rel i (onto i i0 i1)
    omega
  · exact z
  · obtain ⟨i, i0, i1, i2⟩ := half q p hq0 z hp
    have := rel i (onto i i0 i1)
    omega
theorem nodup_flatMap' {α β : Type} {f : α → List β} : ∀ {l : List α}, l.Nodup → (∀ a ∈ l, (f a).Nodup) → (∀ a ∈ l, ∀ b ∈ l, ∀ x, x ∈ f a → x ∈ f b → a = b) → (l.flatMap f).Nodup
  | [], _, _, _ => by simp
  | a :: r, nd, h1, h2 => by
    obtain ⟨n1, n2⟩ := List.nodup_cons.mp nd
    rw [List.flatMap_cons, List.nodup_append]
    refine ⟨h1 a List.mem_cons_self, nodup_flatMap' n2 (fun b hb => h1 b (List.mem_cons_of_mem _ hb)) fun b hb c hc => h2 b (List.mem_cons_of_mem _ hb) c (List.mem_cons_of_mem _ hc), fun x hx y hy e => ?_⟩
    obtain ⟨b, hb, hy⟩ := List.mem_flatMap.mp hy
    have := h2 a List.mem_cons_self b (List.mem_cons_of_mem _ hb) x hx (by rw [e]; exact hy)
    exact n1 (this ▸ hb)
theorem oneL_spec {names : List Str} {es x : List Evt} (h : x ∈ oneL names es) : ∃ nm ∈ names, ∃ p : Int, 0 ≤ p ∧ p ≤ 2 * (sizeE es : Int) ∧ x = putE es nm p := by
  obtain ⟨nm, hn, hx⟩ := List.mem_flatMap.mp h
  obtain ⟨p, hp, rfl⟩ := List.mem_map.mp hx
  have := List.mem_range.mp hp
  exact ⟨nm, hn, p, by omega, by omega, rfl⟩
theorem lev_nodup {names : List Str} (hn : names.Nodup) : ∀ k : Nat, (lev names k).Nodup
  | 0 => by simp [lev]
  | k + 1 => by
    refine nodup_flatMap' (lev_nodup hn k) (fun es he => ?_) fun es he fs hf x hx hy => ?_
    · obtain ⟨h1, h2, _⟩ := lev_all names k es he
      refine nodup_flatMap' hn (fun nm _ => ?_) fun nm _ nm' _ x hx hy => ?_
      · rw [List.nodup_iff_pairwise_ne, List.pairwise_map]
        have nr : (List.range (2 * sizeE es + 1)).Nodup := List.nodup_range
        rw [List.nodup_iff_pairwise_ne] at nr
        refine nr.imp_of_mem fun {a b} ha hb hne e => ?_
        have h3 := List.mem_range.mp ha
        have h4 := List.mem_range.mp hb
        have := (putE_inj rfl h2 h2 (by omega) (by omega) (by omega) (by omega) e).2.2
        omega
      · obtain ⟨a, ha, rfl⟩ := List.mem_map.mp hx
        obtain ⟨b, hb, e⟩ := List.mem_map.mp hy
        have h3 := List.mem_range.mp ha
        have h4 := List.mem_range.mp hb
        exact ((putE_inj rfl h2 h2 (by omega) (by omega) (by omega) (by omega) e).2.1).symm
    · obtain ⟨h1, h2, _⟩ := lev_all names k es he
      obtain ⟨h3, h4, _⟩ := lev_all names k fs hf
      obtain ⟨nm, _, p, p0, p1, rfl⟩ := oneL_spec hx
      obtain ⟨nm', _, q, q0, q1, e⟩ := oneL_spec hy
      exact (putE_inj (by rw [h1, h3]) h2 h4 p0 q0 p1 q1 e).1
/-- all levels from 1 to n -/
def levs (names : List Str) (n : Nat) : List (List Evt) := (List.range n).flatMap fun k => lev names (k + 1)
theorem levs_succ (names : List Str) (n : Nat) : levs names (n + 1) = levs names n ++ lev names (n + 1) := by
  unfold levs
  rw [List.range_succ, List.flatMap_append]
  simp
theorem levs_nodup {names : List Str} (hn : names.Nodup) (n : Nat) : (levs names n).Nodup := by
  refine nodup_flatMap' List.nodup_range (fun k _ => lev_nodup hn _) fun a _ b _ x hx hy => ?_
  have h1 := (lev_all names _ x hx).1
  have h2 := (lev_all names _ x hy).1
  omega
theorem levs_all {names : List Str} {n : Nat} {x : List Evt} (h : x ∈ levs names n) : x.length ≤ n ∧ rankE x = x ∧ ∀ e ∈ x, e.1 ∈ names := by
  obtain ⟨k, hk, hx⟩ := List.mem_flatMap.mp h
  obtain ⟨h1, h2, h3⟩ := lev_all names _ x hx
  have := List.mem_range.mp hk
  exact ⟨by omega, h2, h3⟩
theorem levs_has {names : List Str} {n : Nat} {es : List Evt} (h0 : es ≠ []) (hl : es.length ≤ n) (hn : ∀ e ∈ es, e.1 ∈ names) : rankE es ∈ levs names n := by
  have : 0 < es.length := List.length_pos_iff.mpr h0
  refine List.mem_flatMap.mpr ⟨es.length - 1, List.mem_range.mpr (by omega), lev_has _ es (by omega) hn⟩
theorem one_of {α : Type} [DecidableEq α] {a : α} : ∀ {l : List α}, l.Nodup → a ∈ l → (l.filter fun x => decide (a = x)).length = 1
  | [], _, h => by cases h
  | x :: r, nd, h => by
    obtain ⟨n1, n2⟩ := List.nodup_cons.mp nd
    by_cases e : a = x
    · subst e
      rw [List.filter_cons, if_pos (by simp), List.length_cons]
      have : (r.filter fun x => decide (a = x)) = [] := by
        rw [List.filter_eq_nil_iff]
        intro y hy z
        have : a = y := by simpa using z
        exact n1 (this ▸ hy)
      rw [this]; rfl
    · rw [List.filter_cons, if_neg (by simpa using e)]
      exact one_of n2 ((List.mem_cons.mp h).resolve_left e)
/-- each input is alike to exactly one -/
theorem one_alike {names : List Str} (hn : names.Nodup) {n : Nat} {es : List Evt} (h0 : es ≠ []) (hl : es.length ≤ n) (he : ∀ e ∈ es, e.1 ∈ names) : ((levs names n).filter fun x => decide (rankE es = rankE x)).length = 1 := by
  rw [← one_of (levs_nodup hn n) (levs_has h0 hl he)]
  congr 1
  refine List.filter_congr fun x hx => ?_
  rw [(levs_all hx).2.1]
/-! ### the program's listing, and the law's -/
theorem levelP_some {f : Nat} {names : List Str} : ∀ {la lg l : List (List Evt)}, levelP f names la lg = some l → l = lg ++ la.flatMap (oneL names) ∧ (f + lg.length ≤ 300 → f + l.length ≤ 300)
  | [], lg, l, h => by
    have e := Option.some.inj h
    subst e
    exact ⟨by simp, fun h => h⟩
  | es :: r, lg, l, h => by
    unfold levelP at h
    split at h
    · cases h
    · rename_i z
      obtain ⟨e, b⟩ := levelP_some h
      refine ⟨by rw [e, List.flatMap_cons, List.append_assoc], fun _ => b (by omega)⟩
def namesIn (every : List (List Evt)) (es : List Evt) (names : List Str) (lg : List (List Evt)) : List (List Evt) := names.foldl (fun lg nm => levelIn every lg es nm) lg
theorem namesIn_low (every : List (List Evt)) (es : List Evt) : ∀ (names : List Str) (lg : List (List Evt)), min 1000 (every.length + lg.length + (oneL names es).length) ≤ every.length + (namesIn every es names lg).length ∧ lg.length ≤ (namesIn every es names lg).length
  | [], lg => ⟨by show min 1000 (every.length + lg.length + 0) ≤ every.length + lg.length; omega, Nat.le_refl _⟩
  | nm :: r, lg => by
    obtain ⟨h1, h2⟩ := namesIn_low every es r (levelIn every lg es nm)
    show _ ≤ every.length + (namesIn every es r (levelIn every lg es nm)).length ∧ _ ≤ (namesIn every es r (levelIn every lg es nm)).length
    have e1 : (oneL (nm :: r) es).length = (2 * sizeE es + 1) + (oneL r es).length := by
      unfold oneL
      rw [List.flatMap_cons, List.length_append, List.length_map, List.length_range]
    by_cases z : lg.length + every.length < 1000
    · have e2 : (levelIn every lg es nm).length = lg.length + (2 * sizeE es + 1) := by
        unfold levelIn
        rw [if_pos z, List.length_append, List.length_map, List.length_range]
      omega
    · have e2 : levelIn every lg es nm = lg := by unfold levelIn; rw [if_neg z]
      rw [e2] at h1 h2 ⊢
      omega
theorem namesIn_eq {every : List (List Evt)} {es : List Evt} : ∀ {names : List Str} {lg : List (List Evt)}, every.length + lg.length + (oneL names es).length ≤ 300 → namesIn every es names lg = lg ++ oneL names es
  | [], lg, _ => by show lg = lg ++ []; simp
  | nm :: r, lg, h => by
    have e0 : oneL (nm :: r) es = (List.range (2 * sizeE es + 1)).map (fun (p : Nat) => putE es nm (p : Int)) ++ oneL r es := by
      unfold oneL
      rw [List.flatMap_cons]
    have e1 : (oneL (nm :: r) es).length = (2 * sizeE es + 1) + (oneL r es).length := by rw [e0, List.length_append, List.length_map, List.length_range]
    show namesIn every es r (levelIn every lg es nm) = _
    have e2 : levelIn every lg es nm = lg ++ (List.range (2 * sizeE es + 1)).map fun (p : Nat) => putE es nm (p : Int) := by
      unfold levelIn
      rw [if_pos (by omega)]
    rw [e2, namesIn_eq (by rw [List.length_append, List.length_map, List.length_range]; omega), e0, List.append_assoc]
def lastIn (every : List (List Evt)) (names : List Str) (la lg : List (List Evt)) : List (List Evt) := la.foldl (fun lg es => namesIn every es names lg) lg
theorem lastIn_low (every : List (List Evt)) (names : List Str) : ∀ (la lg : List (List Evt)), lg.length ≤ (lastIn every names la lg).length
  | [], lg => Nat.le_refl _
  | es :: r, lg => Nat.le_trans (namesIn_low every es names lg).2 (lastIn_low every names r _)
theorem lastIn_some {every : List (List Evt)} {names : List Str} : ∀ {la lg l : List (List Evt)}, levelP every.length names la lg = some l → lastIn every names la lg = l
  | [], lg, l, h => Option.some.inj h
  | es :: r, lg, l, h => by
    unfold levelP at h
    split at h
    · cases h
    · rename_i z
      rw [List.length_append] at z
      show lastIn every names r (namesIn every es names lg) = l
      rw [namesIn_eq (by omega)]
      exact lastIn_some h
theorem lastIn_none {every : List (List Evt)} {names : List Str} : ∀ {la lg : List (List Evt)}, levelP every.length names la lg = none → 300 < every.length + (lastIn every names la lg).length
  | [], lg, h => by cases h
  | es :: r, lg, h => by
    unfold levelP at h
    show 300 < every.length + (lastIn every names r (namesIn every es names lg)).length
    split at h
    · rename_i z
      rw [List.length_append] at z
      have h1 := (namesIn_low every es names lg).1
      have h2 := lastIn_low every names r (namesIn every es names lg)
      omega
    · rename_i z
      rw [List.length_append] at z
      rw [namesIn_eq (by omega)]
      exact lastIn_none h
theorem everyK_low (names : List Str) (k : Nat) : ∀ j : Nat, (everyK names k).1.length ≤ (everyK names (k + j)).1.length
  | 0 => Nat.le_refl _
  | j + 1 => by
    have := everyK_low names k j
    show _ ≤ ((everyK names (k + j)).1 ++ levelOf (everyK names (k + j)).1 (everyK names (k + j)).2 names).length
    rw [List.length_append]
    omega
theorem allR_some {names : List Str} : ∀ {j k : Nat} {l : List (List Evt)}, allR names j (everyK names k).1 (everyK names k).2 = some l → (everyK names k).1.length ≤ 300 → everyK names k = (levs names k, lev names k) → everyL names (k + j) = l ∧ l = levs names (k + j) ∧ l.length ≤ 300
  | 0, k, l, h, hb, he => by
    have e := Option.some.inj h
    refine ⟨e, ?_, by rw [← e]; exact hb⟩
    rw [← e, he]; rfl
  | j + 1, k, l, h, hb, he => by
    unfold allR at h
    cases hP : levelP (everyK names k).1.length names (everyK names k).2 [] with
    | none => rw [hP] at h; cases h
    | some lg =>
      rw [hP] at h
      have h : allR names j ((everyK names k).1 ++ lg) lg = some l := h
      have e1 : levelOf (everyK names k).1 (everyK names k).2 names = lg := lastIn_some hP
      obtain ⟨e2, b2⟩ := levelP_some hP
      have b3 := b2 hb
      have e3 : everyK names (k + 1) = ((everyK names k).1 ++ lg, lg) := by
        show ((everyK names k).1 ++ levelOf (everyK names k).1 (everyK names k).2 names, levelOf (everyK names k).1 (everyK names k).2 names) = _
        rw [e1]
      have e4 : lg = lev names (k + 1) := by rw [e2, he]; rfl
      have := allR_some (j := j) (k := k + 1) (l := l) (by rw [e3]; exact h) (by rw [e3, List.length_append]; exact b3) (by rw [e3, he, levs_succ, e4])
      rw [show k + (j + 1) = k + 1 + j by omega]
      exact this
theorem allR_none {names : List Str} : ∀ {j k : Nat}, allR names j (everyK names k).1 (everyK names k).2 = none → 300 < (everyL names (k + j)).length
  | 0, k, h => by cases h
  | j + 1, k, h => by
    unfold allR at h
    cases hP : levelP (everyK names k).1.length names (everyK names k).2 [] with
    | none =>
      have h1 := lastIn_none hP
      have h2 := everyK_low names (k + 1) j
      have e3 : (everyK names (k + 1)).1.length = (everyK names k).1.length + (lastIn (everyK names k).1 names (everyK names k).2 []).length := by
        show ((everyK names k).1 ++ levelOf (everyK names k).1 (everyK names k).2 names).length = _
        rw [List.length_append]
        rfl
      rw [show k + (j + 1) = k + 1 + j by omega]
      show 300 < (everyK names (k + 1 + j)).1.length
      omega
    | some lg =>
      rw [hP] at h
      have h : allR names j ((everyK names k).1 ++ lg) lg = none := h
      have e1 : levelOf (everyK names k).1 (everyK names k).2 names = lg := lastIn_some hP
      have e3 : everyK names (k + 1) = ((everyK names k).1 ++ lg, lg) := by
        show ((everyK names k).1 ++ levelOf (everyK names k).1 (everyK names k).2 names, levelOf (everyK names k).1 (everyK names k).2 names) = _
        rw [e1]
      have := allR_none (j := j) (k := k + 1) (by rw [e3]; exact h)
      rw [show k + (j + 1) = k + 1 + j by omega]
      exact this
theorem allP_some {names : List Str} {n : Nat} {l : List (List Evt)} (h : allP names n = some l) : everyL names n = l ∧ l = levs names n ∧ l.length ≤ 300 := by
  have := allR_some (names := names) (j := n) (k := 0) (l := l) h (by show 0 ≤ 300; decide) rfl
  rwa [Nat.zero_add] at this
theorem allP_none {names : List Str} {n : Nat} (h : allP names n = none) : 300 < (everyL names n).length := by
  have := allR_none (names := names) (j := n) (k := 0) h
  rwa [Nat.zero_add] at this
end K07

set_option Elab.async false
set_option maxRecDepth 100000
set_option maxHeartbeats 4000000
namespace K07
open PySem L2 StX Zd
section
variable {c : Bs} {δ : Fe} {ta tb te : TE} {T : Dt → Prop} {K : PySem.W.Frag}
theorem dn_addP {i : Int} {P R : Int → Prop} (ha : De c ta δ (.int i)) (hb : Dn c tb δ (fun d => ∃ r : Int, d = .int r ∧ P r)) (h : ∀ r, P r → R (i + r)) : Dn c (tOp (rI0 fun i j => .int (i + j)) ta tb) δ (fun d => ∃ r : Int, d = .int r ∧ R r) := by
  refine dn_op ha hb ?_
  rintro x y rfl ⟨r, rfl, hr⟩
  intro v w G H s j d1 d2 Q q
  exact rv_I0 (z := .int (i + r)) (fun _ => .int _) v w G H s j d1 d2 Q fun u d' G' H' g dq e => q u d' G' H' g dq ⟨_, e, h r hr⟩
theorem dn_subP {j : Int} {P R : Int → Prop} (ha : Dn c ta δ (fun d => ∃ r : Int, d = .int r ∧ P r)) (hb : De c tb δ (.int j)) (h : ∀ r, P r → R (r - j)) : Dn c (tOp (rI0 fun i j => .int (i - j)) ta tb) δ (fun d => ∃ r : Int, d = .int r ∧ R r) := by
  refine dn_op ha hb ?_
  rintro x y ⟨r, rfl, hr⟩ rfl
  intro v w G H s j' d1 d2 Q q
  exact rv_I0 (z := .int (r - j)) (fun _ => .int _) v w G H s j' d1 d2 Q fun u d' G' H' g dq e => q u d' G' H' g dq ⟨_, e, h r hr⟩
theorem dn_mulP {j : Int} {P : Int → Prop} (hj : -(2 ^ 64) < j ∧ j < 2 ^ 64) (ha : Dn c ta δ (fun d => ∃ r : Int, d = .int r ∧ P r)) (hb : De c tb δ (.int j)) : Dn c (tOp (rI CMul fun i j => .int (i * j)) ta tb) δ (fun d => ∃ r : Int, d = .int r ∧ True) := by
  refine dn_op ha hb ?_
  rintro x y ⟨r, rfl, hr⟩ rfl
  intro v w G H s j' d1 d2 Q q
  exact rv_I (z := .int (r * j)) (.inr hj) (fun _ => .int _) v w G H s j' d1 d2 Q fun u d' G' H' g dq e => q u d' G' H' g dq ⟨_, e, trivial⟩
theorem dn_pick {E : XK} {p : Addr} {m : Int} (S : SrcC c p) (h : δ[1]? = some (.raw (.ref p))) (he : De c te δ (.int m)) (m0 : 0 < m) (m1 : m < 1000000000) : Dn c (tCall spPickS [] E (tCons (tVar 1) (tCons te tNil))) δ (fun d => ∃ r : Int, d = .int r ∧ 0 ≤ r ∧ r < m) :=
  dn_callS S h (da_consE he da_nil) fun xs e => ⟨m, e, ⟨m0, m1⟩, fun d h => h⟩
theorem de_isList {xs : List Dt} (h : De c te δ (.lst xs)) : De c (tCB (rIsi K) (tCons te (tCons (tC (.ty "list")) tNil))) δ (.bl true) := fun σ G H e Q q =>
  h σ G H e _ fun v d G1 H1 g1 d1 p1 => by
    subst p1
    cases d1 with
    | lst a1 a2 =>
      exact ⟨_, .ty "list", .type "list", .type "list", true, rfl, .ty _, .base (.lst (g1.gh _ _ a1)), by unfold PySem.W.kitOne; rw [if_pos (by decide)], q _ _ G1 H1 g1 (.bl _) rfl⟩
end
/-- what stands in a tree of events -/
def decE : Dt → List Evt
  | .lst xs => xs.filterMap fun d => match d with
    | .tup [.str s, .int n] => some (s, n)
    | _ => none
  | _ => []
theorem decE_evs (es : List Evt) : decE (evsD es) = es := by
  show (es.map evD).filterMap _ = es
  induction es with
  | nil => rfl
  | cons e r ih =>
    rw [List.map_cons, List.filterMap_cons]
    show e :: _ = e :: r
    rw [ih]
/-! ### lists of inputs compared -/
theorem dp_ins {K : PySem.W.Frag} {G H : Hp} (s : Same G H) : ∀ {vs : List V} {l : List (List Evt)}, Dqs G vs (l.map evsD) → DpAll K H vs (l.map fun es => .list (es.map evP))
  | [], [], .nil => .nil
  | _ :: _, _ :: _, .cons h hs => .cons (dp_ev s h) (dp_ins s hs)
theorem can_ins : ∀ {l : List (List Evt)}, (∀ es ∈ l, ∀ e ∈ es, nameOk e) → PyData.canLayAll0 (l.map fun es => .list (es.map evP)) = true
  | [], _ => rfl
  | es :: r, h => by
    have h1 := can_evs (h es List.mem_cons_self)
    have h2 := can_ins (l := r) fun x hx => h x (List.mem_cons_of_mem _ hx)
    simp only [List.map_cons, PyData.canLayAll0, PyData.canLay0, h1, h2, Bool.and_self, Bool.and_true]
theorem deep_ins : ∀ l : List (List Evt), PyData.depthAll (l.map fun es => PyData.list (es.map evP)) ≤ 2
  | [] => Nat.zero_le _
  | es :: r => by
    have h1 := deep_evs es
    have h2 := deep_ins r
    simp only [List.map_cons, PyData.depthAll, PyData.depth]
    omega
theorem shaped_ins {l : List (List Evt)} (h : ∀ es ∈ l, ∀ e ∈ es, nameOk e) : SeqAt.shaped (.list (l.map fun es => .list (es.map evP))) = true := by
  unfold SeqAt.shaped
  have := deep_ins l
  rw [Bool.and_eq_true]
  refine ⟨by rw [PyData.canLay0]; exact can_ins h, decide_eq_true ?_⟩
  rw [PyData.depth]
  exact Nat.le_trans (Nat.succ_le_succ this) (by decide)
theorem eqv_ins_self : ∀ l : List (List Evt), PyData.eqvAll (l.map fun es => .list (es.map evP)) (l.map fun es => .list (es.map evP)) = true
  | [] => by simp [PyData.eqvAll]
  | es :: r => by
    rw [List.map_cons, PyData.eqvAll, eqv_ins_self r, show PyData.eqv (.list (es.map evP)) (.list (es.map evP)) = PyData.eqvAll (es.map evP) (es.map evP) by rw [PyData.eqv], eqv_evs]
    simp
theorem rv_neIns {b : Bx} {K : PySem.W.Frag} {l : List (List Evt)} (h : ∀ es ∈ l, ∀ e ∈ es, nameOk e) : Rv b (rNeD K) (insD l) (insD l) (· = .bl false) := rv_val fun v w G H s d1 d2 Q q => by
  have dp : ∀ {v}, Dq G v (insD l) → Dp K H v (.list (l.map fun es => .list (es.map evP))) := fun {v} d => by
    cases d with
    | lst a1 a2 => exact .lst (SqL.of (s _ _ a1)) (dp_ins s a2)
  refine ⟨_, _, dp d1, dp d2, shaped_ins h, shaped_ins h, ?_⟩
  rw [show PyData.eqv (.list (l.map fun es => .list (es.map evP))) (.list (l.map fun es => .list (es.map evP))) = PyData.eqvAll (l.map fun es => .list (es.map evP)) (l.map fun es => .list (es.map evP)) by rw [PyData.eqv], eqv_ins_self]
  exact q _ (.bl _)
theorem rv_eqRef {b : Bx} {K : PySem.W.Frag} : Rv b (rEqD K) (.tup [.str "refused", .bl true]) (.tup [.str "refused", .bl true]) (· = .bl true) := rv_val fun v w G H s d1 d2 Q q => by
  have dp : ∀ {v}, Dq G v (.tup [.str "refused", .bl true]) → Dp K H v (.tuple [.str "refused", .bool true]) := fun {v} d => by
    cases d with
    | tup a1 a2 =>
      cases a2 with
      | cons b1 b2 =>
        cases b2 with
        | cons c1 c2 =>
          cases c2; cases b1; cases c1
          exact .tup (SqT.of (s _ _ a1)) (.cons (.str _) (.cons (.bl _) .nil))
  refine ⟨_, _, dp d1, dp d2, by decide +kernel, by decide +kernel, ?_⟩
  rw [show PyData.eqv (.tuple [.str "refused", .bool true]) (.tuple [.str "refused", .bool true]) = true by decide +kernel]
  exact q _ (.bl _)
theorem dp_ints {K : PySem.W.Frag} {H : Hp} : ∀ ns : List Int, DpAll K H (ns.map V.int) (ns.map PyData.int)
  | [] => .nil
  | n :: r => .cons (.int n) (dp_ints r)
theorem shaped_ints (ns : List Int) : SeqAt.shaped (.list (ns.map PyData.int)) = true := by
  unfold SeqAt.shaped
  have c : ∀ ns : List Int, PyData.canLayAll0 (ns.map PyData.int) = true := fun ns => by
    induction ns with
    | nil => rfl
    | cons n r ih => simp only [List.map_cons, PyData.canLayAll0, PyData.canLay0, ih, Bool.and_self]
  have d : ∀ ns : List Int, PyData.depthAll (ns.map PyData.int) ≤ 0 := fun ns => by
    induction ns with
    | nil => exact Nat.le_refl _
    | cons n r ih => simp only [List.map_cons, PyData.depthAll, PyData.depth]; omega
  have := d ns
  rw [Bool.and_eq_true]
  refine ⟨by rw [PyData.canLay0]; exact c ns, decide_eq_true ?_⟩
  rw [PyData.depth]
  exact Nat.le_trans (Nat.succ_le_succ this) (by decide)
theorem rv_eqInts {b : Bx} {K : PySem.W.Frag} {ns : List Int} : Rv b (rEqD K) (.lst (ns.map Dt.int)) (.lst (ns.map Dt.int)) (· = .bl true) := rv_val fun v w G H s d1 d2 Q q => by
  have dp : ∀ {v}, Dq G v (.lst (ns.map Dt.int)) → Dp K H v (.list (ns.map PyData.int)) := fun {v} d => by
    cases d with
    | lst a1 a2 =>
      have e := a2.ints
      subst e
      exact .lst (SqL.of (s _ _ a1)) (dp_ints ns)
  have ev : ∀ ns : List Int, PyData.eqvAll (ns.map PyData.int) (ns.map PyData.int) = true := fun ns => by
    induction ns with
    | nil => simp [PyData.eqvAll]
    | cons n r ih =>
      rw [List.map_cons, PyData.eqvAll, ih]
      simp [PyData.eqv]
  refine ⟨_, _, dp d1, dp d2, shaped_ints ns, shaped_ints ns, ?_⟩
  rw [show PyData.eqv (.list (ns.map PyData.int)) (.list (ns.map PyData.int)) = PyData.eqvAll (ns.map PyData.int) (ns.map PyData.int) by rw [PyData.eqv], ev]
  exact q _ (.bl _)
structure NmOk (names : List Str) : Prop where
  nd : names.Nodup
  pos : 0 < names.length
  le : names.length ≤ 4
  ok : ∀ nm ∈ names, PyData.strOk nm = true
def base4 : List Str := ["put", "get", "a", "b"]
theorem nmOk_take {r : Int} (h0 : 0 ≤ r) (h1 : r < 4) : NmOk (base4.take (1 + r).toNat) := by
  have : r = 0 ∨ r = 1 ∨ r = 2 ∨ r = 3 := by omega
  rcases this with rfl | rfl | rfl | rfl
  all_goals exact ⟨by decide +kernel, by decide +kernel, by decide +kernel, by decide +kernel⟩
section
variable {P : Program} {w : World} {K : PySem.W.Frag} {mg : Str → Option Value} {base : Heap} {CT CM CO : Addr} {tM : Tok}
/-- what the law's own defs are known by -/
structure LawK (P : Program) (w : World) (K : PySem.W.Frag) (mg : Str → Option Value) (base : Heap) (f1 f2 f3 f4 f5 f6 f7 f8 f9 : Addr) (d1 d2 d3 d4 d5 d6 d7 d8 d9 : FuncData) : Prop where
  k1 : Kn K mg "_law_cell" s__law_cell ["script", "k"] f1 d1
  k2 : Kn K mg "_law_source" s__law_source ["cell", "k"] f2 d2
  k3 : Kn K mg "_law_pick" s__law_pick ["source", "many"] f3 d3
  k4 : Kn K mg "_law_worded" s__law_worded ["source", "words"] f4 d4
  k5 : Kn K mg "_law_ranked" s__law_ranked ["events"] f5 d5
  k6 : Kn K mg "_law_every" s__law_every ["names", "length"] f6 d6
  k7 : Kn K mg "_law_told" s__law_told ["names", "length"] f7 d7
  k8 : Kn K mg "alike" s_alike ["first", "second"] f8 d8
  k9 : Kn K mg "ranks" s_ranks ["numbers"] f9 d9
def spLaw (K : PySem.W.Frag) : Sp := fun vs H Q _ => ∃ (a : Addr) (ns : List Int), vs = [.ref a] ∧ SqL K H a (ns.map V.int) ∧ ns.length ≤ 63 ∧ ∀ H', Q (.bl true) H'
theorem ok_law {f f1 f2 f3 f4 f5 f6 f7 f8 f9 : Addr} {fd d1 d2 d3 d4 d5 d6 d7 d8 d9 : FuncData} (F : Fun K "law" "law" s_law f fd) (L : LawK P w K mg base f1 f2 f3 f4 f5 f6 f7 f8 f9 d1 d2 d3 d4 d5 d6 d7 d8 d9)
    (G__law_cell : FnOk P w K mg base CX0 1 f1 d1 ["script", "k"] (spCell K)) (G__law_source : FnOk P w K mg base CX0 1 f2 d2 ["cell", "k"] spSource) (G__law_pick : FnOk P w K mg base CX0 1 f3 d3 ["source", "many"] spPickS) (G__law_worded : FnOk P w K mg base CX0 2 f4 d4 ["source", "words"] spWorded)
    (G__law_ranked : FnOk P w K mg base CX0 1 f5 d5 ["events"] spRanked) (G__law_every : FnOk P w K mg base CX0 3 f6 d6 ["names", "length"] spEvery) (G__law_told : FnOk P w K mg base CX0 5 f7 d7 ["names", "length"] spTold) (G_alike : FnOk P w K mg base CX0 3 f8 d8 ["first", "second"] spAlike) (G_ranks : FnOk P w K mg base CX0 1 f9 d9 ["numbers"] spRanks)
    (m_len : mg "len" = none) (m_range : mg "range" = none) (m_isinstance : mg "isinstance" = none) (m_list : mg "list" = none) (m_tuple : mg "tuple" = none) : FnOk P w K mg base CX0 6 f fd ["script"] (spLaw K) := by
  have nd := sc_law.nd
  obtain ⟨k__law_cell, k__law_source, k__law_pick, k__law_worded, k__law_ranked, k__law_every, k__law_told, k_alike, k_ranks⟩ := L
  refine F.ok sc_law (fun vs H Q E h => by obtain ⟨a, ns, rfl, _⟩ := h; rfl) (fun cdv A outer s H vs Q E hr h => ⟨_, (pss_cons (ps_set (i := 1) nd rfl (by first | exact Or.inl rfl | exact Or.inr rfl) (pe_call G__law_source (hr.mono (by decide)) (by rfl) k__law_source.g k__law_source.F.kp k__law_source.b .nil pass0 (pa_cons (pe_call G__law_cell (hr.mono (by decide)) (by rfl) k__law_cell.g k__law_cell.F.kp k__law_cell.b .nil pass0 (pa_cons (pv 0) (pa_cons pe_int pa_nil))) (pa_cons pe_int pa_nil))))
      (pss_cons (ps_set (i := 2) nd rfl (by first | exact Or.inl rfl | exact Or.inr rfl) (pe_slice (sl_listK (K := K) rfl) (pe_lst (pa_cons pe_str (pa_cons pe_str (pa_cons pe_str (pa_cons pe_str pa_nil))))) po_none (po_some (pe_op op_add pe_int (pe_call G__law_pick (hr.mono (by decide)) (by rfl) k__law_pick.g k__law_pick.F.kp k__law_pick.b .nil pass0 (pa_cons (pv 1) (pa_cons pe_int pa_nil)))))))
      (pss_cons (ps_set (i := 3) nd rfl (by first | exact Or.inl rfl | exact Or.inr rfl) (pe_call G__law_pick (hr.mono (by decide)) (by rfl) k__law_pick.g k__law_pick.F.kp k__law_pick.b .nil pass0 (pa_cons (pv 1) (pa_cons pe_int pa_nil))))
      (pss_cons (ps_set (i := 4) nd rfl (by first | exact Or.inl rfl | exact Or.inr rfl) (pe_call G__law_every (hr.mono (by decide)) (by rfl) k__law_every.g k__law_every.F.kp k__law_every.b .nil pass0 (pa_cons (pv 2) (pa_cons (pv 3) pa_nil))))
      (pss_cons (ps_set (i := 5) nd rfl (by first | exact Or.inl rfl | exact Or.inr rfl) (pe_call G__law_told (hr.mono (by decide)) (by rfl) k__law_told.g k__law_told.F.kp k__law_told.b .nil pass0 (pa_cons (pe_callTy (call_tuple_ofK (K := K) rfl) (by rfl) m_tuple (by decide +kernel) (pa_cons (pv 2) pa_nil)) (pa_cons (pv 3) pa_nil))))
      (pss_cons (ps_if (pt_cmpR op_gt (pe_callB (call_lenK (K := K) rfl) (by rfl) m_len PySem.boot_len (pa_cons (pv 4) pa_nil)) pe_int (nomark _)) (pss_one (ps_ret (pe_cmpR (op_eqDK (K := K) rfl hr.units) (pv 5) (pe_tup (pa_cons pe_str (pa_cons pe_bl pa_nil))) (nomark _)))) pss_nil)
      (pss_cons (ps_if (PW.pt (pw_or (pt_not (pt_val (pe_callB (call_isiK' (K := K) rfl) (by rfl) m_isinstance (by decide +kernel) (pa_cons (pv 5) (pa_cons (pe_bltn (v := .ty "list") (by rfl) m_list (by decide +kernel) rfl) pa_nil))))) (pw_or1 (pt_cmpR (op_neDK (K := K) rfl hr.units) (pv 5) (pv 4) (nomark _))))) (pss_one (ps_ret pe_bl)) pss_nil)
      (pss_cons (ps_set (i := 6) nd rfl (by first | exact Or.inl rfl | exact Or.inr rfl) (pe_dnewN (P := P) (w := w) rfl rfl))
      (pss_cons (ps_for PassesOwn.never rfl (pi_listK (K := K) rfl (pv 5)) (pg_name (i := 7) nd rfl (by first | exact Or.inl rfl | exact Or.inr rfl)) (pss_cons (ps_dputN (P := P) (w := w) rfl rfl hr.units (pv 6) (pe_callTy (call_tuple_ofK (K := K) rfl) (by rfl) m_tuple (by decide +kernel) (pa_cons (pv 7) pa_nil)) pe_bl rfl)
      (pss_one (ps_if (pt_cmpR (op_neDK (K := K) rfl hr.units) (pv 7) (pe_call G__law_ranked (hr.mono (by decide)) (by rfl) k__law_ranked.g k__law_ranked.F.kp k__law_ranked.b .nil pass0 (pa_cons (pv 7) pa_nil)) (nomark _)) (pss_one (ps_ret pe_bl)) pss_nil))))
      (pss_cons (ps_if (pt_cmpR op_ne (pe_callB (call_lenN (P := P) (w := w) rfl rfl) (by rfl) m_len PySem.boot_len (pa_cons (pv 6) pa_nil)) (pe_callB (call_lenK (K := K) rfl) (by rfl) m_len PySem.boot_len (pa_cons (pv 5) pa_nil)) (nomark _)) (pss_one (ps_ret pe_bl)) pss_nil)
      (pss_cons (ps_for PassesOwn.never rfl (pi_range1 rfl m_range (pa_cons pe_int pa_nil)) (pg_name (i := 8) nd rfl (by first | exact Or.inl rfl | exact Or.inr rfl)) (pss_one (ps_if (pt_cmpR op_gt (pv 3) pe_int (nomark _)) (pss_cons (ps_set (i := 7) nd rfl (by first | exact Or.inl rfl | exact Or.inr rfl) (pe_lc (own := [("j", 9)]) (g := gName 9) rfl nd (pi_range1 rfl m_range (pa_cons (pe_op op_add pe_int (pe_call G__law_pick (hr.mono (by decide)) (by rfl) k__law_pick.g k__law_pick.F.kp k__law_pick.b .nil pass0 (pa_cons (pv 1) (pa_cons (pv 3) pa_nil)))) pa_nil)) (by refine blkOk_by ?_; show blkC N_law (defScope s_law) _ _ = true; decide +kernel) (fun _ _ _ _ _ => (pg_name (i := 9) nd rfl (by first | exact Or.inl rfl | exact Or.inr rfl))) (fun _ _ _ _ _ => pts_nil) (fun _ _ _ _ _ => (pe_tup (pa_cons (pe_call G__law_worded (hr.mono (by decide)) (by rfl) k__law_worded.g k__law_worded.F.kp k__law_worded.b .nil pass0 (pa_cons (pv 1) (pa_cons (pv 2) pa_nil))) (pa_cons (pe_op op_sub (pe_op op_mul (pe_call G__law_pick (hr.mono (by decide)) (by rfl) k__law_pick.g k__law_pick.F.kp k__law_pick.b .nil pass0 (pa_cons (pv 1) (pa_cons pe_int pa_nil))) pe_int) pe_int) pa_nil))))))
      (pss_one (ps_if (pt_cmpR op_ne (pe_callB (call_lenK (K := K) rfl) (by rfl) m_len PySem.boot_len (pa_cons (pe_lc (own := [("other", 10)]) (g := gName 10) rfl nd (pi_listK (K := K) rfl (pv 5)) (by refine blkOk_by ?_; show blkC N_law (defScope s_law) _ _ = true; decide +kernel) (fun _ _ _ _ _ => (pg_name (i := 10) nd rfl (by first | exact Or.inl rfl | exact Or.inr rfl))) (fun _ _ _ _ _ => pts_one (pt_val (pe_call G_alike (hr.mono (by decide)) (by rfl) k_alike.g k_alike.F.kp k_alike.b .nil pass0 (pa_cons (pv 7) (pa_cons (pv 10) pa_nil))))) (fun _ _ _ _ _ => (pv 10))) pa_nil)) pe_int (nomark _)) (pss_one (ps_ret pe_bl)) pss_nil))) pss_nil)))
      (pss_cons (ps_setLc (i := 11) (own := [("k", 8)]) (g := gName 8) rfl nd rfl rfl (sw_true rfl rfl rfl (by decide +kernel)) (pi_range1 rfl m_range (pa_cons (pe_call G__law_pick (hr.mono (by decide)) (by rfl) k__law_pick.g k__law_pick.F.kp k__law_pick.b .nil pass0 (pa_cons (pv 1) (pa_cons pe_int pa_nil))) pa_nil)) (by refine blkOk_by ?_; show blkC N_law (defScope s_law) _ _ = true; decide +kernel) (fun _ _ _ _ _ => (pg_name (i := 8) nd rfl (by first | exact Or.inl rfl | exact Or.inr rfl))) (fun _ _ _ _ _ => pts_nil) (fun _ _ _ _ _ => (pe_op op_sub (pe_call G__law_pick (hr.mono (by decide)) (by rfl) k__law_pick.g k__law_pick.F.kp k__law_pick.b .nil pass0 (pa_cons (pv 1) (pa_cons pe_int pa_nil))) pe_int)))
      (pss_one (ps_ret (pe_cmpR (op_eqDK (K := K) rfl hr.units) (pe_call G_ranks (hr.mono (by decide)) (by rfl) k_ranks.g k_ranks.F.kp k_ranks.b .nil pass0 (pa_cons (pv 11) pa_nil)) (pe_lc (own := [("event", 12)]) (g := gName 12) rfl nd (pi_listK (K := K) rfl (pe_call G__law_ranked (hr.mono (by decide)) (by rfl) k__law_ranked.g k__law_ranked.F.kp k__law_ranked.b .nil pass0 (pa_cons (pe_lc (own := [("number", 13)]) (g := gName 13) rfl nd (pi_listK (K := K) rfl (pv 11)) (by refine blkOk_by ?_; show blkC N_law (defScope s_law) _ _ = true; decide +kernel) (fun _ _ _ _ _ => (pg_name (i := 13) nd rfl (by first | exact Or.inl rfl | exact Or.inr rfl))) (fun _ _ _ _ _ => pts_nil) (fun _ _ _ _ _ => (pe_tup (pa_cons pe_str (pa_cons (pv 13) pa_nil))))) pa_nil))) (by refine blkOk_by ?_; show blkC N_law (defScope s_law) _ _ = true; decide +kernel) (fun _ _ _ _ _ => (pg_name (i := 12) nd rfl (by first | exact Or.inl rfl | exact Or.inr rfl))) (fun _ _ _ _ _ => pts_nil) (fun _ _ _ _ _ => (pe_ix (ix_tupK (K := K) rfl) (pv 12) pe_int (fun _ _ => rfl)))) (nomark _)))))))))))))))) , ?_⟩)
  obtain ⟨a, ns, rfl, hS, hlen, q⟩ := h
  refine ⟨.ref a, rfl, a, ns, 0, by rw [List.append_nil], hS, by omega, by decide, fun n => ?_⟩
  refine ⟨n, 0, rfl, by decide, by decide, fun p x y hp y0 y1 => ?_⟩
  have jS : Src (upd H p (.lst [.int x, .int y])) p := ⟨x, y, upd_same, y0, y1⟩
  have S : SrcC ⟨Bx.src p, fun _ => none, upd H p (.lst [.int x, .int y])⟩ p := ⟨rfl, rfl⟩
  have e0 : Ec ⟨Bx.src p, fun _ => none, upd H p (.lst [.int x, .int y])⟩ (fun _ => none) (upd H p (.lst [.int x, .int y])) ((L2.start N_law [V.ref a]).set 1 (some (.ref p))) [.un, .raw (.ref p), .un, .un, .un, .un, .un, .un, .un, .un, .un, .un, .un, .un] := by
    refine ⟨jS, Gx.refl (fun _ _ e => nomatch e) jS, rfl, fun i x hx => ?_, fun i k x y q hx hy ox oy => ?_⟩
    · match i, hx with
      | 1, hx => have := Option.some.inj hx; subst this; rfl
      | 0, hx => have := Option.some.inj hx; subst this; trivial
      | i + 2, hx =>
        have hm : x ∈ List.replicate 12 Sl.un := List.mem_of_getElem? (i := i) hx
        rw [List.eq_of_mem_replicate hm]; trivial
    · match i, hx with
      | 1, hx => have := Option.some.inj hx; subst this; cases ox
      | 0, hx => have := Option.some.inj hx; subst this; cases ox
      | i + 2, hx =>
        have hm : x ∈ List.replicate 12 Sl.un := List.mem_of_getElem? (i := i) hx
        rw [List.eq_of_mem_replicate hm] at ox; cases ox
  show tSeq _ _ _ _ _
  generalize hc : (⟨Bx.src p, fun _ => none, upd H p (.lst [.int x, .int y])⟩ : Bs) = c at S e0
  refine (?_ : Ds c _ [.un, .raw (.ref p), .un, .un, .un, .un, .un, .un, .un, .un, .un, .un, .un, .un] { N := fun _ => False, R := (· = .bl true) }) _ _ _ _ e0 (fun _ _ _ _ _ _ z => z.elim) (fun v d G' H' g dq r => by subst r; cases dq; exact q _) (fun _ _ _ _ _ _ z => z.elim) (fun _ _ _ _ _ _ z => z.elim)
  -- names
  refine ds_let (T := fun d => ∃ names, d = strsD names ∧ NmOk names) (Dl.dn (dl_sl (P := (· = none)) (R := fun o => ∃ r : Int, o = some (1 + r) ∧ 0 ≤ r ∧ r < 4) (de_lst (da_consE de_str (da_consE de_str (da_consE de_str (da_consE de_str da_nil))))) dp_none (dp_some (dn_addP (P := fun r => 0 ≤ r ∧ r < 4) (R := fun i => ∃ r : Int, i = 1 + r ∧ 0 ≤ r ∧ r < 4) de_int (dn_pick S rfl de_int (by decide) (by decide)) fun r hr => ⟨r, rfl, hr⟩) fun d hd => ?_)) fun ds hd => ?_) fun d hd => ?_
  · obtain ⟨i, rfl, r, rfl, hr⟩ := hd
    exact ⟨_, rfl, r, rfl, hr⟩
  · obtain ⟨lo, hi, rfl, ⟨r, rfl, r0, r1⟩, rfl⟩ := hd
    refine ⟨base4.take (1 + r).toNat, ?_, nmOk_take r0 r1⟩
    have : r = 0 ∨ r = 1 ∨ r = 2 ∨ r = 3 := by omega
    rcases this with rfl | rfl | rfl | rfl <;> rfl
  obtain ⟨names, rfl, hN⟩ := hd
  have hN4 := hN.le
  -- length
  refine ds_let (T := fun d => ∃ n : Nat, d = .int n ∧ n < 5) ((dn_pick S rfl de_int (by decide) (by decide)).imp fun d hd => ?_) fun d hd => ?_
  · obtain ⟨r, rfl, r0, r1⟩ := hd
    exact ⟨r.toNat, by rw [Int.toNat_of_nonneg r0], by omega⟩
  obtain ⟨n, rfl, hn⟩ := hd
  -- due, told
  refine ds_letE (de_callT (A := fun a : List Str × Nat => [strsD a.1, .int a.2]) (f := fun a => insD (everyL a.1 a.2)) (names, n) (da_consE (de_var rfl) (da_consE (de_var rfl) da_nil)) ⟨by show names.length ≤ 1000; omega, by show n ≤ 10; omega⟩) ?_
  refine ds_letE (de_callT (A := fun a : List Str × Nat => [strsT a.1, .int a.2]) (f := fun a => toldD a.1 a.2) (names, n) (da_consE (de_tupleOfLK (de_var rfl)) (da_consE (de_var rfl) da_nil)) ⟨by show names.length ≤ 100; omega, by show n ≤ 10; omega⟩) ?_
  show Ds c _ [.un, .raw (.ref p), .dat (strsD names), .dat (.int n), .dat (insD (everyL names n)), .dat (toldD names n), .un, .un, .un, .un, .un, .un, .un, .un] _
  refine ds_seq (M := fun δ' => ∃ l, allP names n = some l ∧ δ' = [.un, .raw (.ref p), .dat (strsD names), .dat (.int n), .dat (insD l), .dat (insD l), .un, .un, .un, .un, .un, .un, .un, .un]) (ds_ifE (k := decide ((300 : Int) < (everyL names n).length)) (dt_testE (De.eq (de_cmp (f := fun i j => decide (j < i)) (de_lenLK (de_var rfl)) de_int) (by rw [List.length_map]))) (fun hk => ?_) (fun hk => ?_)) ?_
  · have hk' := of_decide_eq_true hk
    have hnone : allP names n = none := by
      cases e : allP names n with
      | none => rfl
      | some l =>
        obtain ⟨e1, _, e3⟩ := allP_some e
        rw [e1] at hk'
        omega
    have ht : toldD names n = .tup [.str "refused", .bl true] := by rw [toldD, hnone]
    rw [ht]
    exact ds_retE (de_op (de_var rfl) (de_tup (da_consE de_str (da_consE de_bl da_nil))) rv_eqRef) rfl
  · have hk' := of_decide_eq_false hk
    obtain ⟨l, hl⟩ : ∃ l, allP names n = some l := by
      cases e : allP names n with
      | none => have := allP_none e; omega
      | some l => exact ⟨l, rfl⟩
    refine ds_next ⟨l, hl, ?_⟩
    rw [toldD, hl, (allP_some hl).1]
  rintro δ' ⟨l, hl, rfl⟩
  obtain ⟨hE, hLv, hlen3⟩ := allP_some hl
  have hall : ∀ x ∈ l, x.length ≤ n ∧ rankE x = x ∧ ∀ e ∈ x, e.1 ∈ names := fun x hx => levs_all (by rw [← hLv]; exact hx)
  have hnm : ∀ x ∈ l, ∀ e ∈ x, nameOk e := fun x hx e he => hN.ok _ ((hall x hx).2.2 e he)
  have hnd : l.Nodup := by rw [hLv]; exact levs_nodup hN.nd n
  -- told is due
  refine ds_seq (M := (· = [.un, .raw (.ref p), .dat (strsD names), .dat (.int n), .dat (insD l), .dat (insD l), .un, .un, .un, .un, .un, .un, .un, .un])) (ds_ifE (k := false) (dt_or (a := false) (b := false) (dt_not (a := true) (dt_testE (de_isList (de_var rfl)))) fun _ => dt_testE (de_op (de_var rfl) (de_var rfl) (rv_neIns hnm))) (fun h => nomatch h) (fun _ => ds_next rfl)) ?_
  rintro δ' rfl
  -- seen
  refine ds_letSeen ?_
  refine ds_seq (M := fun δ' => ∃ x7, δ' = [.un, .raw (.ref p), .dat (strsD names), .dat (.int n), .dat (insD l), .dat (insD l), .obj (DSeen P w l), x7, .un, .un, .un, .un, .un, .un]) (ds_for (vs := [7]) (di_list (de_var rfl)) fun xs e => ?_) ?_
  · subst e
    refine ⟨fun i δ' => ∃ x7, δ' = [.un, .raw (.ref p), .dat (strsD names), .dat (.int n), .dat (insD l), .dat (insD l), .obj (DSeen P w (l.take i)), x7, .un, .un, .un, .un, .un, .un], ⟨.un, by rw [List.take_zero]; rfl⟩, ?_, ?_⟩
    · rintro i d δ' hd ⟨x7, rfl⟩
      obtain ⟨es, hes, rfl⟩ := get_map hd
      have hil := (List.getElem?_eq_some_iff.mp hes).1
      have hmem := List.mem_of_getElem? hes
      have hnew : es ∉ l.take i := fun hm => by
        obtain ⟨j, hj, e⟩ := List.getElem_of_mem hm
        rw [List.length_take] at hj
        rw [List.getElem_take] at e
        have e2 : l[j] = l[i] := e.trans (Option.some.inj ((List.getElem?_eq_getElem hil).symm.trans hes)).symm
        have := (List.getElem_inj hnd).mp e2
        omega
      refine dg_name (by decide) ?_
      refine ds_seq (M := (· = [.un, .raw (.ref p), .dat (strsD names), .dat (.int n), .dat (insD l), .dat (insD l), .obj (DSeen P w (l.take i ++ [es])), .dat (evsD es), .un, .un, .un, .un, .un, .un])) (ds_seenPut (i := 6) (es := es) rfl de_bl (de_tupleOfLK (de_var rfl)) hnew (by rw [List.length_take]; omega) rfl) ?_
      rintro δ' rfl
      refine ds_ifE (k := false) (dt_testE (De.eq (de_op (de_var rfl) (de_callT (A := fun es : List Evt => [evsD es]) (f := fun es => evsD (rankE es)) es (da_consE (de_var rfl) da_nil) (by show es.length ≤ 100000; have := (hall es hmem).1; omega)) (rv_neEvs (hnm es hmem) (rankE_names (hnm es hmem)))) ?_)) (fun h => nomatch h) (fun _ => ds_next ⟨.dat (evsD es), ?_⟩)
      · rw [(hall es hmem).2.1]; simp
      · rw [List.take_add_one, hes]; rfl
    · rintro δ' ⟨x7, rfl⟩
      refine ⟨x7, ?_⟩
      rw [List.take_of_length_le (by simp)]
  rintro δ' ⟨x7, rfl⟩
  refine ds_seq (M := (· = [.un, .raw (.ref p), .dat (strsD names), .dat (.int n), .dat (insD l), .dat (insD l), .obj (DSeen P w l), x7, .un, .un, .un, .un, .un, .un])) (ds_ifE (k := false) (dt_testE (De.eq (de_op (de_lenSeen (i := 6) rfl (by omega)) (de_lenLK (de_var rfl)) rv_neI) ?_)) (fun h => nomatch h) (fun _ => ds_next rfl)) ?_
  · rw [List.length_map]; simp
  rintro δ' rfl
  refine ds_forget 6 ?_
  refine ds_forget 7 ?_
  -- six inputs
  refine ds_seq (M := fun δ' => ∃ x7 x8, δ' = [.un, .raw (.ref p), .dat (strsD names), .dat (.int n), .dat (insD l), .dat (insD l), .un, x7, x8, .un, .un, .un, .un, .un]) (ds_for (vs := [8]) (di_rng1E (n := 6) de_int (by decide) (by decide)) fun xs e => ?_) ?_
  · subst e
    refine ⟨fun i δ' => ∃ x7 x8, δ' = [.un, .raw (.ref p), .dat (strsD names), .dat (.int n), .dat (insD l), .dat (insD l), .un, x7, x8, .un, .un, .un, .un, .un], ⟨.un, .un, rfl⟩, ?_, fun δ' h => h⟩
    rintro i d δ' hd ⟨x7, x8, rfl⟩
    refine dg_name (by decide) ?_
    refine ds_ifE (k := decide ((0 : Int) < n)) (dt_testE (de_cmp (f := fun i j => decide (j < i)) (de_var rfl) de_int)) (fun hk => ?_) (fun hk => ds_next ⟨x7, .dat d, rfl⟩)
    have hk' := of_decide_eq_true hk
    refine ds_let (T := fun d => ∃ es : List Evt, d = evsD es ∧ es ≠ [] ∧ es.length ≤ n ∧ ∀ e ∈ es, e.1 ∈ names) (Dl.dn (S := fun ds => ∃ es : List Evt, ds = es.map evD ∧ es ≠ [] ∧ es.length ≤ n ∧ ∀ e ∈ es, e.1 ∈ names) (dl_lc (di_rng1 (dn_addP (P := fun r => 0 ≤ r ∧ r < n) (R := fun i => 1 ≤ i ∧ i ≤ n) de_int (dn_pick S rfl (de_var rfl) hk' (by omega)) fun r hr => by omega) fun d hd => ?_) fun xs hxs => ?_) fun ds hd => ?_) fun d hd => ?_
    · obtain ⟨r, rfl, hr⟩ := hd
      exact ⟨r, rfl, by omega, by omega⟩
    · obtain ⟨m, ⟨r, hr0, hr⟩, rfl⟩ := hxs
      have hr0 := Dt.int.inj hr0
      subst hr0
      refine ⟨fun i acc => ∃ es : List Evt, acc = es.map evD ∧ es.length = i ∧ ∀ e ∈ es, e.1 ∈ names, ⟨[], rfl, rfl, fun e he => by cases he⟩, ?_, ?_, by rw [rngD_len]; omega⟩
      · rintro i d acc hd ⟨es, rfl, hel, hes⟩
        refine dg_name (by decide) (dt_yes.imp fun k hk => ?_)
        rw [hk, if_pos rfl]
        refine dn_tup (S := fun ds => ∃ (nm : Str) (v : Int), ds = [.str nm, .int v] ∧ nm ∈ names) (da_cons (P := fun d => ∃ nm, d = .str nm ∧ nm ∈ names) (S := fun ds => ∃ v : Int, ds = [.int v]) (dn_callS S rfl (da_consE (de_var rfl) da_nil) fun xs e => ⟨names.map Dt.str, e, ⟨by rw [List.length_map]; exact hN.pos, by rw [List.length_map]; omega⟩, fun d hd => ?_⟩)
          (da_cons (P := fun d => ∃ r : Int, d = .int r ∧ True) (S := (· = [])) (dn_subP (P := fun _ => True) (R := fun _ => True) (dn_mulP (P := fun r => 0 ≤ r ∧ r < 5) (by decide) (dn_pick S rfl de_int (by decide) (by decide)) de_int) de_int fun _ _ => trivial) da_nil fun d ds hd hds => ?_) fun d ds hd hds => ?_) (fun ds hd => ?_) fun ds hd => ?_
        · obtain ⟨nm, hm, rfl⟩ := List.mem_map.mp hd
          exact ⟨nm, rfl, hm⟩
        · obtain ⟨v, rfl, _⟩ := hd
          exact ⟨v, by rw [hds]⟩
        · obtain ⟨nm, rfl, hm⟩ := hd
          obtain ⟨v, rfl⟩ := hds
          exact ⟨nm, v, rfl, hm⟩
        · obtain ⟨nm, v, rfl, hm⟩ := hd
          show 2 ≤ 10000000
          decide
        · obtain ⟨nm, v, rfl, hm⟩ := hd
          refine ⟨es ++ [(nm, v)], by rw [List.map_append]; rfl, by rw [List.length_append, hel]; rfl, fun e he => ?_⟩
          rcases List.mem_append.mp he with he | he
          · exact hes e he
          · rw [List.mem_singleton.mp he]; exact hm
      · rintro acc ⟨es, rfl, hel, hes⟩
        rw [rngD_len] at hel
        refine ⟨es, rfl, fun z => ?_, by omega, hes⟩
        rw [z] at hel
        have : (0 : Nat) = m.toNat := hel
        omega
    · obtain ⟨es, rfl, h⟩ := hd
      exact ⟨es, rfl, h⟩
    obtain ⟨es, rfl, hne, hle, hes⟩ := hd
    have hone := one_alike hN.nd hne hle hes
    rw [← hLv] at hone
    refine ds_ifE (k := false) (dt_testE (De.eq (de_op (de_lenLK (Dl.de (dl_lcFilter (fun d => decide (rankE es = rankE (decE d))) (fun d => d) (di_list (de_var rfl)) (by rw [List.length_map]; omega) fun d hd => ?_))) de_int rv_neI) ?_)) (fun h => nomatch h) (fun _ => ds_next ⟨.dat (evsD es), .dat d, rfl⟩)
    · obtain ⟨o, ho, rfl⟩ := List.mem_map.mp hd
      have hol := (hall o ho).1
      refine dg_name (by decide) ⟨dt_BE (De.eq (de_callT (A := fun a : List Evt × List Evt => [evsD a.1, evsD a.2]) (f := fun a => .bl (decide (rankE a.1 = rankE a.2))) (es, o) (da_consE (de_var rfl) (da_consE (de_var rfl) da_nil)) ⟨⟨by show es.length < 64; omega, by show o.length < 64; omega⟩, fun e he => hN.ok _ (hes e he), hnm o ho⟩) ?_), fun _ => de_var rfl⟩
      show Dt.bl (decide (rankE es = rankE o)) = _
      rw [decE_evs]
    · rw [List.map_id'', List.filter_map, List.length_map]
      have : (l.filter ((fun d => decide (rankE es = rankE (decE d))) ∘ evsD)).length = 1 := by
        rw [← hone]
        congr 1
        refine List.filter_congr fun x _ => ?_
        show decide (rankE es = rankE (decE (evsD x))) = _
        rw [decE_evs]
      rw [this]; rfl
      exact fun _ => rfl
  rintro δ' ⟨x7, x8, rfl⟩
  -- ranks of drawn integers
  refine ds_let (T := fun d => ∃ ns : List Int, d = .lst (ns.map Dt.int) ∧ ns.length < 64) (Dl.dn (S := fun ds => ∃ ns : List Int, ds = ns.map Dt.int ∧ ns.length < 64) (dl_lc (di_rng1 (dn_pick S rfl de_int (by decide) (by decide)) fun d hd => ?_) fun xs hxs => ?_) fun ds hd => ?_) fun d hd => ?_
  · obtain ⟨r, rfl, hr⟩ := hd
    exact ⟨r, rfl, by omega, by omega⟩
  · obtain ⟨m, ⟨r, hr0, hr⟩, rfl⟩ := hxs
    have hr0 := Dt.int.inj hr0
    subst hr0
    refine ⟨fun i acc => ∃ ns : List Int, acc = ns.map Dt.int ∧ ns.length = i, ⟨[], rfl, rfl⟩, ?_, ?_, by rw [rngD_len]; omega⟩
    · rintro i d acc hd ⟨ns, rfl, hel⟩
      refine dg_name (by decide) (dt_yes.imp fun k hk => ?_)
      rw [hk, if_pos rfl]
      refine (dn_subP (P := fun r => 0 ≤ r ∧ r < 9) (R := fun _ => True) (dn_pick S rfl de_int (by decide) (by decide)) de_int fun _ _ => trivial).imp fun d hd => ?_
      obtain ⟨v, rfl, _⟩ := hd
      exact ⟨ns ++ [v], by rw [List.map_append]; rfl, by rw [List.length_append, hel]; rfl⟩
    · rintro acc ⟨ns, rfl, hel⟩
      rw [rngD_len] at hel
      exact ⟨ns, rfl, by omega⟩
  · obtain ⟨ns, rfl, h⟩ := hd
    exact ⟨ns, rfl, h⟩
  obtain ⟨ns, rfl, hns⟩ := hd
  have hpairs : ∀ d ∈ ns.map Dt.int, True := fun _ _ => trivial
  refine ds_retE (de_op (x := .lst ((ns.map (rankN ns)).map Dt.int)) (de_callT (A := fun ns : List Int => [.lst (ns.map Dt.int)]) (f := fun ns => .lst ((ns.map (rankN ns)).map Dt.int)) ns (da_consE (de_var rfl) da_nil) hns)
    (De.eq (Dl.de (dl_lcMap (fun d => match d with
      | .tup [.str s, .int n] => .int n
      | d => d) (di_list (de_callT (A := fun es : List Evt => [evsD es]) (f := fun es => evsD (rankE es)) (ns.map fun n => ("a", n)) (Ds'.imp (da_consE (Dl.de (dl_lcMap (fun d => .tup [.str "a", d]) (di_list (de_var rfl)) (by rw [List.length_map]; omega) fun d hd => dg_name (by decide) (de_tup (da_consE de_str (da_consE (de_var rfl) da_nil))))) da_nil) fun ds e => ?_) (by show (ns.map _).length ≤ 100000; rw [List.length_map]; omega))) (by rw [List.length_map, rankE_len, List.length_map]; omega) fun d hd => ?_)) ?_) rv_eqInts) rfl
  · rw [e, evsD, List.map_map, List.map_map]; rfl
  · obtain ⟨e, he, rfl⟩ := List.mem_map.mp hd
    exact dg_name (by decide) (de_ixT (d := .int e.2) (de_var rfl) de_int rfl)
  · rw [List.map_map]
    unfold rankE
    rw [List.map_map, List.map_map, List.map_map]
    have : ns.map ((fun x : Evt => x.2) ∘ fun n => (("a", n) : Evt)) = ns := List.map_id _
    rw [this, List.map_map]
    rfl
end
end K07

set_option Elab.async false
set_option maxRecDepth 100000
set_option maxHeartbeats 4000000
namespace K07
open PySem L2 StX Zd PyProof.Rows
theorem all_mk {P : Program} {w : World} {K : PySem.W.Frag} {h : Heap} {mg : Str → Option Value} {fa CT CM CO : Addr} {tM : Tok} (X : K.In h) (G : h.Ns mainGlobals mg) (hfa : mg "law" = some (.ref fa))
    {f1 : Addr} {od1 an1 : Option Addr} {sl1 : Array (Option Value)} {oc1 kV1 dc1 pm1 cd1 ct1 : Value}
    {f2 : Addr} {od2 an2 : Option Addr} {sl2 : Array (Option Value)} {oc2 kV2 dc2 pm2 cd2 ct2 : Value}
    {f3 : Addr} {od3 an3 : Option Addr} {sl3 : Array (Option Value)} {oc3 kV3 dc3 pm3 cd3 ct3 : Value}
    {f4 : Addr} {od4 an4 : Option Addr} {sl4 : Array (Option Value)} {oc4 kV4 dc4 pm4 cd4 ct4 : Value}
    {f5 : Addr} {od5 an5 : Option Addr} {sl5 : Array (Option Value)} {oc5 kV5 dc5 pm5 cd5 ct5 : Value}
    {f6 : Addr} {od6 an6 : Option Addr} {sl6 : Array (Option Value)} {oc6 kV6 dc6 pm6 cd6 ct6 : Value}
    {f7 : Addr} {od7 an7 : Option Addr} {sl7 : Array (Option Value)} {oc7 kV7 dc7 pm7 cd7 ct7 : Value}
    {f8 : Addr} {od8 an8 : Option Addr} {sl8 : Array (Option Value)} {oc8 kV8 dc8 pm8 cd8 ct8 : Value}
    {f9 : Addr} {od9 an9 : Option Addr} {sl9 : Array (Option Value)} {oc9 kV9 dc9 pm9 cd9 ct9 : Value}
    {f10 : Addr} {od10 an10 : Option Addr} {sl10 : Array (Option Value)} {oc10 kV10 dc10 pm10 cd10 ct10 : Value}
    {f11 : Addr} {od11 an11 : Option Addr} {sl11 : Array (Option Value)} {oc11 kV11 dc11 pm11 cd11 ct11 : Value}
    {f12 : Addr} {od12 an12 : Option Addr} {sl12 : Array (Option Value)} {oc12 kV12 dc12 pm12 cd12 ct12 : Value}
    {f13 : Addr} {od13 an13 : Option Addr} {sl13 : Array (Option Value)} {oc13 kV13 dc13 pm13 cd13 ct13 : Value}
    {f14 : Addr} {od14 an14 : Option Addr} {sl14 : Array (Option Value)} {oc14 kV14 dc14 pm14 cd14 ct14 : Value}
    {f15 : Addr} {od15 an15 : Option Addr} {sl15 : Array (Option Value)} {oc15 kV15 dc15 pm15 cd15 ct15 : Value}
    (a1 : PySem.W.nsIn K mainGlobals "_law_cell" = some (some (.ref f1))) (l1 : K.lookup f1 = some ⟨oc1, od1, .func (PySem.W.fnOf "_law_cell" "_law_cell" (defArgs s__law_cell) (defBody s__law_cell) (defScope s__law_cell) .none kV1 dc1 pm1 an1 cd1 ct1), sl1⟩) (c1 : PySem.W.codeIn K cd1 "_law_cell" = true) (k1 : PySem.W.keepIn K (.ref f1) = true)
    (a2 : PySem.W.nsIn K mainGlobals "_law_source" = some (some (.ref f2))) (l2 : K.lookup f2 = some ⟨oc2, od2, .func (PySem.W.fnOf "_law_source" "_law_source" (defArgs s__law_source) (defBody s__law_source) (defScope s__law_source) .none kV2 dc2 pm2 an2 cd2 ct2), sl2⟩) (c2 : PySem.W.codeIn K cd2 "_law_source" = true) (k2 : PySem.W.keepIn K (.ref f2) = true)
    (a3 : PySem.W.nsIn K mainGlobals "_law_pick" = some (some (.ref f3))) (l3 : K.lookup f3 = some ⟨oc3, od3, .func (PySem.W.fnOf "_law_pick" "_law_pick" (defArgs s__law_pick) (defBody s__law_pick) (defScope s__law_pick) .none kV3 dc3 pm3 an3 cd3 ct3), sl3⟩) (c3 : PySem.W.codeIn K cd3 "_law_pick" = true) (k3 : PySem.W.keepIn K (.ref f3) = true)
    (a4 : PySem.W.nsIn K mainGlobals "_law_worded" = some (some (.ref f4))) (l4 : K.lookup f4 = some ⟨oc4, od4, .func (PySem.W.fnOf "_law_worded" "_law_worded" (defArgs s__law_worded) (defBody s__law_worded) (defScope s__law_worded) .none kV4 dc4 pm4 an4 cd4 ct4), sl4⟩) (c4 : PySem.W.codeIn K cd4 "_law_worded" = true) (k4 : PySem.W.keepIn K (.ref f4) = true)
    (a5 : PySem.W.nsIn K mainGlobals "_law_ranked" = some (some (.ref f5))) (l5 : K.lookup f5 = some ⟨oc5, od5, .func (PySem.W.fnOf "_law_ranked" "_law_ranked" (defArgs s__law_ranked) (defBody s__law_ranked) (defScope s__law_ranked) .none kV5 dc5 pm5 an5 cd5 ct5), sl5⟩) (c5 : PySem.W.codeIn K cd5 "_law_ranked" = true) (k5 : PySem.W.keepIn K (.ref f5) = true)
    (a6 : PySem.W.nsIn K mainGlobals "_law_put" = some (some (.ref f6))) (l6 : K.lookup f6 = some ⟨oc6, od6, .func (PySem.W.fnOf "_law_put" "_law_put" (defArgs s__law_put) (defBody s__law_put) (defScope s__law_put) .none kV6 dc6 pm6 an6 cd6 ct6), sl6⟩) (c6 : PySem.W.codeIn K cd6 "_law_put" = true) (k6 : PySem.W.keepIn K (.ref f6) = true)
    (a7 : PySem.W.nsIn K mainGlobals "_law_size" = some (some (.ref f7))) (l7 : K.lookup f7 = some ⟨oc7, od7, .func (PySem.W.fnOf "_law_size" "_law_size" (defArgs s__law_size) (defBody s__law_size) (defScope s__law_size) .none kV7 dc7 pm7 an7 cd7 ct7), sl7⟩) (c7 : PySem.W.codeIn K cd7 "_law_size" = true) (k7 : PySem.W.keepIn K (.ref f7) = true)
    (a8 : PySem.W.nsIn K mainGlobals "_law_every" = some (some (.ref f8))) (l8 : K.lookup f8 = some ⟨oc8, od8, .func (PySem.W.fnOf "_law_every" "_law_every" (defArgs s__law_every) (defBody s__law_every) (defScope s__law_every) .none kV8 dc8 pm8 an8 cd8 ct8), sl8⟩) (c8 : PySem.W.codeIn K cd8 "_law_every" = true) (k8 : PySem.W.keepIn K (.ref f8) = true)
    (a9 : PySem.W.nsIn K mainGlobals "_law_told" = some (some (.ref f9))) (l9 : K.lookup f9 = some ⟨oc9, od9, .func (PySem.W.fnOf "_law_told" "_law_told" (defArgs s__law_told) (defBody s__law_told) (defScope s__law_told) .none kV9 dc9 pm9 an9 cd9 ct9), sl9⟩) (c9 : PySem.W.codeIn K cd9 "_law_told" = true) (k9 : PySem.W.keepIn K (.ref f9) = true)
    (a10 : PySem.W.nsIn K mainGlobals "ranks" = some (some (.ref f10))) (l10 : K.lookup f10 = some ⟨oc10, od10, .func (PySem.W.fnOf "ranks" "ranks" (defArgs s_ranks) (defBody s_ranks) (defScope s_ranks) .none kV10 dc10 pm10 an10 cd10 ct10), sl10⟩) (c10 : PySem.W.codeIn K cd10 "ranks" = true) (k10 : PySem.W.keepIn K (.ref f10) = true)
    (a11 : PySem.W.nsIn K mainGlobals "ranked" = some (some (.ref f11))) (l11 : K.lookup f11 = some ⟨oc11, od11, .func (PySem.W.fnOf "ranked" "ranked" (defArgs s_ranked) (defBody s_ranked) (defScope s_ranked) .none kV11 dc11 pm11 an11 cd11 ct11), sl11⟩) (c11 : PySem.W.codeIn K cd11 "ranked" = true) (k11 : PySem.W.keepIn K (.ref f11) = true)
    (a12 : PySem.W.nsIn K mainGlobals "alike" = some (some (.ref f12))) (l12 : K.lookup f12 = some ⟨oc12, od12, .func (PySem.W.fnOf "alike" "alike" (defArgs s_alike) (defBody s_alike) (defScope s_alike) .none kV12 dc12 pm12 an12 cd12 ct12), sl12⟩) (c12 : PySem.W.codeIn K cd12 "alike" = true) (k12 : PySem.W.keepIn K (.ref f12) = true)
    (a13 : PySem.W.nsIn K mainGlobals "all_inputs" = some (some (.ref f13))) (l13 : K.lookup f13 = some ⟨oc13, od13, .func (PySem.W.fnOf "all_inputs" "all_inputs" (defArgs s_all_inputs) (defBody s_all_inputs) (defScope s_all_inputs) .none kV13 dc13 pm13 an13 cd13 ct13), sl13⟩) (c13 : PySem.W.codeIn K cd13 "all_inputs" = true) (k13 : PySem.W.keepIn K (.ref f13) = true)
    (a14 : PySem.W.nsIn K mainGlobals "one_longer" = some (some (.ref f14))) (l14 : K.lookup f14 = some ⟨oc14, od14, .func (PySem.W.fnOf "one_longer" "one_longer" (defArgs s_one_longer) (defBody s_one_longer) (defScope s_one_longer) .none kV14 dc14 pm14 an14 cd14 ct14), sl14⟩) (c14 : PySem.W.codeIn K cd14 "one_longer" = true) (k14 : PySem.W.keepIn K (.ref f14) = true)
    (a15 : PySem.W.nsIn K mainGlobals "law" = some (some (.ref f15))) (l15 : K.lookup f15 = some ⟨oc15, od15, .func (PySem.W.fnOf "law" "law" (defArgs s_law) (defBody s_law) (defScope s_law) .none kV15 dc15 pm15 an15 cd15 ct15), sl15⟩) (c15 : PySem.W.codeIn K cd15 "law" = true) (k15 : PySem.W.keepIn K (.ref f15) = true)
    (z1 : PySem.W.nsIn K mainGlobals "set" = some none)
    (z2 : PySem.W.nsIn K mainGlobals "sorted" = some none)
    (z3 : PySem.W.nsIn K mainGlobals "enumerate" = some none)
    (z4 : PySem.W.nsIn K mainGlobals "list" = some none)
    (z5 : PySem.W.nsIn K mainGlobals "zip" = some none)
    (z6 : PySem.W.nsIn K mainGlobals "len" = some none)
    (z7 : PySem.W.nsIn K mainGlobals "range" = some none)
    (z8 : PySem.W.nsIn K mainGlobals "isinstance" = some none)
    (z9 : PySem.W.nsIn K mainGlobals "int" = some none)
    (z10 : PySem.W.nsIn K mainGlobals "tuple" = some none)
    (nM : PySem.W.nsIn K mainGlobals "MissError" = some (some (.ref CM))) (nT : PySem.W.nsIn K mainGlobals "TooLarge" = some (some (.ref CT))) (nO : PySem.W.nsIn K mainGlobals "OtherFace" = some (some (.ref CO))) (nI : PySem.W.nsIn K mainGlobals "MOST_INPUTS" = some (some (.int 300 tM)))
    (xT : PySem.W.excIn K CT [.type "ValueError", .type "Exception", .type "BaseException", .type "object"] "ValueError.__new__" = true) (kT : PySem.W.keepIn K (.ref CT) = true) (bT : PySem.W.subIn K (.ref CT) (.type "BaseException") = some true) (tT : PySem.W.typeIn K (.ref CT) = some (.type "type"))
    (bM : PySem.W.subIn K (.ref CM) (.type "BaseException") = some true) (hM : PySem.W.hasDictIn K CM = true) (tM' : PySem.W.typeIn K (.ref CM) = some (.type "type")) (sTM : PySem.W.subIn K (.ref CT) (.ref CM) = some true)
    (hO : PySem.W.isClsIn K CO = true) (tO : PySem.W.typeIn K (.ref CO) = some (.type "type")) (sTO : PySem.W.subIn K (.ref CT) (.ref CO) = some false) (ne : (Value.ref CT == Value.ref CO) = false)
    (e1 : PySem.W.findIn K (.ref CT) "__getattribute__" = some (some (.builtin "BaseException.__getattribute__"))) (e2 : PySem.W.findIn K (.ref CT) "__getattr__" = some none) (e4 : PySem.W.hasDictIn K CT = true) (e5 : PySem.W.findIn K (.ref CT) "__class__" = some (some (.builtin "object.__class__")))
    (e6 : PySem.W.specialIn K (.builtin "object.__class__") "__get__" = some (some (.builtin "getset_descriptor.__get__"))) (e7 : PySem.W.takesIn K (.builtin "object.__class__") = some true) (e8 : PySem.W.mroIn K CT (.type "object") = some true) :
    ∃ fd : FuncData, (∀ (s : Shared) (v : Value), BindsTo s fd ⟨[v], []⟩ [("script", v)]) ∧ ∀ base : Heap, K.In base → base.Ns mainGlobals mg → FnOk P w K mg base CX0 6 fa fd ["script"] (spLaw K) := by
  have e := hfa.symm.trans (PySem.W.mg_of X G a15)
  cases e
  have F1 := fun_mk (st := s__law_cell) l1 c1 k1
  have k__law_cell : Kn K mg "_law_cell" s__law_cell ["script", "k"] f1 _ := ⟨PySem.W.mg_of X G a1, F1, F1.binds (ps := ["script", "k"]) fun _ _ _ _ _ _ us hl => match us, hl with | [_, _], _ => rfl⟩
  have F2 := fun_mk (st := s__law_source) l2 c2 k2
  have k__law_source : Kn K mg "_law_source" s__law_source ["cell", "k"] f2 _ := ⟨PySem.W.mg_of X G a2, F2, F2.binds (ps := ["cell", "k"]) fun _ _ _ _ _ _ us hl => match us, hl with | [_, _], _ => rfl⟩
  have F3 := fun_mk (st := s__law_pick) l3 c3 k3
  have k__law_pick : Kn K mg "_law_pick" s__law_pick ["source", "many"] f3 _ := ⟨PySem.W.mg_of X G a3, F3, F3.binds (ps := ["source", "many"]) fun _ _ _ _ _ _ us hl => match us, hl with | [_, _], _ => rfl⟩
  have F4 := fun_mk (st := s__law_worded) l4 c4 k4
  have k__law_worded : Kn K mg "_law_worded" s__law_worded ["source", "words"] f4 _ := ⟨PySem.W.mg_of X G a4, F4, F4.binds (ps := ["source", "words"]) fun _ _ _ _ _ _ us hl => match us, hl with | [_, _], _ => rfl⟩
  have F5 := fun_mk (st := s__law_ranked) l5 c5 k5
  have k__law_ranked : Kn K mg "_law_ranked" s__law_ranked ["events"] f5 _ := ⟨PySem.W.mg_of X G a5, F5, F5.binds (ps := ["events"]) fun _ _ _ _ _ _ us hl => match us, hl with | [_], _ => rfl⟩
  have F6 := fun_mk (st := s__law_put) l6 c6 k6
  have k__law_put : Kn K mg "_law_put" s__law_put ["events", "name", "position"] f6 _ := ⟨PySem.W.mg_of X G a6, F6, F6.binds (ps := ["events", "name", "position"]) fun _ _ _ _ _ _ us hl => match us, hl with | [_, _, _], _ => rfl⟩
  have F7 := fun_mk (st := s__law_size) l7 c7 k7
  have k__law_size : Kn K mg "_law_size" s__law_size ["events"] f7 _ := ⟨PySem.W.mg_of X G a7, F7, F7.binds (ps := ["events"]) fun _ _ _ _ _ _ us hl => match us, hl with | [_], _ => rfl⟩
  have F8 := fun_mk (st := s__law_every) l8 c8 k8
  have k__law_every : Kn K mg "_law_every" s__law_every ["names", "length"] f8 _ := ⟨PySem.W.mg_of X G a8, F8, F8.binds (ps := ["names", "length"]) fun _ _ _ _ _ _ us hl => match us, hl with | [_, _], _ => rfl⟩
  have F9 := fun_mk (st := s__law_told) l9 c9 k9
  have k__law_told : Kn K mg "_law_told" s__law_told ["names", "length"] f9 _ := ⟨PySem.W.mg_of X G a9, F9, F9.binds (ps := ["names", "length"]) fun _ _ _ _ _ _ us hl => match us, hl with | [_, _], _ => rfl⟩
  have F10 := fun_mk (st := s_ranks) l10 c10 k10
  have k_ranks : Kn K mg "ranks" s_ranks ["numbers"] f10 _ := ⟨PySem.W.mg_of X G a10, F10, F10.binds (ps := ["numbers"]) fun _ _ _ _ _ _ us hl => match us, hl with | [_], _ => rfl⟩
  have F11 := fun_mk (st := s_ranked) l11 c11 k11
  have k_ranked : Kn K mg "ranked" s_ranked ["events"] f11 _ := ⟨PySem.W.mg_of X G a11, F11, F11.binds (ps := ["events"]) fun _ _ _ _ _ _ us hl => match us, hl with | [_], _ => rfl⟩
  have F12 := fun_mk (st := s_alike) l12 c12 k12
  have k_alike : Kn K mg "alike" s_alike ["first", "second"] f12 _ := ⟨PySem.W.mg_of X G a12, F12, F12.binds (ps := ["first", "second"]) fun _ _ _ _ _ _ us hl => match us, hl with | [_, _], _ => rfl⟩
  have F13 := fun_mk (st := s_all_inputs) l13 c13 k13
  have k_all_inputs : Kn K mg "all_inputs" s_all_inputs ["names", "length"] f13 _ := ⟨PySem.W.mg_of X G a13, F13, F13.binds (ps := ["names", "length"]) fun _ _ _ _ _ _ us hl => match us, hl with | [_, _], _ => rfl⟩
  have F14 := fun_mk (st := s_one_longer) l14 c14 k14
  have k_one_longer : Kn K mg "one_longer" s_one_longer ["names", "events"] f14 _ := ⟨PySem.W.mg_of X G a14, F14, F14.binds (ps := ["names", "events"]) fun _ _ _ _ _ _ us hl => match us, hl with | [_, _], _ => rfl⟩
  have F15 := fun_mk (st := s_law) l15 c15 k15
  have m_set : mg "set" = none := PySem.W.mg_none_of X G z1
  have m_sorted : mg "sorted" = none := PySem.W.mg_none_of X G z2
  have m_enumerate : mg "enumerate" = none := PySem.W.mg_none_of X G z3
  have m_list : mg "list" = none := PySem.W.mg_none_of X G z4
  have m_zip : mg "zip" = none := PySem.W.mg_none_of X G z5
  have m_len : mg "len" = none := PySem.W.mg_none_of X G z6
  have m_range : mg "range" = none := PySem.W.mg_none_of X G z7
  have m_isinstance : mg "isinstance" = none := PySem.W.mg_none_of X G z8
  have m_int : mg "int" = none := PySem.W.mg_none_of X G z9
  have m_tuple : mg "tuple" = none := PySem.W.mg_none_of X G z10
  have x_TooLarge : Exq K mg "TooLarge" CT := ⟨xT, PySem.W.mg_of X G nT, kT, bT, tT⟩
  have c_MOST_INPUTS := PySem.W.mg_of X G nI
  have T : ErrK K mg CT CM CO := ⟨PySem.W.mg_of X G nM, PySem.W.mg_of X G nT, PySem.W.mg_of X G nO, PySem.W.exm_ref bM hM tM' sTM, by unfold PySem.W.kitOne; rw [if_pos (by simp)], by
    have h1 : (PySem.W.clsIn K CO).isSome = true := hO
    unfold PySem.W.kitOne
    rw [ne, if_neg Bool.false_ne_true]
    show (if ((PySem.W.clsIn K CO).isSome && PySem.W.typeIn K (.ref CO) == some (.type "type")) = true then PySem.W.subIn K (.ref CT) (.ref CO) else none) = some false
    rw [h1, tO, if_pos (by rfl)]
    exact sTO, ⟨e1, e2, bT, e4, e5, e6, e7, e8⟩⟩
  exact ⟨PySem.W.fnOf "law" "law" (defArgs s_law) (defBody s_law) (defScope s_law) .none kV15 dc15 pm15 an15 cd15 ct15, fun s v => .of_eq rfl, fun base _ _ => ok_law F15 ⟨k__law_cell, k__law_source, k__law_pick, k__law_worded, k__law_ranked, k__law_every, k__law_told, k_alike, k_ranks⟩
    (ok__law_cell k__law_cell.F m_len) (ok__law_source k__law_source.F m_int) ((ok__law_pick k__law_pick.F m_int).imp pick_S) (ok__law_worded k__law_worded.F k__law_pick m_int m_len)
    (ok__law_ranked k__law_ranked.F m_len) (ok__law_every k__law_every.F k__law_put k__law_size k__law_ranked m_len m_range) (ok__law_told k__law_told.F k_all_inputs k_one_longer k_ranked k_ranks x_TooLarge c_MOST_INPUTS T m_set m_sorted m_enumerate m_list m_zip m_len m_range m_isinstance)
    (ok_alike k_alike.F k_ranked k_ranks m_set m_sorted m_enumerate m_list m_zip) (ok_ranks k_ranks.F m_set m_sorted m_enumerate) m_len m_range m_isinstance m_list m_tuple⟩
end K07
open PySem PySem.W PyProof.Rows
set_option maxHeartbeats 0 in
theorem PySem.Challenge.cw_missesnone_k07_all_inputs_holds : PySem.Challenge.rw_missesnone_k07_all_inputs.Holds := by
  w_on; o_law; k_head; (case hw => w_witness2)
  k_fill
  refine L2.walk_of (l := PySem.Challenge.rw_missesnone_k07_all_inputs) (n := 63) (k := 6) (x := "script") (CX := fun _ => L2.CX0) (sp := fun w => K07.spLaw _) rfl (by decide) rfl ⟨rfl, by decide, by decide⟩ (fun w h Y => PySem.W.kIn_of Y) ?F (fun _ _ a ns hl _ hS => ⟨a, ns, rfl, hS, hl, fun _ => rfl⟩) (fun _ _ _ _ _ h => h)
  case F =>
    intro w mg fa h KX G hmg
    refine' K07.all_mk KX G hmg ?a1 ?l1 ?c1 ?k1 ?a2 ?l2 ?c2 ?k2 ?a3 ?l3 ?c3 ?k3 ?a4 ?l4 ?c4 ?k4 ?a5 ?l5 ?c5 ?k5 ?a6 ?l6 ?c6 ?k6 ?a7 ?l7 ?c7 ?k7 ?a8 ?l8 ?c8 ?k8 ?a9 ?l9 ?c9 ?k9 ?a10 ?l10 ?c10 ?k10 ?a11 ?l11 ?c11 ?k11 ?a12 ?l12 ?c12 ?k12 ?a13 ?l13 ?c13 ?k13 ?a14 ?l14 ?c14 ?k14 ?a15 ?l15 ?c15 ?k15 ?z1 ?z2 ?z3 ?z4 ?z5 ?z6 ?z7 ?z8 ?z9 ?z10 ?nM ?nT ?nO ?nI ?xT ?kT ?bT ?tT ?bM ?hM ?tM2 ?sTM ?hO ?tO ?sTO ?ne ?e1 ?e2 ?e4 ?e5 ?e6 ?e7 ?e8
    (case a1 => k_is)
    (case l1 => k_is)
    (case c1 => k_is)
    (case k1 => k_is)
    (case a2 => k_is)
    (case l2 => k_is)
    (case c2 => k_is)
    (case k2 => k_is)
    (case a3 => k_is)
    (case l3 => k_is)
    (case c3 => k_is)
    (case k3 => k_is)
    (case a4 => k_is)
    (case l4 => k_is)
    (case c4 => k_is)
    (case k4 => k_is)
    (case a5 => k_is)
    (case l5 => k_is)
    (case c5 => k_is)
    (case k5 => k_is)
    (case a6 => k_is)
    (case l6 => k_is)
    (case c6 => k_is)
    (case k6 => k_is)
    (case a7 => k_is)
    (case l7 => k_is)
    (case c7 => k_is)
    (case k7 => k_is)
    (case a8 => k_is)
    (case l8 => k_is)
    (case c8 => k_is)
    (case k8 => k_is)
    (case a9 => k_is)
    (case l9 => k_is)
    (case c9 => k_is)
    (case k9 => k_is)
    (case a10 => k_is)
    (case l10 => k_is)
    (case c10 => k_is)
    (case k10 => k_is)
    (case a11 => k_is)
    (case l11 => k_is)
    (case c11 => k_is)
    (case k11 => k_is)
    (case a12 => k_is)
    (case l12 => k_is)
    (case c12 => k_is)
    (case k12 => k_is)
    (case a13 => k_is)
    (case l13 => k_is)
    (case c13 => k_is)
    (case k13 => k_is)
    (case a14 => k_is)
    (case l14 => k_is)
    (case c14 => k_is)
    (case k14 => k_is)
    (case a15 => k_is)
    (case l15 => k_is)
    (case c15 => k_is)
    (case k15 => k_is)
    (case z1 => k_is)
    (case z2 => k_is)
    (case z3 => k_is)
    (case z4 => k_is)
    (case z5 => k_is)
    (case z6 => k_is)
    (case z7 => k_is)
    (case z8 => k_is)
    (case z9 => k_is)
    (case z10 => k_is)
    (case nM => k_is)
    (case nT => k_is)
    (case nO => k_is)
    (case nI => k_is)
    (case xT => k_exc)
    (case kT => k_is)
    (case bT => k_is)
    (case tT => k_is)
    (case bM => k_is)
    (case hM => k_is)
    (case tM2 => k_is)
    (case sTM => k_is)
    (case hO => k_is)
    (case tO => k_is)
    (case sTO => k_is)
    (case ne => first | rfl | decide)
    (case e1 => k_is)
    (case e2 => k_is)
    (case e4 => k_is)
    (case e5 => k_is)
    (case e6 => k_is)
    (case e7 => k_is)
    (case e8 => k_is)

