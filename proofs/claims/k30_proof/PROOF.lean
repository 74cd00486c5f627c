import PyProof.Rows.All
import Wide.All
import OpenK.AllK
import Wide.FinOn
import HandS.ForMost
import HandS.ForExc
import HandS.Star
import HandS.Strs
import HandS.DictComp
import HandS.Wide
import HandS.IsInst
import HandS.ExcIs
import HandS.SetFor
import KE.KDictZip
import HandS.ListItems
import HandS.SortInts
import PyProof.DictRoadsH
import KE.KeyNested
import KE.KDictKeyed
import HandS.TupLen
import HandS.TupAny
import KE.KDictList
import KE.KDictWalk
import KE.KDictCopyH
import KE.KDictSum
import HandS.Conv
import HandS.Style
import HandS.NoneIn
import HandS.TupLe
import KE.DataMinMax
import HandS.SortKw
import HandS.DictTup
import HandS.OwnEq
import HandS.Comp
import HandS.Deep
import KE.KDictDisplayH
import HandS.RevTup
import HandS.Rev
import HandS.TupMul
import KE.DataCmp
import PyProof.CallStr
import KE.GoesRaise
import PyProof.AutoSeq1
import KE.KExcIs
import HandS.ExcField
import HandS.ExcInit
import PySem.Challenge.RW_missesnone_k30_endings
set_option Elab.async false
set_option maxRecDepth 100000
set_option maxHeartbeats 4000000
/-! Zd1: a reading by data. A value of the layer stands for a tree of data (Dt); a frame's slots stand for data, or for lists that the body still grows. -/
namespace Zd
open PySem L2

/-! ### data -/
inductive Dt where
  | non | bl (b : Bool) | int (i : Int) | str (s : Str) | lst (xs : List Dt) | tup (xs : List Dt)
  /-- a dict whose keys are tuples of ints and texts; an instance of the class at C -/
  | dct (ks : List (List Key)) (xs : List Dt) | ins (C : Addr) (ks : List Str) (xs : List Dt)
  /-- this very object, which is the module's own -/
  | con (a : Addr)
  /-- a tuple of which it is known that it has no attributes -/
  | ftup (xs : List Dt)

mutual
/-- at the heap G the value v stands for the data d -/
inductive Dq (G : Hp) : V → Dt → Prop
  | non : Dq G .non .non
  | bl (b : Bool) : Dq G (.bl b) (.bl b)
  | int (i : Int) : Dq G (.int i) (.int i)
  | str (s : Str) : Dq G (.str s) (.str s)
  | lst {a : Addr} {vs : List V} {ds : List Dt} : G a = some (.lst vs) → Dqs G vs ds → Dq G (.ref a) (.lst ds)
  | tup {a : Addr} {vs : List V} {ds : List Dt} : G a = some (.tup vs) → Dqs G vs ds → Dq G (.ref a) (.tup ds)
  | dct {a : Addr} {kvs : List (List Key × V)} {ks : List (List Key)} {ds : List Dt} : G a = some (.dT kvs) → kvs.map (·.1) = ks → Dqs G (kvs.map (·.2)) ds → Dq G (.ref a) (.dct ks ds)
  | ins {a C dx : Addr} {fs : List (Str × V)} {ks : List Str} {ds : List Dt} : G a = some (.ins C dx fs) → fs.map (·.1) = ks → Dqs G (fs.map (·.2)) ds → Dq G (.ref a) (.ins C ks ds)
  | con (a : Addr) : Dq G (.ref a) (.con a)
  | ftup {a : Addr} {ob : Obj} {vs : List V} {ds : List Dt} : G a = some (.frz ob (.tup vs)) → ob.cls = .type "tuple" → ob.dict = none → Dqs G vs ds → Dq G (.ref a) (.ftup ds)
inductive Dqs (G : Hp) : List V → List Dt → Prop
  | nil : Dqs G [] []
  | cons {v : V} {d : Dt} {vs : List V} {ds : List Dt} : Dq G v d → Dqs G vs ds → Dqs G (v :: vs) (d :: ds)
end

mutual
theorem Dq.up {G G' : Hp} (s : Same G G') : ∀ {v : V} {d : Dt}, Dq G v d → Dq G' v d
  | _, _, .non => .non
  | _, _, .bl b => .bl b
  | _, _, .int i => .int i
  | _, _, .str x => .str x
  | _, _, .lst h hs => .lst (s _ _ h) (Dqs.up s hs)
  | _, _, .tup h hs => .tup (s _ _ h) (Dqs.up s hs)
  | _, _, .dct h hk hs => .dct (s _ _ h) hk (Dqs.up s hs)
  | _, _, .ins h hk hs => .ins (s _ _ h) hk (Dqs.up s hs)
  | _, _, .con a => .con a
  | _, _, .ftup h h1 h2 hs => .ftup (s _ _ h) h1 h2 (Dqs.up s hs)
theorem Dqs.up {G G' : Hp} (s : Same G G') : ∀ {vs : List V} {ds : List Dt}, Dqs G vs ds → Dqs G' vs ds
  | _, _, .nil => .nil
  | _, _, .cons h hs => .cons (Dq.up s h) (Dqs.up s hs)
end

def Dt.scal : Dt → Bool
  | .lst _ => false
  | .tup _ => false
  | .dct _ _ => false
  | .ins _ _ _ => false
  | .ftup _ => false
  | _ => true
theorem Dq.anywhere {G G' : Hp} {v : V} {d : Dt} (h : Dq G v d) (hs : d.scal = true) : Dq G' v d := by
  cases h with
  | non => exact .non
  | bl b => exact .bl b
  | int i => exact .int i
  | str x => exact .str x
  | lst _ _ => cases hs
  | tup _ _ => cases hs
  | dct _ _ _ => cases hs
  | ins _ _ _ => cases hs
  | con a => exact .con a
  | ftup _ _ _ _ => cases hs
theorem Dqs.length {G : Hp} : ∀ {vs : List V} {ds : List Dt}, Dqs G vs ds → vs.length = ds.length
  | _, _, .nil => rfl
  | _, _, .cons _ h => by rw [List.length_cons, List.length_cons, Dqs.length h]
theorem Dqs.get {G : Hp} : ∀ {vs : List V} {ds : List Dt}, Dqs G vs ds → ∀ {i : Nat} {d : Dt}, ds[i]? = some d → ∃ v, vs[i]? = some v ∧ Dq G v d
  | _, _, .nil, i, d, h => by simp at h
  | _, _, .cons h hs, 0, d, e => by
    have e' := Option.some.inj e
    subst e'
    exact ⟨_, rfl, h⟩
  | _, _, .cons h hs, i + 1, d, e => Dqs.get hs (i := i) e
theorem Dqs.get' {G : Hp} : ∀ {vs : List V} {ds : List Dt}, Dqs G vs ds → ∀ {i : Nat} {v : V}, vs[i]? = some v → ∃ d, ds[i]? = some d ∧ Dq G v d
  | _, _, .nil, i, d, h => by simp at h
  | _, _, .cons h hs, 0, d, e => by
    have e' := Option.some.inj e
    subst e'
    exact ⟨_, rfl, h⟩
  | _, _, .cons h hs, i + 1, d, e => Dqs.get' hs (i := i) e
theorem Dqs.append {G : Hp} : ∀ {vs ws : List V} {ds es : List Dt}, Dqs G vs ds → Dqs G ws es → Dqs G (vs ++ ws) (ds ++ es)
  | _, _, _, _, .nil, h => h
  | _, _, _, _, .cons h hs, k => .cons h (Dqs.append hs k)
theorem Dqs.drop {G : Hp} : ∀ (n : Nat) {vs : List V} {ds : List Dt}, Dqs G vs ds → Dqs G (vs.drop n) (ds.drop n)
  | 0, _, _, h => by simpa using h
  | n + 1, _, _, .nil => by simpa using Dqs.nil
  | n + 1, _, _, .cons h hs => by simpa using Dqs.drop n hs
theorem Dqs.take {G : Hp} : ∀ (n : Nat) {vs : List V} {ds : List Dt}, Dqs G vs ds → Dqs G (vs.take n) (ds.take n)
  | 0, _, _, h => by simpa using Dqs.nil
  | n + 1, _, _, .nil => by simpa using Dqs.nil
  | n + 1, _, _, .cons h hs => by simpa using Dqs.cons h (Dqs.take n hs)
theorem Dqs.ints {G : Hp} : ∀ {vs : List V} {ns : List Int}, Dqs G vs (ns.map Dt.int) → vs = ns.map V.int
  | [], [], .nil => rfl
  | _ :: _, _ :: _, .cons h hs => by
    cases h
    rw [Dqs.ints hs]
    rfl
theorem Dqs.of_ints {G : Hp} : ∀ (ns : List Int), Dqs G (ns.map V.int) (ns.map Dt.int)
  | [] => .nil
  | n :: r => .cons (.int n) (Dqs.of_ints r)
theorem Dqs.strs {G : Hp} : ∀ {vs : List V} {ns : List Str}, Dqs G vs (ns.map Dt.str) → vs = ns.map V.str
  | [], [], .nil => rfl
  | _ :: _, _ :: _, .cons h hs => by
    cases h
    rw [Dqs.strs hs]
    rfl
theorem Dqs.of_strs {G : Hp} : ∀ (ns : List Str), Dqs G (ns.map V.str) (ns.map Dt.str)
  | [] => .nil
  | n :: r => .cons (.str n) (Dqs.of_strs r)

/-! ### heaps that grow -/
/-- what a caller lets change, and what it knows of it; the data's heap and the heap at the entry -/
structure Bx where
  S : Addr → Prop
  J : Hp → Prop
  st : ∀ H H', J H → (∀ a, S a → H' a = H a) → J H'
  hs : ∀ H a, J H → S a → H a ≠ none
  ht : ∀ H a xs, J H → S a → H a ≠ some (.tup xs)

/-- nothing may change -/
def Bx.pure : Bx := ⟨fun _ => False, fun _ => True, fun _ _ _ _ => trivial, fun _ _ _ h => h.elim, fun _ _ _ _ h => h.elim⟩

/-- from (G, H) to (G', H') -/
structure Gx (b : Bx) (G H G' H' : Hp) : Prop where
  gg : Same G G'
  hh : ∀ a o, ¬ b.S a → H a = some o → H' a = some o
  gh : Same G' H'
  nw : ∀ a, G' a ≠ none → G a ≠ none ∨ H a = none ∨ ∃ xs, H a = some (.tup xs)
  jj : b.J H'

theorem Gx.keep {b : Bx} {G H G' H' : Hp} (j : b.J H) (g : Gx b G H G' H') {a : Addr} (h : H a ≠ none) : H' a ≠ none := by
  by_cases s : b.S a
  · exact b.hs _ _ g.jj s
  · cases e : H a with
    | none => exact absurd e h
    | some o => rw [g.hh a o s e]; simp
theorem Gx.trans {b : Bx} {G H G1 H1 G2 H2 : Hp} (j : b.J H) (g1 : Gx b G H G1 H1) (g2 : Gx b G1 H1 G2 H2) : Gx b G H G2 H2 where
  gg := g1.gg.trans g2.gg
  hh := fun a o s e => g2.hh a o s (g1.hh a o s e)
  gh := g2.gh
  nw := fun a h => by
    rcases g2.nw a h with k | k | ⟨xs, k⟩
    · exact g1.nw a k
    · refine .inr (.inl ?_)
      cases e : H a with
      | none => rfl
      | some o => exact absurd k (g1.keep j (by rw [e]; simp))
    · cases e : H a with
      | none => exact .inr (.inl rfl)
      | some o =>
        by_cases s : b.S a
        · exact absurd k (b.ht _ _ xs g1.jj s)
        · have z := g1.hh a o s e
          rw [k] at z
          exact .inr (.inr ⟨xs, z.symm⟩)
  jj := g2.jj
theorem Gx.refl {b : Bx} {G H : Hp} (s : Same G H) (j : b.J H) : Gx b G H G H := ⟨Same.refl G, fun _ _ _ e => e, s, fun _ h => .inl h, j⟩
/-- where nothing may change, whoever lets more change is served too -/
theorem Gx.of_pure {b : Bx} {G H G' H' : Hp} (j : b.J H) (g : Gx Bx.pure G H G' H') : Gx b G H G' H' :=
  ⟨g.gg, fun a o _ e => g.hh a o (fun z => z) e, g.gh, g.nw, b.st _ _ j fun a s => by
    cases e : H a with
    | none => exact absurd e (b.hs _ _ j s)
    | some o => exact g.hh a o (fun z => z) e⟩
theorem Gx.fresh {b : Bx} {G H G' H' : Hp} (j : b.J H) (g : Gx b G H G' H') {p : Addr} (h : H' p = none) : H p = none := by
  cases e : H p with
  | none => rfl
  | some o => exact absurd h (g.keep j (by rw [e]; simp))
/-- a new object that is not data (yet) -/
theorem Gx.put {b : Bx} {G H : Hp} {p : Addr} {o : HO} (s : Same G H) (j : b.J H) (h : H p = none) : Gx b G H G (upd H p o) :=
  ⟨Same.refl G, fun a u _ e => by rw [upd_ne (ne_of_none e h)]; exact e, fun a u e => by rw [upd_ne (ne_of_none (s a u e) h)]; exact s a u e, fun _ k => .inl k,
    b.st _ _ j fun a sa => upd_ne fun e => b.hs _ _ j sa (by rw [e]; exact h)⟩
/-- an object of the body's own becomes data -/
theorem Gx.freeze {b : Bx} {G H G' H' : Hp} {p : Addr} {o : HO} (g : Gx b G H G' H') (h : H p = none) (n : G' p = none) (e : H' p = some o) : Gx b G H (upd G' p o) H' :=
  ⟨fun a u k => by rw [upd_ne (ne_of_none (g.gg a u k) n)]; exact g.gg a u k, g.hh, fun a u k => by
    by_cases z : a = p
    · subst z
      rw [upd_same] at k
      rw [e, k]
    · rw [upd_ne z] at k
      exact g.gh a u k, fun a k => by
    by_cases z : a = p
    · subst z
      exact .inr (.inl h)
    · rw [upd_ne z] at k
      exact g.nw a k, g.jj⟩
/-- the object of the body's own is changed -/
theorem Gx.poke {b : Bx} {G H G' H' : Hp} {p : Addr} {o : HO} (j : b.J H) (g : Gx b G H G' H') (h : H p = none) (n : G' p = none) : Gx b G H G' (upd H' p o) :=
  ⟨g.gg, fun a u s e => by rw [upd_ne (ne_of_none e h)]; exact g.hh a u s e, fun a u e => by rw [upd_ne (ne_of_none e n)]; exact g.gh a u e, g.nw,
    b.st _ _ g.jj fun a sa => upd_ne fun e => b.hs _ _ j sa (by rw [e]; exact h)⟩

/-! ### the frame by data -/
inductive Sl where
  /-- nothing is known -/
  | un
  | dat (d : Dt)
  /-- a list of the body's own, which it may change -/
  | own (ds : List Dt)
  /-- another object of the body's own, of which the data's heap, its address and what stands there make Φ true for good -/
  | obj (Φ : Hp → Addr → HO → Prop)
  /-- this very value -/
  | raw (v : V)
abbrev Fe := List Sl

/-- the objects of the slot i -/
def Own (H : Hp) (σ : L2.St) (i : Nat) (p : Addr) : Prop := σ[i]? = some (some (V.ref p))

def Slo (E : Hp) (G H : Hp) (σ : L2.St) (i : Nat) : Sl → Prop
  | .un => True
  | .dat d => ∃ v, σ[i]? = some (some v) ∧ Dq G v d
  | .own ds => ∃ p vs, σ[i]? = some (some (V.ref p)) ∧ H p = some (.lst vs) ∧ G p = none ∧ E p = none ∧ Dqs G vs ds
  | .obj Φ => ∃ p o, σ[i]? = some (some (V.ref p)) ∧ H p = some o ∧ G p = none ∧ E p = none ∧ (∀ G', Same G G' → Φ G' p o) ∧ ∀ xs, o ≠ .tup xs
  | .raw v => σ[i]? = some (some v)
def Sl.owns : Sl → Bool
  | .own _ => true
  | .obj _ => true
  | _ => false

/-- the frame's slots σ at the heaps (G, H) stand as δ says; the body was entered at (G0, H0) -/
structure En (b : Bx) (G0 H0 G H : Hp) (σ : L2.St) (δ : Fe) : Prop where
  j0 : b.J H0
  gx : Gx b G0 H0 G H
  len : σ.length = δ.length
  sl : ∀ (i : Nat) (x : Sl), δ[i]? = some x → Slo H0 G H σ i x
  apart : ∀ (i k : Nat) (x y : Sl) (p : Addr), δ[i]? = some x → δ[k]? = some y → x.owns = true → y.owns = true → σ[i]? = some (some (V.ref p)) → σ[k]? = some (some (V.ref p)) → i = k

section
variable {b : Bx} {G0 H0 G H G' H' : Hp} {σ : L2.St} {δ : Fe}
theorem Slo.up {i : Nat} {x : Sl} (j0 : b.J H0) (g0 : Gx b G0 H0 G H) (g : Gx b G H G' H') (h : Slo H0 G H σ i x) : Slo H0 G' H' σ i x := by
  have ns : ∀ p, H0 p = none → H p ≠ none → ¬ b.S p := fun p e _ s => b.hs _ _ j0 s e
  cases x with
  | un => trivial
  | dat d =>
    obtain ⟨v, e, q⟩ := h
    exact ⟨v, e, q.up g.gg⟩
  | own ds =>
    obtain ⟨p, vs, e, h1, h2, h3, h4⟩ := h
    refine ⟨p, vs, e, g.hh p _ (ns p h3 (by rw [h1]; simp)) h1, ?_, h3, h4.up g.gg⟩
    cases k : G' p with
    | none => rfl
    | some o =>
      rcases g.nw p (by rw [k]; simp) with z | z | ⟨xs, z⟩
      · exact absurd h2 z
      · rw [h1] at z; cases z
      · rw [h1] at z; cases z
  | obj Φ =>
    obtain ⟨p, o, e, h1, h2, h3, h4, h5⟩ := h
    refine ⟨p, o, e, g.hh p _ (ns p h3 (by rw [h1]; simp)) h1, ?_, h3, fun G2 s2 => h4 G2 (g.gg.trans s2), h5⟩
    cases k : G' p with
    | none => rfl
    | some o' =>
      rcases g.nw p (by rw [k]; simp) with z | z | ⟨xs, z⟩
      · exact absurd h2 z
      · rw [h1] at z; cases z
      · rw [h1] at z; exact absurd (Option.some.inj z) (h5 xs)
  | raw v => exact h
theorem En.up (e : En b G0 H0 G H σ δ) (g : Gx b G H G' H') : En b G0 H0 G' H' σ δ :=
  ⟨e.j0, e.gx.trans e.j0 g, e.len, fun i x h => (e.sl i x h).up e.j0 e.gx g, e.apart⟩
theorem En.same (e : En b G0 H0 G H σ δ) : Same G H := e.gx.gh
theorem En.jj (e : En b G0 H0 G H σ δ) : b.J H := e.gx.jj
/-- a slot gets a value -/
theorem En.set (e : En b G0 H0 G H σ δ) (i : Nat) (v : V) (x : Sl) (hx : x.owns = false) (h : i < δ.length → Slo H0 G H (σ.set i (some v)) i x) : En b G0 H0 G H (σ.set i (some v)) (δ.set i x) := by
  refine ⟨e.j0, e.gx, by rw [List.length_set, List.length_set, e.len], fun k y hk => ?_, fun k l y z p hk hl oy oz sk sl => ?_⟩
  · by_cases hik : i = k
    · subst hik
      have hlt : i < δ.length := by
        have := (List.getElem?_eq_some_iff.mp hk).1
        rwa [List.length_set] at this
      rw [List.getElem?_set_self hlt] at hk
      have := Option.some.inj hk
      subst this
      exact h hlt
    · rw [List.getElem?_set_ne hik] at hk
      have q := e.sl k y hk
      cases y with
      | un => trivial
      | dat d => obtain ⟨v, e1, q1⟩ := q; exact ⟨v, by rw [List.getElem?_set_ne hik]; exact e1, q1⟩
      | own ds => obtain ⟨p, vs, e1, q1⟩ := q; exact ⟨p, vs, by rw [List.getElem?_set_ne hik]; exact e1, q1⟩
      | obj Φ => obtain ⟨p, o, e1, q1⟩ := q; exact ⟨p, o, by rw [List.getElem?_set_ne hik]; exact e1, q1⟩
      | raw v =>
        show (σ.set i _)[k]? = _
        rw [List.getElem?_set_ne hik]; exact q
  · have ne : ∀ {m : Nat} {u : Sl}, (δ.set i x)[m]? = some u → u.owns = true → i ≠ m ∧ δ[m]? = some u := fun {m u} hm ou => by
      by_cases him : i = m
      · subst him
        have hlt : i < δ.length := by
          have := (List.getElem?_eq_some_iff.mp hm).1
          rwa [List.length_set] at this
        rw [List.getElem?_set_self hlt] at hm
        have := Option.some.inj hm
        subst this
        rw [hx] at ou; cases ou
      · rw [List.getElem?_set_ne him] at hm
        exact ⟨him, hm⟩
    obtain ⟨n1, e1⟩ := ne hk oy
    obtain ⟨n2, e2⟩ := ne hl oz
    rw [List.getElem?_set_ne n1] at sk
    rw [List.getElem?_set_ne n2] at sl
    exact e.apart k l y z p e1 e2 oy oz sk sl
theorem En.setDat (e : En b G0 H0 G H σ δ) (i : Nat) {v : V} {d : Dt} (q : Dq G v d) : En b G0 H0 G H (σ.set i (some v)) (δ.set i (.dat d)) :=
  e.set i v _ rfl fun hlt => ⟨v, List.getElem?_set_self (by rw [e.len]; exact hlt), q⟩
theorem En.setRaw (e : En b G0 H0 G H σ δ) (i : Nat) {v : V} : En b G0 H0 G H (σ.set i (some v)) (δ.set i (.raw v)) :=
  e.set i v _ rfl fun hlt => List.getElem?_set_self (by rw [e.len]; exact hlt)
/-- a slot gets a new object of the body's own -/
theorem En.setOwn (e : En b G0 H0 G H σ δ) (i : Nat) {p : Addr} (x : Sl) (hf : ∀ (k : Nat) (y : Sl), δ[k]? = some y → y.owns = true → σ[k]? ≠ some (some (V.ref p))) (h : i < δ.length → Slo H0 G H (σ.set i (some (V.ref p))) i x) : En b G0 H0 G H (σ.set i (some (V.ref p))) (δ.set i x) := by
  have e0 : En b G0 H0 G H (σ.set i (some (V.ref p))) (δ.set i .un) := e.set i _ .un rfl fun _ => trivial
  refine ⟨e.j0, e.gx, by rw [List.length_set, List.length_set, e.len], fun k y hk => ?_, fun k l y z q hk hl oy oz sk sl => ?_⟩
  · by_cases hik : i = k
    · subst hik
      have hlt : i < δ.length := by
        have := (List.getElem?_eq_some_iff.mp hk).1
        rwa [List.length_set] at this
      rw [List.getElem?_set_self hlt] at hk
      have := Option.some.inj hk
      subst this
      exact h hlt
    · exact e0.sl k y (by rw [List.getElem?_set_ne hik] at hk ⊢; exact hk)
  · have lti : ∀ {m : Nat} {u : Sl}, (δ.set i x)[m]? = some u → m < δ.length := fun {m u} hm => by
      have := (List.getElem?_eq_some_iff.mp hm).1
      rwa [List.length_set] at this
    by_cases h1 : i = k
    · by_cases h2 : i = l
      · exact h1.symm.trans h2
      · subst h1
        rw [List.getElem?_set_self (by rw [e.len]; exact lti hk)] at sk
        have := V.ref.inj (Option.some.inj (Option.some.inj sk))
        subst this
        rw [List.getElem?_set_ne h2] at hl sl
        exact absurd sl (hf l z hl oz)
    · by_cases h2 : i = l
      · subst h2
        rw [List.getElem?_set_self (by rw [e.len]; exact lti hl)] at sl
        have := V.ref.inj (Option.some.inj (Option.some.inj sl))
        subst this
        rw [List.getElem?_set_ne h1] at hk sk
        exact absurd sk (hf k y hk oy)
      · rw [List.getElem?_set_ne h1] at hk sk
        rw [List.getElem?_set_ne h2] at hl sl
        exact e.apart k l y z q hk hl oy oz sk sl
/-- an address that the heap did not know is no slot's -/
theorem En.noSlot (e : En b G0 H0 G H σ δ) {p : Addr} (h : H p = none) : ∀ (k : Nat) (y : Sl), δ[k]? = some y → y.owns = true → σ[k]? ≠ some (some (V.ref p)) := fun k y hk oy sk => by
  have q := e.sl k y hk
  cases y with
  | own ds =>
    obtain ⟨a, vs, e1, q1, _⟩ := q
    rw [sk] at e1
    have := V.ref.inj (Option.some.inj (Option.some.inj e1))
    subst this
    rw [h] at q1; cases q1
  | obj Φ =>
    obtain ⟨a, o, e1, q1, _⟩ := q
    rw [sk] at e1
    have := V.ref.inj (Option.some.inj (Option.some.inj e1))
    subst this
    rw [h] at q1; cases q1
  | un => cases oy
  | dat d => cases oy
  | raw v => cases oy
/-- less is known -/
theorem En.forget (e : En b G0 H0 G H σ δ) (i : Nat) : En b G0 H0 G H σ (δ.set i .un) := by
  have ne : ∀ {m : Nat} {u : Sl}, (δ.set i .un)[m]? = some u → u = .un ∨ δ[m]? = some u := fun {m u} hm => by
    by_cases him : i = m
    · subst him
      have hlt : i < δ.length := by
        have := (List.getElem?_eq_some_iff.mp hm).1
        rwa [List.length_set] at this
      rw [List.getElem?_set_self hlt] at hm
      exact .inl (Option.some.inj hm).symm
    · rw [List.getElem?_set_ne him] at hm
      exact .inr hm
  refine ⟨e.j0, e.gx, by rw [List.length_set, e.len], fun k y hk => ?_, fun k l y z q hk hl oy oz sk sl => ?_⟩
  · rcases ne hk with z | z
    · subst z; trivial
    · exact e.sl k y z
  · rcases ne hk with z1 | z1
    · subst z1; cases oy
    · rcases ne hl with z2 | z2
      · subst z2; cases oz
      · exact e.apart k l y z q z1 z2 oy oz sk sl
end
end Zd

set_option Elab.async false
set_option maxRecDepth 100000
set_option maxHeartbeats 4000000
/-! Zd2: what expressions, tests, arguments, walks and statements come to, by data. -/
namespace Zd
open PySem L2 StX

/-- the base of a body: what its caller lets change, the heaps at its entry -/
structure Bs where
  b : Bx
  G0 : Hp
  H0 : Hp
abbrev Ec (c : Bs) (G H : Hp) (σ : L2.St) (δ : Fe) : Prop := En c.b c.G0 c.H0 G H σ δ

def Dn (c : Bs) (te : TE) (δ : Fe) (P : Dt → Prop) : Prop := ∀ (σ : L2.St) (G H : Hp), Ec c G H σ δ → ∀ Q : VK, (∀ v d G' H', Gx c.b G H G' H' → Dq G' v d → P d → Q v H') → te σ H Q
abbrev De (c : Bs) (te : TE) (δ : Fe) (d : Dt) : Prop := Dn c te δ (· = d)
def Ds' (c : Bs) (ta : TA) (δ : Fe) (P : List Dt → Prop) : Prop := ∀ (σ : L2.St) (G H : Hp), Ec c G H σ δ → ∀ Q : List V → Hp → Prop, (∀ vs ds G' H', Gx c.b G H G' H' → Dqs G' vs ds → P ds → Q vs H') → ta σ H Q
def Dt' (c : Bs) (tt : TT) (δ : Fe) (P : Bool → Prop) : Prop := ∀ (σ : L2.St) (G H : Hp), Ec c G H σ δ → ∀ Q : Bool → Hp → Prop, (∀ k G' H', Gx c.b G H G' H' → P k → Q k H') → tt σ H Q
/-- a new list, the body's own as yet -/
def Dl (c : Bs) (te : TE) (δ : Fe) (P : List Dt → Prop) : Prop := ∀ (σ : L2.St) (G H : Hp), Ec c G H σ δ → ∀ Q : VK, (∀ p vs ds G' H', Gx c.b G H G' H' → H p = none → G' p = none → H' p = some (.lst vs) → Dqs G' vs ds → P ds → Q (.ref p) H') → te σ H Q
def Dp' (c : Bs) (to : TO) (δ : Fe) (P : Option Int → Prop) : Prop := ∀ (σ : L2.St) (G H : Hp), Ec c G H σ δ → ∀ Q : Option Int → Hp → Prop, (∀ k G' H', Gx c.b G H G' H' → P k → Q k H') → to σ H Q

/-- a two-place operation by data; a call of a built-in -/
def Rv (b : Bx) (r : R2) (x y : Dt) (T : Dt → Prop) : Prop := ∀ (v w : V) (G H : Hp), Same G H → b.J H → Dq G v x → Dq G w y → ∀ Q : VK, (∀ u d G' H', Gx b G H G' H' → Dq G' u d → T d → Q u H') → r v w H Q
def Rc (b : Bx) (r : List V → Hp → VK → Prop) (xs : List Dt) (T : Dt → Prop) : Prop := ∀ (vs : List V) (G H : Hp), Same G H → b.J H → Dqs G vs xs → ∀ Q : VK, (∀ u d G' H', Gx b G H G' H' → Dq G' u d → T d → Q u H') → r vs H Q

section
variable {c : Bs} {δ : Fe} {te ta tb : TE} {tt tu : TT} {tr : TA} {P R T : Dt → Prop}

theorem Dn.imp (h : Dn c te δ P) (k : ∀ d, P d → T d) : Dn c te δ T := fun σ G H e Q q => h σ G H e Q fun v d G' H' g dq p => q v d G' H' g dq (k d p)
theorem Dt'.imp {P T : Bool → Prop} (h : Dt' c tt δ P) (k : ∀ d, P d → T d) : Dt' c tt δ T := fun σ G H e Q q => h σ G H e Q fun v G' H' g p => q v G' H' g (k v p)
theorem Ds'.imp {P T : List Dt → Prop} (h : Ds' c tr δ P) (k : ∀ d, P d → T d) : Ds' c tr δ T := fun σ G H e Q q => h σ G H e Q fun v d G' H' g dq p => q v d G' H' g dq (k d p)
theorem Dl.imp {P T : List Dt → Prop} (h : Dl c te δ P) (k : ∀ d, P d → T d) : Dl c te δ T := fun σ G H e Q q => h σ G H e Q fun p vs ds G' H' g a1 a2 a3 a4 a5 => q p vs ds G' H' g a1 a2 a3 a4 (k ds a5)
theorem De.eq {d e : Dt} (h : De c te δ d) (k : d = e) : De c te δ e := by rw [← k]; exact h

theorem de_var {i : Nat} {d : Dt} (h : δ[i]? = some (.dat d)) : De c (tVar i) δ d := fun σ G H e Q q => by
  obtain ⟨v, e1, dq⟩ := e.sl i _ h
  exact ⟨v, e1, q v d G H (Gx.refl e.same e.jj) dq rfl⟩
theorem de_raw {i : Nat} {v : V} {d : Dt} (h : δ[i]? = some (.raw v)) (k : ∀ G, Dq G v d) : De c (tVar i) δ d := fun σ G H e Q q =>
  ⟨v, e.sl i _ h, q v d G H (Gx.refl e.same e.jj) (k G) rfl⟩
theorem de_c {v : V} {d : Dt} (k : ∀ G, Dq G v d) : De c (tC v) δ d := fun σ G H e Q q => q v d G H (Gx.refl e.same e.jj) (k G) rfl
theorem de_int {i : Int} : De c (tC (.int i)) δ (.int i) := de_c fun _ => .int i
theorem de_str {s : Str} : De c (tC (.str s)) δ (.str s) := de_c fun _ => .str s
theorem de_bl {k : Bool} : De c (tC (.bl k)) δ (.bl k) := de_c fun _ => .bl k
theorem de_non : De c (tC .non) δ .non := de_c fun _ => .non

theorem dn_op {r : R2} (ha : Dn c ta δ P) (hb : Dn c tb δ R) (h : ∀ x y, P x → R y → Rv c.b r x y T) : Dn c (tOp r ta tb) δ T := fun σ G H e Q q =>
  ha σ G H e _ fun v x G1 H1 g1 d1 p1 => hb σ G1 H1 (e.up g1) _ fun w y G2 H2 g2 d2 p2 =>
    h x y p1 p2 v w G2 H2 g2.gh g2.jj (d1.up g2.gg) d2 Q fun u d G3 H3 g3 d3 p3 => q u d G3 H3 ((g1.trans e.jj g2).trans e.jj g3) d3 p3
theorem de_op {r : R2} {x y z : Dt} (ha : De c ta δ x) (hb : De c tb δ y) (h : Rv c.b r x y (· = z)) : De c (tOp r ta tb) δ z :=
  dn_op ha hb fun _ _ e1 e2 => by rw [e1, e2]; exact h
theorem dn_cb {r : List V → Hp → VK → Prop} {P : List Dt → Prop} (ha : Ds' c tr δ P) (h : ∀ xs, P xs → Rc c.b r xs T) : Dn c (tCB r tr) δ T := fun σ G H e Q q =>
  ha σ G H e _ fun vs ds G1 H1 g1 d1 p1 => h ds p1 vs G1 H1 g1.gh g1.jj d1 Q fun u d G3 H3 g3 d3 p3 => q u d G3 H3 (g1.trans e.jj g3) d3 p3

theorem da_nil : Ds' c tNil δ (· = []) := fun σ G H e Q q => q [] [] G H (Gx.refl e.same e.jj) .nil rfl
theorem da_cons {P : Dt → Prop} {S T : List Dt → Prop} (ha : Dn c ta δ P) (hr : Ds' c tr δ S) (h : ∀ d ds, P d → S ds → T (d :: ds)) : Ds' c (tCons ta tr) δ T := fun σ G H e Q q =>
  ha σ G H e _ fun v x G1 H1 g1 d1 p1 => hr σ G1 H1 (e.up g1) _ fun vs xs G2 H2 g2 d2 p2 => q (v :: vs) (x :: xs) G2 H2 (g1.trans e.jj g2) (.cons (d1.up g2.gg) d2) (h x xs p1 p2)
theorem da_consE {d : Dt} {ds : List Dt} (ha : De c ta δ d) (hr : Ds' c tr δ (· = ds)) : Ds' c (tCons ta tr) δ (· = d :: ds) := da_cons ha hr fun _ _ e1 e2 => by rw [e1, e2]
/-- *xs, .. -/
theorem da_starE {K : PySem.W.Frag} {xs ds : List Dt} (ha : De c ta δ (.lst xs)) (hr : Ds' c tr δ (· = ds)) : Ds' c (tStar K ta tr) δ (· = xs ++ ds) := fun σ G H e Q q =>
  ha σ G H e _ fun v x G1 H1 g1 d1 p1 => by
    subst p1
    cases d1 with
    | lst h1 h2 =>
      refine ⟨_, _, rfl, .inr (SqL.of (g1.gh _ _ h1)), ?_⟩
      exact hr σ G1 H1 (e.up g1) _ fun vs ys G2 H2 g2 d2 p2 => q _ _ G2 H2 (g1.trans e.jj g2) ((h2.up g2.gg).append d2) (by rw [p2])

theorem sz_ok {n : Nat} (h : n ≤ 10000000) : n ≤ sizeLine := Nat.le_trans h (by rw [sizeLine_eq]; decide)
theorem sz_lt' {n : Nat} (h : n ≤ 10000000) : n < sizeLine := Nat.lt_of_le_of_lt h (by rw [sizeLine_eq]; decide)

/-- a new object is data at once -/
theorem Gx.newDat {b : Bx} {G H G1 H1 : Hp} (j : b.J H) (g : Gx b G H G1 H1) {p : Addr} (h : H1 p = none) (o : HO) : Gx b G H (upd G1 p o) (upd H1 p o) := by
  have n1 : G1 p = none := by
    cases e : G1 p with
    | none => rfl
    | some u => rw [g.gh p u e] at h; cases h
  exact g.trans j (Gx.freeze (Gx.put g.gh g.jj h) h n1 upd_same)

theorem dn_tup {S : List Dt → Prop} (ha : Ds' c tr δ S) (hl : ∀ ds, S ds → ds.length ≤ 10000000) (h : ∀ ds, S ds → T (.tup ds)) : Dn c (tTup tr) δ T := fun σ G H e Q q =>
  ha σ G H e _ fun vs ds G1 H1 g1 d1 p1 => ⟨sz_ok (by rw [d1.length]; exact hl ds p1), fun p hp =>
    q (.ref p) (.tup ds) _ _ (g1.newDat e.jj hp (.tup vs)) (.tup upd_same (d1.up fun a u k => by
      rw [upd_ne (ne_of_none (g1.gh a u k) hp)]; exact k)) (h ds p1)⟩
theorem de_tup {ds : List Dt} (ha : Ds' c tr δ (· = ds)) (hl : ds.length ≤ 10000000 := by first | decide | (simp; done)) : De c (tTup tr) δ (.tup ds) := dn_tup ha (fun _ e => by rw [e]; exact hl) fun _ e => by rw [e]
theorem dl_lst {S : List Dt → Prop} (ha : Ds' c tr δ S) (hl : ∀ ds, S ds → ds.length ≤ 10000000) : Dl c (tLst tr) δ S := fun σ G H e Q q =>
  ha σ G H e _ fun vs ds G1 H1 g1 d1 p1 => ⟨sz_ok (by rw [d1.length]; exact hl ds p1), fun p hp =>
    q p vs ds G1 _ (g1.trans e.jj (Gx.put g1.gh g1.jj hp)) (g1.fresh e.jj hp) (by
      cases k : G1 p with
      | none => rfl
      | some u => rw [g1.gh p u k] at hp; cases hp) upd_same d1 p1⟩
/-- a new list that is never changed -/
theorem Dl.dn {S : List Dt → Prop} (h : Dl c te δ S) (k : ∀ ds, S ds → T (.lst ds)) : Dn c te δ T := fun σ G H e Q q =>
  h σ G H e _ fun p vs ds G1 H1 g1 h1 h2 h3 h4 h5 => q (.ref p) (.lst ds) _ H1 (g1.freeze h1 h2 h3) (.lst upd_same (h4.up fun a u z => by rw [upd_ne (ne_of_none z h2)]; exact z)) (k ds h5)
theorem Dl.de {xs : List Dt} (h : Dl c te δ (· = xs)) : De c te δ (.lst xs) := h.dn fun _ e => by rw [e]
theorem de_lst {ds : List Dt} (ha : Ds' c tr δ (· = ds)) (hl : ds.length ≤ 10000000 := by first | decide | (simp; done)) : De c (tLst tr) δ (.lst ds) := (dl_lst ha fun _ e => by rw [e]; exact hl).de

/-! ### operations -/
theorem rv_val {b : Bx} {r : R2} {x y z : Dt} (h : ∀ (v w : V) (G H : Hp), Same G H → Dq G v x → Dq G w y → ∀ Q : VK, (∀ u, Dq G u z → Q u H) → r v w H Q) : Rv b r x y (· = z) := fun v w G H s j d1 d2 Q q =>
  h v w G H s d1 d2 Q fun u du => q u z G H (Gx.refl s j) du rfl
theorem rv_I0 {b : Bx} {f : Int → Int → V} {i j : Int} {z : Dt} (h : ∀ G, Dq G (f i j) z) : Rv b (rI0 f) (.int i) (.int j) (· = z) := rv_val fun v w G H s d1 d2 Q q => by
  cases d1; cases d2
  exact ⟨i, j, rfl, rfl, q _ (h G)⟩
theorem rv_I {b : Bx} {C : Int → Int → Prop} {f : Int → Int → V} {i j : Int} {z : Dt} (hc : C i j) (h : ∀ G, Dq G (f i j) z) : Rv b (rI C f) (.int i) (.int j) (· = z) := rv_val fun v w G H s d1 d2 Q q => by
  cases d1; cases d2
  exact ⟨i, j, rfl, rfl, hc, q _ (h G)⟩
theorem de_add {i j : Int} (ha : De c ta δ (.int i)) (hb : De c tb δ (.int j)) : De c (tOp (rI0 fun i j => .int (i + j)) ta tb) δ (.int (i + j)) := de_op ha hb (rv_I0 fun _ => .int _)
theorem de_sub {i j : Int} (ha : De c ta δ (.int i)) (hb : De c tb δ (.int j)) : De c (tOp (rI0 fun i j => .int (i - j)) ta tb) δ (.int (i - j)) := de_op ha hb (rv_I0 fun _ => .int _)
theorem de_mulL {i j : Int} (ha : De c ta δ (.int i)) (hb : De c tb δ (.int j)) (h : -(2 ^ 64) < i ∧ i < 2 ^ 64) : De c (tOp (rI CMul fun i j => .int (i * j)) ta tb) δ (.int (i * j)) := de_op ha hb (rv_I (.inl h) fun _ => .int _)
theorem de_mulR {i j : Int} (ha : De c ta δ (.int i)) (hb : De c tb δ (.int j)) (h : -(2 ^ 64) < j ∧ j < 2 ^ 64) : De c (tOp (rI CMul fun i j => .int (i * j)) ta tb) δ (.int (i * j)) := de_op ha hb (rv_I (.inr h) fun _ => .int _)
theorem de_mod {i j : Int} (ha : De c ta δ (.int i)) (hb : De c tb δ (.int j)) (h : 0 < j) : De c (tOp (rI (fun _ j => 0 < j) fun i j => .int (i % j)) ta tb) δ (.int (i % j)) := de_op ha hb (rv_I h fun _ => .int _)
theorem de_divW {i j : Int} (ha : De c ta δ (.int i)) (hb : De c tb δ (.int j)) (h : CDivW i j) : De c (tOp (rI CDivW fun i j => .int (i / j)) ta tb) δ (.int (i / j)) := de_op ha hb (rv_I h fun _ => .int _)
theorem de_div {i j : Int} (ha : De c ta δ (.int i)) (hb : De c tb δ (.int j)) (h : CDiv i j) : De c (tOp (rI CDiv fun i j => .int (i / j)) ta tb) δ (.int (i / j)) := de_op ha hb (rv_I h fun _ => .int _)
theorem de_cmp {f : Int → Int → Bool} {i j : Int} (ha : De c ta δ (.int i)) (hb : De c tb δ (.int j)) : De c (tOp (rI0 fun i j => .bl (f i j)) ta tb) δ (.bl (f i j)) := de_op ha hb (rv_I0 fun _ => .bl _)
theorem rv_eqI {b : Bx} {i j : Int} : Rv b rEq (.int i) (.int j) (· = .bl (decide (i = j))) := rv_val fun v w G H s d1 d2 Q q => by
  cases d1; cases d2
  exact ⟨rfl, by rw [show decide (V.int i = V.int j) = decide (i = j) by simp]; exact q _ (.bl _)⟩
theorem rv_neI {b : Bx} {i j : Int} : Rv b rNe (.int i) (.int j) (· = .bl (!decide (i = j))) := rv_val fun v w G H s d1 d2 Q q => by
  cases d1; cases d2
  exact ⟨rfl, by rw [show decide (V.int i = V.int j) = decide (i = j) by simp]; exact q _ (.bl _)⟩
theorem rv_eqS {b : Bx} {i j : Str} : Rv b rEq (.str i) (.str j) (· = .bl (decide (i = j))) := rv_val fun v w G H s d1 d2 Q q => by
  cases d1; cases d2
  exact ⟨rfl, by rw [show decide (V.str i = V.str j) = decide (i = j) by simp]; exact q _ (.bl _)⟩

theorem dqs_at {G : Hp} {vs : List V} {ds : List Dt} (h : Dqs G vs ds) {i : Int} {d : Dt} (e : atI ds i = some d) : ∃ v, atI vs i = some v ∧ Dq G v d := by
  unfold atI at e ⊢
  rw [h.length]
  cases k : ixN ds.length i with
  | none => rw [k] at e; cases e
  | some j =>
    rw [k] at e
    exact h.get (i := j) e
theorem rv_ixL {b : Bx} {K : PySem.W.Frag} {ds : List Dt} {i : Int} {d : Dt} (h : atI ds i = some d) : Rv b (rIxL K) (.lst ds) (.int i) (· = d) := rv_val fun v w G H s d1 d2 Q q => by
  cases d2
  cases d1 with
  | lst h1 h2 =>
    obtain ⟨x, e, dx⟩ := dqs_at h2 h
    exact ⟨_, _, i, x, rfl, rfl, SqL.of (s _ _ h1), e, q x dx⟩
theorem rv_ixT {b : Bx} {K : PySem.W.Frag} {ds : List Dt} {i : Int} {d : Dt} (h : atI ds i = some d) : Rv b (rIxT K) (.tup ds) (.int i) (· = d) := rv_val fun v w G H s d1 d2 Q q => by
  cases d2
  cases d1 with
  | tup h1 h2 =>
    obtain ⟨x, e, dx⟩ := dqs_at h2 h
    exact ⟨_, _, i, x, rfl, rfl, SqT.of (s _ _ h1), e, q x dx⟩
theorem de_ixL {K : PySem.W.Frag} {ds : List Dt} {i : Int} {d : Dt} (ha : De c ta δ (.lst ds)) (hb : De c tb δ (.int i)) (h : atI ds i = some d) : De c (tOp (rIxL K) ta tb) δ d := de_op ha hb (rv_ixL h)
theorem de_ixT {K : PySem.W.Frag} {ds : List Dt} {i : Int} {d : Dt} (ha : De c ta δ (.tup ds)) (hb : De c tb δ (.int i)) (h : atI ds i = some d) : De c (tOp (rIxT K) ta tb) δ d := de_op ha hb (rv_ixT h)
theorem dq_len {K : PySem.W.Frag} {G H : Hp} {v : V} {ds : List Dt} (s : Same G H) (h : Dq G v (.lst ds) ∨ Dq G v (.tup ds)) : LenV K v H ds.length := by
  rcases h with h | h
  · cases h with
    | lst h1 h2 => exact .inl ⟨_, SqL.of (s _ _ h1), h2.length.symm⟩
  · cases h with
    | tup h1 h2 => exact .inr ⟨_, SqT.of (s _ _ h1), h2.length.symm⟩
theorem rc_lenL {b : Bx} {K : PySem.W.Frag} {ds : List Dt} : Rc b (fun xs H Q => ∃ x n, xs = [x] ∧ LenV K x H n ∧ Q (.int n) H) [.lst ds] (· = .int ds.length) := fun vs G H s j d Q q => by
  cases d with
  | cons h hs =>
    cases hs
    exact ⟨_, _, rfl, dq_len s (.inl h), q _ _ G H (Gx.refl s j) (.int _) rfl⟩
theorem rc_lenT {b : Bx} {K : PySem.W.Frag} {ds : List Dt} : Rc b (fun xs H Q => ∃ x n, xs = [x] ∧ LenV K x H n ∧ Q (.int n) H) [.tup ds] (· = .int ds.length) := fun vs G H s j d Q q => by
  cases d with
  | cons h hs =>
    cases hs
    exact ⟨_, _, rfl, dq_len s (.inr h), q _ _ G H (Gx.refl s j) (.int _) rfl⟩
theorem de_lenL {K : PySem.W.Frag} {ds : List Dt} (h : De c ta δ (.lst ds)) : De c (tCB (fun xs H Q => ∃ x n, xs = [x] ∧ LenV K x H n ∧ Q (.int n) H) (tCons ta tNil)) δ (.int ds.length) :=
  dn_cb (da_consE h da_nil) fun _ e => by rw [e]; exact rc_lenL
theorem de_lenT {K : PySem.W.Frag} {ds : List Dt} (h : De c ta δ (.tup ds)) : De c (tCB (fun xs H Q => ∃ x n, xs = [x] ∧ LenV K x H n ∧ Q (.int n) H) (tCons ta tNil)) δ (.int ds.length) :=
  dn_cb (da_consE h da_nil) fun _ e => by rw [e]; exact rc_lenT
theorem de_intI {i : Int} (h : De c ta δ (.int i)) : De c (tCB (fun xs H Q => (∃ i, xs = [.int i] ∧ Q (.int i) H) ∨ ∃ k, xs = [.bl k] ∧ Q (.int (if k then 1 else 0)) H) (tCons ta tNil)) δ (.int i) :=
  dn_cb (da_consE h da_nil) fun _ e => by
    rw [e]
    intro vs G H s j d Q q
    cases d with
    | cons h hs =>
      cases hs; cases h
      exact .inl ⟨i, rfl, q _ _ G H (Gx.refl s j) (.int _) rfl⟩
/-- x in xs, xs ints -/
theorem inV_ints (n : Int) : ∀ ns : List Int, inV (.int n) (ns.map V.int) = decide (n ∈ ns)
  | [] => by simp [inV]
  | m :: r => by
    have ih := inV_ints n r
    unfold inV at ih ⊢
    rw [List.map_cons, List.any_cons, ih]
    by_cases h : m = n
    · subst h; simp [eqV]
    · have h' : ¬ n = m := fun e => h e.symm
      simp [eqV, h, h']
theorem inV_strs (n : Str) : ∀ ns : List Str, inV (.str n) (ns.map V.str) = decide (n ∈ ns)
  | [] => by simp [inV]
  | m :: r => by
    have ih := inV_strs n r
    unfold inV at ih ⊢
    rw [List.map_cons, List.any_cons, ih]
    by_cases h : m = n
    · subst h; simp [eqV]
    · have h' : ¬ n = m := fun e => h e.symm
      simp [eqV, h, h']
theorem flat_ints : ∀ ns : List Int, (ns.map V.int).all flatV = true
  | [] => rfl
  | _ :: r => by rw [List.map_cons, List.all_cons, flat_ints r]; rfl
theorem flat_strs : ∀ ns : List Str, (ns.map V.str).all flatV = true
  | [] => rfl
  | _ :: r => by rw [List.map_cons, List.all_cons, flat_strs r]; rfl
theorem rv_inI {b : Bx} {K : PySem.W.Frag} {neg : Bool} {n : Int} {ns : List Int} : Rv b (rIn K neg) (.int n) (.lst (ns.map Dt.int)) (· = .bl (if neg then !decide (n ∈ ns) else decide (n ∈ ns))) := rv_val fun v w G H s d1 d2 Q q => by
  cases d1
  cases d2 with
  | lst h1 h2 =>
    have e := h2.ints
    subst e
    refine ⟨_, _, rfl, .inl (SqL.of (s _ _ h1)), rfl, flat_ints ns, ?_⟩
    rw [inV_ints]
    exact q _ (.bl _)
theorem rv_inS {b : Bx} {K : PySem.W.Frag} {neg : Bool} {n : Str} {ns : List Str} : Rv b (rIn K neg) (.str n) (.lst (ns.map Dt.str)) (· = .bl (if neg then !decide (n ∈ ns) else decide (n ∈ ns))) := rv_val fun v w G H s d1 d2 Q q => by
  cases d1
  cases d2 with
  | lst h1 h2 =>
    have e := h2.strs
    subst e
    refine ⟨_, _, rfl, .inl (SqL.of (s _ _ h1)), rfl, flat_strs ns, ?_⟩
    rw [inV_strs]
    exact q _ (.bl _)
/-- xs + ys -/
theorem dl_cat {xs ys : List Dt} (ha : De c ta δ (.lst xs)) (hb : De c tb δ (.lst ys)) (hl : xs.length + ys.length ≤ 10000000) : Dl c (tOp rCat ta tb) δ (· = xs ++ ys) := fun σ G H e Q q =>
  ha σ G H e _ fun v x G1 H1 g1 d1 p1 => hb σ G1 H1 (e.up g1) _ fun w y G2 H2 g2 d2 p2 => by
    subst p1; subst p2
    have g12 := g1.trans e.jj g2
    cases d1 with
    | lst a1 a2 =>
      cases d2 with
      | lst b1 b2 =>
        refine ⟨_, _, _, _, rfl, rfl, g2.gh _ _ (g2.gg _ _ a1), g2.gh _ _ b1, sz_ok (by rw [a2.length, b2.length]; exact hl), fun p hp => ?_⟩
        refine q p _ _ G2 _ (g12.trans e.jj (Gx.put g2.gh g2.jj hp)) (g12.fresh e.jj hp) ?_ upd_same ((a2.up g2.gg).append b2) rfl
        cases k : G2 p with
        | none => rfl
        | some u => rw [g2.gh p u k] at hp; cases hp
/-- xs[lo:hi] -/
def cutD (xs : List Dt) (lo hi : Option Int) : List Dt := (xs.drop (HT.sIx xs.length 0 lo)).take (HT.sIx xs.length xs.length hi - HT.sIx xs.length 0 lo)
theorem dqs_cut {G : Hp} {vs : List V} {ds : List Dt} (h : Dqs G vs ds) (lo hi : Option Int) : Dqs G (cutV vs lo hi) (cutD ds lo hi) := by
  unfold cutV cutD
  rw [h.length]
  exact (h.drop _).take _
theorem dp_none : Dp' c tNoPart δ (· = none) := fun σ G H e Q q => q none G H (Gx.refl e.same e.jj) rfl
theorem dp_some {P : Dt → Prop} {T : Option Int → Prop} (h : Dn c te δ P) (hP : ∀ d, P d → ∃ i, d = .int i ∧ T (some i)) : Dp' c (tPart te) δ T := fun σ G H e Q q =>
  h σ G H e _ fun v d G1 H1 g1 d1 p1 => by
    obtain ⟨i, rfl, t⟩ := hP d p1
    cases d1
    exact ⟨i, rfl, q (some i) G1 H1 g1 t⟩
theorem dp_someE {i : Int} (h : De c te δ (.int i)) : Dp' c (tPart te) δ (· = some i) := dp_some h fun _ e => ⟨i, e, rfl⟩
theorem dl_sl {K : PySem.W.Frag} {tl th : TO} {xs : List Dt} {P R : Option Int → Prop} (h : De c te δ (.lst xs)) (hl : Dp' c tl δ P) (hh : Dp' c th δ R) : Dl c (tSl (rSlL K) te tl th) δ (fun ys => ∃ lo hi, P lo ∧ R hi ∧ ys = cutD xs lo hi) := fun σ G H e Q q =>
  h σ G H e _ fun v x G1 H1 g1 d1 p1 => hl σ G1 H1 (e.up g1) _ fun lo G2 H2 g2 p2 => hh σ G2 H2 (e.up (g1.trans e.jj g2)) _ fun hi G3 H3 g3 p3 => by
    subst p1
    have g13 := (g1.trans e.jj g2).trans e.jj g3
    cases d1 with
    | lst a1 a2 =>
      refine ⟨_, _, rfl, SqL.of (g3.gh _ _ (g3.gg _ _ (g2.gg _ _ a1))), fun p hp => ?_⟩
      refine q p _ _ G3 _ (g13.trans e.jj (Gx.put g3.gh g3.jj hp)) (g13.fresh e.jj hp) ?_ upd_same (dqs_cut ((a2.up g2.gg).up g3.gg) lo hi) ⟨lo, hi, p2, p3, rfl⟩
      cases k : G3 p with
      | none => rfl
      | some u => rw [g3.gh p u k] at hp; cases hp
/-- list(xs) -/
theorem dl_listOf {K : PySem.W.Frag} {xs : List Dt} (h : De c te δ (.lst xs)) : Dl c (tCB (fun xs H Q => ∃ p ys, xs = [.ref p] ∧ (SqL K H p ys ∨ SqT K H p ys) ∧ ∀ l, H l = none → Q (.ref l) (upd H l (.lst ys))) (tCons te tNil)) δ (· = xs) := fun σ G H e Q q =>
  h σ G H e _ fun v x G1 H1 g1 d1 p1 => by
    subst p1
    cases d1 with
    | lst a1 a2 =>
      refine ⟨_, _, rfl, .inl (SqL.of (g1.gh _ _ a1)), fun p hp => ?_⟩
      refine q p _ _ G1 _ (g1.trans e.jj (Gx.put g1.gh g1.jj hp)) (g1.fresh e.jj hp) ?_ upd_same a2 rfl
      cases k : G1 p with
      | none => rfl
      | some u => rw [g1.gh p u k] at hp; cases hp
/-- tuple(xs) -/
theorem de_tupleOfL {K : PySem.W.Frag} {xs : List Dt} (h : De c te δ (.lst xs)) : De c (tCB (fun xs H Q => ∃ p ys, xs = [.ref p] ∧ ((SqL K H p ys ∧ ∀ l, H l = none → Q (.ref l) (upd H l (.tup ys))) ∨ (SqT K H p ys ∧ Q (.ref p) H))) (tCons te tNil)) δ (.tup xs) := fun σ G H e Q q =>
  h σ G H e _ fun v x G1 H1 g1 d1 p1 => by
    subst p1
    cases d1 with
    | lst a1 a2 =>
      refine ⟨_, _, rfl, .inl ⟨SqL.of (g1.gh _ _ a1), fun p hp => ?_⟩⟩
      exact q (.ref p) (.tup xs) _ _ (g1.newDat e.jj hp _) (.tup upd_same (a2.up fun a u k => by rw [upd_ne (ne_of_none (g1.gh a u k) hp)]; exact k)) rfl

/-! ### tests -/
theorem dt_test {T : Bool → Prop} (h : Dn c te δ P) (k : ∀ d, P d → ∃ b, d = .bl b ∧ T b) : Dt' c (tTest te) δ T := fun σ G H e Q q =>
  h σ G H e _ fun v d G1 H1 g1 d1 p1 => by
    obtain ⟨b, rfl, t⟩ := k d p1
    cases d1
    exact ⟨b, rfl, q b G1 H1 g1 t⟩
theorem dt_testE {b : Bool} (h : De c te δ (.bl b)) : Dt' c (tTest te) δ (· = b) := dt_test h fun _ e => ⟨b, e, rfl⟩
theorem dt_BE {b : Bool} (h : De c te δ (.bl b)) : Dt' c (tB te) δ (· = b) := fun σ G H e Q q =>
  h σ G H e _ fun v d G1 H1 g1 d1 p1 => by
    subst p1
    cases d1
    exact ⟨b, rfl, q b G1 H1 g1 rfl⟩
theorem dt_and {a b : Bool} (ha : Dt' c tt δ (· = a)) (hb : a = true → Dt' c tu δ (· = b)) : Dt' c (tAnd tt tu) δ (· = (a && b)) := fun σ G H e Q q =>
  ha σ G H e _ fun k G1 H1 g1 p1 => by
    subst p1
    cases k with
    | true =>
      show tu σ H1 Q
      exact hb rfl σ G1 H1 (e.up g1) Q fun k G2 H2 g2 p2 => q k G2 H2 (g1.trans e.jj g2) (by rw [p2]; rfl)
    | false =>
      show Q false H1
      exact q false G1 H1 g1 rfl
theorem dt_or {a b : Bool} (ha : Dt' c tt δ (· = a)) (hb : a = false → Dt' c tu δ (· = b)) : Dt' c (tOr tt tu) δ (· = (a || b)) := fun σ G H e Q q =>
  ha σ G H e _ fun k G1 H1 g1 p1 => by
    subst p1
    cases k with
    | false =>
      show tu σ H1 Q
      exact hb rfl σ G1 H1 (e.up g1) Q fun k G2 H2 g2 p2 => q k G2 H2 (g1.trans e.jj g2) (by rw [p2]; rfl)
    | true =>
      show Q true H1
      exact q true G1 H1 g1 rfl
theorem dt_not {a : Bool} (ha : Dt' c tt δ (· = a)) : Dt' c (tNot tt) δ (· = !a) := fun σ G H e Q q =>
  ha σ G H e _ fun k G1 H1 g1 p1 => q (!k) G1 H1 g1 (by rw [p1])
theorem dt_yes : Dt' c tYes δ (· = true) := fun σ G H e Q q => q true G H (Gx.refl e.same e.jj) rfl
theorem de_notV {a : Bool} (h : De c te δ (.bl a)) : De c (tNotV te) δ (.bl (!a)) := fun σ G H e Q q =>
  h σ G H e _ fun v d G1 H1 g1 d1 p1 => by
    subst p1
    cases d1
    exact ⟨a, rfl, q _ _ G1 H1 g1 (.bl _) rfl⟩
theorem de_andV {a b : Bool} (ha : De c ta δ (.bl a)) (hb : a = true → De c tb δ (.bl b)) : De c (tAndV ta tb) δ (.bl (a && b)) := fun σ G H e Q q =>
  ha σ G H e _ fun v d G1 H1 g1 d1 p1 => by
    subst p1
    cases d1
    refine ⟨a, rfl, ?_⟩
    cases a with
    | true =>
      show tb σ H1 Q
      exact hb rfl σ G1 H1 (e.up g1) Q fun v d G2 H2 g2 d2 p2 => q v d G2 H2 (g1.trans e.jj g2) d2 (by rw [p2]; rfl)
    | false =>
      show Q (.bl false) H1
      exact q _ _ G1 H1 g1 (.bl _) rfl
theorem dn_if {T' : Bool → Prop} (h : Dt' c tt δ T') (h1 : T' true → Dn c ta δ T) (h2 : T' false → Dn c tb δ T) : Dn c (tIf tt ta tb) δ T := fun σ G H e Q q =>
  h σ G H e _ fun k G1 H1 g1 p1 => by
    cases k with
    | true =>
      show ta σ H1 Q
      exact h1 p1 σ G1 H1 (e.up g1) Q fun v d G2 H2 g2 d2 p2 => q v d G2 H2 (g1.trans e.jj g2) d2 p2
    | false =>
      show tb σ H1 Q
      exact h2 p1 σ G1 H1 (e.up g1) Q fun v d G2 H2 g2 d2 p2 => q v d G2 H2 (g1.trans e.jj g2) d2 p2

/-! ### the body's own lists, read -/
/-- a list of the body's own becomes data for good -/
theorem En.freeze {b : Bx} {G0 H0 G H : Hp} {σ : L2.St} (e : En b G0 H0 G H σ δ) {i : Nat} {ds : List Dt} (h : δ[i]? = some (.own ds)) : ∃ p vs, σ[i]? = some (some (.ref p)) ∧ H p = some (.lst vs) ∧ G p = none ∧ H0 p = none ∧ Dqs G vs ds ∧ En b G0 H0 (upd G p (.lst vs)) H σ (δ.set i (.dat (.lst ds))) := by
  obtain ⟨p, vs, e1, h1, h2, h3, h4⟩ := e.sl i _ h
  have up : Same G (upd G p (.lst vs)) := fun a u k => by rw [upd_ne (ne_of_none k h2)]; exact k
  have hi : i < δ.length := (List.getElem?_eq_some_iff.mp h).1
  refine ⟨p, vs, e1, h1, h2, h3, h4, e.j0, e.gx.freeze h3 h2 h1, by rw [List.length_set, e.len], fun k x hk => ?_, fun k l y z q hk hl oy oz sk sl => ?_⟩
  · by_cases hik : i = k
    · subst hik
      rw [List.getElem?_set_self hi] at hk
      have := Option.some.inj hk
      subst this
      exact ⟨_, e1, .lst upd_same (h4.up up)⟩
    · rw [List.getElem?_set_ne hik] at hk
      have q := e.sl k x hk
      have na : ∀ {a : Addr}, x.owns = true → σ[k]? = some (some (.ref a)) → a ≠ p := fun {a} ox s z => hik (e.apart i k _ x p h hk rfl ox e1 (by rw [← z]; exact s))
      cases x with
      | un => trivial
      | dat d => obtain ⟨v, e2, q2⟩ := q; exact ⟨v, e2, q2.up up⟩
      | own es =>
        obtain ⟨a, ws, e2, q1, q2, q3, q4⟩ := q
        exact ⟨a, ws, e2, q1, by rw [upd_ne (na rfl e2)]; exact q2, q3, q4.up up⟩
      | obj Φ =>
        obtain ⟨a, o, e2, q1, q2, q3, q4, q5⟩ := q
        exact ⟨a, o, e2, q1, by rw [upd_ne (na rfl e2)]; exact q2, q3, fun G' s' => q4 G' (up.trans s'), q5⟩
      | raw v => exact q
  · have ne : ∀ {m : Nat} {u : Sl}, (δ.set i (.dat (.lst ds)))[m]? = some u → u.owns = true → δ[m]? = some u := fun {m u} hm ou => by
      by_cases him : i = m
      · subst him
        rw [List.getElem?_set_self hi] at hm
        have := Option.some.inj hm
        subst this
        cases ou
      · rw [List.getElem?_set_ne him] at hm
        exact hm
    exact e.apart k l y z q (ne hk oy) (ne hl oz) oy oz sk sl
/-- what comes of reading it for a while is no part of it -/
theorem Gx.thaw {b : Bx} {G H G' H' : Hp} {p : Addr} {o : HO} (s : Same G H) (n : G p = none) (g : Gx b (upd G p o) H G' H') : Gx b G H G H' :=
  ⟨Same.refl G, g.hh, fun a u k => g.gh a u (g.gg a u (by rw [upd_ne (ne_of_none k n)]; exact k)), fun _ k => .inl k, g.jj⟩
theorem dn_thaw {i : Nat} {ds : List Dt} (h : δ[i]? = some (.own ds)) (k : Dn c te (δ.set i (.dat (.lst ds))) P) (hs : ∀ d, P d → d.scal = true) : Dn c te δ P := fun σ G H e Q q => by
  obtain ⟨p, vs, e1, h1, h2, h3, h4, e'⟩ := e.freeze h
  exact k σ _ H e' Q fun v d G' H' g dq pd => q v d G H' (Gx.thaw e.same h2 g) (dq.anywhere (hs d pd)) pd
theorem dt_thaw {T : Bool → Prop} {i : Nat} {ds : List Dt} (h : δ[i]? = some (.own ds)) (k : Dt' c tt (δ.set i (.dat (.lst ds))) T) : Dt' c tt δ T := fun σ G H e Q q => by
  obtain ⟨p, vs, e1, h1, h2, h3, h4, e'⟩ := e.freeze h
  exact k σ _ H e' Q fun b G' H' g pd => q b G H' (Gx.thaw e.same h2 g) pd

/-! ### walks -/
/-- J walks things that stand for xs, from the data's heap G on -/
def ItOk (b : Bx) (J : It) (G : Hp) (xs : List Dt) : Prop := ∀ (i : Nat) (G1 H1 : Hp), Same G G1 → Same G1 H1 → b.J H1 →
  (i < xs.length → J.go i H1 ∧ ∀ x H', J.yld i H1 x H' → ∃ d G', xs[i]? = some d ∧ Gx b G1 H1 G' H' ∧ Dq G' x d) ∧ (xs.length ≤ i → J.stop i H1)
def Di (c : Bs) (wi : TI) (δ : Fe) (P : List Dt → Prop) : Prop := ∀ (σ : L2.St) (G H : Hp), Ec c G H σ δ → ∀ R : It → Hp → Prop, (∀ J xs G' H', Gx c.b G H G' H' → P xs → ItOk c.b J G' xs → R J H') → wi σ H R
theorem di_list {K : PySem.W.Frag} {xs : List Dt} (h : De c te δ (.lst xs)) : Di c (iList K te) δ (· = xs) := fun σ G H e R q =>
  h σ G H e _ fun v x G1 H1 g1 d1 p1 => by
    subst p1
    cases d1 with
    | lst a1 a2 =>
      rename_i a vs
      refine ⟨a, rfl, ⟨vs, SqL.of (g1.gh _ _ a1)⟩, q _ xs G1 H1 g1 rfl fun i G2 H2 s1 s2 j => ⟨fun hi => ?_, fun hi => ?_⟩⟩
      · obtain ⟨y, hy, dy⟩ := a2.get (List.getElem?_eq_getElem hi)
        refine ⟨⟨vs, y, SqL.of (s2 _ _ (s1 _ _ a1)), hy⟩, fun z H' hz => ?_⟩
        obtain ⟨rfl, hz⟩ := hz
        have e2 := (hz vs (SqL.of (s2 _ _ (s1 _ _ a1)))).symm.trans hy
        have e3 := Option.some.inj e2
        subst e3
        exact ⟨_, G2, List.getElem?_eq_getElem hi, Gx.refl s2 j, dy.up s1⟩
      · exact ⟨vs, SqL.of (s2 _ _ (s1 _ _ a1)), by rw [a2.length]; exact hi⟩
theorem di_tup {K : PySem.W.Frag} {xs : List Dt} (h : De c te δ (.tup xs)) : Di c (iTup K te) δ (· = xs) := fun σ G H e R q =>
  h σ G H e _ fun v x G1 H1 g1 d1 p1 => by
    subst p1
    cases d1 with
    | tup a1 a2 =>
      rename_i a vs
      refine ⟨a, rfl, ⟨vs, SqT.of (g1.gh _ _ a1)⟩, q _ xs G1 H1 g1 rfl fun i G2 H2 s1 s2 j => ⟨fun hi => ?_, fun hi => ?_⟩⟩
      · obtain ⟨y, hy, dy⟩ := a2.get (List.getElem?_eq_getElem hi)
        refine ⟨⟨vs, y, SqT.of (s2 _ _ (s1 _ _ a1)), hy⟩, fun z H' hz => ?_⟩
        obtain ⟨rfl, hz⟩ := hz
        have e2 := (hz vs (SqT.of (s2 _ _ (s1 _ _ a1)))).symm.trans hy
        have e3 := Option.some.inj e2
        subst e3
        exact ⟨_, G2, List.getElem?_eq_getElem hi, Gx.refl s2 j, dy.up s1⟩
      · exact ⟨vs, SqT.of (s2 _ _ (s1 _ _ a1)), by rw [a2.length]; exact hi⟩
def rngD (lo : Int) (n : Nat) : List Dt := (List.range n).map fun (k : Nat) => Dt.int (lo + (k : Int))
theorem rngD_len (lo : Int) (n : Nat) : (rngD lo n).length = n := by simp [rngD]
theorem rngD_get {lo : Int} {n i : Nat} (h : i < n) : (rngD lo n)[i]? = some (.int (lo + (i : Int))) := by simp [rngD, h]
theorem itOk_rng {b : Bx} {G : Hp} (lo : Int) (n : Nat) : ItOk b (Itr lo n) G (rngD lo n) := fun i G2 H2 s1 s2 j => ⟨fun hi => by
    rw [rngD_len] at hi
    refine ⟨hi, fun z H' hz => ?_⟩
    obtain ⟨rfl, rfl⟩ := hz
    exact ⟨_, G2, rngD_get hi, Gx.refl s2 j, .int _⟩, fun hi => by rw [rngD_len] at hi; exact hi⟩
theorem di_rng1 {P : Dt → Prop} (h : Dn c te δ P) (hP : ∀ d, P d → ∃ n : Int, d = .int n ∧ -(2 ^ 62) ≤ n ∧ n < 2 ^ 62) : Di c (iRng1 (tCons te tNil)) δ (fun xs => ∃ n : Int, P (.int n) ∧ xs = rngD 0 n.toNat) := fun σ G H e R q =>
  h σ G H e _ fun v x G1 H1 g1 d1 p1 => by
    obtain ⟨n, rfl, h1, h2⟩ := hP x p1
    cases d1
    exact ⟨n, rfl, h1, h2, q _ _ G1 H1 g1 ⟨n, p1, rfl⟩ (itOk_rng 0 _)⟩
theorem di_rng1E {n : Int} (h : De c te δ (.int n)) (h1 : -(2 ^ 62) ≤ n) (h2 : n < 2 ^ 62) : Di c (iRng1 (tCons te tNil)) δ (· = rngD 0 n.toNat) := fun σ G H e R q =>
  di_rng1 h (fun d e => ⟨n, e, h1, h2⟩) σ G H e R fun J xs G' H' g p => by
    obtain ⟨m, e1, e2⟩ := p
    have := Dt.int.inj e1
    subst this
    exact q J xs G' H' g e2

/-! ### targets -/
/-- storing what stands for d leads to a frame of which K holds; vs: the slots that may change -/
def Dg (c : Bs) (g : TG) (d : Dt) (δ : Fe) (vs : List Nat) (K : Fe → Prop) : Prop := ∀ (σ : L2.St) (G H : Hp) (v : V), Ec c G H σ δ → Dq G v d → ∀ Q : L2.St → Hp → Prop, (∀ δ' σ' G' H', Ec c G' H' σ' δ' → Gx c.b G H G' H' → wipe σ' vs = wipe σ vs → K δ' → Q σ' H') → g v σ H Q
theorem wipe_set {i : Nat} {x : Option V} : ∀ {vs : List Nat} {σ : L2.St}, i ∈ vs → wipe (σ.set i x) vs = wipe σ vs
  | [], _, h => by cases h
  | v :: vs, σ, h => by
    unfold wipe
    by_cases hv : v = i
    · subst hv
      by_cases hm : v ∈ vs
      · rw [wipe_set hm]
      · have sw : ∀ (ws : List Nat) (τ : L2.St), v ∉ ws → wipe (τ.set v x) ws = (wipe τ ws).set v x := by
          intro ws
          induction ws with
          | nil => intro τ _; rfl
          | cons w ws ih =>
            intro τ hw
            rw [List.mem_cons, not_or] at hw
            unfold wipe
            rw [ih τ hw.2, List.set_comm _ _ (Ne.symm (fun e => hw.1 e.symm))]
        rw [sw vs σ hm, List.set_set]
    · have hm : i ∈ vs := by
        rcases List.mem_cons.mp h with e | e
        · exact absurd e.symm hv
        · exact e
      rw [wipe_set hm]
theorem dg_name {i : Nat} {d : Dt} {vs : List Nat} {K : Fe → Prop} (hi : i ∈ vs) (k : K (δ.set i (.dat d))) : Dg c (gName i) d δ vs K := fun σ G H v e dq Q q =>
  q _ _ G H (e.setDat i dq) (Gx.refl e.same e.jj) (wipe_set hi) k
def Dgs (c : Bs) (g : TGs) (ds : List Dt) (δ : Fe) (vs : List Nat) (K : Fe → Prop) : Prop := ∀ (σ : L2.St) (G H : Hp) (xs : List V), Ec c G H σ δ → Dqs G xs ds → ∀ Q : L2.St → Hp → Prop, (∀ δ' σ' G' H', Ec c G' H' σ' δ' → Gx c.b G H G' H' → wipe σ' vs = wipe σ vs → K δ' → Q σ' H') → g xs σ H Q
theorem dgs_nil {vs : List Nat} {K : Fe → Prop} (k : K δ) : Dgs c gNil [] δ vs K := fun σ G H xs e d Q q => by
  cases d
  exact ⟨rfl, q δ σ G H e (Gx.refl e.same e.jj) rfl k⟩
theorem dgs_cons {g : TG} {gs : TGs} {d : Dt} {ds : List Dt} {vs : List Nat} {K M : Fe → Prop} (h : Dg c g d δ vs M) (k : ∀ δ', M δ' → Dgs c gs ds δ' vs K) : Dgs c (gCons g gs) (d :: ds) δ vs K := fun σ G H xs e dd Q q => by
  cases dd with
  | cons d1 d2 =>
    refine ⟨_, _, rfl, h σ G H _ e d1 _ fun δ1 σ1 G1 H1 e1 g1 w1 m1 => ?_⟩
    exact k δ1 m1 σ1 G1 H1 _ e1 (d2.up g1.gg) Q fun δ2 σ2 G2 H2 e2 g2 w2 k2 => q δ2 σ2 G2 H2 e2 (g1.trans e.jj g2) (w2.trans w1) k2
theorem dgs_name {i : Nat} {gs : TGs} {d : Dt} {ds : List Dt} {vs : List Nat} {K : Fe → Prop} (hi : i ∈ vs) (k : Dgs c gs ds (δ.set i (.dat d)) vs K) : Dgs c (gCons (gName i) gs) (d :: ds) δ vs K :=
  dgs_cons (M := (· = δ.set i (.dat d))) (dg_name hi rfl) fun _ e => by rw [e]; exact k
theorem dg_tup {K' : PySem.W.Frag} {n : Nat} {gs : TGs} {ds : List Dt} {vs : List Nat} {K : Fe → Prop} (hn : ds.length = n) (k : Dgs c gs ds δ vs K) : Dg c (gTup K' n gs) (.tup ds) δ vs K := fun σ G H v e d Q q => by
  cases d with
  | tup a1 a2 =>
    exact ⟨_, _, rfl, SqT.of (e.same _ _ a1), by rw [a2.length, hn], k σ G H _ e a2 Q q⟩
end
end Zd

set_option Elab.async false
set_option maxRecDepth 100000
set_option maxHeartbeats 4000000
/-! Zd3: comprehensions, statements, loops, calls of defs, by data. -/
namespace Zd
open PySem L2 StX

/-! ### frames with forgotten slots -/
def wipeF (δ : Fe) : List Nat → Fe
  | [] => δ
  | v :: vs => (wipeF δ vs).set v .un
section
variable {b : Bx} {G0 H0 G H : Hp} {σ : L2.St} {δ : Fe}
theorem En.drop (e : En b G0 H0 G H σ δ) (i : Nat) : En b G0 H0 G H (σ.set i none) (δ.set i .un) := by
  have ne : ∀ {m : Nat} {u : Sl}, (δ.set i .un)[m]? = some u → u = .un ∨ (i ≠ m ∧ δ[m]? = some u) := fun {m u} hm => by
    by_cases him : i = m
    · subst him
      have hlt : i < δ.length := by
        have := (List.getElem?_eq_some_iff.mp hm).1
        rwa [List.length_set] at this
      rw [List.getElem?_set_self hlt] at hm
      exact .inl (Option.some.inj hm).symm
    · rw [List.getElem?_set_ne him] at hm
      exact .inr ⟨him, hm⟩
  refine ⟨e.j0, e.gx, by rw [List.length_set, List.length_set, e.len], fun k y hk => ?_, fun k l y z q hk hl oy oz sk sl => ?_⟩
  · rcases ne hk with z | ⟨z1, z⟩
    · subst z; trivial
    · have q := e.sl k y z
      cases y with
      | un => trivial
      | dat d => obtain ⟨v, e1, q1⟩ := q; exact ⟨v, by rw [List.getElem?_set_ne z1]; exact e1, q1⟩
      | own ds => obtain ⟨p, vs, e1, q1⟩ := q; exact ⟨p, vs, by rw [List.getElem?_set_ne z1]; exact e1, q1⟩
      | obj Φ => obtain ⟨p, o, e1, q1⟩ := q; exact ⟨p, o, by rw [List.getElem?_set_ne z1]; exact e1, q1⟩
      | raw v =>
        show (σ.set i _)[k]? = _
        rw [List.getElem?_set_ne z1]; exact q
  · rcases ne hk with z1 | ⟨n1, z1⟩
    · subst z1; cases oy
    · rcases ne hl with z2 | ⟨n2, z2⟩
      · subst z2; cases oz
      · rw [List.getElem?_set_ne n1] at sk
        rw [List.getElem?_set_ne n2] at sl
        exact e.apart k l y z q z1 z2 oy oz sk sl
theorem En.wipe (e : En b G0 H0 G H σ δ) : ∀ vs : List Nat, En b G0 H0 G H (wipe σ vs) (wipeF δ vs)
  | [] => e
  | v :: vs => by
    unfold L2.wipe wipeF
    exact (En.wipe e vs).drop v
theorem wipe_wipe (σ : L2.St) : ∀ vs : List Nat, L2.wipe (L2.wipe σ vs) vs = L2.wipe σ vs := by
  have key : ∀ (ws vs : List Nat), (∀ w ∈ ws, w ∈ vs) → L2.wipe (L2.wipe σ ws) vs = L2.wipe σ vs := by
    intro ws
    induction ws with
    | nil => intro vs _; rfl
    | cons w ws ih =>
      intro vs h
      show L2.wipe ((L2.wipe σ ws).set w none) vs = _
      rw [wipe_set (h w List.mem_cons_self)]
      exact ih vs fun x hx => h x (List.mem_cons_of_mem _ hx)
  exact fun vs => key vs vs fun _ h => h
end

section
variable {c : Bs} {δ : Fe} {te ta tb : TE} {tt tu : TT} {tr : TA} {P R T : Dt → Prop}

/-! ### comprehensions -/
/-- [e for g in wi if tt]: I says which lists may be made after the first i things; one turn from acc -/
theorem dl_lc {wi : TI} {g : TG} {vs : List Nat} {S T : List Dt → Prop} (hw : Di c wi δ S)
    (h : ∀ xs, S xs → ∃ I : Nat → List Dt → Prop, I 0 [] ∧ (∀ i d acc, xs[i]? = some d → I i acc →
        Dg c g d (wipeF δ vs) vs (fun δ2 => Dt' c tt δ2 (fun k => if k = true then Dn c te δ2 (fun y => I (i + 1) (acc ++ [y])) else I (i + 1) acc))) ∧
      (∀ acc, I xs.length acc → T acc) ∧ xs.length ≤ 10000000) : Dl c (tLc wi g tt te vs) δ T := fun σ G H e Q q => by
  refine hw σ G H e _ fun J xs G1 H1 g1 s1 ok => ?_
  obtain ⟨I, i0, turn, fin, hlen⟩ := h xs s1
  intro D hD
  have hD0 : H D = none := g1.fresh e.jj hD
  have gD1 : G1 D = none := by
    cases k : G1 D with
    | none => rfl
    | some u => rw [g1.gh D u k] at hD; cases hD
  have notS : ¬ c.b.S D := fun s => c.b.hs _ _ g1.jj s hD
  let W : Nat → Nat → Hp → Prop := fun i m Hi => m = xs.length - i ∧ i ≤ xs.length ∧ ∃ Gi acc ws, Gx c.b G H Gi Hi ∧ Same G1 Gi ∧ Hi D = some (.lst ws) ∧ Gi D = none ∧ Dqs Gi ws acc ∧ I i acc ∧ acc.length ≤ i
  refine ⟨W, ⟨xs.length, by simp, Nat.zero_le _, G1, [], [], g1.trans e.jj (Gx.put g1.gh g1.jj hD), Same.refl _, upd_same, gD1, .nil, i0, Nat.le_refl _⟩, ?_⟩
  rintro i m Hi ⟨rfl, hi, Gi, acc, ws, gi, si, hDi, gDi, da, ia, la⟩
  obtain ⟨okgo, okstop⟩ := ok i Gi Hi si gi.gh gi.jj
  by_cases hlt : i < xs.length
  · obtain ⟨go, step⟩ := okgo hlt
    refine .inr ⟨go, fun H' => ∃ Gi' acc' ws', Gx c.b G H Gi' H' ∧ Same G1 Gi' ∧ H' D = some (.lst ws') ∧ Gi' D = none ∧ Dqs Gi' ws' acc' ∧ I (i + 1) acc' ∧ acc'.length ≤ i + 1, fun H' hn => ?_, fun x H' hy => ?_⟩
    · exact ⟨xs.length - (i + 1), by omega, rfl, hlt, hn⟩
    · obtain ⟨d, G2, hd, g2, dx⟩ := step x H' hy
      have gi2 := gi.trans e.jj g2
      have e2 := (e.up gi2).wipe vs
      have keepD : ∀ {Ga Ha Gb Hb : Hp} {ws : List V}, Gx c.b Ga Ha Gb Hb → Ha D = some (.lst ws) → Ga D = none → Hb D = some (.lst ws) ∧ Gb D = none := fun {Ga Ha Gb Hb ws} gg hh nn => ⟨gg.hh D _ notS hh, by
        cases k : Gb D with
        | none => rfl
        | some u =>
          rcases gg.nw D (by rw [k]; simp) with z | z | ⟨_, z⟩
          · exact absurd nn z
          · rw [hh] at z; cases z
          · rw [hh] at z; cases z⟩
      obtain ⟨hD2, gD2⟩ := keepD g2 hDi gDi
      refine turn i d acc hd ia (L2.wipe σ vs) G2 H' x e2 dx _ fun δ3 σ3 G3 H3 e3 g3 w3 k3 => ?_
      obtain ⟨hD3, gD3⟩ := keepD g3 hD2 gD2
      refine ⟨by rw [w3, wipe_wipe], ?_⟩
      refine k3 σ3 G3 H3 e3 _ fun k G4 H4 g4 p4 => ?_
      obtain ⟨hD4, gD4⟩ := keepD g4 hD3 gD3
      have s14 : Same G1 G4 := ((si.trans g2.gg).trans g3.gg).trans g4.gg
      have gx4 := (gi2.trans e.jj g3).trans e.jj g4
      have da4 := da.up ((g2.gg.trans g3.gg).trans g4.gg)
      cases k with
      | false =>
        rw [if_neg Bool.false_ne_true] at p4 ⊢
        exact ⟨G4, acc, ws, gx4, s14, hD4, gD4, da4, p4, Nat.le_succ_of_le la⟩
      | true =>
        rw [if_pos rfl] at p4 ⊢
        refine p4 σ3 G4 H4 (e3.up g4) _ fun y dy G5 H5 g5 dqy iy => ?_
        obtain ⟨hD5, gD5⟩ := keepD g5 hD4 gD4
        refine ⟨ws, hD5, sz_lt' ?_, G5, acc ++ [dy], ws ++ [y], ?_, s14.trans g5.gg, upd_same, gD5, (da4.up g5.gg).append (.cons dqy .nil), iy, ?_⟩
        · rw [da.length]; omega
        · exact Gx.poke e.jj (gx4.trans e.jj g5) hD0 gD5
        · rw [List.length_append]; simp; exact la
  · have ei : i = xs.length := by omega
    subst ei
    exact .inl ⟨okstop (Nat.le_refl _), q D ws acc Gi Hi gi hD0 gDi hDi da (fin acc ia)⟩
/-- each thing that passes gives f of it -/
theorem dl_lcMap {wi : TI} {g : TG} {vs : List Nat} {xs : List Dt} (f : Dt → Dt) (hw : Di c wi δ (· = xs)) (hlen : xs.length ≤ 10000000)
    (h : ∀ d ∈ xs, Dg c g d (wipeF δ vs) vs (fun δ2 => De c te δ2 (f d))) : Dl c (tLc wi g tYes te vs) δ (· = xs.map f) :=
  dl_lc hw fun ys e => ⟨fun i acc => acc = (xs.take i).map f, by simp, fun i d acc hd ia σ G H v en dq Q q => by
      rw [e] at hd
      refine h d (List.mem_of_getElem? hd) σ G H v en dq Q fun δ' σ' G' H' e1 g1 w1 k1 => q δ' σ' G' H' e1 g1 w1 ?_
      refine dt_yes.imp fun k hk => ?_
      rw [hk, if_pos rfl]
      refine k1.imp fun y ey => ?_
      show acc ++ [y] = (xs.take (i + 1)).map f
      rw [ey, ia, List.take_add_one, hd, List.map_append]
      rfl, fun acc (ia : acc = _) => by rw [ia, e, List.take_length], by rw [e]; exact hlen⟩
theorem dl_lcFilter {wi : TI} {g : TG} {vs : List Nat} {xs : List Dt} (p : Dt → Bool) (f : Dt → Dt) (hw : Di c wi δ (· = xs)) (hlen : xs.length ≤ 10000000)
    (h : ∀ d ∈ xs, Dg c g d (wipeF δ vs) vs (fun δ2 => Dt' c tt δ2 (· = p d) ∧ (p d = true → De c te δ2 (f d)))) : Dl c (tLc wi g tt te vs) δ (· = (xs.filter p).map f) :=
  dl_lc hw fun ys e => ⟨fun i acc => acc = ((xs.take i).filter p).map f, by simp, fun i d acc hd ia σ G H v en dq Q q => by
      rw [e] at hd
      refine h d (List.mem_of_getElem? hd) σ G H v en dq Q fun δ' σ' G' H' e1 g1 w1 k1 => q δ' σ' G' H' e1 g1 w1 ?_
      refine k1.1.imp fun k hk => ?_
      have tk : (xs.take (i + 1)).filter p = (xs.take i).filter p ++ (if p d = true then [d] else []) := by
        rw [List.take_add_one, hd, List.filter_append]
        congr 1
        show List.filter p [d] = _
        by_cases hp : p d = true
        · rw [if_pos hp, List.filter_cons, if_pos hp]; rfl
        · rw [if_neg hp, List.filter_cons, if_neg hp]; rfl
      by_cases hp : p d = true
      · rw [hk, if_pos hp]
        refine (k1.2 hp).imp fun y ey => ?_
        show acc ++ [y] = ((xs.take (i + 1)).filter p).map f
        rw [ey, ia, tk, if_pos hp, List.map_append]
        rfl
      · rw [hk, if_neg hp]
        show acc = ((xs.take (i + 1)).filter p).map f
        rw [tk, if_neg hp, ia, List.append_nil], fun acc (ia : acc = _) => by rw [ia, e, List.take_length], by rw [e]; exact hlen⟩

/-! ### statements -/
/-- what is wanted behind a statement, by frames -/
structure Po where
  N : Fe → Prop
  R : Dt → Prop
  B : Fe → Prop := fun _ => False
  C : Fe → Prop := fun _ => False
def Ds (c : Bs) (ts : TS) (δ : Fe) (p : Po) : Prop := ∀ (D : Ends) (σ : L2.St) (G H : Hp), Ec c G H σ δ →
  (∀ δ' σ' G' H', Same G G' → Ec c G' H' σ' δ' → p.N δ' → D.nx σ' H') → (∀ v d G' H', Gx c.b c.G0 c.H0 G' H' → Dq G' v d → p.R d → D.rt v H') →
  (∀ δ' σ' G' H', Same G G' → Ec c G' H' σ' δ' → p.B δ' → D.bk σ' H') → (∀ δ' σ' G' H', Same G G' → Ec c G' H' σ' δ' → p.C δ' → D.ct σ' H') → ts D σ H
variable {ts tv : TS} {p : Po}
theorem Ds.imp {p' : Po} (h : Ds c ts δ p) (hN : ∀ δ, p.N δ → p'.N δ) (hR : ∀ d, p.R d → p'.R d) (hB : ∀ δ, p.B δ → p'.B δ) (hC : ∀ δ, p.C δ → p'.C δ) : Ds c ts δ p' := fun D σ G H e n r b k =>
  h D σ G H e (fun δ' σ' G' H' s e' q => n δ' σ' G' H' s e' (hN _ q)) (fun v d G' H' g dq q => r v d G' H' g dq (hR _ q)) (fun δ' σ' G' H' s e' q => b δ' σ' G' H' s e' (hB _ q)) fun δ' σ' G' H' s e' q => k δ' σ' G' H' s e' (hC _ q)
theorem ds_seq {M : Fe → Prop} (h : Ds c ts δ { p with N := M }) (k : ∀ δ', M δ' → Ds c tv δ' p) : Ds c (tSeq ts tv) δ p := fun D σ G H e n r b q =>
  h { D with nx := tv D } σ G H e (fun δ' σ' G' H' s e' m => k δ' m D σ' G' H' e' (fun δ2 σ2 G2 H2 s2 => n δ2 σ2 G2 H2 (s.trans s2)) r (fun δ2 σ2 G2 H2 s2 => b δ2 σ2 G2 H2 (s.trans s2)) fun δ2 σ2 G2 H2 s2 => q δ2 σ2 G2 H2 (s.trans s2)) r b q
theorem ds_next (k : p.N δ) : Ds c tNext δ p := fun D σ G H e n r b q => n δ σ G H (Same.refl G) e k
theorem ds_cont (k : p.C δ) : Ds c tCont δ p := fun D σ G H e n r b q => q δ σ G H (Same.refl G) e k
theorem ds_break (k : p.B δ) : Ds c tBreak δ p := fun D σ G H e n r b q => b δ σ G H (Same.refl G) e k
theorem ds_set {i : Nat} (h : Dn c te δ T) (k : ∀ d, T d → p.N (δ.set i (.dat d))) : Ds c (tAsg te (gName i)) δ p := fun D σ G H e n r b q =>
  h σ G H e _ fun v d G1 H1 g1 d1 t1 => n _ _ G1 H1 g1.gg ((e.up g1).setDat i d1) (k d t1)
/-- x = e, then the rest -/
theorem ds_let {i : Nat} (h : Dn c te δ T) (k : ∀ d, T d → Ds c tv (δ.set i (.dat d)) p) : Ds c (tSeq (tAsg te (gName i)) tv) δ p :=
  ds_seq (M := fun δ' => ∃ d, T d ∧ δ' = δ.set i (.dat d)) (ds_set h fun d t => ⟨d, t, rfl⟩) fun δ' ⟨d, t, e⟩ => by rw [e]; exact k d t
theorem ds_letE {i : Nat} {d : Dt} (h : De c te δ d) (k : Ds c tv (δ.set i (.dat d)) p) : Ds c (tSeq (tAsg te (gName i)) tv) δ p := ds_let h fun _ e => by rw [e]; exact k
/-- x = a new list that the body goes on changing -/
theorem ds_setOwn {i : Nat} {S : List Dt → Prop} (h : Dl c te δ S) (k : ∀ ds, S ds → p.N (δ.set i (.own ds))) : Ds c (tAsg te (gName i)) δ p := fun D σ G H e n r b q =>
  h σ G H e _ fun a vs ds G1 H1 g1 h1 h2 h3 h4 h5 => by
    have e1 := e.up g1
    refine n _ _ G1 H1 g1.gg (e1.setOwn i (.own ds) (fun k y hk oy sk => ?_) fun hlt => ?_) (k ds h5)
    · exact e.noSlot h1 k y hk oy sk
    · refine ⟨a, vs, List.getElem?_set_self (by rw [e.len]; exact hlt), h3, h2, ?_, h4⟩
      exact e.gx.fresh e.j0 h1
theorem ds_letOwn {i : Nat} {S : List Dt → Prop} (h : Dl c te δ S) (k : ∀ ds, S ds → Ds c tv (δ.set i (.own ds)) p) : Ds c (tSeq (tAsg te (gName i)) tv) δ p :=
  ds_seq (M := fun δ' => ∃ d, S d ∧ δ' = δ.set i (.own d)) (ds_setOwn h fun d t => ⟨d, t, rfl⟩) fun δ' ⟨d, t, e⟩ => by rw [e]; exact k d t
theorem ds_letOwnE {i : Nat} {ds : List Dt} (h : Dl c te δ (· = ds)) (k : Ds c tv (δ.set i (.own ds)) p) : Ds c (tSeq (tAsg te (gName i)) tv) δ p := ds_letOwn h fun _ e => by rw [e]; exact k
theorem ds_ret (h : Dn c te δ T) (k : ∀ d, T d → p.R d) : Ds c (tRet te) δ p := fun D σ G H e n r b q =>
  h σ G H e _ fun v d G1 H1 g1 d1 t1 => r v d G1 H1 (e.gx.trans e.j0 g1) d1 (k d t1)
theorem ds_retE {d : Dt} (h : De c te δ d) (k : p.R d) : Ds c (tRet te) δ p := ds_ret h fun _ e => by rw [e]; exact k
theorem ds_if {T' : Bool → Prop} (h : Dt' c tt δ T') (h1 : T' true → Ds c ts δ p) (h2 : T' false → Ds c tv δ p) : Ds c (tIfS tt ts tv) δ p := fun D σ G H e n r b q =>
  h σ G H e _ fun k G1 H1 g1 t1 => by
    cases k with
    | true =>
      show ts D σ H1
      exact h1 t1 D σ G1 H1 (e.up g1) (fun δ2 σ2 G2 H2 s2 => n δ2 σ2 G2 H2 (g1.gg.trans s2)) r (fun δ2 σ2 G2 H2 s2 => b δ2 σ2 G2 H2 (g1.gg.trans s2)) fun δ2 σ2 G2 H2 s2 => q δ2 σ2 G2 H2 (g1.gg.trans s2)
    | false =>
      show tv D σ H1
      exact h2 t1 D σ G1 H1 (e.up g1) (fun δ2 σ2 G2 H2 s2 => n δ2 σ2 G2 H2 (g1.gg.trans s2)) r (fun δ2 σ2 G2 H2 s2 => b δ2 σ2 G2 H2 (g1.gg.trans s2)) fun δ2 σ2 G2 H2 s2 => q δ2 σ2 G2 H2 (g1.gg.trans s2)
/-- if a test with the outcome k -/
theorem ds_ifE {k : Bool} (h : Dt' c tt δ (· = k)) (h1 : k = true → Ds c ts δ p) (h2 : k = false → Ds c tv δ p) : Ds c (tIfS tt ts tv) δ p := ds_if h (fun e => h1 e.symm) fun e => h2 e.symm
/-- the body's list at i is data from now on -/
theorem ds_freeze {i : Nat} {ds : List Dt} (h : δ[i]? = some (.own ds)) (k : Ds c ts (δ.set i (.dat (.lst ds))) p) : Ds c ts δ p := fun D σ G H e n r b q => by
  obtain ⟨a, vs, e1, h1, h2, h3, h4, e'⟩ := e.freeze h
  have up : Same G (upd G a (.lst vs)) := fun x u z => by rw [upd_ne (ne_of_none z h2)]; exact z
  exact k D σ _ H e' (fun δ2 σ2 G2 H2 s2 => n δ2 σ2 G2 H2 (up.trans s2)) r (fun δ2 σ2 G2 H2 s2 => b δ2 σ2 G2 H2 (up.trans s2)) fun δ2 σ2 G2 H2 s2 => q δ2 σ2 G2 H2 (up.trans s2)
/-- less is known of slot i -/
theorem ds_forget (i : Nat) (k : Ds c ts (δ.set i .un) p) : Ds c ts δ p := fun D σ G H e n r b q => k D σ G H (e.forget i) n r b q
theorem ds_drop (h : Dn c te δ T) (k : p.N δ) : Ds c (tDrop te) δ p := fun D σ G H e n r b q =>
  h σ G H e _ fun v d G1 H1 g1 d1 t1 => n _ _ G1 H1 g1.gg (e.up g1) k

/-- the body's list at i is changed -/
theorem En.poke {b : Bx} {G0 H0 G H : Hp} {σ : L2.St} (e : En b G0 H0 G H σ δ) {i : Nat} {ds es : List Dt} {ws : List V} {a : Addr} (h : δ[i]? = some (.own ds)) (ha : σ[i]? = some (some (.ref a))) (dq : Dqs G ws es) : En b G0 H0 G (upd H a (.lst ws)) σ (δ.set i (.own es)) := by
  obtain ⟨p, vs, e1, h1, h2, h3, h4⟩ := e.sl i _ h
  rw [ha] at e1
  have ea := V.ref.inj (Option.some.inj (Option.some.inj e1))
  subst ea
  have hi : i < δ.length := (List.getElem?_eq_some_iff.mp h).1
  refine ⟨e.j0, Gx.poke e.j0 e.gx h3 h2, by rw [List.length_set, e.len], fun k x hk => ?_, fun k l y z q hk hl oy oz sk sl => ?_⟩
  · by_cases hik : i = k
    · subst hik
      rw [List.getElem?_set_self hi] at hk
      have := Option.some.inj hk
      subst this
      exact ⟨a, ws, ha, upd_same, h2, h3, dq⟩
    · rw [List.getElem?_set_ne hik] at hk
      have q := e.sl k x hk
      have na : ∀ {p : Addr}, x.owns = true → σ[k]? = some (some (.ref p)) → p ≠ a := fun {p} ox s z => hik (e.apart i k _ x a h hk rfl ox ha (by rw [← z]; exact s))
      cases x with
      | un => trivial
      | dat d => exact q
      | own es =>
        obtain ⟨p, ws, e2, q1, q2, q3, q4⟩ := q
        exact ⟨p, ws, e2, by rw [upd_ne (na rfl e2)]; exact q1, q2, q3, q4⟩
      | obj Φ =>
        obtain ⟨p, o, e2, q1, q2⟩ := q
        exact ⟨p, o, e2, by rw [upd_ne (na rfl e2)]; exact q1, q2⟩
      | raw v => exact q
  · have ne : ∀ {m : Nat} {u : Sl}, (δ.set i (.own es))[m]? = some u → u.owns = true → ∃ u', δ[m]? = some u' ∧ u'.owns = true := fun {m u} hm ou => by
      by_cases him : i = m
      · subst him
        exact ⟨_, h, rfl⟩
      · rw [List.getElem?_set_ne him] at hm
        exact ⟨u, hm, ou⟩
    obtain ⟨y', a1, a2⟩ := ne hk oy
    obtain ⟨z', b1, b2⟩ := ne hl oz
    exact e.apart k l y' z' q a1 b1 a2 b2 sk sl
/-- xs.append(e) -/
theorem ds_append {K : PySem.W.Frag} {i : Nat} {ds : List Dt} (h : δ[i]? = some (.own ds)) (he : Dn c te δ T) (hl : ds.length < 10000000) (k : ∀ d, T d → p.N (δ.set i (.own (ds ++ [d])))) : Ds c (tDrop (tBM K "list" rAppend (tVar i) (tCons te tNil))) δ p := fun D σ G H e n r b q => by
  obtain ⟨a, vs, e1, h1, h2, h3, h4⟩ := e.sl i _ h
  refine ⟨.ref a, e1, .inl ⟨rfl, _, SqL.of h1⟩, ?_⟩
  refine he σ G H e _ fun v d G1 H1 g1 d1 t1 => ?_
  obtain ⟨a', vs', e1', h1', h2', h3', h4'⟩ := (e.up g1).sl i _ h
  rw [e1] at e1'
  have ea := V.ref.inj (Option.some.inj (Option.some.inj e1'))
  subst ea
  refine ⟨a, vs', v, rfl, rfl, h1', sz_lt' (by rw [h4'.length]; omega), ?_⟩
  exact n _ _ G1 _ g1.gg ((e.up g1).poke h e1 (h4'.append (.cons d1 .nil))) (k d t1)
/-- xs.extend(ys) -/
theorem ds_extend {K : PySem.W.Frag} {i : Nat} {ds ys : List Dt} (h : δ[i]? = some (.own ds)) (he : De c te δ (.lst ys)) (hl : ds.length + ys.length ≤ 10000000) (k : p.N (δ.set i (.own (ds ++ ys)))) : Ds c (tDrop (tBM K "list" rExtend (tVar i) (tCons te tNil))) δ p := fun D σ G H e n r b q => by
  obtain ⟨a, vs, e1, h1, h2, h3, h4⟩ := e.sl i _ h
  refine ⟨.ref a, e1, .inl ⟨rfl, _, SqL.of h1⟩, ?_⟩
  refine he σ G H e _ fun v d G1 H1 g1 d1 t1 => ?_
  subst t1
  obtain ⟨a', vs', e1', h1', h2', h3', h4'⟩ := (e.up g1).sl i _ h
  rw [e1] at e1'
  have ea := V.ref.inj (Option.some.inj (Option.some.inj e1'))
  subst ea
  cases d1 with
  | lst b1 b2 =>
    refine ⟨a, _, vs', _, rfl, rfl, h1', g1.gh _ _ b1, sz_ok (by rw [h4'.length, b2.length]; exact hl), ?_⟩
    exact n _ _ G1 _ g1.gg ((e.up g1).poke h e1 (h4'.append b2)) k

/-! ### for -/
theorem ds_for {wi : TI} {g : TG} {vs : List Nat} {S : List Dt → Prop} (hw : Di c wi δ S)
    (h : ∀ xs, S xs → ∃ I : Nat → Fe → Prop, I 0 δ ∧ (∀ i d δ', xs[i]? = some d → I i δ' → Dg c g d δ' vs (fun δ2 => Ds c ts δ2 { N := I (i + 1), R := p.R, B := p.N, C := I (i + 1) })) ∧ ∀ δ', I xs.length δ' → p.N δ') : Ds c (tFor wi g ts) δ p := fun D σ G H e n r b q => by
  refine hw σ G H e _ fun J xs G1 H1 g1 s1 ok => ?_
  obtain ⟨I, i0, turn, fin⟩ := h xs s1
  refine ⟨fun i m σ' Hi => m = xs.length - i ∧ i ≤ xs.length ∧ ∃ Gi δi, Ec c Gi Hi σ' δi ∧ Same G1 Gi ∧ I i δi, ⟨xs.length, by simp, Nat.zero_le _, G1, δ, e.up g1, Same.refl _, i0⟩, ?_⟩
  rintro i m σ' Hi ⟨rfl, hi, Gi, δi, ei, si, ii⟩
  obtain ⟨okgo, okstop⟩ := ok i Gi Hi si ei.same ei.jj
  by_cases hlt : i < xs.length
  · obtain ⟨go, step⟩ := okgo hlt
    refine .inr ⟨go, fun σ2 H2 => ∃ G2 δ2, Ec c G2 H2 σ2 δ2 ∧ Same G1 G2 ∧ I (i + 1) δ2, fun σ2 H2 hn => ⟨xs.length - (i + 1), by omega, rfl, hlt, hn⟩, fun x H' hy => ?_⟩
    obtain ⟨d, G2, hd, g2, dx⟩ := step x H' hy
    refine turn i d δi hd ii σ' G2 H' x (ei.up g2) dx _ fun δ3 σ3 G3 H3 e3 g3 w3 k3 => ?_
    have s3 : Same G1 G3 := (si.trans g2.gg).trans g3.gg
    exact k3 _ σ3 G3 H3 e3 (fun δ4 σ4 G4 H4 s4 e4 n4 => ⟨G4, δ4, e4, s3.trans s4, n4⟩) r (fun δ4 σ4 G4 H4 s4 e4 n4 => n δ4 σ4 G4 H4 (g1.gg.trans (s3.trans s4)) e4 n4) fun δ4 σ4 G4 H4 s4 e4 n4 => ⟨G4, δ4, e4, s3.trans s4, n4⟩
  · have ei' : i = xs.length := by omega
    subst ei'
    exact .inl ⟨okstop (Nat.le_refl _), n δi σ' Gi Hi (g1.gg.trans si) ei (fin δi ii)⟩

/-! ### calls of defs -/
/-- a def that takes data and gives data, and changes nothing -/
def spD (pre : List Dt → Prop) (post : List Dt → Dt → Prop) : Sp := fun vs H Q _ => ∃ G ds, Same G H ∧ Dqs G vs ds ∧ pre ds ∧ ∀ v d G' H', Gx Bx.pure G H G' H' → Dq G' v d → post ds d → Q v H'
theorem dn_call {pre : List Dt → Prop} {post : List Dt → Dt → Prop} {S : List Dt → Prop} {E : XK} (ha : Ds' c tr δ S) (hp : ∀ ds, S ds → pre ds) (k : ∀ ds d, S ds → post ds d → T d) : Dn c (tCall (spD pre post) [] E tr) δ T := fun σ G H e Q q =>
  ha σ G H e _ fun vs ds G1 H1 g1 d1 t1 => ⟨G1, ds, g1.gh, by rw [List.append_nil]; exact d1, hp ds t1, fun v d G2 H2 g2 d2 p2 => q v d G2 H2 (g1.trans e.jj (g2.of_pure g1.jj)) d2 (k ds d t1 p2)⟩
theorem de_call {pre : List Dt → Prop} {f : List Dt → Dt} {ds : List Dt} {E : XK} (ha : Ds' c tr δ (· = ds)) (hp : pre ds) : De c (tCall (spD pre fun ds d => d = f ds) [] E tr) δ (f ds) :=
  dn_call ha (fun _ e => by rw [e]; exact hp) fun _ _ e h => by rw [h, e]
/-- the start of a def's body that keeps such a promise -/
theorem Dqs.start {G H : Hp} (s : Same G H) (N : List Str) : ∀ {vs : List V} {ds : List Dt}, Dqs G vs ds → vs.length ≤ N.length → Ec ⟨Bx.pure, G, H⟩ G H (L2.start N vs) (ds.map Sl.dat ++ List.replicate (N.length - ds.length) .un) := fun {vs ds} h hl => by
  have hlen := h.length
  refine ⟨trivial, Gx.refl s trivial, ?_, fun i x hx => ?_, fun i k x y p hx hy ox oy => ?_⟩
  · show (L2.start N vs).length = _
    simp [L2.start, hlen]
  · by_cases hi : i < ds.length
    · rw [List.getElem?_append_left (by simpa using hi), List.getElem?_map, List.getElem?_eq_getElem hi] at hx
      have := Option.some.inj hx
      subst this
      obtain ⟨v, hv, dv⟩ := h.get (List.getElem?_eq_getElem hi)
      refine ⟨v, ?_, dv⟩
      show (vs.map some ++ _)[i]? = _
      rw [List.getElem?_append_left (by simpa [hlen] using hi), List.getElem?_map, hv]
      rfl
    · rw [List.getElem?_append_right (by simpa using Nat.le_of_not_lt hi)] at hx
      have := List.mem_of_getElem? hx
      rw [List.eq_of_mem_replicate this]
      trivial
  · exfalso
    by_cases hi : i < ds.length
    · rw [List.getElem?_append_left (by simpa using hi), List.getElem?_map, List.getElem?_eq_getElem hi] at hx
      have := Option.some.inj hx
      subst this
      cases ox
    · rw [List.getElem?_append_right (by simpa using Nat.le_of_not_lt hi)] at hx
      have := List.mem_of_getElem? hx
      rw [List.eq_of_mem_replicate this] at ox
      cases ox
/-- from what a body comes to, to what its def promises -/
theorem ok_body {pre : List Dt → Prop} {post : List Dt → Dt → Prop} {N : List Str} {vs : List V} {H : Hp} {Q : VK} {E : XK} {ts : TS} (h : spD pre post vs H Q E) (hl : vs.length ≤ N.length)
    (k : ∀ (c : Bs) (ds : List Dt), pre ds → ds.length = vs.length → c.b = Bx.pure → Ds c ts (ds.map Sl.dat ++ List.replicate (N.length - ds.length) .un) { N := fun _ => post ds .non, R := post ds }) :
    ts { nx := fun _ H' => Q .non H', rt := Q } (L2.start N vs) H := by
  obtain ⟨G, ds, s, d, pr, q⟩ := h
  exact k ⟨Bx.pure, G, H⟩ ds pr d.length.symm rfl _ _ G H (d.start s N hl) (fun δ' σ' G' H' _ e n => q _ _ G' H' e.gx .non n) (fun v d G' H' g dq r => q v d G' H' g dq r) (fun _ _ _ _ _ _ z => z.elim) fun _ _ _ _ _ _ z => z.elim
end
end Zd
namespace Zd
open PySem L2 StX
section
variable {c : Bs} {δ : Fe} {te ta tb : TE} {tt tu : TT} {tr : TA} {P R T : Dt → Prop}
/-- a def whose arguments stand for A a, a of a type of one's own: it gives data of which post a holds, and changes nothing -/
def spT {α : Type} (A : α → List Dt) (pre : α → Prop) (post : α → Dt → Prop) : Sp := fun vs H Q _ => ∃ G a, Same G H ∧ Dqs G vs (A a) ∧ pre a ∧ ∀ v d G' H', Gx Bx.pure G H G' H' → Dq G' v d → post a d → Q v H'
theorem dn_callT {α : Type} {A : α → List Dt} {pre : α → Prop} {post : α → Dt → Prop} {E : XK} (a : α) (ha : Ds' c tr δ (· = A a)) (hp : pre a) : Dn c (tCall (spT A pre post) [] E tr) δ (post a) := fun σ G H e Q q =>
  ha σ G H e _ fun vs ds G1 H1 g1 d1 t1 => ⟨G1, a, g1.gh, by rw [List.append_nil, ← t1]; exact d1, hp, fun v d G2 H2 g2 d2 p2 => q v d G2 H2 (g1.trans e.jj (g2.of_pure g1.jj)) d2 p2⟩
theorem de_callT {α : Type} {A : α → List Dt} {pre : α → Prop} {f : α → Dt} {E : XK} (a : α) (ha : Ds' c tr δ (· = A a)) (hp : pre a) : De c (tCall (spT A pre fun a d => d = f a) [] E tr) δ (f a) := dn_callT a ha hp
theorem spT_len {α : Type} {A : α → List Dt} {pre : α → Prop} {post : α → Dt → Prop} {vs : List V} {H : Hp} {Q : VK} {E : XK} {n : Nat} (hn : ∀ a, (A a).length = n) (h : spT A pre post vs H Q E) : vs.length = n := by
  obtain ⟨G, a, s, d, pr, q⟩ := h
  rw [d.length, hn]
theorem ok_bodyT {α : Type} {A : α → List Dt} {pre : α → Prop} {post : α → Dt → Prop} {N : List Str} {vs : List V} {H : Hp} {Q : VK} {E : XK} {ts : TS} (δ : α → Fe) (h : spT A pre post vs H Q E) (hl : ∀ a, (A a).length ≤ N.length) (hδ : ∀ a, (A a).map Sl.dat ++ List.replicate (N.length - (A a).length) .un = δ a)
    (k : ∀ (c : Bs) (a : α), c.b = Bx.pure → pre a → Ds c ts (δ a) { N := fun _ => post a .non, R := post a }) :
    ts { nx := fun _ H' => Q .non H', rt := Q } (L2.start N vs) H := by
  obtain ⟨G, a, s, d, pr, q⟩ := h
  have e := d.start s N (by rw [d.length]; exact hl a)
  rw [hδ] at e
  exact k ⟨Bx.pure, G, H⟩ a rfl pr _ _ G H e (fun δ' σ' G' H' _ e n => q _ _ G' H' e.gx .non n) (fun v d G' H' g dq r => q v d G' H' g dq r) (fun _ _ _ _ _ _ z => z.elim) fun _ _ _ _ _ _ z => z.elim
end
/-- a def of the text: where it stands, and how its arguments bind -/
structure Kn (K : PySem.W.Frag) (mg : Str → Option Value) (nm : Str) (st : Stmt) (ps : List Str) (f : Addr) (fd : FuncData) : Prop where
  g : mg nm = some (.ref f)
  F : Fun K nm nm st f fd
  b : Binds K fd ps []
end Zd
/-! ### rules that name the written part, with its name told (within a block the context's own field would hang on the block's letters) -/
namespace Zd
open PySem L2 StX
section
variable {X : Cx} {K : PySem.W.Frag} {tg : Expr}
theorem pi_listK (hK : X.K = K) {l : Expr} {tl : TE} (hl : PE X l tl) : PI X tg l (iList K tl) := by subst hK; exact pi_list hl
theorem pi_tupK (hK : X.K = K) {l : Expr} {tl : TE} (hl : PE X l tl) : PI X tg l (iTup K tl) := by subst hK; exact pi_tup hl
theorem ix_listK (hK : X.K = K) : IxR X (rIxL K) := by subst hK; exact ix_list
theorem ix_tupK (hK : X.K = K) : IxR X (rIxT K) := by subst hK; exact ix_tup
theorem sl_listK (hK : X.K = K) : SlR X (rSlL K) := by subst hK; exact sl_list
theorem sl_tupK (hK : X.K = K) : SlR X (rSlT K) := by subst hK; exact sl_tup
theorem op_in_seqK (hK : X.K = K) : OpR X (compareOp .In) (rIn K false) := by subst hK; exact op_in_seq
theorem op_notIn_seqK (hK : X.K = K) : OpR X (compareOp .NotIn) (rIn K true) := by subst hK; exact op_notIn_seq
theorem op_eqDK (hK : X.K = K) (hu : X.A.units + 64 < cLine) : OpR X (compareOp .Eq) (rEqD K) := by subst hK; exact op_eqD hu
theorem op_neDK (hK : X.K = K) (hu : X.A.units + 64 < cLine) : OpR X (compareOp .NotEq) (rNeD K) := by subst hK; exact op_neD hu
theorem op_catTK (hK : X.K = K) : OpR X (binaryOp .Add) (rCatT K) := by subst hK; exact op_catT
def rLen (K : PySem.W.Frag) : List V → Hp → VK → Prop := fun xs H Q => ∃ x n, xs = [x] ∧ LenV K x H n ∧ Q (.int n) H
theorem call_lenK (hK : X.K = K) : CallR X (.builtin "len") (rLen K) := by subst hK; exact call_len
def rListOf (K : PySem.W.Frag) : List V → Hp → VK → Prop := fun xs H Q => ∃ p ys, xs = [.ref p] ∧ (SqL K H p ys ∨ SqT K H p ys) ∧ ∀ l, H l = none → Q (.ref l) (upd H l (.lst ys))
theorem call_list_ofK (hK : X.K = K) : CallR X (.type "list") (rListOf K) := by subst hK; exact call_list_of
def rTupOf (K : PySem.W.Frag) : List V → Hp → VK → Prop := fun xs H Q => ∃ p ys, xs = [.ref p] ∧ ((SqL K H p ys ∧ ∀ l, H l = none → Q (.ref l) (upd H l (.tup ys))) ∨ (SqT K H p ys ∧ Q (.ref p) H))
theorem call_tuple_ofK (hK : X.K = K) : CallR X (.type "tuple") (rTupOf K) := by subst hK; exact call_tuple_of
theorem pg_tupK (hK : X.K = K) {es : List Expr} {k : Nat} {t : TGs} {n : Nat} {pos : Pos} (hc : X.calm = true) (h : PGs X es t)
    (hn : (assignEach es X.env).length = n := by rfl) (hst : (assignEach es X.env).findIdx? (·.1) = none := by rfl) : PG X (.Tuple es k pos) (gTup K n t) := by subst hK; exact pg_tup hc h hn hst
theorem pa_starK (hK : X.K = K) {e : Expr} {es : List Expr} {te : TE} {t : TA} {p : Pos} (he : PE X e te) (hr : PA X es t) (hs : starEach (.Starred e p :: es) X.env = (true, eval e X.env) :: starEach es X.env := by rfl) : PA X (.Starred e p :: es) (tStar K te t) := by subst hK; exact pa_star he hr hs
theorem pe_bmK (hK : X.K = K) {o e : Expr} {es : List Expr} {name : Str} {T id : String} {r : V → List V → Hp → VK → Prop} {to : TE} {t : TA} {apos cpos : Pos} (pa : PlainAttrs T) (slot : Slot T name id) (hty : typeOf (.builtin id) = pure (.type "method_descriptor")) (hm : MtR X id r) (ho : PE X o to) (ha : PA X (e :: es) t)
    (h : PE X (.Call (.Attribute o name apos) (e :: es) [] cpos) (tBM X.K T r to t)) : PE X (.Call (.Attribute o name apos) (e :: es) [] cpos) (tBM K T r to t) := by subst hK; exact h
def rIsiK' (K : PySem.W.Frag) : List V → Hp → VK → Prop := rIsi K
theorem call_isiK' (hK : X.K = K) : CallR X (.builtin "isinstance") (rIsi K) := by subst hK; exact call_isi
def iEnumK := iEnum
theorem pi_enumK (hK : X.K = K) {e : Expr} {ta : TA} {p pos tpos : Pos} {elts : List Expr} {kk : Nat} (hg : Gl X "enumerate") (hm : X.mg "enumerate" = none) (ha : PA X [e] ta) (hs : starEach [e] X.env = [(false, eval e X.env)] := by rfl) :
    PI X (.Tuple elts kk tpos) (.Call (.Name "enumerate" p) [e] [] pos) (iEnum K ta) := by subst hK; exact pi_enum hg hm ha hs
end
section
variable {c : Bs} {δ : Fe} {te ta tb : TE} {K : PySem.W.Frag}
theorem de_lenLK {ds : List Dt} (h : De c ta δ (.lst ds)) : De c (tCB (rLen K) (tCons ta tNil)) δ (.int ds.length) := de_lenL h
theorem de_lenTK {ds : List Dt} (h : De c ta δ (.tup ds)) : De c (tCB (rLen K) (tCons ta tNil)) δ (.int ds.length) := de_lenT h
theorem dl_listOfK {xs : List Dt} (h : De c te δ (.lst xs)) : Dl c (tCB (rListOf K) (tCons te tNil)) δ (· = xs) := dl_listOf h
theorem de_tupleOfLK {xs : List Dt} (h : De c te δ (.lst xs)) : De c (tCB (rTupOf K) (tCons te tNil)) δ (.tup xs) := de_tupleOfL h
end
end Zd

set_option Elab.async false
set_option maxRecDepth 100000
set_option maxHeartbeats 4000000
/-! Zd4: a source of draws that is handed on and changed. -/
namespace Zd
open PySem L2 StX
def Src (H : Hp) (p : Addr) : Prop := ∃ x y : Int, H p = some (.lst [.int x, .int y]) ∧ 0 ≤ y ∧ y < 2147483648
def Bx.src (p : Addr) : Bx := ⟨fun a => a = p, fun H => Src H p, fun H H' h k => by
    obtain ⟨x, y, e, q⟩ := h
    exact ⟨x, y, (k p rfl).trans e, q⟩, fun H a h e => by
    obtain ⟨x, y, e', _⟩ := h
    rw [e, e']; simp, fun H a xs h e z => by
    obtain ⟨x, y, e', _⟩ := h
    rw [e, e'] at z; cases z⟩
def spS {α : Type} (A : α → List Dt) (pre : α → Prop) (post : α → Dt → Prop) : Sp := fun vs H Q _ => ∃ p G a us, vs = .ref p :: us ∧ Same G H ∧ G p = none ∧ Src H p ∧ Dqs G us (A a) ∧ pre a ∧
  ∀ v d G' H', Gx (Bx.src p) G H G' H' → Dq G' v d → post a d → Q v H'
/-- the body draws from p -/
structure SrcC (c : Bs) (p : Addr) : Prop where
  b : c.b = Bx.src p
  g : c.G0 p = none
section
variable {c : Bs} {δ : Fe} {te ta tb : TE} {tr : TA} {p : Addr}
theorem SrcC.free {G H : Hp} {σ : L2.St} (S : SrcC c p) (e : Ec c G H σ δ) : G p = none := by
  cases k : G p with
  | none => rfl
  | some o =>
    rcases e.gx.nw p (by rw [k]; simp) with z | z
    · exact absurd S.g z
    · have j := e.j0
      rw [S.b] at j
      obtain ⟨x, y, e', _⟩ := j
      rw [e'] at z
      rcases z with z | ⟨_, z⟩ <;> cases z
theorem dn_callS {α : Type} {A : α → List Dt} {pre : α → Prop} {post : α → Dt → Prop} {E : XK} {i : Nat} {P : List Dt → Prop} {T : Dt → Prop} (S : SrcC c p) (hi : δ[i]? = some (.raw (.ref p))) (ha : Ds' c tr δ P) (hp : ∀ ds, P ds → ∃ a, ds = A a ∧ pre a ∧ ∀ d, post a d → T d) :
    Dn c (tCall (spS A pre post) [] E (tCons (tVar i) tr)) δ T := fun σ G H e Q q => by
  refine ⟨.ref p, e.sl i _ hi, ?_⟩
  refine ha σ G H e _ fun vs ds G1 H1 g1 d1 t1 => ?_
  obtain ⟨a, rfl, pr, po⟩ := hp ds t1
  have e1 := e.up g1
  have j := e1.jj
  rw [S.b] at j
  refine ⟨p, G1, a, vs, by rw [List.append_nil], e1.same, S.free e1, j, d1, pr, fun v d G2 H2 g2 d2 p2 => ?_⟩
  rw [← S.b] at g2
  exact q v d G2 H2 (g1.trans e.jj g2) d2 (po d p2)
theorem spS_len {α : Type} {A : α → List Dt} {pre : α → Prop} {post : α → Dt → Prop} {vs : List V} {H : Hp} {Q : VK} {E : XK} {n : Nat} (hn : ∀ a, (A a).length = n) (h : spS A pre post vs H Q E) : vs.length = n + 1 := by
  obtain ⟨p, G, a, us, rfl, s, _, _, d, pr, q⟩ := h
  rw [List.length_cons, d.length, hn]
theorem Dqs.startS {G H : Hp} (s : Same G H) (n : G p = none) (j : Src H p) (N : List Str) : ∀ {us : List V} {ds : List Dt}, Dqs G us ds → us.length + 1 ≤ N.length →
    Ec ⟨Bx.src p, G, H⟩ G H (L2.start N (.ref p :: us)) (.raw (.ref p) :: ds.map Sl.dat ++ List.replicate (N.length - (ds.length + 1)) .un) := fun {us ds} h hl => by
  have hlen := h.length
  have noown : ∀ (i : Nat) (x : Sl), (Sl.raw (.ref p) :: ds.map Sl.dat ++ List.replicate (N.length - (ds.length + 1)) .un)[i]? = some x → x.owns = false := by
    intro i x hx
    have hm := List.mem_of_getElem? hx
    rcases List.mem_append.mp hm with hm | hm
    · rcases List.mem_cons.mp hm with rfl | hm
      · rfl
      · obtain ⟨d, _, rfl⟩ := List.mem_map.mp hm
        rfl
    · rw [List.eq_of_mem_replicate hm]; rfl
  refine ⟨j, Gx.refl s j, ?_, fun i x hx => ?_, fun i k x y q hx hy ox oy => by rw [noown i x hx] at ox; cases ox⟩
  · show (L2.start N (.ref p :: us)).length = _
    simp [L2.start, hlen]
  · cases i with
    | zero =>
      have := Option.some.inj hx
      subst this
      rfl
    | succ i =>
      have hx' : (ds.map Sl.dat ++ List.replicate (N.length - (ds.length + 1)) .un)[i]? = some x := hx
      by_cases hi : i < ds.length
      · rw [List.getElem?_append_left (by simpa using hi), List.getElem?_map, List.getElem?_eq_getElem hi] at hx'
        have := Option.some.inj hx'
        subst this
        obtain ⟨v, hv, dv⟩ := h.get (List.getElem?_eq_getElem hi)
        refine ⟨v, ?_, dv⟩
        show (us.map some ++ _)[i]? = _
        rw [List.getElem?_append_left (by simpa [hlen] using hi), List.getElem?_map, hv]
        rfl
      · rw [List.getElem?_append_right (by simpa using Nat.le_of_not_lt hi)] at hx'
        rw [List.eq_of_mem_replicate (List.mem_of_getElem? hx')]
        trivial
theorem ok_bodyS {α : Type} {A : α → List Dt} {pre : α → Prop} {post : α → Dt → Prop} {N : List Str} {vs : List V} {H : Hp} {Q : VK} {E : XK} {ts : TS} (δ : Addr → α → Fe) (h : spS A pre post vs H Q E) (hl : ∀ a, (A a).length + 1 ≤ N.length)
    (hδ : ∀ p a, .raw (.ref p) :: (A a).map Sl.dat ++ List.replicate (N.length - ((A a).length + 1)) .un = δ p a)
    (k : ∀ (c : Bs) (p : Addr) (a : α), SrcC c p → pre a → Ds c ts (δ p a) { N := fun _ => post a .non, R := post a }) :
    ts { nx := fun _ H' => Q .non H', rt := Q } (L2.start N vs) H := by
  obtain ⟨p, G, a, us, rfl, s, n, j, d, pr, q⟩ := h
  have e := d.startS s n j N (by rw [d.length]; exact hl a)
  rw [hδ] at e
  exact k ⟨Bx.src p, G, H⟩ p a ⟨rfl, n⟩ pr _ _ G H e (fun δ' σ' G' H' _ e n => q _ _ G' H' e.gx .non n) (fun v d G' H' g dq r => q v d G' H' g dq r) (fun _ _ _ _ _ _ z => z.elim) fun _ _ _ _ _ _ z => z.elim
end
/-- a draw: below m, the source's two ints are others behind it -/
def spPick : Sp := fun vs H Q _ => ∃ (p : Addr) (x y m : Int), vs = [.ref p, .int m] ∧ H p = some (.lst [.int x, .int y]) ∧ 0 ≤ y ∧ y < 2147483648 ∧ 0 < m ∧ m < 1000000000 ∧
  ∀ x' y' r : Int, 0 ≤ y' → y' < 2147483648 → 0 ≤ r → r < m → Q (.int r) (upd H p (.lst [.int x', .int y']))
abbrev spPickS : Sp := spS (fun m : Int => [.int m]) (fun m => 0 < m ∧ m < 1000000000) fun m d => ∃ r : Int, d = .int r ∧ 0 ≤ r ∧ r < m
theorem pick_S (vs : List V) (H : Hp) (Q : VK) (E : XK) (h : spPickS vs H Q E) : spPick vs H Q E := by
  obtain ⟨p, G, m, us, rfl, s, n, ⟨x, y, e, y0, y1⟩, d, ⟨m0, m1⟩, q⟩ := h
  cases d with
  | cons d1 d2 =>
    cases d2; cases d1
    refine ⟨p, x, y, m, rfl, e, y0, y1, m0, m1, fun x' y' r a0 a1 r0 r1 => ?_⟩
    refine q (.int r) (.int r) G _ ⟨Same.refl G, fun a o na ea => ?_, fun a o ea => ?_, fun _ z => .inl z, ⟨x', y', upd_same, a0, a1⟩⟩ (.int r) ⟨r, rfl, r0, r1⟩
    · rw [upd_ne (fun z => na z)]; exact ea
    · rw [upd_ne (ne_of_none ea n)]; exact s a o ea
end Zd

set_option Elab.async false
set_option maxRecDepth 100000
set_option maxHeartbeats 8000000
/-! Zd5: set(xs) of a list of ints, len of a set, sorted of it. -/
namespace Zd
open PySem PySem.Spec PyProof.Rows L2
/-- the empty set as it is made -/
abbrev o0 (w : World) : Obj := { cls := .type "set", dict := none, data := .set #[] 0 (.fresh 0 0 (!w.params.followText "set-order")) }
section
variable {P : Program} {w : World} {A : Around} {E : Value → Shared → Prop} {s : Shared}
theorem set_of_lst {l : Addr} {xs : Array Value} (ns : List Int) {Q : Value → Shared → Prop} (hh : A.handled = none) (hl : s.heap.IsList l xs) (hx : IntsAre xs.toList ns) (hb : ns.length + 1 < scanBound)
    (hQ : ∀ (h' : Heap) (tk c : Nat), SetR w h' s.heap.objs.size (fun j => decide (j ∈ ns)) c → c ≤ ns.length → (∀ b o, s.heap.get? b = some o → h'.get? b = some o) → Q (.ref s.heap.objs.size) { s with heap := h', toks := tk }) :
    wpAny (model P w) A (call (.type "set") [.ref l]) Q E s := by
  have lx : xs.size = ns.length := by have q := hx.length; rwa [Array.length_toList] at q
  obtain ⟨_, _, hmro⟩ := F.called_set.mro
  have t1 := F.called_set.made
  have t2 := F.called_set.sub
  have t3 := F.called_set.notType
  have t4 := F.called_set.canCreate
  have t5 := F.typeCall_set_1 (.ref l)
  refine wpAny_call (codeAny_of_tree (show wpAny _ _ (callAny (.type "set") _) _ _ _ from ?_))
  have t0 := Around.under_plain (A := A) (weight_type_call_type "set" [.ref l] []) rfl
  have qb : (Code.builtin "type.__call__" ⟨.type "set" :: [.ref l], []⟩).quiet = true := Code.quiet_builtin _ (by decide +kernel)
  refine wpAny_pure ⟨qb, codeAny_builtin F.entry_type_call (t0 ▸ ?_)⟩
  repeat (any_goals (first | assumption | wp_step))
  refine codeAny_mono (code_set_led1 (.ref l) (E := E) (Q₁ := fun v z => v = .ref s.heap.objs.size ∧ z = { s with heap := s.heap.push (o0 w) }) ⟨rfl, rfl⟩) fun r z hr => ?_
  rcases r with e | fl
  · exact hr
  rcases fl with _ | _ | _ | v
  · exact hr.elim
  · exact hr.elim
  · exact hr.elim
  obtain ⟨rfl, rfl⟩ := hr
  have gS : (s.heap.push (o0 w)).get? s.heap.objs.size = some (o0 w) := Heap.get?_push_size _ rfl
  have tS : Shared.TypeIs { s with heap := s.heap.push (o0 w) } (.ref s.heap.objs.size) "set" := ⟨_, gS, rfl⟩
  have t6 := F.called_set.init.lookup
  have t7 := F.called_set.init.bind (.ref s.heap.objs.size)
  repeat (any_goals (first | assumption | wp_step))
  refine codeAny_mono (codeAny_call_builtin (R := wants (fun v z => v = .none ∧ ∃ h' tk n, z = { s with heap := h', toks := tk } ∧ SetR w h' s.heap.objs.size (fun j => decide (j ∈ ns)) n ∧ n ≤ ns.length ∧
      ∀ b o, s.heap.get? b = some o → h'.get? b = some o) E) F.called_set.init.plain F.entry_set_init (check_set_init_1 tS ?_)) fun r z hr => ?_
  · obtain ⟨⟨oc, od, oda, osl⟩, hol, hcl, nl, hdl⟩ := hl
    simp only at hcl hdl
    subst hcl hdl
    have gl : (s.heap.push (o0 w)).get? l = some { cls := .type "list", dict := od, data := .seq xs nl, slots := osl } := Heap.get?_push_of_some _ hol
    have t8 := F.sub_list_set
    have t9 := F.sub_list_frozenset
    have ta : (Value.type "list" == Value.type "dict") = false := by decide
    have gL : (s.heap.push (o0 w)).IsList l xs := ⟨_, gl, rfl, nl, rfl⟩
    have ll : l < s.heap.objs.size := Heap.lt_size hol
    unfold Builtin.«set.__init__» noKeywords Builtin.Frozenset.updateFrom
    generalize hPI : pyIter = PI
    wp_walk
    subst hPI
    refine wpAny_pyIter_list gL (wpAny_bind (wpAny_runValue ?_))
    have sz : (s.heap.push (o0 w)).objs.size = s.heap.objs.size + 1 := Heap.size_push ..
    have hA3 : A.in1.in1.in1.handled = none := by simp [hh]
    have nI : l ≠ (s.heap.push (o0 w)).objs.size := by rw [sz]; exact Nat.ne_of_lt (Nat.lt_succ_of_lt ll)
    have nS : s.heap.objs.size ∉ [(s.heap.push (o0 w)).objs.size, l] := by
      rw [sz]
      simp only [List.mem_cons, List.not_mem_nil, or_false, not_or]
      exact ⟨Nat.ne_of_lt (Nat.lt_succ_self _), Nat.ne_of_gt ll⟩
    have vals : ∀ (i : Nat) (v : Value), xs[i]? = some v → ∃ k t, ns[i]? = some k ∧ v = .int k t := by
      intro i v hv
      have hi : i < ns.length := by
        have := (Array.getElem?_eq_some_iff.mp hv).1
        omega
      obtain ⟨t, e⟩ := hx.int_at i v (by rw [Array.getElem?_toList]; exact hv)
      exact ⟨ns[i], t, List.getElem?_eq_getElem hi, by rw [e, List.getD_eq_getElem?_getD, List.getElem?_eq_getElem hi]; rfl⟩
    refine set_update_ints ((Walks.list hA3 _ l nI xs).toS) s.heap.objs.size nS ns lx hb vals (xs.size - 0) 0 _ (by omega) (Nat.zero_le _) ⟨⟨_, Heap.get?_push_size _ rfl, rfl, rfl⟩, gL.push _⟩ ⟨0, Nat.le_refl 0, setR_new_at (Heap.get?_push_of_some _ gS)⟩ ?_
    rintro ⟨h', g', d', tk', os'⟩ n hm hn hS
    obtain rfl : g' = s.gens := hm.gens
    obtain rfl : d' = s.drawn := hm.drawn
    obtain rfl : os' = s.os := hm.os
    refine wpAny_pure (show wpAny _ _ (ret Value.none) _ _ _ from wpAny_pure ⟨rfl, h', tk', n, rfl, hS, by omega, fun b o e => ?_⟩)
    have lb := Heap.lt_size e
    refine hm.heap b o ?_ (Heap.get?_push_of_some _ (Heap.get?_push_of_some _ e))
    rw [sz]
    simp only [List.mem_cons, List.not_mem_nil, or_false, not_or]
    exact ⟨Nat.ne_of_lt lb, Nat.ne_of_lt (Nat.lt_succ_of_lt lb)⟩
  · rcases r with e | fl
    · exact hr
    rcases fl with _ | _ | _ | v
    · exact hr.elim
    · exact hr.elim
    · exact hr.elim
    obtain ⟨rfl, h', tk, n, rfl, a1, a2, a3⟩ := hr
    repeat (any_goals (first | assumption | wp_step))
    exact hQ _ _ _ a1 a2 a3
end
end Zd

set_option Elab.async false
set_option maxRecDepth 100000
set_option maxHeartbeats 8000000
/-! Zd6: list(zip(xs, ys)) of a list of texts and a list of anything. -/
namespace Zd
open PySem PySem.Spec PyProof.Rows L2
theorem zip_noLen : typeLookup (.type "zip") "__len__" = pure none := am_miss_of_fast (by decide +kernel)
theorem zip_noHint : typeLookup (.type "zip") "__length_hint__" = pure none := am_miss_of_fast (by decide +kernel)
abbrev lstO (acc : Array Value) (c : Nat) : Obj := { cls := .type "list", dict := none, data := .seq acc c, slots := #[] }
section
variable {P : Program} {w : World} {A : Around} {E : Value → Shared → Prop} {s : Shared} {R : Result → Shared → Prop}
/-- the loop of list.extend over an iterator at I that is told by St: how many it has given, what it gave, the heap -/
theorem ext_loop {S I : Addr} {n : Nat} {res : Value} {St : Nat → List Value → Heap → Prop} (hn : n ≤ sizeLine)
    (hItem : ∀ (i : Nat) (l : List Value) (s : Shared) (Q : Option Value → Shared → Prop) (E : Value → Shared → Prop), i < n → St i l s.heap →
      (∀ v h', St (i + 1) (l ++ [v]) h' → h'.get? S = s.heap.get? S → Q (some v) { s with heap := h' }) → wpAny (model P w) A.in1 (pyNext (.ref I)) Q E s)
    (hPush : ∀ (i : Nat) (l : List Value) (h h' : Heap), St i l h → (∀ b o, b ≠ S → h.get? b = some o → h'.get? b = some o) → (∃ o, h'.get? S = some o) → St i l h')
    (hDone : ∀ (l : List Value) (h : Heap) (Q : Option Value → Shared → Prop) (E : Value → Shared → Prop) (acc : Array Value) (c : Nat), St n l h → acc.toList = l → h.get? S = some (lstO acc c) →
      (∀ h', R (.ok (.ret res)) { s with heap := h' } → Q none { s with heap := h' }) → wpAny (model P w) A.in1 (pyNext (.ref I)) Q E { s with heap := h }) :
    ∀ (k i : Nat) (h : Heap) (acc : Array Value) (c : Nat), n - i = k → i ≤ n → acc.size = i → St i acc.toList h → h.get? S = some (lstO acc c) →
      codeAny (model P w) A (.builtin "list.extend.loop" ⟨[.ref S, .ref I, res], []⟩) R { s with heap := h } := by
  intro k
  induction k with
  | zero =>
    intro i h acc c hk hi ha hst hS
    have e : i = n := by omega
    subst e
    refine codeAny_builtin PySem.F.entry_extend_loop ?_
    rw [Around.under_plainId PySem.F.plain_extend_loop _]
    show wpAny _ A.in1 (pyNext (.ref I) >>= _) _ _ _
    exact wpAny_bind (hDone acc.toList h _ _ acc c hst rfl hS fun h' r => wpAny_pure r)
  | succ k ih =>
    intro i h acc c hk hi ha hst hS
    refine codeAny_builtin PySem.F.entry_extend_loop ?_
    rw [Around.under_plainId PySem.F.plain_extend_loop _]
    show wpAny _ A.in1 (pyNext (.ref I) >>= _) _ _ _
    refine wpAny_bind (hItem i acc.toList { s with heap := h } _ _ (by omega) hst fun v h' st' eS => ?_)
    have eS : h'.get? S = some (lstO acc c) := eS.trans hS
    show wpAny _ A.in1 (updateSeq S (·.push v) >>= _) _ _ _
    refine wpAny_bind ?_
    refine wpAny_updateSeq eS rfl (wpAny_pure ⟨plainId_quiet PySem.F.plain_extend_loop _, ih (i + 1) (h'.update S (Obj.mapSeq (·.push v))) (acc.push v) _ (by omega) (by omega) (by rw [Array.size_push, ha]) ?_ (Heap.get?_update_self _ eS rfl)⟩) (by rw [ha]; omega) (by show (acc.push v).size ≤ sizeLine + 1; rw [Array.size_push, ha]; omega)
    rw [Array.toList_push]
    exact hPush _ _ _ _ st' (fun b o hb e => (Heap.get?_update_other _ _ (Ne.symm hb)).trans e) ⟨_, Heap.get?_update_self _ eS rfl⟩
/-- a zip over the lists at l1, l2 that has given i pairs, all of them kept, above S -/
structure ZSt (S z TI TO i1 i2 l1 l2 : Addr) (xs ys : Array Value) (h0 : Heap) (i : Nat) (l : List Value) (h : Heap) : Prop where
  ti : IsPair h TI (.ref i1) (.ref i2)
  a1 : h.IsListIter i1 l1 i
  a2 : h.IsListIter i2 l2 i
  b1 : h.IsList l1 xs
  b2 : h.IsList l2 ys
  zs : (i = 0 ∧ IsZip h z TI TO .none ∧ ∃ a b, IsPair h TO a b) ∨ ∃ T f oT, IsZipHeld h z TI TO T f ∧ h.get? T = some oT ∧ S < T
  there : ∃ o, h.get? S = some o
  out : ∃ as : List Addr, l = as.map Value.ref ∧ as.length = i ∧ as.Pairwise (· < ·) ∧ (∀ a ∈ as, S < a) ∧ ∀ (j : Nat) (a : Addr), as[j]? = some a → ∃ x y, xs[j]? = some x ∧ ys[j]? = some y ∧ IsPair h a x y
  old : ∀ b o, b ≠ S → b ≠ z → b ≠ TO → b ≠ i1 → b ≠ i2 → h0.get? b = some o → h.get? b = some o
/-- the zip's own objects lie below S -/
structure ZLow (S z TI TO i1 i2 l1 l2 : Addr) : Prop where
  z : z < S
  ti : TI < S
  to : TO < S
  i1 : i1 < S
  i2 : i2 < S
  l1 : l1 < S
  l2 : l2 < S
variable {S z TI TO i1 i2 l1 l2 : Addr} {xs ys : Array Value} {h0 : Heap}
theorem ZSt.push (L : ZLow S z TI TO i1 i2 l1 l2) {i : Nat} {l : List Value} {h h' : Heap} (x : ZSt S z TI TO i1 i2 l1 l2 xs ys h0 i l h) (k : ∀ b o, b ≠ S → h.get? b = some o → h'.get? b = some o) (hz : ∃ o, h'.get? S = some o) : ZSt S z TI TO i1 i2 l1 l2 xs ys h0 i l h' where
  ti := k _ _ (Nat.ne_of_lt L.ti) x.ti
  a1 := let ⟨o, e, r⟩ := x.a1; ⟨o, k _ _ (Nat.ne_of_lt L.i1) e, r⟩
  a2 := let ⟨o, e, r⟩ := x.a2; ⟨o, k _ _ (Nat.ne_of_lt L.i2) e, r⟩
  b1 := let ⟨o, e, r⟩ := x.b1; ⟨o, k _ _ (Nat.ne_of_lt L.l1) e, r⟩
  b2 := let ⟨o, e, r⟩ := x.b2; ⟨o, k _ _ (Nat.ne_of_lt L.l2) e, r⟩
  zs := by
    rcases x.zs with ⟨e, e1, a, b, e2⟩ | ⟨T, f, oT, e1, e2, e3⟩
    · exact .inl ⟨e, k _ _ (Nat.ne_of_lt L.z) e1, a, b, k _ _ (Nat.ne_of_lt L.to) e2⟩
    · exact .inr ⟨T, f, oT, k _ _ (Nat.ne_of_lt L.z) e1, k _ _ (Nat.ne_of_gt e3) e2, e3⟩
  there := hz
  out := by
    obtain ⟨as, e1, e2, e3, e4, e5⟩ := x.out
    refine ⟨as, e1, e2, e3, e4, fun j a hj => ?_⟩
    obtain ⟨u, v, c1, c2, c3⟩ := e5 j a hj
    exact ⟨u, v, c1, c2, k _ _ (Nat.ne_of_gt (e4 a (List.mem_of_getElem? hj))) c3⟩
  old := fun b o n1 n2 n3 n4 n5 e => k b o n1 (x.old b o n1 n2 n3 n4 n5 e)
theorem ZSt.item (D : ZipApart z TI TO i1 i2 l1 l2) (L : ZLow S z TI TO i1 i2 l1 l2) {i : Nat} {l : List Value} {Q : Option Value → Shared → Prop} (x : ZSt S z TI TO i1 i2 l1 l2 xs ys h0 i l s.heap) (h1 : i < xs.size) (h2 : i < ys.size)
    (q : ∀ v h', ZSt S z TI TO i1 i2 l1 l2 xs ys h0 (i + 1) (l ++ [v]) h' → h'.get? S = s.heap.get? S → Q (some v) { s with heap := h' }) : wpAny (model P w) A (pyNext (.ref z)) Q E s := by
  obtain ⟨oS, hoS⟩ := x.there
  have lS : S < s.heap.objs.size := Heap.lt_size hoS
  have fin : ∀ h' : Heap, (∃ T f oT, IsZipHeld h' z TI TO T f ∧ h'.get? T = some oT ∧ S < T) → h'.IsListIter i1 l1 (i + 1) → h'.IsListIter i2 l2 (i + 1) → IsPair h' s.heap.objs.size xs[i] ys[i] → h'.objs.size = s.heap.objs.size + 1 →
      (∀ c o, c ≠ z → c ≠ TO → c ≠ i1 → c ≠ i2 → s.heap.get? c = some o → h'.get? c = some o) → Q (some (.ref s.heap.objs.size)) { s with heap := h' } := by
    intro h' hf c1 c2 c3 c4 kp
    obtain ⟨as, e1, e2, e3, e4, e5⟩ := x.out
    have kpS : ∀ (c : Addr) (o : Obj), S < c → s.heap.get? c = some o → h'.get? c = some o := fun c o hc e => kp c o (Nat.ne_of_gt (Nat.lt_trans L.z hc)) (Nat.ne_of_gt (Nat.lt_trans L.to hc)) (Nat.ne_of_gt (Nat.lt_trans L.i1 hc)) (Nat.ne_of_gt (Nat.lt_trans L.i2 hc)) e
    refine q _ h' ⟨kp _ _ D.TIz D.TITO D.TIi1 D.TIi2 x.ti, c1, c2, ?_, ?_, .inr hf, ⟨oS, kp S oS (Nat.ne_of_gt L.z) (Nat.ne_of_gt L.to) (Nat.ne_of_gt L.i1) (Nat.ne_of_gt L.i2) hoS⟩, ⟨as ++ [s.heap.objs.size], ?_, ?_, ?_, ?_, ?_⟩, fun b o n1 n2 n3 n4 n5 e => kp b o n2 n3 n4 n5 (x.old b o n1 n2 n3 n4 n5 e)⟩ ?_
    · obtain ⟨o, e, r⟩ := x.b1
      exact ⟨o, kp _ _ D.l1z D.l1TO D.l1i1 D.l1i2 e, r⟩
    · obtain ⟨o, e, r⟩ := x.b2
      exact ⟨o, kp _ _ D.l2z D.l2TO D.l2i1 D.l2i2 e, r⟩
    · rw [e1, List.map_append]; rfl
    · rw [List.length_append, e2]; rfl
    · refine List.pairwise_append.mpr ⟨e3, List.pairwise_singleton _ _, fun a ha b hb => ?_⟩
      rw [List.mem_singleton.mp hb]
      obtain ⟨j, hj⟩ := List.mem_iff_getElem?.mp ha
      obtain ⟨_, _, _, _, e⟩ := e5 j a hj
      exact Heap.lt_size e
    · intro a ha
      rcases List.mem_append.mp ha with ha | ha
      · exact e4 a ha
      · rw [List.mem_singleton.mp ha]; exact lS
    · intro j a hj
      by_cases hlt : j < as.length
      · rw [List.getElem?_append_left hlt] at hj
        obtain ⟨u, v, d1, d2, d3⟩ := e5 j a hj
        exact ⟨u, v, d1, d2, kpS a _ (e4 a (List.mem_of_getElem? hj)) d3⟩
      · have hlen := (List.getElem?_eq_some_iff.mp hj).1
        rw [List.length_append, List.length_singleton] at hlen
        have ej : j = i := by omega
        subst ej
        rw [List.getElem?_append_right (by omega), e2, Nat.sub_self] at hj
        have := Option.some.inj hj
        subst this
        exact ⟨_, _, Array.getElem?_eq_getElem h1, Array.getElem?_eq_getElem h2, c3⟩
    · rw [hoS]
      exact kp S oS (Nat.ne_of_gt L.z) (Nat.ne_of_gt L.to) (Nat.ne_of_gt L.i1) (Nat.ne_of_gt L.i2) hoS
  rcases x.zs with ⟨e, e1, a, b, e2⟩ | ⟨T, f, oT, e1, e2, e3⟩
  · exact wpAny_pyNext_zip_item D e1 x.ti e2 x.a1 x.a2 x.b1 x.b2 (Array.getElem?_eq_getElem h1) (Array.getElem?_eq_getElem h2) fun h' a1 a2 a3 a4 a5 a6 a7 => fin h' ⟨_, false, _, a1, a5, lS⟩ a3 a4 a5 a6 a7
  · exact wpAny_pyNext_zip_item_held D e1 e2 x.ti x.a1 x.a2 x.b1 x.b2 (Array.getElem?_eq_getElem h1) (Array.getElem?_eq_getElem h2) fun h' a1 a3 a4 a5 a6 a7 => fin h' ⟨T, true, oT, a1, a7 T oT (Nat.ne_of_gt (Nat.lt_trans L.z e3)) (Nat.ne_of_gt (Nat.lt_trans L.i1 e3)) (Nat.ne_of_gt (Nat.lt_trans L.i2 e3)) e2, e3⟩ a3 a4 a5 a6 fun c o n1 _ n3 n4 e => a7 c o n1 n3 n4 e
theorem ZSt.done (hh : A.handled = none) (D : ZipApart z TI TO i1 i2 l1 l2) (L : ZLow S z TI TO i1 i2 l1 l2) {i : Nat} {l : List Value} {Q : Option Value → Shared → Prop} (x : ZSt S z TI TO i1 i2 l1 l2 xs ys h0 i l s.heap) (h1 : xs.size ≤ i ∨ ys.size ≤ i)
    (q : ∀ h', (∀ b o, b ≠ z → b ≠ TO → b ≠ i1 → b ≠ i2 → s.heap.get? b = some o → h'.get? b = some o) → Q none { s with heap := h' }) : wpAny (model P w) A (pyNext (.ref z)) Q E s := by
  have he : xs[i]? = none ∨ ys[i]? = none := h1.imp (fun h => by simp [h]) fun h => by simp [h]
  rcases x.zs with ⟨e, e1, a, b, e2⟩ | ⟨T, f, oT, e1, e2, e3⟩
  · exact wpAny_pyNext_zip_end hh D e1 x.ti e2 x.a1 x.a2 x.b1 x.b2 he q
  · exact wpAny_pyNext_zip_end_held hh D e1 e2 x.ti x.a1 x.a2 x.b1 x.b2 he fun h' k => q h' fun b o n1 _ n3 n4 e => k b o n1 n3 n4 e
/-- list(a zip just made) -/
theorem list_of_zip {n : Nat} {Q : Value → Shared → Prop} (hh : A.handled = none) (D : ZipApart z TI TO i1 i2 l1 l2) (L : ZLow s.heap.objs.size z TI TO i1 i2 l1 l2) (hz : IsZip s.heap z TI TO .none) (hTI : IsPair s.heap TI (.ref i1) (.ref i2)) (hTO : ∃ a b, IsPair s.heap TO a b)
    (a1 : s.heap.IsListIter i1 l1 0) (a2 : s.heap.IsListIter i2 l2 0) (b1 : s.heap.IsList l1 xs) (b2 : s.heap.IsList l2 ys) (n1 : xs.size = n) (n2 : ys.size = n) (hn : n ≤ sizeLine)
    (q : ∀ (h' : Heap) (tk : Nat) (acc : Array Value) (c : Nat) (as : List Addr), (∀ b o, b ≠ z → b ≠ TO → b ≠ i1 → b ≠ i2 → s.heap.get? b = some o → h'.get? b = some o) → h'.get? s.heap.objs.size = some (lstO acc c) → acc.toList = as.map Value.ref → as.length = n → as.Pairwise (· < ·) → (∀ a ∈ as, s.heap.objs.size < a) →
      (∀ (j : Nat) (a : Addr), as[j]? = some a → ∃ x y, xs[j]? = some x ∧ ys[j]? = some y ∧ IsPair h' a x y) → Q (.ref s.heap.objs.size) { s with heap := h', toks := tk }) :
    wpAny (model P w) A (call (.type "list") [.ref z]) Q E s := by
  let S := s.heap.objs.size
  refine callType_codes (Q₁ := fun v t => v = .ref S ∧ t = { s with heap := s.heap.push (lstO #[] 0) }) PySem.F.called_list (PySem.F.typeCall_list_1 _) PySem.F.entry_list_init (code_list_new _ ⟨rfl, rfl⟩) fun v t ht => ?_
  obtain ⟨rfl, rfl⟩ := ht
  have gS : (s.heap.push (lstO #[] 0)).get? S = some (lstO #[] 0) := Heap.get?_push_size _ rfl
  refine ⟨⟨_, gS, rfl⟩, PySem.F.args_list_init_2 _ _, ?_⟩
  show wpAny _ _ (do
    let old ← Builtin.List.listItems (.ref S)
    Builtin.List.listUpdate (.ref S) (fun _ => #[])
    letGo old.toList.reverse
    Builtin.List.listExtendWith (.ref S) (.ref z) .none) _ _ _
  refine wpAny_bind (m := Builtin.List.listItems (.ref S)) ?_
  unfold Builtin.List.listItems
  refine wpAny_bind (wpAny_seqItems gS rfl (wpAny_pure ?_))
  refine wpAny_bind (m := Builtin.List.listUpdate (.ref S) fun _ => #[]) ?_
  show wpAny _ _ (updateSeq S fun _ => #[]) _ _ _
  refine wpAny_updateSeq gS rfl ?_
  have gS1 := Heap.get?_update_self (Obj.mapSeq fun _ => (#[] : Array Value)) gS rfl
  generalize hh1 : (s.heap.push (lstO #[] 0)).update S (Obj.mapSeq fun _ => (#[] : Array Value)) = H1 at gS1 ⊢
  have k1 : ∀ b o, b ≠ S → s.heap.get? b = some o → H1.get? b = some o := fun b o hb e => by
    rw [← hh1]
    exact (Heap.get?_update_other _ _ (Ne.symm hb)).trans (Heap.get?_push_of_some _ e)
  refine wpAny_bind (wpAny_letGo ?_)
  have zS : z ≠ S := Nat.ne_of_lt L.z
  have x1 : ZSt S z TI TO i1 i2 l1 l2 xs ys s.heap 0 [] H1 := {
    ti := k1 _ _ (Nat.ne_of_lt L.ti) hTI
    a1 := let ⟨o, e, r⟩ := a1; ⟨o, k1 _ _ (Nat.ne_of_lt L.i1) e, r⟩
    a2 := let ⟨o, e, r⟩ := a2; ⟨o, k1 _ _ (Nat.ne_of_lt L.i2) e, r⟩
    b1 := let ⟨o, e, r⟩ := b1; ⟨o, k1 _ _ (Nat.ne_of_lt L.l1) e, r⟩
    b2 := let ⟨o, e, r⟩ := b2; ⟨o, k1 _ _ (Nat.ne_of_lt L.l2) e, r⟩
    zs := let ⟨a, b, e⟩ := hTO; .inl ⟨rfl, k1 _ _ zS hz, a, b, k1 _ _ (Nat.ne_of_lt L.to) e⟩
    there := ⟨_, gS1⟩
    out := ⟨[], rfl, rfl, .nil, (fun _ h => nomatch h), fun j _ h => by cases j <;> cases h⟩
    old := fun b o n1 _ _ _ _ e => k1 b o n1 e }
  have ty : Shared.TypeIs { s with heap := H1 } (.ref z) "zip" := ⟨_, k1 _ _ zS hz, rfl⟩
  unfold Builtin.List.listExtendWith
  refine wpAny_bind (wpAny_typeOf (T := "zip") ty ?_)
  have f1 : Builtin.List.listSameRef (.ref S) (.ref z) = false := by simp [Builtin.List.listSameRef, Ne.symm zS]
  have f2 : (Value.type "zip" == Value.type "list") = false := by decide
  have f3 : (Value.type "zip" == Value.type "tuple") = false := by decide
  simp only [f1, f2, f3, Bool.or_false, Bool.false_eq_true, if_false]
  refine wpAny_bind (wpAny_pyIter_zip (k1 _ _ zS hz) ?_)
  refine wpAny_bind (wpAny_holding ?_)
  unfold Builtin.List.listLengthHint
  refine wpAny_bind (wpAny_specialOf ty zip_noLen ?_)
  refine wpAny_bind (wpAny_specialOf ty zip_noHint (wpAny_pure ?_))
  refine wpAny_bind (m := rule "list.extend.makes-room") (wpAny_rule ?_)
  refine wpAny_bind (m := Builtin.List.listTouch (.ref S)) ?_
  show wpAny _ _ (updateSeq S (·.push .none) >>= fun _ => updateSeq S (·.pop)) _ _ _
  refine wpAny_bind (wpAny_updateSeq gS1 rfl ?_)
  have gS2 := Heap.get?_update_self (Obj.mapSeq (·.push Value.none)) gS1 rfl
  refine wpAny_updateSeq (hz := by seq_fits) gS2 rfl ?_
  have gS3 := Heap.get?_update_self (Obj.mapSeq (·.pop)) gS2 rfl
  have k2 : ∀ b o, b ≠ S → H1.get? b = some o → ((H1.update S (Obj.mapSeq (·.push Value.none))).update S (Obj.mapSeq (·.pop))).get? b = some o := fun b o hb e =>
    (Heap.get?_update_other _ _ (Ne.symm hb)).trans ((Heap.get?_update_other _ _ (Ne.symm hb)).trans e)
  have x2 := x1.push L k2 ⟨_, gS3⟩
  have hA : A.in1.in1.handled = none := hh
  refine wpAny_pure ⟨plainId_quiet PySem.F.plain_extend_loop _, ?_⟩
  refine ext_loop (n := n) (St := ZSt S z TI TO i1 i2 l1 l2 xs ys s.heap) hn (fun i l t Q' E' hi x k => x.item D L (by omega) (by omega) k) (fun i l h h' x k e => x.push L k e)
    (fun l h Q' E' acc c x el eS k => x.done (s := { s with heap := h }) hA D L (.inl (by omega)) fun h' kp => k h' ⟨rfl, ?_⟩) n 0 _ #[] _ rfl (Nat.zero_le _) rfl x2 gS3
  obtain ⟨as, e1, e2, e3, e4, e5⟩ := x.out
  have kS : ∀ (b : Addr) (o : Obj), S ≤ b → h.get? b = some o → h'.get? b = some o := fun b o hb e => kp b o (Nat.ne_of_gt (Nat.lt_of_lt_of_le L.z hb)) (Nat.ne_of_gt (Nat.lt_of_lt_of_le L.to hb)) (Nat.ne_of_gt (Nat.lt_of_lt_of_le L.i1 hb)) (Nat.ne_of_gt (Nat.lt_of_lt_of_le L.i2 hb)) e
  refine q h' s.toks acc c as (fun b o m1 m2 m3 m4 e => kp b o m1 m2 m3 m4 (x.old b o (Nat.ne_of_lt (Heap.lt_size e)) m1 m2 m3 m4 e)) (kS S _ (Nat.le_refl _) eS) (el.trans e1) e2 e3 e4 fun j a hj => ?_
  obtain ⟨u, v, d1, d2, d3⟩ := e5 j a hj
  exact ⟨u, v, d1, d2, kS a _ (Nat.le_of_lt (e4 a (List.mem_of_getElem? hj))) d3⟩
end
end Zd

set_option Elab.async false
set_option maxRecDepth 100000
set_option maxHeartbeats 8000000
/-! Zd7: the rules over the layer for set(xs), sorted(set(xs)), len(set(xs)), list(zip(xs, ys)). -/
namespace Zd
open PySem PySem.Spec PyProof.Rows L2
/-- new pairs at their addresses -/
def layT (H : Hp) : List Addr → List (V × V) → Hp
  | a :: as, p :: ps => upd (layT H as ps) a (.tup [p.1, p.2])
  | _, _ => H
theorem layT_off {H : Hp} {b : Addr} : ∀ (as : List Addr) (ps : List (V × V)), b ∉ as → layT H as ps b = H b
  | [], _, _ => rfl
  | _ :: _, [], _ => rfl
  | a :: as, p :: ps, h => by
    rw [List.mem_cons, not_or] at h
    show upd (layT H as ps) a _ b = _
    rw [upd_ne h.1, layT_off as ps h.2]
theorem layT_at {H : Hp} : ∀ (as : List Addr) (ps : List (V × V)), as.Nodup → ∀ (j : Nat) (a : Addr) (p : V × V), as[j]? = some a → ps[j]? = some p → layT H as ps a = some (.tup [p.1, p.2])
  | [], _, _, j, _, _, h, _ => by cases j <;> cases h
  | _ :: _, [], _, j, _, _, _, h => by cases j <;> cases h
  | c :: as, q :: ps, nd, 0, a, p, h1, h2 => by
    have e1 := Option.some.inj h1
    have e2 := Option.some.inj h2
    subst e1 e2
    exact upd_same
  | c :: as, q :: ps, nd, j + 1, a, p, h1, h2 => by
    have h1' : as[j]? = some a := h1
    have nc : a ≠ c := fun e => (List.nodup_cons.mp nd).1 (by rw [← e]; exact List.mem_of_getElem? h1')
    show upd (layT H as ps) c _ a = _
    rw [upd_ne nc]
    exact layT_at as ps (List.nodup_cons.mp nd).2 j a p h1' h2
section
variable {X : Cx} {pins : List (Addr × Obj)} {σ : L2.St} {H : Hp} {s : Shared}
/-- a new list of new pairs -/
theorem pairs_laid {h' : Heap} {tk c : Nat} {S : Addr} {acc : Array Value} {as : List Addr} {ps : List (V × V)} (I : Inv X pins σ H s) (hS0 : s.heap.objs.size ≤ S) (hk : ∀ b o, s.heap.get? b = some o → h'.get? b = some o) (hS : h'.get? S = some (lstO acc c)) (ha : acc.toList = as.map Value.ref)
    (hl : as.length = ps.length) (rise : as.Pairwise (· < ·)) (above : ∀ a ∈ as, S < a) (hz : ps.length ≤ sizeLine) (hp : ∀ (j : Nat) (a : Addr), as[j]? = some a → ∃ p u v, ps[j]? = some p ∧ RelV p.1 u ∧ RelV p.2 v ∧ IsPair h' a u v) :
    Inv X pins σ (layT (upd H S (.lst (as.map V.ref))) as ps) { s with heap := h', toks := tk } := by
  have nS : S ∉ as := fun z => Nat.lt_irrefl _ (above S z)
  have nd : as.Nodup := rise.imp fun h => Nat.ne_of_lt h
  have new : ∀ b, b = S ∨ b ∈ as → H b = none := fun b hb => I.hok.fresh (by
    rcases hb with e | e
    · rw [e]; exact hS0
    · exact Nat.le_trans hS0 (Nat.le_of_lt (above b e)))
  have low : ∀ b o, s.heap.get? b = some o → ¬ (b = S ∨ b ∈ as) := fun b o e z => by
    have := Heap.lt_size e
    rcases z with z | z
    · rw [z] at this; exact Nat.lt_irrefl _ (Nat.lt_of_lt_of_le this hS0)
    · exact Nat.lt_irrefl _ (Nat.lt_trans (Nat.lt_of_lt_of_le this hS0) (above b z))
  have off : ∀ b, ¬ (b = S ∨ b ∈ as) → layT (upd H S (.lst (as.map V.ref))) as ps b = H b := fun b z => by
    rw [not_or] at z
    rw [layT_off as ps z.2, upd_ne z.1]
  have kp : ∀ b u, H b = some u → layT (upd H S (.lst (as.map V.ref))) as ps b = some u := fun b u e => by
    rw [off b fun z => by rw [new b z] at e; cases e]
    exact e
  have u : Un (frs X.stack) [] H (layT (upd H S (.lst (as.map V.ref))) as ps) s.heap h' := {
    keep := fun b o q _ _ _ => hk b o q
    slot := fun b o q _ _ _ => ⟨o.slots, hk b o q⟩
    free := fun b o q n _ => by rw [off b (low b o q)]; exact n
    there := fun b o q _ => ⟨o, hk b o q⟩
    tups := fun b xs q => kp b _ q
    frzs := fun b o u q => kp b _ q
    tbls := fun b ps q => ⟨#[], by rw [kp b _ q]; simp⟩ }
  refine I.call' (ch := []) rfl u (fun b o q => ?_) I.bare fun b z => nomatch z
  by_cases hb : b ∈ as
  · obtain ⟨j, hj⟩ := List.mem_iff_getElem?.mp hb
    obtain ⟨p, x, y, e1, e2, e3, e4⟩ := hp j b hj
    rw [layT_at as ps nd j b p hj e1] at q
    cases q
    exact ⟨by show 2 ≤ sizeLine; decide, [x, y], .cons e2 (.cons e3 .nil), ⟨_, e4, rfl, _, rfl⟩⟩
  by_cases hb2 : b = S
  · subst hb2
    rw [layT_off as ps nS, upd_same] at q
    cases q
    exact ⟨by rw [List.length_map, hl]; exact hz, acc.toList, c, by rw [ha]; exact LiI.vals_refs as, by rw [Array.toArray_toList]; exact hS⟩
  · rw [off b (not_or.mpr ⟨hb2, hb⟩)] at q
    exact (I.hok b o q).stay (fun d v _ y => hk d v y) (fun d y => kp d _ y) fun d xs y => kp d _ y
end
/-- list(zip(a, b)): a list of new pairs -/
def tListZip (K : PySem.W.Frag) (ta : TA) : TE := fun σ H Q => ta σ H fun vs H1 => ∃ (a b : Addr) (xs ys : List V), vs = [.ref a, .ref b] ∧ SqL K H1 a xs ∧ SqL K H1 b ys ∧ xs.length = ys.length ∧ xs.length ≤ sizeLine ∧
  ∀ (p : Addr) (as : List Addr), H1 p = none → (∀ t ∈ as, H1 t = none) → p ∉ as → as.Nodup → as.length = xs.length → Q (.ref p) (layT (upd H1 p (.lst (as.map V.ref))) as (xs.zip ys))
section
variable {X : Cx} {K : PySem.W.Frag}
theorem pe_listZip (hK : X.K = K) {e e2 : Expr} {ta : TA} {p p2 q pos : Pos} (hc : X.calm = true) (hg : Gl X "list") (hm : X.mg "list" = none) (hg2 : Gl X "zip") (hm2 : X.mg "zip" = none) (ha : PA X [e, e2] ta)
    (hs : starEach [e, e2] X.env = (false, eval e X.env) :: starEach [e2] X.env := by rfl) (hpl : (backTo q (starEach [e2] X.env)).any (·.1) = false := by rfl)
    (hs0 : starEach [.Call (.Name "zip" p2) [e, e2] [] q] X.env = (false, eval (.Call (.Name "zip" p2) [e, e2] [] q) X.env) :: starEach [] X.env := by rfl) :
    PE X (.Call (.Name "list" p) [.Call (.Name "zip" p2) [e, e2] [] q] [] pos) (tListZip K ta) := by
  subst hK
  refine ⟨fun pins s σ H Q I h => ?_⟩
  refine wpAny_Call_Name_kw (ld_blt I hg hm PyProof.Rows.boot_list (PyProof.Rows.callWith_type1 ?_ hs0 rfl))
  rw [hs0]
  show wpAny _ _ (spliced ((false, eval (.Call (.Name "zip" p2) [e, e2] [] q) X.env) :: backTo pos (starEach [] X.env))) _ _ s
  refine Calls.spliced_cons ?_
  refine Call_ (ld_blt I hg2 hm2 PyProof.Rows.boot_zip (PyProof.Rows.callWith_type1 (thn (ha.run q pins s σ H _ I h) fun us s1 ⟨vs, H1, I1, r1, q1⟩ => ?_) hs hpl))
  obtain ⟨a, b, xs, ys, rfl, hx, hy, hl, hz, qq⟩ := q1
  cases r1 with
  | cons ra rr =>
    cases rr with
    | cons rb rr =>
      cases rr; cases ra; cases rb
      obtain ⟨us1, rv1, p1, _⟩ := I1.list hx
      obtain ⟨us2, rv2, p2', _⟩ := I1.list hy
      have la : a < s1.heap.objs.size := p1.lt
      have lb : b < s1.heap.objs.size := p2'.lt
      refine call_zip_2 p1.isList p2'.isList fun hz' z1 z2 z3 z4 z5 z6 z7 => Calls.spliced_nil ?_
      have l1 := rv1.length
      have l2 := rv2.length
      have bl : ∀ {l : Addr} {zs : Array Value}, s1.heap.IsList l zs → hz'.IsList l zs := fun ⟨o, eo, r⟩ => ⟨o, z7 _ o eo, r⟩
      refine list_of_zip (s := { s1 with heap := hz' }) (n := xs.length) (I1.ok.hd hc) (PySem.W.ktu_apart s1.heap.objs.size a b la lb) ⟨?_, ?_, ?_, ?_, ?_, ?_, ?_⟩ z1 z2 ⟨_, _, z3⟩ z4 z5 (bl p1.isList) (bl p2'.isList) (by rw [List.size_toArray]; omega) (by rw [List.size_toArray]; omega) hz fun h' tk acc c as kp hS hacc hal rise above hpr => ?_
      · show s1.heap.objs.size + 4 < hz'.objs.size; omega
      · show s1.heap.objs.size + 2 < hz'.objs.size; omega
      · show s1.heap.objs.size + 3 < hz'.objs.size; omega
      · show s1.heap.objs.size < hz'.objs.size; omega
      · show s1.heap.objs.size + 1 < hz'.objs.size; omega
      · show a < hz'.objs.size; exact Nat.lt_of_lt_of_le la (by omega)
      · show b < hz'.objs.size; exact Nat.lt_of_lt_of_le lb (by omega)
      have keep : ∀ b o, s1.heap.get? b = some o → h'.get? b = some o := fun b o e => by
        have lt := Heap.lt_size e
        exact kp b o (Nat.ne_of_lt (Nat.lt_of_lt_of_le lt (Nat.le_add_right _ _))) (Nat.ne_of_lt (Nat.lt_of_lt_of_le lt (Nat.le_add_right _ _))) (Nat.ne_of_lt lt) (Nat.ne_of_lt (Nat.lt_succ_of_lt lt)) (z7 b o e)
      have le0 : s1.heap.objs.size ≤ hz'.objs.size := by omega
      have zl : (xs.zip ys).length = xs.length := by rw [List.length_zip, ← hl, Nat.min_self]
      have J := pairs_laid (tk := tk) (ps := xs.zip ys) I1 le0 keep hS hacc (by rw [hal, zl]) rise above (by rw [zl]; exact hz) fun j t hj => by
        obtain ⟨u, v, e1, e2, e3⟩ := hpr j t hj
        have hjl : j < xs.length := by rw [← hal]; exact (List.getElem?_eq_some_iff.mp hj).1
        obtain ⟨u', hu', ru⟩ := rv1.get (List.getElem?_eq_getElem hjl)
        obtain ⟨v', hv', rvv⟩ := rv2.get (List.getElem?_eq_getElem (show j < ys.length by omega))
        have eu : u' = u := by
          have : us1[j]? = some u := by simpa using e1
          exact Option.some.inj (hu'.symm.trans this)
        have ev : v' = v := by
          have : us2[j]? = some v := by simpa using e2
          exact Option.some.inj (hv'.symm.trans this)
        subst eu ev
        exact ⟨(xs[j], ys[j]), u', v', by rw [List.getElem?_zip_eq_some]; exact ⟨List.getElem?_eq_getElem hjl, List.getElem?_eq_getElem (by omega)⟩, ru, rvv, e3⟩
      refine ⟨.ref hz'.objs.size, _, J, rfl, qq _ as (I1.hok.fresh le0) (fun t ht => I1.hok.fresh (Nat.le_trans le0 (Nat.le_of_lt (above t ht)))) (fun z => Nat.lt_irrefl _ (above _ z)) (rise.imp fun h => Nat.ne_of_lt h) hal⟩
/-- set(xs) of a list of ints -/
def rSetL (K : PySem.W.Frag) (w : World) : List V → Hp → VK → Prop := fun vs H Q => ∃ (a : Addr) (ns : List Int), vs = [.ref a] ∧ SqL K H a (ns.map V.int) ∧ ns.length ≤ 1000 ∧
  ∀ (p : Addr) (n : Nat), H p = none → (∀ ms : List Int, ms.Nodup → (∀ k, k ∈ ms ↔ k ∈ ns) → ms.length = n) → n ≤ ns.length → Q (.ref p) (upd H p (SetO w p (fun j => decide (j ∈ ns)) n))
theorem cr_setL (hK : X.K = K) {w : World} (hw : X.w = w) (hc : X.calm = true) : CallR X (.type "set") (rSetL K w) := by
  subst hK hw
  intro pins s σ H vs us Q I r h
  obtain ⟨a, ns, rfl, hq, hl, q⟩ := h
  rw [Vals.ref1 r]
  obtain ⟨its, rv, pl, _⟩ := I.list hq
  refine set_of_lst ns (I.ok.hd hc) pl.isList (by simpa using ints_of_vals rv) (by unfold scanBound; omega) fun h' tk n R hn k => ?_
  have hp : H s.heap.objs.size = none := I.hok.fresh (Nat.le_refl _)
  refine ⟨.ref _, _, I.laid (t' := tk) k (Nat.le_refl _) (setO_new R), rfl, q _ n hp (fun ms nd hm => ?_) hn⟩
  obtain ⟨o, es, ep, t, _, _, _, _, nk, hmem, _, _, hsz, _, _⟩ := R
  have pm : ms.Perm (es.toList.map keyOf) := (List.perm_ext_iff_of_nodup nd nk).mpr fun k => by rw [hm k, ← hmem k, decide_eq_true_eq]
  rw [pm.length_eq, List.length_map, Array.length_toList, hsz]
/-- sorted(a set of ints), any number of members -/
def rSortedSetA (w : World) : List V → Hp → VK → Prop := fun vs H Q => ∃ (b : Addr) (T : Int → Bool) (m : Nat), vs = [V.ref b] ∧ H b = some (SetO w b T m) ∧ m ≤ 10000 ∧
  ∀ (zs : List Int) (l : Addr), zs.Pairwise (· < ·) → (∀ i : Int, i ∈ zs ↔ T i = true) → zs.length = m → H l = none → Q (.ref l) (upd H l (.lst (zs.map V.int)))
theorem asc_of_le : ∀ {zs : List Int}, zs.Pairwise (· ≤ ·) → zs.Nodup → zs.Pairwise (· < ·) := fun {zs} h nd => by
  rw [List.nodup_iff_pairwise_ne] at nd
  exact (h.and nd).imp fun ⟨h1, h2⟩ => by omega
theorem set_sorted_any {w : World} {P : Program} {A : Around} {E : Value → Shared → Prop} {s : Shared} {b : Addr} {T : Int → Bool} {m : Nat} {Q : Value → Shared → Prop} (R : SetR w s.heap b T m) (hA : A.handled = none) (hm : m ≤ 10000)
    (q : ∀ s2 l (ys : Array Value) (cap : Nat) (zs : List Int), (∀ z u, s.heap.get? z = some u → s2.heap.get? z = some u) → s2.gens = s.gens → s2.os = s.os → s.heap.objs.size ≤ l →
      s2.heap.get? l = some (seqObj "list" ys cap) → IntsAre ys.toList zs → zs.Pairwise (· < ·) → (∀ i, i ∈ zs ↔ T i = true) → zs.length = m → Q (.ref l) s2) : wpAny (model P w) A (call (.builtin "sorted") [.ref b]) Q E s := by
  obtain ⟨ob, rows, rp, tb, hob, hex, hdat, rowI, dist, mem, bnd, fit, cnt, ris, led⟩ := R
  refine Calls.call_function_entry kind_sorted plain_sorted entry_sorted (args_sorted1 _) (show wpAny _ _ (Builtin.«sorted» _) _ _ _ from ?_)
  unfold Builtin.«sorted»
  refine wpAny_bind (m := checkCount "sorted" 1 1 _) (wpAny_pure (wpAny_bind (collect_set (A := A.in1) hA ⟨ob, hob, hex.1, hdat⟩ fit bnd ris led fun t us keep hsz hg hos pm => ?_)))
  have lus : us.length = m := pm.length_eq.trans ((List.length_map _).trans (Array.length_toList.trans cnt))
  have isI : ∀ u ∈ us, ∃ i k, u = Value.int i k := fun u hu => by
    obtain ⟨e, he, z⟩ := List.mem_map.mp (pm.mem_iff.mp hu)
    obtain ⟨i, k, h1, _⟩ := rowI e he
    exact ⟨i, k, z ▸ h1⟩
  have iA := SrtO.ints_iv isI
  have pk : (us.map SrtO.iv).Perm (rows.toList.map keyOf) := by
    have z := pm.map SrtO.iv
    rw [List.map_map] at z
    refine z.trans (List.Perm.of_eq (List.map_congr_left fun e he => ?_))
    obtain ⟨i, k, h1, h2⟩ := rowI e he
    show SrtO.iv e.2 = keyOf e
    unfold keyOf
    rw [h1]
    rfl
  have fitL : us.length ≤ sizeLine := by rw [lus, sizeLine_eq]; omega
  refine wpAny_bind (wpAny_newList ?_ fitL)
  have hL : (t.heap.push (seqObj "list" us.toArray 0)).get? t.heap.objs.size = some (seqObj "list" us.toArray 0) := Heap.get?_push_size _ rfl
  refine wpAny_bind (wpAny_holding (wpAny_call_entry PyProof.Rows.slot_list_sort ⟨_, hL, rfl⟩ PyProof.Rows.entry_list_sort
    (SrtO.list_sort_ord SrtO.swo_int hL fitL (fun h2 => SrtO.ints_sortable iA h2) fun ys h1 h2 => ⟨_, rfl, ?_⟩) (PyProof.Rows.args_list_sort _)))
  obtain ⟨j1, j2, j3⟩ := SrtO.ints_out iA h1 h2
  obtain ⟨cap, hcap⟩ := PyProof.Rows.sortedHeap_at (vs := us) (out := ys.toArray) hL
  have pn := j2.trans pk
  refine wpAny_pure ⟨_, rfl, q _ t.heap.objs.size ys.toArray cap (ys.map SrtO.iv) (fun z u hz => ?_) hg hos hsz hcap (by simpa using j1) (asc_of_le j3 (pn.nodup_iff.mpr dist)) (fun i => by rw [pn.mem_iff, ← mem i]) (by rw [pn.length_eq, List.length_map, Array.length_toList]; exact cnt)⟩
  have z1 := keep z u hz
  have lt := Heap.lt_size z1
  show (PyProof.Rows.sortedHeap (t.heap.push (seqObj "list" us.toArray 0)) t.heap.objs.size us ys.toArray).get? z = some u
  rw [PyProof.Rows.sortedHeap_old (Nat.ne_of_lt lt) (by rw [size_push']; exact Nat.lt_succ_of_lt lt)]
  exact Heap.get?_push_of_some _ z1
theorem cr_sortedSetW {w : World} (hw : X.w = w) (hc : X.calm = true) : CallR X (.builtin "sorted") (rSortedSetA w) := by
  subst hw
  intro pins s σ H vs us Q I r h
  obtain ⟨b, T, m, rfl, hb, hm, q⟩ := h
  rw [Vals.ref1 r]
  refine set_sorted_any (setO_get I hb) (I.ok.hd hc) hm fun s2 l ys cap zs keep hg hos hl hat hI asc mem hlen => ?_
  have fit : (zs.map V.int).length ≤ sizeLine := by rw [List.length_map, hlen, sizeLine_eq]; omega
  have free : H l = none := I.hok.fresh hl
  have J : Inv X pins σ (upd H l (.lst (zs.map V.int))) { s with heap := s2.heap, gens := s2.gens, drawn := s2.drawn, toks := s2.toks } :=
    I.call (ch := []) (Un.laid keep hl free) (I.hok.laid keep hl ⟨fit, ys.toList, cap, vals_of_ints hI, hat⟩) (by rw [hg]; exact I.bare) (fun _ z => nomatch z)
  have same : s2 = { s with heap := s2.heap, gens := s2.gens, drawn := s2.drawn, toks := s2.toks } := by
    cases s2; cases s; cases hos; rfl
  rw [same]
  exact ⟨.ref l, _, J, rfl, q zs l asc mem hlen free⟩
/-- len of a set -/
def rLenSet (w : World) : List V → Hp → VK → Prop := fun vs H Q => ∃ (a : Addr) (S : Int → Bool) (n : Nat), vs = [.ref a] ∧ H a = some (SetO w a S n) ∧ Q (.int n) H
theorem cr_lenSet {w : World} (hw : X.w = w) : CallR X (.builtin "len") (rLenSet w) := by
  subst hw
  intro pins s σ H vs us Q I r h
  obtain ⟨a, S, n, rfl, ha, q⟩ := h
  rw [Vals.ref1 r]
  obtain ⟨o, es, ep, t, ho, hex, hd, _, _, _, hb, hf, hn, _, _⟩ := setO_get I ha
  exact call_len_set ho hex hd hf (by unfold scanBound at hb; omega) ⟨.int n, H, I.tok _, ⟨_, by rw [hn]⟩, q⟩
end
end Zd

set_option Elab.async false
set_option maxRecDepth 100000
set_option maxHeartbeats 8000000
/-! Zd8: sets, zips, enumerates, dicts of scalars, by data. -/
namespace Zd
open PySem L2 StX
section
variable {c : Bs} {δ : Fe} {te ta tb tk tv : TE} {tt : TT} {tr : TA} {P R T : Dt → Prop}
/-- a set of a list of ints, within an expression -/
theorem set_go {K : PySem.W.Frag} {w : World} {ns : List Int} {σ : L2.St} {G H : Hp} (ha : De c ta δ (.lst (ns.map Dt.int))) (hl : ns.length ≤ 1000) (e : Ec c G H σ δ) {Q : VK}
    (q : ∀ p n G' H', Gx c.b G H G' H' → H' p = some (SetO w p (fun j => decide (j ∈ ns)) n) → (∀ ms : List Int, ms.Nodup → (∀ k, k ∈ ms ↔ k ∈ ns) → ms.length = n) → n ≤ ns.length → Q (.ref p) H') : tCB (rSetL K w) (tCons ta tNil) σ H Q :=
  ha σ G H e _ fun v d G1 H1 g1 d1 p1 => by
    subst p1
    cases d1 with
    | lst a1 a2 =>
      have ev := a2.ints
      subst ev
      exact ⟨_, ns, rfl, SqL.of (g1.gh _ _ a1), hl, fun p n hp hd hn => q p n G1 _ (g1.trans e.jj (Gx.put g1.gh g1.jj hp)) upd_same hd hn⟩
/-- sorted(set(xs)) -/
theorem dl_sortedSet {K : PySem.W.Frag} {w : World} {ns : List Int} (ha : De c ta δ (.lst (ns.map Dt.int))) (hl : ns.length ≤ 1000) :
    Dl c (tCB (rSortedSetA w) (tCons (tCB (rSetL K w) (tCons ta tNil)) tNil)) δ (fun ds => ∃ ms : List Int, ds = ms.map Dt.int ∧ ms.Pairwise (· < ·) ∧ (∀ k, k ∈ ms ↔ k ∈ ns)) := fun σ G H e Q q =>
  set_go ha (by omega) e fun p n G1 H1 g1 h1 hd hn => ⟨p, _, n, rfl, h1, by omega, fun ms l as hm _ hl' => by
    refine q l (ms.map V.int) (ms.map Dt.int) G1 _ (g1.trans e.jj (Gx.put g1.gh g1.jj hl')) (g1.fresh e.jj hl') ?_ upd_same (Dqs.of_ints ms) ⟨ms, rfl, as, fun k => by rw [hm k, decide_eq_true_eq]⟩
    cases k : G1 l with
    | none => rfl
    | some u => rw [g1.gh l u k] at hl'; cases hl'⟩
/-- len(set(xs)) -/
theorem de_lenSet {K : PySem.W.Frag} {w : World} {ns ms : List Int} (ha : De c ta δ (.lst (ns.map Dt.int))) (hl : ns.length ≤ 1000) (hm : ms.Nodup) (hk : ∀ k, k ∈ ms ↔ k ∈ ns) :
    De c (tCB (rLenSet w) (tCons (tCB (rSetL K w) (tCons ta tNil)) tNil)) δ (.int ms.length) := fun σ G H e Q q =>
  set_go ha hl e fun p n G1 H1 g1 h1 hd hn => ⟨p, _, n, rfl, h1, q _ _ G1 H1 g1 (.int _) (by rw [hd ms hm hk])⟩
/-- list(zip(xs, ys)) -/
def zipD (xs ys : List Dt) : List Dt := (xs.zip ys).map fun p => .tup [p.1, p.2]
theorem dqs_zip {G : Hp} : ∀ {vs us : List V} {xs ys : List Dt} {as : List Addr}, Dqs G vs xs → Dqs G us ys → as.length = vs.length → vs.length = us.length →
    (∀ (j : Nat) (a : Addr) (p : V × V), as[j]? = some a → (vs.zip us)[j]? = some p → G a = some (.tup [p.1, p.2])) → Dqs G (as.map V.ref) (zipD xs ys)
  | _, _, _, _, [], .nil, .nil, _, _, _ => .nil
  | _, _, _, _, a :: as, .cons h1 t1, .cons h2 t2, hl, hl2, k => by
    refine .cons (.tup (k 0 a _ rfl rfl) (.cons h1 (.cons h2 .nil))) (dqs_zip t1 t2 (by simpa using hl) (by simpa using hl2) fun j b p e1 e2 => k (j + 1) b p e1 e2)
theorem layT_sub {H : Hp} {p : Addr} {o : HO} {as : List Addr} {ps : List (V × V)} (hp : H p = none) (ha : ∀ t ∈ as, H t = none) : Same H (layT (upd H p o) as ps) := fun b u e => by
  rw [layT_off as ps (fun z => by rw [ha b z] at e; cases e), upd_ne (ne_of_none e hp)]
  exact e
theorem layT_only {H : Hp} {b : Addr} : ∀ (as : List Addr) (ps : List (V × V)), layT H as ps b ≠ none → H b ≠ none ∨ b ∈ as
  | [], _, h => .inl h
  | _ :: _, [], h => .inl h
  | a :: as, p :: ps, h => by
    by_cases e : b = a
    · exact .inr (by rw [e]; exact List.mem_cons_self)
    · have h' : layT H as ps b ≠ none := by
        have : upd (layT H as ps) a (.tup [p.1, p.2]) b ≠ none := h
        rwa [upd_ne e] at this
      exact (layT_only as ps h').imp id fun z => List.mem_cons_of_mem _ z
theorem layT_same {G H : Hp} (s : Same G H) : ∀ (as : List Addr) (ps : List (V × V)), Same (layT G as ps) (layT H as ps)
  | [], _ => s
  | _ :: _, [] => s
  | a :: as, p :: ps => fun b o e => by
    have e' : upd (layT G as ps) a (.tup [p.1, p.2]) b = some o := e
    show upd (layT H as ps) a (.tup [p.1, p.2]) b = some o
    by_cases h : b = a
    · subst h
      rw [upd_same] at e' ⊢
      exact e'
    · rw [upd_ne h] at e' ⊢
      exact layT_same s as ps b o e'
theorem dl_listZip {K : PySem.W.Frag} {xs ys : List Dt} (ha : De c ta δ (.lst xs)) (hb : De c tb δ (.lst ys)) (hl : xs.length = ys.length) (hz : xs.length ≤ 10000000) : Dl c (tListZip K (tCons ta (tCons tb tNil))) δ (· = zipD xs ys) := fun σ G H e Q q =>
  ha σ G H e _ fun v x G1 H1 g1 d1 p1 => hb σ G1 H1 (e.up g1) _ fun u y G2 H2 g2 d2 p2 => by
    subst p1 p2
    have g := g1.trans e.jj g2
    cases d1 with
    | lst a1 a2 =>
      cases d2 with
      | lst b1 b2 =>
        rename_i va vs ua us
        have l1 := a2.length
        have l2 := b2.length
        refine ⟨_, _, vs, us, rfl, SqL.of (g2.gh _ _ (g2.gg _ _ a1)), SqL.of (g2.gh _ _ b1), by omega, sz_ok (by omega), fun p as hp ht np nd hal => ?_⟩
        have fr : ∀ t, H2 t = none → G2 t = none := fun t h => by
          cases k : G2 t with
          | none => rfl
          | some o => rw [g2.gh t o k] at h; cases h
        have sub : Same G2 (layT G2 as (vs.zip us)) := fun b o k => by
          rw [layT_off as _ (fun z => by rw [fr b (ht b z)] at k; cases k)]
          exact k
        have big : Same (layT G2 as (vs.zip us)) (layT (upd H2 p (.lst (as.map V.ref))) as (vs.zip us)) := layT_same (fun b o k => by
          rw [upd_ne (ne_of_none (g2.gh b o k) hp)]
          exact g2.gh b o k) as _
        have at' : ∀ (j : Nat) (a : Addr) (w : V × V), as[j]? = some a → (vs.zip us)[j]? = some w → layT G2 as (vs.zip us) a = some (.tup [w.1, w.2]) := fun j a w e1 e2 => layT_at as _ nd j a w e1 e2
        refine q p (as.map V.ref) _ (layT G2 as (vs.zip us)) _ ⟨g.gg.trans sub, fun b o ns k => layT_sub hp ht b o (g.hh b o ns k), big, fun b k => ?_, c.b.st _ _ g.jj fun b sb => ?_⟩ (g.fresh e.jj hp) ?_ ?_ (dqs_zip ((a2.up g2.gg).up sub) (b2.up sub) hal (by omega) at') rfl
        · rcases layT_only as _ k with z | z
          · exact g.nw b z
          · exact .inr (.inl (g.fresh e.jj (ht b z)))
        · have hb2 := c.b.hs _ _ g.jj sb
          rw [layT_off as _ (fun z => hb2 (ht b z)), upd_ne (fun z => hb2 (by rw [z]; exact hp))]
        · rw [layT_off as _ np]; exact fr p hp
        · rw [layT_off as _ np, upd_same]
/-- enumerate(xs) -/
def enumD (xs : List Dt) : List Dt := xs.mapIdx fun i d => .tup [.int (i : Int), d]
theorem di_enum {K : PySem.W.Frag} {xs : List Dt} (h : De c te δ (.lst xs)) : Di c (iEnum K (tCons te tNil)) δ (· = enumD xs) := fun σ G H e R q =>
  h σ G H e _ fun v x G1 H1 g1 d1 p1 => by
    subst p1
    cases d1 with
    | lst a1 a2 =>
      rename_i a vs
      refine ⟨a, vs, rfl, SqL.of (g1.gh _ _ a1), q _ (enumD xs) G1 H1 g1 rfl fun i G2 H2 s1 s2 j => ⟨fun hi => ?_, fun hi => ?_⟩⟩
      · have hi' : i < xs.length := by simpa [enumD] using hi
        obtain ⟨y, hy, dy⟩ := a2.get (List.getElem?_eq_getElem hi')
        refine ⟨⟨vs, y, SqL.of (s2 _ _ (s1 _ _ a1)), hy⟩, fun z H' hz => ?_⟩
        obtain ⟨T, y', rfl, hT, rfl, hx⟩ := hz
        have e3 := Option.some.inj ((hx vs (SqL.of (s2 _ _ (s1 _ _ a1)))).symm.trans hy)
        subst e3
        refine ⟨.tup [.int (i : Int), xs[i]], _, by simp [enumD, hi'], (Gx.refl s2 j).newDat j hT (.tup [.int (i : Nat), y']), .tup upd_same (.cons (.int _) (.cons ?_ .nil))⟩
        exact dy.up fun b o k => by
          have k2 := s1 b o k
          rw [upd_ne (ne_of_none (s2 b o k2) hT)]
          exact k2
      · exact ⟨vs, SqL.of (s2 _ _ (s1 _ _ a1)), by rw [a2.length]; simpa [enumD] using hi⟩

/-! ### dicts of scalars -/
def vOf : Dt → V
  | .bl b => .bl b
  | .int i => .int i
  | .str s => .str s
  | .con a => .ref a
  | _ => .non
theorem vOf_dq {G : Hp} {v : V} {d : Dt} (h : Dq G v d) (s : d.scal = true) : v = vOf d ∧ ∀ G', Dq G' (vOf d) d := by
  cases h with
  | non => exact ⟨rfl, fun _ => .non⟩
  | bl b => exact ⟨rfl, fun _ => .bl b⟩
  | int i => exact ⟨rfl, fun _ => .int i⟩
  | str x => exact ⟨rfl, fun _ => .str x⟩
  | con a => exact ⟨rfl, fun _ => .con a⟩
  | ftup _ _ _ _ => cases s
  | lst _ _ => cases s
  | tup _ _ => cases s
  | dct _ _ _ => cases s
  | ins _ _ _ => cases s
def keyD : Key → Dt
  | .inl i => .int i
  | .inr s => .str s
theorem keyD_dq {G : Hp} {v : V} {k : Key} (h : Dq G v (keyD k)) : v = kV k := by
  cases k with
  | inl i => cases h; rfl
  | inr s => cases h; rfl
/-- a new dict -/
def Dd (c : Bs) (te : TE) (δ : Fe) (P : List (Key × V) → Prop) : Prop := ∀ (σ : L2.St) (G H : Hp), Ec c G H σ δ → ∀ Q : VK, (∀ p kvs G' H', Gx c.b G H G' H' → H p = none → G' p = none → H' p = some (.dK kvs) → P kvs → Q (.ref p) H') → te σ H Q
theorem dd_dc {wi : TI} {g : TG} {vs : List Nat} {S : List Dt → Prop} {T : List (Key × V) → Prop} (hw : Di c wi δ S)
    (h : ∀ xs, S xs → ∃ I : Nat → List (Key × V) → Prop, I 0 [] ∧ (∀ i d acc, xs[i]? = some d → I i acc →
        Dg c g d (wipeF δ vs) vs (fun δ2 => ∃ k x, De c tk δ2 (keyD k) ∧ De c tv δ2 x ∧ x.scal = true ∧ I (i + 1) (putK acc k (vOf x)))) ∧
      (∀ acc, I xs.length acc → T acc) ∧ xs.length ≤ 10000000 ∧ ∀ i acc, I i acc → acc.length ≤ i) : Dd c (tDc wi g tYes tk tv vs) δ T := fun σ G H e Q q => by
  refine hw σ G H e _ fun J xs G1 H1 g1 s1 ok => ?_
  obtain ⟨I, i0, turn, fin, hlen, hsz⟩ := h xs s1
  intro D hD
  have hD0 : H D = none := g1.fresh e.jj hD
  have gD1 : G1 D = none := by
    cases k : G1 D with
    | none => rfl
    | some u => rw [g1.gh D u k] at hD; cases hD
  have notS : ¬ c.b.S D := fun s => c.b.hs _ _ g1.jj s hD
  have keepD : ∀ {Ga Ha Gb Hb : Hp} {ws : List (Key × V)}, Gx c.b Ga Ha Gb Hb → Ha D = some (.dK ws) → Ga D = none → Hb D = some (.dK ws) ∧ Gb D = none := fun {Ga Ha Gb Hb ws} gg hh nn => ⟨gg.hh D _ notS hh, by
    cases k : Gb D with
    | none => rfl
    | some u =>
      rcases gg.nw D (by rw [k]; simp) with z | z | ⟨_, z⟩
      · exact absurd nn z
      · rw [hh] at z; cases z
      · rw [hh] at z; cases z⟩
  refine ⟨fun i m Hi => m = xs.length - i ∧ i ≤ xs.length ∧ ∃ Gi acc, Gx c.b G H Gi Hi ∧ Same G1 Gi ∧ Hi D = some (.dK acc) ∧ Gi D = none ∧ I i acc, ⟨xs.length, by simp, Nat.zero_le _, G1, [], g1.trans e.jj (Gx.put g1.gh g1.jj hD), Same.refl _, upd_same, gD1, i0⟩, ?_⟩
  rintro i m Hi ⟨rfl, hi, Gi, acc, gi, si, hDi, gDi, ia⟩
  obtain ⟨okgo, okstop⟩ := ok i Gi Hi si gi.gh gi.jj
  by_cases hlt : i < xs.length
  · obtain ⟨go, step⟩ := okgo hlt
    refine .inr ⟨go, fun H' => ∃ Gi' acc', Gx c.b G H Gi' H' ∧ Same G1 Gi' ∧ H' D = some (.dK acc') ∧ Gi' D = none ∧ I (i + 1) acc', fun H' hn => ⟨xs.length - (i + 1), by omega, rfl, hlt, hn⟩, fun x H' hy => ?_⟩
    obtain ⟨d, G2, hd, g2, dx⟩ := step x H' hy
    have gi2 := gi.trans e.jj g2
    obtain ⟨hD2, gD2⟩ := keepD g2 hDi gDi
    refine turn i d acc hd ia (L2.wipe σ vs) G2 H' x ((e.up gi2).wipe vs) dx _ fun δ3 σ3 G3 H3 e3 g3 w3 k3 => ?_
    obtain ⟨hD3, gD3⟩ := keepD g3 hD2 gD2
    obtain ⟨key, y, hk, hv, hs, hI⟩ := k3
    refine ⟨by rw [w3, wipe_wipe], ?_⟩
    show tk σ3 H3 _
    refine hk σ3 G3 H3 e3 _ fun u du G4 H4 g4 dq4 p4 => hv σ3 G4 H4 (e3.up g4) _ fun z dz G5 H5 g5 dq5 p5 => ?_
    subst p4 p5
    obtain ⟨hD4, gD4⟩ := keepD g4 hD3 gD3
    obtain ⟨hD5, gD5⟩ := keepD g5 hD4 gD4
    have gx5 := ((gi2.trans e.jj g3).trans e.jj g4).trans e.jj g5
    refine ⟨acc, key, keyD_dq dq4, hD5, sz_lt' (by have := hsz i acc ia; omega), G5, putK acc key z, Gx.poke e.jj gx5 hD0 gD5, (((si.trans g2.gg).trans g3.gg).trans g4.gg).trans g5.gg, upd_same, gD5, ?_⟩
    rw [(vOf_dq dq5 hs).1]
    exact hI
  · have ei : i = xs.length := by omega
    subst ei
    exact .inl ⟨okstop (Nat.le_refl _), q D acc Gi Hi gi hD0 gDi hDi (fin acc ia)⟩
/-- a dict of keys and scalars -/
abbrev DKo (kvs : List (Key × V)) : Hp → Addr → HO → Prop := fun _ _ o => o = .dK kvs
/-- x = a new dict -/
theorem ds_letObj {i : Nat} {ts : TS} {p : Po} {S : List (Key × V) → Prop} (h : Dd c te δ S) (k : ∀ kvs, S kvs → Ds c ts (δ.set i (.obj (DKo kvs))) p) : Ds c (tSeq (tAsg te (gName i)) ts) δ p :=
  ds_seq (M := fun δ' => ∃ kvs, S kvs ∧ δ' = δ.set i (.obj (DKo kvs))) (fun D σ G H e n r b q =>
    h σ G H e _ fun a kvs G1 H1 g1 h1 h2 h3 h4 => n _ _ G1 H1 g1.gg ((e.up g1).setOwn i (.obj (DKo kvs)) (fun k y hk oy sk => e.noSlot h1 k y hk oy sk) fun hlt => ⟨a, _, List.getElem?_set_self (by rw [e.len]; exact hlt), h3, h2, e.gx.fresh e.j0 h1, fun _ _ => rfl, fun _ z => nomatch z⟩) ⟨kvs, h4, rfl⟩) fun δ' ⟨kvs, hs, e⟩ => by rw [e]; exact k kvs hs
/-- d[k] -/
theorem de_dget {i : Nat} {kvs : List (Key × V)} {k : Key} {x : Dt} (h : δ[i]? = some (.obj (DKo kvs))) (hk : De c te δ (keyD k)) (hx : valV kvs k = some (vOf x)) (hs : ∀ G, Dq G (vOf x) x) : De c (tDGet (tVar i) te) δ x := fun σ G H e Q q => by
  obtain ⟨a, o, e1, h1, h2, h3, h4⟩ := e.sl i _ h
  refine ⟨.ref a, e1, ?_⟩
  refine hk σ G H e _ fun v d G1 H1 g1 d1 p1 => ?_
  subst p1
  obtain ⟨a', o', e1', h1', _, _, h4'⟩ := (e.up g1).sl i _ h
  rw [e1] at e1'
  have ea := V.ref.inj (Option.some.inj (Option.some.inj e1'))
  subst ea
  refine ⟨a, vOf x, rfl, ?_, q _ _ G1 H1 g1 (hs G1) rfl⟩
  rw [keyD_dq d1, ← hx]
  exact DGet.k (by rw [h1', h4'.1 G1 (Same.refl _)])
end
end Zd

set_option Elab.async false
set_option maxRecDepth 100000
set_option maxHeartbeats 8000000
/-! Zd9: comprehensions with two clauses, == of data, by data. -/
namespace Zd
open PySem L2 StX
/-- a frame without objects of its own stands wherever the data's heap has grown -/
theorem En.upNo {b : Bx} {G0 H0 G H G' H' : Hp} {σ : L2.St} {δ : Fe} (e : En b G0 H0 G H σ δ) (hno : (δ.all fun x => !x.owns) = true) (gg : Same G G') (gx : Gx b G0 H0 G' H') : En b G0 H0 G' H' σ δ := by
  have no : ∀ (k : Nat) (y : Sl), δ[k]? = some y → y.owns = false := fun k y h => by
    have := List.all_eq_true.mp hno y (List.mem_of_getElem? h)
    simpa using this
  refine ⟨e.j0, gx, e.len, fun i x h => ?_, fun i k x y p hx _ ox _ _ _ => by rw [no i x hx] at ox; cases ox⟩
  have q := e.sl i x h
  have n := no i x h
  cases x with
  | un => trivial
  | dat d => obtain ⟨v, e1, q1⟩ := q; exact ⟨v, e1, q1.up gg⟩
  | own ds => cases n
  | obj o => cases n
  | raw v => exact q
section
variable {c : Bs} {δ : Fe} {te ta tb : TE} {P R T : Dt → Prop}
/-- [f d y for d in xs for y in ys d] -/
theorem dl_lc2 {wi wi1 : TI} {g g1 : TG} {vs vs1 : List Nat} {xs : List Dt} (f : Dt → Dt → Dt) (ys : Dt → List Dt) (hw : Di c wi δ (· = xs)) (hlen : (xs.flatMap fun d => (ys d).map (f d)).length ≤ 10000000)
    (h : ∀ d ∈ xs, Dg c g d (wipeF δ vs) vs (fun δ2 => (δ2.all fun x => !x.owns) = true ∧ Di c wi1 δ2 (· = ys d) ∧ ∀ y ∈ ys d, Dg c g1 y (wipeF δ2 vs1) vs1 (fun δ3 => De c te δ3 (f d y)))) :
    Dl c (tLc2 wi g tYes wi1 g1 tYes te vs vs1) δ (· = xs.flatMap fun d => (ys d).map (f d)) := fun σ G H e Q q => by
  refine hw σ G H e _ fun J xs' G1 H1 g1' s1 ok => ?_
  subst s1
  intro D hD
  have hD0 : H D = none := g1'.fresh e.jj hD
  have gD1 : G1 D = none := by
    cases k : G1 D with
    | none => rfl
    | some u => rw [g1'.gh D u k] at hD; cases hD
  have notS : ¬ c.b.S D := fun s => c.b.hs _ _ g1'.jj s hD
  have keepD : ∀ {Ga Ha Gb Hb : Hp} {ws : List V}, Gx c.b Ga Ha Gb Hb → Ha D = some (.lst ws) → Ga D = none → Hb D = some (.lst ws) ∧ Gb D = none := fun {Ga Ha Gb Hb ws} gg hh nn => ⟨gg.hh D _ notS hh, by
    cases k : Gb D with
    | none => rfl
    | some u =>
      rcases gg.nw D (by rw [k]; simp) with z | z | ⟨_, z⟩
      · exact absurd nn z
      · rw [hh] at z; cases z
      · rw [hh] at z; cases z⟩
  have part : ∀ (i : Nat) (d : Dt), xs'[i]? = some d → (xs'.take (i + 1)).flatMap (fun d => (ys d).map (f d)) = (xs'.take i).flatMap (fun d => (ys d).map (f d)) ++ (ys d).map (f d) := fun i d hd => by
    rw [List.take_add_one, hd, List.flatMap_append]
    simp
  have small : ∀ (i : Nat), ((xs'.take i).flatMap (fun d => (ys d).map (f d))).length ≤ 10000000 := fun i => by
    have e1 : xs' = xs'.take i ++ xs'.drop i := (List.take_append_drop i xs').symm
    have : (xs'.flatMap fun d => (ys d).map (f d)).length = ((xs'.take i).flatMap fun d => (ys d).map (f d)).length + ((xs'.drop i).flatMap fun d => (ys d).map (f d)).length := by
      conv => lhs; rw [e1]
      rw [List.flatMap_append, List.length_append]
    omega
  refine ⟨fun i m Hi => m = xs'.length - i ∧ i ≤ xs'.length ∧ ∃ Gi ws, Gx c.b G H Gi Hi ∧ Same G1 Gi ∧ Hi D = some (.lst ws) ∧ Gi D = none ∧ Dqs Gi ws ((xs'.take i).flatMap fun d => (ys d).map (f d)), ⟨xs'.length, by simp, Nat.zero_le _, G1, [], g1'.trans e.jj (Gx.put g1'.gh g1'.jj hD), Same.refl _, upd_same, gD1, by simpa using Dqs.nil⟩, ?_⟩
  rintro i m Hi ⟨rfl, hi, Gi, ws, gi, si, hDi, gDi, da⟩
  obtain ⟨okgo, okstop⟩ := ok i Gi Hi si gi.gh gi.jj
  by_cases hlt : i < xs'.length
  · obtain ⟨go, step⟩ := okgo hlt
    refine .inr ⟨go, fun H' => ∃ Gi' ws', Gx c.b G H Gi' H' ∧ Same G1 Gi' ∧ H' D = some (.lst ws') ∧ Gi' D = none ∧ Dqs Gi' ws' ((xs'.take (i + 1)).flatMap fun d => (ys d).map (f d)), fun H' hn => ⟨xs'.length - (i + 1), by omega, rfl, hlt, hn⟩, fun x H' hy => ?_⟩
    obtain ⟨d, G2, hd, g2, dx⟩ := step x H' hy
    have gi2 := gi.trans e.jj g2
    obtain ⟨hD2, gD2⟩ := keepD g2 hDi gDi
    refine h d (List.mem_of_getElem? hd) (L2.wipe σ vs) G2 H' x ((e.up gi2).wipe vs) dx _ fun δ3 σ3 G3 H3 e3 g3 w3 k3 => ?_
    obtain ⟨hD3, gD3⟩ := keepD g3 hD2 gD2
    obtain ⟨hno, hw1, hin⟩ := k3
    refine ⟨by rw [w3, wipe_wipe], ?_⟩
    show wi1 σ3 H3 _
    have gx3 := gi2.trans e.jj g3
    refine hw1 σ3 G3 H3 e3 _ fun J1 zs G4 H4 g4 s4 ok1 => ?_
    subst s4
    obtain ⟨hD4, gD4⟩ := keepD g4 hD3 gD3
    have gx4 := gx3.trans e.jj g4
    have s14 : Same G1 G4 := ((si.trans g2.gg).trans g3.gg).trans g4.gg
    have len1 : ∀ j : Nat, j ≤ (ys d).length → ((xs'.take i).flatMap (fun d => (ys d).map (f d))).length + j ≤ 10000000 := fun j hj => by
      have := small (i + 1)
      rw [part i d hd, List.length_append, List.length_map] at this
      omega
    refine ⟨fun j m Hj => m = (ys d).length - j ∧ j ≤ (ys d).length ∧ ∃ Gj ws', Gx c.b G H Gj Hj ∧ Same G4 Gj ∧ Hj D = some (.lst ws') ∧ Gj D = none ∧ Dqs Gj ws' ((xs'.take i).flatMap (fun d => (ys d).map (f d)) ++ ((ys d).take j).map (f d)),
      ⟨(ys d).length, by simp, Nat.zero_le _, G4, ws, gx4, Same.refl _, hD4, gD4, by simpa using da.up ((g2.gg.trans g3.gg).trans g4.gg)⟩, ?_⟩
    rintro j m Hj ⟨rfl, hj, Gj, ws', gj, sj, hDj, gDj, dj⟩
    obtain ⟨okgo1, okstop1⟩ := ok1 j Gj Hj sj gj.gh gj.jj
    by_cases hlt1 : j < (ys d).length
    · obtain ⟨go1, step1⟩ := okgo1 hlt1
      refine .inr ⟨go1, fun H' => ∃ Gj' ws', Gx c.b G H Gj' H' ∧ Same G4 Gj' ∧ H' D = some (.lst ws') ∧ Gj' D = none ∧ Dqs Gj' ws' ((xs'.take i).flatMap (fun d => (ys d).map (f d)) ++ ((ys d).take (j + 1)).map (f d)), fun H' hn => ⟨(ys d).length - (j + 1), by omega, rfl, hlt1, hn⟩, fun x1 H5 hy1 => ?_⟩
      obtain ⟨y, G5, hy, g5, dy⟩ := step1 x1 H5 hy1
      obtain ⟨hD5, gD5⟩ := keepD g5 hDj gDj
      have gx5 := gj.trans e.jj g5
      have e5 : Ec c G5 H5 σ3 δ3 := e3.upNo hno ((g4.gg.trans sj).trans g5.gg) (e.gx.trans e.j0 gx5)
      refine hin y (List.mem_of_getElem? hy) (L2.wipe σ3 vs1) G5 H5 x1 (e5.wipe vs1) dy _ fun δ6 σ6 G6 H6 e6 g6 w6 k6 => ?_
      obtain ⟨hD6, gD6⟩ := keepD g6 hD5 gD5
      refine ⟨by rw [w6, wipe_wipe], ?_⟩
      show te σ6 H6 _
      refine k6 σ6 G6 H6 e6 _ fun u du G7 H7 g7 dq7 p7 => ?_
      subst p7
      obtain ⟨hD7, gD7⟩ := keepD g7 hD6 gD6
      refine ⟨ws', hD7, sz_lt' ?_, G7, ws' ++ [u], Gx.poke e.jj ((gx5.trans e.jj g6).trans e.jj g7) hD0 gD7, (((sj.trans g5.gg).trans g6.gg).trans g7.gg), upd_same, gD7, ?_⟩
      · rw [dj.length, List.length_append, List.length_map, List.length_take]
        have := len1 (min j (ys d).length) (Nat.min_le_right _ _)
        omega
      · rw [List.take_add_one, hy, List.map_append, ← List.append_assoc]
        exact (dj.up ((g5.gg.trans g6.gg).trans g7.gg)).append (.cons dq7 .nil)
    · have ej : j = (ys d).length := by omega
      subst ej
      refine .inl ⟨okstop1 (Nat.le_refl _), Gj, ws', gj, s14.trans sj, hDj, gDj, ?_⟩
      rw [part i d hd]
      rw [List.take_length] at dj
      exact dj
  · have ei : i = xs'.length := by omega
    subst ei
    rw [List.take_length] at da
    exact .inl ⟨okstop (Nat.le_refl _), q D ws _ Gi Hi gi hD0 gDi hDi da rfl⟩
end
end Zd

set_option Elab.async false
set_option maxRecDepth 100000
set_option maxHeartbeats 4000000
/-! Zd10: a dict of the body's own whose keys are tuples of pairs of a text and an int. -/
namespace Zd
open PySem L2 StX PySem.Spec PyProof.Rows
/-- the key that a tuple of pairs is -/
def pairK (e : Str × Int) : NestedKey := .tup [.text e.1, .num e.2]
def pairsK (es : List (Str × Int)) : NestedKey := .tup (es.map pairK)
def pairD (e : Str × Int) : Dt := .tup [.str e.1, .int e.2]
theorem pairsK_inj {as bs : List (Str × Int)} (h : pairsK as = pairsK bs) : as = bs := by
  have h1 := NestedKey.tup.inj h
  have key : ∀ as bs : List (Str × Int), as.map pairK = bs.map pairK → as = bs := by
    intro as
    induction as with
    | nil => intro bs h; cases bs with
      | nil => rfl
      | cons b bs => cases h
    | cons a as ih => intro bs h; cases bs with
      | nil => cases h
      | cons b bs =>
        have e1 : pairK a = pairK b ∧ as.map pairK = bs.map pairK := List.cons.inj h
        obtain ⟨x, i⟩ := a
        obtain ⟨y, j⟩ := b
        have e2 := NestedKey.tup.inj e1.1
        have e3 := List.cons.inj e2
        have e4 := (List.cons.inj e3.2).1
        have e5 : x = y := NestedKey.text.inj e3.1
        have e6 : i = j := NestedKey.num.inj e4
        rw [e5, e6, ih bs e1.2]
  exact key as bs h1
theorem pairs_depth (es : List (Str × Int)) : (pairsK es).depth ≤ 8 := by
  have key : ∀ es : List (Str × Int), NestedKey.depthAll (es.map pairK) ≤ 1 := by
    intro es
    induction es with
    | nil => exact Nat.zero_le _
    | cons e r ih =>
      rw [List.map_cons, NestedKey.depthAll]
      have : (pairK e).depth ≤ 1 := by
        show NestedKey.depthAll [NestedKey.text e.1, NestedKey.num e.2] + 1 ≤ 1
        simp [NestedKey.depthAll, NestedKey.depth]
      omega
  have := key es
  show NestedKey.depthAll (es.map pairK) + 1 ≤ 8
  omega
section
variable {P : Program} {w : World} {G H : Hp} {h : Heap}
theorem pair_is (ok : HOk P w H h) (s : Same G H) {v : V} {u : Value} {e : Str × Int} (d : Dq G v (pairD e)) (r : RelV v u) : NestedIs h (pairK e) u := by
  cases d with
  | tup a1 a2 =>
    cases a2 with
    | cons b1 b2 =>
      cases b2 with
      | cons c1 c2 =>
        cases c2; cases b1; cases c1
        cases r
        obtain ⟨_, its, rv, o, ho, hc, n, hd⟩ := ok _ _ (s _ _ a1)
        refine .tup ho hc hd ?_
        cases rv with
        | cons r1 r2 =>
          cases r2 with
          | cons r3 r4 =>
            cases r4
            obtain ⟨t1, rfl⟩ := r1
            obtain ⟨t2, rfl⟩ := r3
            exact .cons (.text _ _) (.cons (.int _ _) .nil)
theorem pairs_all (ok : HOk P w H h) (s : Same G H) : ∀ {vs : List V} {us : List Value} {es : List (Str × Int)}, Dqs G vs (es.map pairD) → Vals vs us → NestedAll h (es.map pairK) us
  | [], _, [], .nil, r => by cases r; exact .nil
  | _ :: _, _, _ :: _, .cons d1 d2, r => by
    cases r with
    | cons r1 r2 => exact .cons (pair_is ok s d1 r1) (pairs_all ok s d2 r2)
theorem pairs_is (ok : HOk P w H h) (s : Same G H) {b : Addr} {es : List (Str × Int)} (d : Dq G (.ref b) (.tup (es.map pairD))) : (nestedKind P w).is h (pairsK es) b := by
  cases d with
  | tup a1 a2 =>
    obtain ⟨_, its, rv, o, ho, hc, n, hd⟩ := ok _ _ (s _ _ a1)
    exact ⟨.tup ho hc hd (by simpa using pairs_all ok s a2 rv), pairs_depth es⟩
end
/-- the dict, by its entries -/
def DRaw (P : Program) (w : World) (a : Addr) (xs : List (NestedKey × Addr × Value)) : HO := .ext fun h => (a == sysModules) = false ∧ ∃ o es ep, h.get? a = some o ∧ o.ExactDict ∧ o.data = .dict es ep ∧ es.toList = xs.map (entryOfKey (nestedKind P w)) ∧ (xs.map (·.1)).Nodup
section
variable {P : Program} {w : World} {H : Hp} {h h' : Heap} {a : Addr} {xs : List (NestedKey × Addr × Value)}
theorem dRaw_ok (hd : (a == sysModules) = false) (m : h.DictOfH (nestedKind P w) a xs) : ObjOk P w H h a (DRaw P w a xs) := by
  obtain ⟨o, es, ep, ho, h1, h2, h3, _, h4⟩ := m
  exact ⟨⟨hd, o, es, ep, ho, h1, h2, h3, h4⟩, ⟨o, ho⟩, fun g1 g2 ⟨z, o, es, ep, e, r⟩ k => ⟨z, o, es, ep, k o e, r⟩⟩
theorem dRaw_get (ok : HOk P w H h) (e : H a = some (DRaw P w a xs)) (hk : ∀ x ∈ xs, (nestedKind P w).is h x.1 x.2.1) : (a == sysModules) = false ∧ h.DictOfH (nestedKind P w) a xs := by
  obtain ⟨⟨z, o, es, ep, ho, h1, h2, h3, h4⟩, _, _⟩ := ok a _ e
  exact ⟨z, o, es, ep, ho, h1, h2, h3, hk, h4⟩
end
/-- {} -/
def tDNewN (P : Program) (w : World) : TE := fun _ H Q => ∀ p, H p = none → Q (.ref p) (upd H p (DRaw P w p []))
/-- d[y] = a bool -/
def sDPutN (P : Program) (w : World) (td ty tv : TE) : TS := fun D σ H => tv σ H fun v H1 => td σ H1 fun x H2 => ty σ H2 fun y H3 => ∃ (a b : Addr) (k : NestedKey) (vb : Bool) (xs : List (NestedKey × Addr × Value)),
  x = .ref a ∧ y = .ref b ∧ v = .bl vb ∧ H3 a = some (DRaw P w a xs) ∧ (∀ h, HOk P w H3 h → (∀ x ∈ xs, (nestedKind P w).is h x.1 x.2.1) ∧ (nestedKind P w).is h k b) ∧ xs.length ≤ sizeLine ∧ D.nx σ (upd H3 a (DRaw P w a (storedH xs k b (.bool vb))))
/-- len(d) -/
def rLenN (P : Program) (w : World) : List V → Hp → VK → Prop := fun vs H Q => ∃ (a : Addr) (xs : List (NestedKey × Addr × Value)), vs = [.ref a] ∧ H a = some (DRaw P w a xs) ∧ (∀ h, HOk P w H h → ∀ x ∈ xs, (nestedKind P w).is h x.1 x.2.1) ∧ xs.length ≤ sizeLine ∧ Q (.int xs.length) H
section
variable {X : Cx} {P : Program} {w : World} {o i value : Expr} {td ty tv : TE} {pos pos' : Pos}
theorem pe_dnewN (hP : X.prog = P) (hw : X.w = w) : PE X (.Dict [] [] pos) (tDNewN P w) := by
  subst hP hw
  refine ⟨fun pins s σ H Q I h => ?_⟩
  refine wpAny_Dict_empty ⟨.ref s.heap.objs.size, _, I.laid (a := s.heap.objs.size) (o := DRaw X.prog X.w s.heap.objs.size []) (t' := s.toks) (fun _ _ q => Heap.get?_push_of_some _ q) (Nat.le_refl _) (dRaw_ok (beq_eq_false_iff_ne.mpr (Ne.symm (Nat.ne_of_lt I.big))) (Heap.DictOfH.new s.heap)), rfl, h _ (I.hok.fresh (Nat.le_refl _))⟩
theorem ps_dputN (hP : X.prog = P) (hw : X.w = w) (hu : X.A.units + 64 < cLine) (ho : PE X o td) (hi : PE X i ty) (hv : PE X value tv) (hs : swapsWith value (some (.Subscript o i pos')) pos.line X.env = pure false) :
    PS X (.Assign [.Subscript o i pos'] value pos) (sDPutN P w td ty tv) := by
  subst hP hw
  refine ⟨fun pins s σ H D I h => ?_⟩
  refine wpAny_Assign_Subscript (thn (hv.run pins s σ H _ I h) fun r s1 ⟨v, H1, I1, rv, q1⟩ => thn (ho.run pins s1 σ H1 _ I1 q1) fun u s2 ⟨x, H2, I2, rx, q2⟩ => thn (hi.run pins s2 σ H2 _ I2 q2) fun iv s3 ⟨y, H3, I3, ry, a, b, k, vb, xs, ex, ey, ev, hd, hk, hz, q3⟩ => ?_) hs
  subst ex ey ev
  cases rx
  cases ry
  cases rv
  obtain ⟨k1, k2⟩ := hk _ I3.hok
  obtain ⟨z, m⟩ := dRaw_get I3.hok hd k1
  refine wpAny_setItem_heap (hsz := hz) (show X.A.in1.units + 8 < cLine from by rw [Around.in1_units]; omega) k2 m fun h' m' hs' => ?_
  have he : ∃ q, h'.get? a = some q := by
    obtain ⟨q, _, _, hq, _⟩ := m'
    exact ⟨q, hq⟩
  exact ⟨σ, _, I3.write (x := a) (e := a) (by rw [hd]; trivial) (.inl rfl) (fun b q hb e => (hs'.2 b hb).trans e) he (dRaw_ok z m'), q3⟩
theorem call_lenN (hP : X.prog = P) (hw : X.w = w) : CallR X (.builtin "len") (rLenN P w) := by
  subst hP hw
  intro pins s σ H vs us Q I r h
  obtain ⟨a, xs, rfl, hd, hk, hz, q⟩ := h
  rw [Vals.ref1 r]
  obtain ⟨z, m⟩ := dRaw_get I.hok hd (hk _ I.hok)
  exact call_len_dictH z m (by have := sizeLine_eq; have : (sizeLine : Nat) < 2 ^ 62 := by rw [sizeLine_eq]; decide
                               omega) ⟨.int _, H, I.tok _, ⟨_, rfl⟩, q⟩
end
/-- in a slot: the dict with the keys of the told rows of pairs, in order -/
def DSeen (P : Program) (w : World) (ks : List (List (Str × Int))) : Hp → Addr → HO → Prop := fun G p o => ∃ xs : List (NestedKey × Addr × Value), o = DRaw P w p xs ∧ xs.map (·.1) = ks.map pairsK ∧ ∀ x ∈ xs, ∃ es : List (Str × Int), x.1 = pairsK es ∧ Dq G (.ref x.2.1) (.tup (es.map pairD))
section
variable {c : Bs} {δ : Fe} {te ta tb : TE} {p : Po} {P : Program} {w : World}
theorem ds_letSeen {i : Nat} {ts : TS} (k : Ds c ts (δ.set i (.obj (DSeen P w []))) p) : Ds c (tSeq (tAsg (tDNewN P w) (gName i)) ts) δ p :=
  ds_seq (M := (· = δ.set i (.obj (DSeen P w [])))) (fun D σ G H e n r b q => fun a ha =>
    n _ _ G _ (Same.refl G) ((e.up (Gx.put e.same e.jj ha)).setOwn i (.obj (DSeen P w [])) (fun k y hk oy sk => e.noSlot ha k y hk oy sk) fun hlt =>
      ⟨a, _, List.getElem?_set_self (by rw [e.len]; exact hlt), upd_same, (by
        cases k : G a with
        | none => rfl
        | some u => rw [e.same a u k] at ha; cases ha), e.gx.fresh e.j0 ha, (fun _ _ => ⟨[], rfl, rfl, fun _ h => by cases h⟩), fun _ z => nomatch z⟩) rfl) fun δ' e => by rw [e]; exact k
/-- the body's object at i is replaced -/
theorem En.pokeO {b : Bx} {G0 H0 G H : Hp} {σ : L2.St} (e : En b G0 H0 G H σ δ) {i : Nat} {Φ Ψ : Hp → Addr → HO → Prop} {a : Addr} {o : HO} (h : δ[i]? = some (.obj Φ)) (ha : σ[i]? = some (some (.ref a))) (hΨ : ∀ G', Same G G' → Ψ G' a o) (hO : ∀ xs, o ≠ .tup xs := by intro _ z; cases z) : En b G0 H0 G (upd H a o) σ (δ.set i (.obj Ψ)) := by
  obtain ⟨p, o0, e1, h1, h2, h3, h4⟩ := e.sl i _ h
  rw [ha] at e1
  have ea := V.ref.inj (Option.some.inj (Option.some.inj e1))
  subst ea
  have hi : i < δ.length := (List.getElem?_eq_some_iff.mp h).1
  refine ⟨e.j0, Gx.poke e.j0 e.gx h3 h2, by rw [List.length_set, e.len], fun k x hk => ?_, fun k l y z q hk hl oy oz sk sl => ?_⟩
  · by_cases hik : i = k
    · subst hik
      rw [List.getElem?_set_self hi] at hk
      have := Option.some.inj hk
      subst this
      exact ⟨a, o, ha, upd_same, h2, h3, hΨ, hO⟩
    · rw [List.getElem?_set_ne hik] at hk
      have q := e.sl k x hk
      have na : ∀ {p : Addr}, x.owns = true → σ[k]? = some (some (.ref p)) → p ≠ a := fun {p} ox s z => hik (e.apart i k _ x a h hk rfl ox ha (by rw [← z]; exact s))
      cases x with
      | un => trivial
      | dat d => exact q
      | own es =>
        obtain ⟨p, ws, e2, q1, q2, q3, q4⟩ := q
        exact ⟨p, ws, e2, by rw [upd_ne (na rfl e2)]; exact q1, q2, q3, q4⟩
      | obj Φ =>
        obtain ⟨p, o, e2, q1, q2⟩ := q
        exact ⟨p, o, e2, by rw [upd_ne (na rfl e2)]; exact q1, q2⟩
      | raw v => exact q
  · have ne : ∀ {m : Nat} {u : Sl}, (δ.set i (.obj Ψ))[m]? = some u → u.owns = true → ∃ u', δ[m]? = some u' ∧ u'.owns = true := fun {m u} hm ou => by
      by_cases him : i = m
      · subst him
        exact ⟨_, h, rfl⟩
      · rw [List.getElem?_set_ne him] at hm
        exact ⟨u, hm, ou⟩
    obtain ⟨y', a1, a2⟩ := ne hk oy
    obtain ⟨z', b1, b2⟩ := ne hl oz
    exact e.apart k l y' z' q a1 b1 a2 b2 sk sl
/-- seen[tuple(es)] = a bool, es a new key -/
theorem ds_seenPut {i : Nat} {ks : List (List (Str × Int))} {es : List (Str × Int)} {vb : Bool} (h : δ[i]? = some (.obj (DSeen P w ks))) (hv : De c tb δ (.bl vb)) (hy : De c te δ (.tup (es.map pairD))) (hn : es ∉ ks) (hl : ks.length ≤ 10000000)
    (k : p.N (δ.set i (.obj (DSeen P w (ks ++ [es]))))) : Ds c (sDPutN P w (tVar i) te tb) δ p := fun D σ G H e n r b q => by
  refine hv σ G H e _ fun v d G1 H1 g1 d1 p1 => ?_
  subst p1
  cases d1
  obtain ⟨a, o, e1, h1, h2, h3, h4⟩ := (e.up g1).sl i _ h
  refine ⟨.ref a, e1, ?_⟩
  refine hy σ G1 H1 (e.up g1) _ fun y d G2 H2 g2 d2 p2 => ?_
  subst p2
  have e2 := (e.up g1).up g2
  obtain ⟨a', o', e1', h1', h2', h3', h4'⟩ := e2.sl i _ h
  rw [e1] at e1'
  have ea := V.ref.inj (Option.some.inj (Option.some.inj e1'))
  subst ea
  obtain ⟨xs, rfl, hks, hx⟩ := h4'.1 G2 (Same.refl _)
  have hlen : xs.length = ks.length := by
    have := congrArg List.length hks
    simpa using this
  generalize hD : Dt.tup (es.map pairD) = dd at d2
  cases d2 with
  | tup a1 a2 =>
    rename_i bb vs ds
    have dk : Dq G2 (.ref bb) (.tup (es.map pairD)) := by rw [hD]; exact .tup a1 a2
    refine ⟨a, bb, pairsK es, vb, xs, rfl, rfl, rfl, h1', fun hh ok => ⟨fun x hxx => ?_, pairs_is ok e2.same dk⟩, sz_ok (by omega), ?_⟩
    · obtain ⟨fs, e3, d3⟩ := hx x hxx
      rw [e3]
      exact pairs_is ok e2.same d3
    · have no : atKey xs (pairsK es) = none := by
        unfold atKey
        rw [Option.map_eq_none_iff, List.find?_eq_none]
        intro x hxx hdec
        have e4 : x.1 = pairsK es := of_decide_eq_true hdec
        have : pairsK es ∈ ks.map pairsK := by
          rw [← hks, ← e4]
          exact List.mem_map.mpr ⟨x, hxx, rfl⟩
        obtain ⟨fs, hf, e5⟩ := List.mem_map.mp this
        exact hn (pairsK_inj e5 ▸ hf)
      rw [storedH_new no]
      refine n _ _ G2 _ (g1.gg.trans g2.gg) (e2.pokeO h e1 fun G' s' => ⟨_, rfl, ?_, fun x hxx => ?_⟩) k
      · rw [List.map_append, List.map_append, hks]; rfl
      · rcases List.mem_append.mp hxx with hxx | hxx
        · obtain ⟨fs, e3, d3⟩ := hx x hxx
          exact ⟨fs, e3, d3.up s'⟩
        · rw [List.mem_singleton.mp hxx]
          exact ⟨es, rfl, dk.up s'⟩
  | _ => cases hD
/-- len(seen) -/
theorem de_lenSeen {i : Nat} {ks : List (List (Str × Int))} (h : δ[i]? = some (.obj (DSeen P w ks))) (hl : ks.length ≤ 10000000) : De c (tCB (rLenN P w) (tCons (tVar i) tNil)) δ (.int ks.length) := fun σ G H e Q q => by
  obtain ⟨a, o, e1, h1, h2, h3, h4⟩ := e.sl i _ h
  refine ⟨.ref a, e1, ?_⟩
  obtain ⟨xs, rfl, hks, hx⟩ := h4.1 G (Same.refl _)
  have hlen : xs.length = ks.length := by
    have := congrArg List.length hks
    simpa using this
  refine ⟨a, xs, rfl, h1, fun hh ok x hxx => ?_, sz_ok (by omega), ?_⟩
  · obtain ⟨fs, e3, d3⟩ := hx x hxx
    rw [e3]
    exact pairs_is ok e.same d3
  · rw [hlen]
    exact q _ _ G H (Gx.refl e.same e.jj) (.int _) rfl
end
end Zd

set_option Elab.async false
set_option maxRecDepth 100000
set_option maxHeartbeats 4000000
/-! Zd11: drawn ints and texts, by data. -/
namespace Zd
open PySem L2 StX
section
variable {c : Bs} {δ : Fe} {ta tb te : TE} {T : Dt → Prop} {K : PySem.W.Frag}
/-- an int, a text of which something is known -/
abbrev IsI (P : Int → Prop) : Dt → Prop := fun d => ∃ r : Int, d = .int r ∧ P r
abbrev IsS (P : Str → Prop) : Dt → Prop := fun d => ∃ r : Str, d = .str r ∧ P r
theorem Rv.mono {b : Bx} {r : R2} {x y : Dt} {S T : Dt → Prop} (h : Rv b r x y S) (k : ∀ d, S d → T d) : Rv b r x y T := fun v w G H s j d1 d2 Q q => h v w G H s j d1 d2 Q fun u d G' H' g dq e => q u d G' H' g dq (k d e)
theorem dn_addI {A B R : Int → Prop} (ha : Dn c ta δ (IsI A)) (hb : Dn c tb δ (IsI B)) (h : ∀ i j, A i → B j → R (i + j)) : Dn c (tOp (rI0 fun i j => .int (i + j)) ta tb) δ (IsI R) := by
  refine dn_op ha hb ?_
  rintro x y ⟨i, rfl, hi⟩ ⟨j, rfl, hj⟩
  exact (rv_I0 (z := .int (i + j)) fun _ => .int _).mono fun d e => ⟨_, e, h i j hi hj⟩
theorem dn_subI {A B R : Int → Prop} (ha : Dn c ta δ (IsI A)) (hb : Dn c tb δ (IsI B)) (h : ∀ i j, A i → B j → R (i - j)) : Dn c (tOp (rI0 fun i j => .int (i - j)) ta tb) δ (IsI R) := by
  refine dn_op ha hb ?_
  rintro x y ⟨i, rfl, hi⟩ ⟨j, rfl, hj⟩
  exact (rv_I0 (z := .int (i - j)) fun _ => .int _).mono fun d e => ⟨_, e, h i j hi hj⟩
theorem dn_mulI {A B R : Int → Prop} (ha : Dn c ta δ (IsI A)) (hb : Dn c tb δ (IsI B)) (h : ∀ i j, A i → B j → (-(2 ^ 64) < j ∧ j < 2 ^ 64) ∧ R (i * j)) : Dn c (tOp (rI CMul fun i j => .int (i * j)) ta tb) δ (IsI R) := by
  refine dn_op ha hb ?_
  rintro x y ⟨i, rfl, hi⟩ ⟨j, rfl, hj⟩
  obtain ⟨h1, h2⟩ := h i j hi hj
  exact (rv_I (z := .int (i * j)) (.inr h1) fun _ => .int _).mono fun d e => ⟨_, e, h2⟩
theorem De.dn {d : Dt} (h : De c te δ d) (k : T d) : Dn c te δ T := h.imp fun _ e => by rw [e]; exact k
theorem De.isI {i : Int} {P : Int → Prop} (h : De c te δ (.int i)) (k : P i) : Dn c te δ (IsI P) := h.dn ⟨i, rfl, k⟩
theorem De.isS {i : Str} {P : Str → Prop} (h : De c te δ (.str i)) (k : P i) : Dn c te δ (IsS P) := h.dn ⟨i, rfl, k⟩
/-- text + text -/
theorem dn_addS {A B R : Str → Prop} (ha : Dn c ta δ (IsS A)) (hb : Dn c tb δ (IsS B)) (h : ∀ i j, A i → B j → i.length + j.length ≤ 10000000 ∧ R (i ++ j)) : Dn c (tOp (fun x y H Q => ∃ i j, x = V.str i ∧ y = .str j ∧ i.length + j.length ≤ sizeLine ∧ Q (.str (i ++ j)) H) ta tb) δ (IsS R) := by
  refine dn_op ha hb ?_
  rintro x y ⟨i, rfl, hi⟩ ⟨j, rfl, hj⟩
  obtain ⟨h1, h2⟩ := h i j hi hj
  intro v w G H s jj d1 d2 Q q
  cases d1; cases d2
  exact ⟨i, j, rfl, rfl, sz_ok h1, q _ _ G H (Gx.refl s jj) (.str _) ⟨_, rfl, h2⟩⟩
theorem at_z {α : Type} {xs : List α} {z : Int} {j : Nat} {v : α} (e : z = (j : Int)) (h : xs[j]? = some v) : atI xs z = some v := by
  rw [e]; exact atI_nat h
/-- text[i] -/
theorem dn_ixS {R : Str → Prop} {z : Str} (ha : De c ta δ (.str z)) (hb : Dn c tb δ (IsI fun r => 0 ≤ r ∧ r < z.length)) (hz : z.length ≤ 10000000) (h : ∀ x ∈ z.cps.toList, R ⟨#[x]⟩) : Dn c (tOp rIxS ta tb) δ (IsS R) := by
  refine dn_op ha hb ?_
  rintro x y rfl ⟨j, rfl, j0, j1⟩
  intro v w G H s jj d1 d2 Q q
  cases d1; cases d2
  have hlt : j.toNat < z.cps.toList.length := by
    have : z.cps.toList.length = z.length := Array.length_toList
    omega
  have e : j = ((j.toNat : Nat) : Int) := by omega
  refine ⟨z, j, z.cps.toList[j.toNat], rfl, rfl, sz_ok hz, ?_, q _ _ G H (Gx.refl s jj) (.str _) ⟨_, rfl, h _ (List.getElem_mem hlt)⟩⟩
  exact at_z e (List.getElem?_eq_getElem hlt)
/-- text[lo:hi] -/
theorem dn_slS {A R : Str → Prop} {P S : Option Int → Prop} {tl th : TO} (ha : Dn c ta δ (IsS A)) (hl : Dp' c tl δ P) (hh : Dp' c th δ S) (h : ∀ z lo hi, A z → P lo → S hi → z.length ≤ 10000000 ∧ R (cutS z lo hi)) : Dn c (tSl rSlS ta tl th) δ (IsS R) := fun σ G H e Q q =>
  ha σ G H e _ fun v x G1 H1 g1 d1 p1 => hl σ G1 H1 (e.up g1) _ fun lo G2 H2 g2 p2 => hh σ G2 H2 (e.up (g1.trans e.jj g2)) _ fun hi G3 H3 g3 p3 => by
    obtain ⟨z, rfl, az⟩ := p1
    cases d1
    obtain ⟨h1, h2⟩ := h z lo hi az p2 p3
    exact ⟨z, rfl, sz_ok h1, q _ _ G3 H3 ((g1.trans e.jj g2).trans e.jj g3) (.str _) ⟨_, rfl, h2⟩⟩
/-- list[i], tuple[i]: an item -/
theorem dn_ixL {R : Dt → Prop} {xs : List Dt} (ha : De c ta δ (.lst xs)) (hb : Dn c tb δ (IsI fun r => 0 ≤ r ∧ r < xs.length)) (h : ∀ x ∈ xs, R x) : Dn c (tOp (rIxL K) ta tb) δ R := by
  refine dn_op ha hb ?_
  rintro x y rfl ⟨j, rfl, j0, j1⟩
  have hlt : j.toNat < xs.length := by omega
  have e : j = ((j.toNat : Nat) : Int) := by omega
  rw [e]
  exact (rv_ixL (atI_nat (List.getElem?_eq_getElem hlt))).mono fun d e => by rw [e]; exact h _ (List.getElem_mem hlt)
theorem dn_ixT {R : Dt → Prop} {xs : List Dt} (ha : De c ta δ (.tup xs)) (hb : Dn c tb δ (IsI fun r => 0 ≤ r ∧ r < xs.length)) (h : ∀ x ∈ xs, R x) : Dn c (tOp (rIxT K) ta tb) δ R := by
  refine dn_op ha hb ?_
  rintro x y rfl ⟨j, rfl, j0, j1⟩
  have hlt : j.toNat < xs.length := by omega
  have e : j = ((j.toNat : Nat) : Int) := by omega
  rw [e]
  exact (rv_ixT (atI_nat (List.getElem?_eq_getElem hlt))).mono fun d e => by rw [e]; exact h _ (List.getElem_mem hlt)
theorem de_ixLn {xs : List Dt} {i : Nat} {d : Dt} (ha : De c ta δ (.lst xs)) (hb : De c tb δ (.int (i : Int))) (h : xs[i]? = some d) : De c (tOp (rIxL K) ta tb) δ d := de_ixL ha hb (atI_nat h)
theorem de_ixTn {xs : List Dt} {i : Nat} {d : Dt} (ha : De c ta δ (.tup xs)) (hb : De c tb δ (.int (i : Int))) (h : xs[i]? = some d) : De c (tOp (rIxT K) ta tb) δ d := de_ixT ha hb (atI_nat h)
/-- a draw -/
theorem dn_pick {E : XK} {p : Addr} {i : Nat} {m : Int} (S : SrcC c p) (h : δ[i]? = some (.raw (.ref p))) (he : De c te δ (.int m)) (m0 : 0 < m) (m1 : m < 1000000000) : Dn c (tCall spPickS [] E (tCons (tVar i) (tCons te tNil))) δ (IsI fun r => 0 ≤ r ∧ r < m) :=
  dn_callS S h (da_consE he da_nil) fun xs e => ⟨m, e, ⟨m0, m1⟩, fun d h => h⟩
/-- len(text) -/
theorem de_lenS {z : Str} (h : De c te δ (.str z)) (hz : z.length ≤ 10000000) : De c (tCB (fun xs H Q => ∃ z, xs = [V.str z] ∧ z.length ≤ sizeLine ∧ Q (.int z.length) H) (tCons te tNil)) δ (.int z.length) :=
  dn_cb (da_consE h da_nil) fun _ e => by
    rw [e]
    intro vs G H s j d Q q
    cases d with
    | cons h hs =>
      cases hs; cases h
      exact ⟨z, rfl, sz_ok hz, q _ _ G H (Gx.refl s j) (.int _) rfl⟩
end
section
variable {c : Bs} {δ : Fe} {ta tb te : TE} {tt tu : TT} {T : Dt → Prop} {K : PySem.W.Frag}
abbrev IsB (P : Bool → Prop) : Dt → Prop := fun d => ∃ r : Bool, d = .bl r ∧ P r
theorem de_ixSn {z : Str} {i : Nat} {x : Nat} (ha : De c ta δ (.str z)) (hb : De c tb δ (.int (i : Int))) (hz : z.length ≤ 10000000) (h : z.cps.toList[i]? = some x) : De c (tOp rIxS ta tb) δ (.str ⟨#[x]⟩) := by
  refine de_op ha hb (rv_val fun v w G H s d1 d2 Q q => ?_)
  cases d1; cases d2
  exact ⟨z, _, x, rfl, rfl, sz_ok hz, atI_nat h, q _ (.str _)⟩
theorem de_addS {i j : Str} (ha : De c ta δ (.str i)) (hb : De c tb δ (.str j)) (h : i.length + j.length ≤ 10000000) : De c (tOp (fun x y H Q => ∃ i j, x = V.str i ∧ y = .str j ∧ i.length + j.length ≤ sizeLine ∧ Q (.str (i ++ j)) H) ta tb) δ (.str (i ++ j)) := by
  refine de_op ha hb (rv_val fun v w G H s d1 d2 Q q => ?_)
  cases d1; cases d2
  exact ⟨i, j, rfl, rfl, sz_ok h, q _ (.str _)⟩
theorem de_slS {z : Str} {tl th : TO} {lo hi : Option Int} (ha : De c ta δ (.str z)) (hl : Dp' c tl δ (· = lo)) (hh : Dp' c th δ (· = hi)) (hz : z.length ≤ 10000000) : De c (tSl rSlS ta tl th) δ (.str (cutS z lo hi)) := fun σ G H e Q q =>
  ha σ G H e _ fun v x G1 H1 g1 d1 p1 => hl σ G1 H1 (e.up g1) _ fun lo' G2 H2 g2 p2 => hh σ G2 H2 (e.up (g1.trans e.jj g2)) _ fun hi' G3 H3 g3 p3 => by
    subst p1 p2 p3
    cases d1
    exact ⟨z, rfl, sz_ok hz, q _ _ G3 H3 ((g1.trans e.jj g2).trans e.jj g3) (.str _) rfl⟩
theorem dn_eqI {A : Int → Prop} {j : Int} (ha : Dn c ta δ (IsI A)) (hb : De c tb δ (.int j)) : Dn c (tOp rEq ta tb) δ (IsB fun b => ∃ i, A i ∧ b = decide (i = j)) := by
  refine dn_op ha hb ?_
  rintro x y ⟨i, rfl, hi⟩ rfl
  exact rv_eqI.mono fun d e => ⟨_, e, i, hi, rfl⟩
theorem dn_cmpI {A : Int → Prop} {f : Int → Int → Bool} {j : Int} (ha : Dn c ta δ (IsI A)) (hb : De c tb δ (.int j)) : Dn c (tOp (rI0 fun i j => .bl (f i j)) ta tb) δ (IsB fun b => ∃ i, A i ∧ b = f i j) := by
  refine dn_op ha hb ?_
  rintro x y ⟨i, rfl, hi⟩ rfl
  exact (rv_I0 (z := .bl (f i j)) fun _ => .bl _).mono fun d e => ⟨_, e, i, hi, rfl⟩
theorem dt_testB {P : Bool → Prop} (h : Dn c te δ (IsB P)) : Dt' c (tTest te) δ P := dt_test h fun _ h => h
theorem dt_andP {A B : Bool → Prop} (ha : Dt' c tt δ A) (hb : A true → Dt' c tu δ B) : Dt' c (tAnd tt tu) δ (fun k => (k = false ∧ A false) ∨ (A true ∧ B k)) := fun σ G H e Q q =>
  ha σ G H e _ fun k G1 H1 g1 p1 => by
    cases k with
    | true =>
      show tu σ H1 Q
      exact hb p1 σ G1 H1 (e.up g1) Q fun k G2 H2 g2 p2 => q k G2 H2 (g1.trans e.jj g2) (.inr ⟨p1, p2⟩)
    | false =>
      show Q false H1
      exact q false G1 H1 g1 (.inl ⟨rfl, p1⟩)
theorem dt_any {P : Bool → Prop} (h : Dt' c tt δ P) : Dt' c tt δ (fun _ => True) := h.imp fun _ _ => trivial
end
/-! ### texts as rows of signs -/
abbrev sg (w : Str) : List Nat := w.cps.toList
theorem sg_len (w : Str) : (sg w).length = w.length := Array.length_toList
theorem sg_add (a b : Str) : sg (a ++ b) = sg a ++ sg b := by
  show (a.cps ++ b.cps).toList = _
  simp
theorem sg_inj {a b : Str} (h : sg a = sg b) : a = b := by
  cases a; cases b
  congr
  exact Array.toList_inj.mp h
theorem sg_one (x : Nat) : sg ⟨#[x]⟩ = [x] := rfl
theorem sg_tail (z : Str) : sg (cutS z (some 1) none) = (sg z).drop 1 := by
  show ((z.cps.toList.drop (HT.sIx z.length 0 (some 1))).take (HT.sIx z.length z.length none - HT.sIx z.length 0 (some 1))).toArray.toList = _
  rw [show HT.sIx z.length 0 (some 1) = min 1 z.length from HT.sIx_nat z.length 0 1, HT.sIx_none]
  have hl : z.cps.toList.length = z.length := Array.length_toList
  show _ = z.cps.toList.drop 1
  generalize z.cps.toList = l at hl ⊢
  cases l with
  | nil => simp
  | cons x r =>
    rw [List.length_cons] at hl
    rw [show min 1 z.length = 1 by omega]
    simp [← hl]
theorem sg_head (z : Str) (n : Nat) : sg (cutS z none (some (n : Int))) = (sg z).take n := by
  show ((z.cps.toList.drop (HT.sIx z.length 0 none)).take (HT.sIx z.length z.length (some (n : Int)) - HT.sIx z.length 0 none)).toArray.toList = _
  rw [HT.sIx_none, HT.sIx_nat]
  have hl : z.cps.toList.length = z.length := Array.length_toList
  show _ = z.cps.toList.take n
  simp only [List.drop_zero, Nat.sub_zero]
  by_cases h : n ≤ z.length
  · rw [Nat.min_eq_left h]
  · rw [Nat.min_eq_right (by omega), List.take_of_length_le (by omega), List.take_of_length_le (by omega)]
theorem strOk_sg (w : Str) : PyData.strOk w = true ↔ ∀ x ∈ sg w, x < 0x110000 := by
  unfold PyData.strOk
  rw [Array.all_eq_true_iff_forall_mem]
  simp
/-- a list without what is there twice is no longer than one that has it all -/
theorem nodup_len {α : Type} [DecidableEq α] : ∀ {l m : List α}, l.Nodup → (∀ a ∈ l, a ∈ m) → l.length ≤ m.length
  | [], _, _, _ => Nat.zero_le _
  | a :: r, m, nd, h => by
    obtain ⟨n1, n2⟩ := List.nodup_cons.mp nd
    have hm := h a List.mem_cons_self
    have := nodup_len (l := r) (m := m.erase a) n2 fun b hb => (List.mem_erase_of_ne (show b ≠ a from fun e => n1 (by rw [← e]; exact hb))).mpr (h b (List.mem_cons_of_mem _ hb))
    rw [List.length_erase_of_mem hm] at this
    have pos : 0 < m.length := List.length_pos_of_mem hm
    rw [List.length_cons]
    omega
/-! ### words -/
def lowB (x : Nat) : Bool := decide (97 ≤ x) && decide (x ≤ 122)
def digB (x : Nat) : Bool := decide (48 ≤ x) && decide (x ≤ 57)
/-- a letter, but not the last one -/
def fstB (x : Nat) : Bool := lowB x && decide (x ≠ 122)
/-- letters, and digits behind the first where e says so; at most n signs; no z at the head -/
def wl (e : Bool) (n : Nat) (l : List Nat) : Bool := (match l with | x :: _ => fstB x | [] => false) && decide (l.length ≤ n) && l.all fun x => lowB x || (e && digB x)
abbrev Wd (e : Bool) (w : Str) : Prop := wl e 8 (sg w) = true
theorem wl_iff {e : Bool} {n : Nat} {l : List Nat} : wl e n l = true ↔ (∃ x r, l = x :: r ∧ fstB x = true) ∧ l.length ≤ n ∧ ∀ x ∈ l, (lowB x || (e && digB x)) = true := by
  unfold wl
  cases l with
  | nil => simp
  | cons x r =>
    rw [Bool.and_eq_true, Bool.and_eq_true, decide_eq_true_eq, List.all_eq_true]
    constructor
    · rintro ⟨⟨h1, h2⟩, h3⟩
      exact ⟨⟨x, r, rfl, h1⟩, h2, h3⟩
    · rintro ⟨⟨y, s, h0, h1⟩, h2, h3⟩
      cases h0
      exact ⟨⟨h1, h2⟩, h3⟩
theorem wl_more {n m : Nat} {e : Bool} {l : List Nat} (h : wl e n l = true) (hm : n ≤ m) : wl e m l = true := by
  rw [wl_iff] at h ⊢
  exact ⟨h.1, by omega, h.2.2⟩
theorem wl_app {n m : Nat} {e : Bool} {l r : List Nat} (h : wl e n l = true) (hr : ∀ x ∈ r, (lowB x || (e && digB x)) = true) (hl : l.length + r.length ≤ m) : wl e m (l ++ r) = true := by
  rw [wl_iff] at h ⊢
  obtain ⟨⟨x, s, rfl, h1⟩, h2, h3⟩ := h
  refine ⟨⟨x, s ++ r, rfl, h1⟩, by rw [List.length_append]; exact hl, fun y hy => ?_⟩
  rcases List.mem_append.mp hy with hy | hy
  · exact h3 y hy
  · exact hr y hy
theorem wl_sign {n : Nat} {e f : Bool} {l : List Nat} (h : wl e n l = true) (k : e = true → f = true) : wl f n l = true := by
  rw [wl_iff] at h ⊢
  refine ⟨h.1, h.2.1, fun x hx => ?_⟩
  have := h.2.2 x hx
  rw [Bool.or_eq_true, Bool.and_eq_true] at this ⊢
  exact this.imp id fun z => ⟨k z.1, z.2⟩
theorem Wd.ok {e : Bool} {w : Str} (h : Wd e w) : PyData.strOk w = true := by
  rw [strOk_sg]
  intro x hx
  have := (wl_iff.mp h).2.2 x hx
  unfold lowB digB at this
  simp at this
  omega
end Zd

set_option Elab.async false
set_option maxRecDepth 100000
set_option maxHeartbeats 4000000
/-! Zd12: more of lists, by data. -/
namespace Zd
open PySem L2 StX
theorem ix_seqK {X : Cx} {K : PySem.W.Frag} (hK : X.K = K) : IxR X (rIx K) := by subst hK; exact ix_seq
theorem rng_get {n i : Nat} {d : Dt} (h : (rngD 0 n)[i]? = some d) : i < n ∧ d = .int (i : Int) := by
  have hi := (List.getElem?_eq_some_iff.mp h).1
  rw [rngD_len] at hi
  rw [rngD_get hi] at h
  exact ⟨hi, by rw [← Option.some.inj h, Int.zero_add]⟩
theorem rng_eq (n : Nat) : rngD 0 n = (List.range n).map fun (k : Nat) => Dt.int (k : Int) := by
  unfold rngD
  refine List.map_congr_left fun k _ => ?_
  rw [Int.zero_add]
theorem cutD_take (xs : List Dt) (n : Nat) : cutD xs none (some (n : Int)) = xs.take n := by
  unfold cutD
  rw [HT.sIx_none, HT.sIx_nat, List.drop_zero, Nat.sub_zero]
  by_cases h : n ≤ xs.length
  · rw [Nat.min_eq_left h]
  · rw [Nat.min_eq_right (by omega), List.take_of_length_le (Nat.le_refl _), List.take_of_length_le (by omega)]
theorem cutD_drop (xs : List Dt) (n : Nat) : cutD xs (some (n : Int)) none = xs.drop n := by
  unfold cutD
  rw [HT.sIx_none, HT.sIx_nat]
  by_cases h : n ≤ xs.length
  · rw [Nat.min_eq_left h, List.take_of_length_le (by simp)]
  · rw [Nat.min_eq_right (by omega), List.drop_of_length_le (Nat.le_refl _), List.drop_of_length_le (by omega), List.take_nil]
section
variable {c : Bs} {δ : Fe} {ta tb te : TE} {T : Dt → Prop} {K : PySem.W.Frag}
theorem dl_slE {tl th : TO} {xs : List Dt} {lo hi : Option Int} (h : De c te δ (.lst xs)) (hl : Dp' c tl δ (· = lo)) (hh : Dp' c th δ (· = hi)) : Dl c (tSl (rSlL K) te tl th) δ (· = cutD xs lo hi) :=
  (dl_sl h hl hh).imp fun ys ⟨a, b, e1, e2, e3⟩ => by rw [e3, e1, e2]
theorem rv_ixSeq {b : Bx} {t : Bool} {ds : List Dt} {i : Int} {d : Dt} (h : atI ds i = some d) : Rv b (rIx K) (if t = true then .tup ds else .lst ds) (.int i) (· = d) := fun v w G H s j d1 d2 Q q => by
  cases t with
  | true => exact .inr (.inl (rv_ixT h v w G H s j d1 d2 Q q))
  | false => exact .inl (rv_ixL h v w G H s j d1 d2 Q q)
theorem de_lenSeqK {t : Bool} {ds : List Dt} (h : De c ta δ (if t = true then .tup ds else .lst ds)) : De c (tCB (rLen K) (tCons ta tNil)) δ (.int ds.length) := by
  cases t with
  | true => exact de_lenT h
  | false => exact de_lenL h
end
end Zd
namespace Zd
open PySem L2 StX
section
variable {c : Bs} {δ : Fe} {ta tb te : TE} {T : Dt → Prop} {K : PySem.W.Frag}
theorem sl_tupAK {X : Cx} (hK : X.K = K) : SlR X (rSlA K) := by subst hK; exact sl_tupA
theorem op_catAK {X : Cx} (hK : X.K = K) : OpR X (binaryOp .Add) (rCatA K) := by subst hK; exact op_catA
/-- tuple[lo:hi] -/
theorem dn_slTA {tl th : TO} {xs : List Dt} {A B : Option Int → Prop} (h : De c te δ (.tup xs)) (hl : Dp' c tl δ A) (hh : Dp' c th δ B) (k : ∀ lo hi, A lo → B hi → T (.tup (cutD xs lo hi))) : Dn c (tSl (rSlA K) te tl th) δ T := fun σ G H e Q q =>
  h σ G H e _ fun v x G1 H1 g1 d1 p1 => hl σ G1 H1 (e.up g1) _ fun lo G2 H2 g2 p2 => hh σ G2 H2 (e.up (g1.trans e.jj g2)) _ fun hi G3 H3 g3 p3 => by
    subst p1
    have g13 := (g1.trans e.jj g2).trans e.jj g3
    have kk := k lo hi p2 p3
    cases d1 with
    | tup a1 a2 =>
      rename_i a vs
      have at3 := g3.gg _ _ (g2.gg _ _ a1)
      have da := (a2.up g2.gg).up g3.gg
      refine ⟨a, vs, rfl, SqT.of (g3.gh _ _ at3), fun w => ?_, fun _ p hp => ?_⟩
      · have e1 : cutD xs lo hi = xs := by
          rw [da.length] at w
          unfold cutD
          rw [w.1, w.2, List.drop_zero, Nat.sub_zero, List.take_of_length_le (Nat.le_refl _)]
        rw [e1] at kk
        exact q _ _ G3 H3 g13 (.tup at3 da) kk
      · exact q (.ref p) _ _ _ (g13.newDat e.jj hp (.tup (cutV vs lo hi))) (.tup upd_same ((dqs_cut da lo hi).up fun b o z => by rw [upd_ne (ne_of_none (g3.gh b o z) hp)]; exact z)) kk
/-- list + list, of which something is known -/
theorem dl_catP {A B : List Dt → Prop} (ha : Dn c ta δ (fun d => ∃ xs, d = .lst xs ∧ A xs)) (hb : Dn c tb δ (fun d => ∃ xs, d = .lst xs ∧ B xs)) (hl : ∀ xs ys, A xs → B ys → xs.length + ys.length ≤ 10000000) : Dl c (tOp rCat ta tb) δ (fun ds => ∃ xs ys, A xs ∧ B ys ∧ ds = xs ++ ys) := fun σ G H e Q q =>
  ha σ G H e _ fun v x G1 H1 g1 d1 p1 => hb σ G1 H1 (e.up g1) _ fun w y G2 H2 g2 d2 p2 => by
    obtain ⟨xs, rfl, ax⟩ := p1
    obtain ⟨ys, rfl, by'⟩ := p2
    have g12 := g1.trans e.jj g2
    cases d1 with
    | lst a1 a2 =>
      cases d2 with
      | lst b1 b2 =>
        refine ⟨_, _, _, _, rfl, rfl, g2.gh _ _ (g2.gg _ _ a1), g2.gh _ _ b1, sz_ok (by rw [a2.length, b2.length]; exact hl _ _ ax by'), fun p hp => ?_⟩
        refine q p _ _ G2 _ (g12.trans e.jj (Gx.put g2.gh g2.jj hp)) (g12.fresh e.jj hp) ?_ upd_same ((a2.up g2.gg).append b2) ⟨xs, ys, ax, by', rfl⟩
        cases k : G2 p with
        | none => rfl
        | some u => rw [g2.gh p u k] at hp; cases hp
/-- tuple(t), t a tuple -/
theorem de_tupleOfTK {xs : List Dt} (h : De c te δ (.tup xs)) : De c (tCB (rTupOf K) (tCons te tNil)) δ (.tup xs) := fun σ G H e Q q =>
  h σ G H e _ fun v x G1 H1 g1 d1 p1 => by
    subst p1
    cases d1 with
    | tup a1 a2 =>
      exact ⟨_, _, rfl, .inr ⟨SqT.of (g1.gh _ _ a1), q _ _ G1 H1 g1 (.tup a1 a2) rfl⟩⟩
/-- x in a tuple of texts -/
theorem rv_inST {b : Bx} {neg : Bool} {n : Str} {ns : List Str} : Rv b (rIn K neg) (.str n) (.tup (ns.map Dt.str)) (· = .bl (if neg then !decide (n ∈ ns) else decide (n ∈ ns))) := rv_val fun v w G H s d1 d2 Q q => by
  cases d1
  cases d2 with
  | tup h1 h2 =>
    have e := h2.strs
    subst e
    refine ⟨_, _, rfl, .inr (SqT.of (s _ _ h1)), rfl, flat_strs ns, ?_⟩
    rw [inV_strs]
    exact q _ (.bl _)
end
end Zd

set_option Elab.async false
set_option maxRecDepth 100000
set_option maxHeartbeats 4000000
/-! Zd13: {k: v for target in iter if ..} whose keys are tuples of ints and texts. -/
namespace Zd
open PySem PySem.Spec PyProof.Rows L2
section
variable {X : Cx} {pins : List (Addr × Obj)} {σ : L2.St} {H : Hp} {s : Shared}
/-- one more entry of a dict with such keys, within a comprehension -/
theorem dT_store {E : Value → Shared → Prop} {D b : Addr} {kvs : List (List Key × V)} {ks : List Key} {v : V} {r : Value} {Q : Unit → Shared → Prop} (I : Inv X pins σ H s) (hu : X.A.units < cLine) (eD : H D = some (.dT kvs)) (eb : H b = some (.tup (ks.map kV))) (hl : kvs.length < sizeLine) (rv : RelV v r)
    (q : ∀ s', Inv X pins σ (upd H D (.dT (putK kvs ks v))) s' → Q () s') : wpAny (model X.prog X.w) X.A (dictSet D (.ref b) r) Q E s := by
  have ⟨_, hm, xs, rel, dd⟩ := dt_of I.hok eD
  have l1 : xs.length = kvs.length := (Paired.length rel).symm
  have l2 := length_putK kvs ks v
  refine wpAny_dictSet_heap (knd := tupleKind (mixKind X.prog X.w)) (hsz := Nat.le_of_lt (l1 ▸ hl)) hu (key_of I.hok eb) dd fun h2 ⟨q1, q2, q3, q4, q5, q6, q7, _, q9⟩ sb => q _ ?_
  refine d_write I (eD ▸ trivial) sb ⟨q1, q4⟩ ⟨by omega, hm, _, (rel.put ks eb rv).keeps fun c ys ec => ?_, q1, q2, q3, q4, q5, q6, q7, q9⟩
  exact (upd_ne fun z => by rw [z, eD] at ec; cases ec).trans ec
end
/-- the reading: M turns at most, W what stands after i of them -/
def tDcT (wi : TI) (g : TG) (tt : TT) (tk tv : TE) (vs : List Nat) : TE := fun σ H Q => wi σ H fun J H1 => ∀ D, H1 D = none → ∃ (M : Nat) (W : Nat → Hp → Prop), W 0 (upd H1 D (.dT [])) ∧ ∀ i H2, i ≤ M → W i H2 →
  (J.stop i H2 ∧ Q (.ref D) H2) ∨ (i < M ∧ J.go i H2 ∧ ∀ x H3, J.yld i H2 x H3 → g x (wipe σ vs) H3 fun σ4 H4 => wipe σ4 vs = wipe σ vs ∧ tt σ4 H4 fun b H5 =>
    if b = true then tk σ4 H5 fun y H6 => tv σ4 H6 fun z H7 => ∃ kvs ks a, y = .ref a ∧ H7 a = some (.tup (ks.map kV)) ∧ H7 D = some (.dT kvs) ∧ kvs.length < sizeLine ∧ W (i + 1) (upd H7 D (.dT (putK kvs ks z))) else W (i + 1) H5)
section
variable {X : Cx} {kx vx tg iter : Expr} {ifs : List Expr} {scope : Scope} {own : List (Str × Nat)} {pos : Pos} {wi : TI} {g : TG} {tt : TT} {tk tv : TE}
/-- what a rule of the block gives, whatever the block's frame -/
abbrev Blks (X : Cx) (scope : Scope) (R : Cx → Prop) : Prop := ∀ (s : Shared) (H : Hp) (C : Addr) (cl : List (Str × Addr)) (fp : List Addr), R (X.blk s H scope (compEnvC scope cl C X.env) fp)
theorem pe_dcT (hc : X.calm = true) (hN : X.N.Nodup) (hu : X.A.units < cLine) (hi : PI X tg iter wi) (ok : BlkOk X.N X.env.scope scope own) (hg : Blks X scope fun Y => PG Y tg g) (ht : Blks X scope fun Y => PTs Y ifs tt) (hk : Blks X scope fun Y => PE Y kx tk) (he : Blks X scope fun Y => PE Y vx tv)
    (hs : ∀ x, foldedSetIterable iter X.env x = pure x := by intro _; rfl) : PE X (.DictComp kx vx [⟨tg, iter, ifs, 0⟩] scope pos) (tDcT wi g tt tk tv (own.map (·.2))) := by
  refine ⟨fun pins s σ H Q I h => ?_⟩
  rw [arm_eval_DictComp]
  have cl := closure_ok (env := X.env) (scope := scope) fun y hy e => (ok.free y hy e).elim (fun k => I.ok.has _ (.inl k)) fun k => I.ok.has _ (.inr k)
  refine wpAny_comprehension_free (use := none) rfl hs cl ok.kind (fun y hy e => (ok.uniq y hy).trans (by rw [e])) (thn (hi.run pins s σ H _ I h) fun xv s1 h1 => thn h1 fun itv s2 ⟨it, fp, tn, J, H2, ei, I2, T, st2, f2, q⟩ => ?_)
  subst ei
  have nD : H2 s2.heap.objs.size = none := I2.hok.fresh (Nat.le_refl _)
  obtain ⟨M, W, w0, turn⟩ := q _ nD
  have keep3 : ∀ b o, s2.heap.get? b = some o → (s2.heap.push { cls := .type "dict", data := .dict #[] }).get? b = some o := fun _ _ e => Heap.get?_push_of_some _ e
  have I3 := I2.laid (t' := s2.toks) keep3 (Nat.le_refl _) (dt_empty (P := X.prog) (w := X.w) (H := upd H2 s2.heap.objs.size (.dT [])) s2.heap I2.big)
  refine wpAny_newObj_type (newEnv_comp ?_)
  -- the iterator's own objects: below the new dict
  have low : ∀ b ∈ fp, b < s2.heap.objs.size := fun b hb => (T.obj 0 _ st2 b hb).elim fun o z => Heap.lt_size z.1
  have f3 : ∀ b ∈ fp, FpOk X pins (upd H2 s2.heap.objs.size (.dT [])) b ∧ b < (s2.heap.push { cls := .type "dict", data := .dict #[] }).objs.size := fun b hb =>
    ⟨⟨(upd_ne (Nat.ne_of_lt (low b hb))).trans (f2 b hb).1, (f2 b hb).2⟩, Nat.lt_of_lt_of_le (low b hb) (by rw [Heap.size_push]; exact Nat.le_succ _)⟩
  generalize hH3 : upd H2 s2.heap.objs.size (.dT []) = H3 at I3 f3 w0
  generalize hs3 : ({ s2 with heap := s2.heap.push { cls := .type "dict", data := .dict #[] }, toks := s2.toks } : Shared) = s3 at I3
  have hh3 : s3.heap = s2.heap.push { cls := .type "dict", data := .dict #[] } := by rw [← hs3]
  have f4 : ∀ b ∈ fp, FpOk X pins H3 b ∧ b < s3.heap.objs.size := fun b hb => by rw [hh3]; exact f3 b hb
  have st3 : tn 0 s3.heap := T.keep _ _ _ st2 fun b _ o e => hh3 ▸ keep3 b o e
  have B := block_start I3 ok hN f4
  have rg := hg s3 H3 s3.heap.objs.size (cellsFrom (s3.heap.objs.size + 1) scope.names (cloFrom X.env.cells scope.names [])) fp
  have rt := ht s3 H3 s3.heap.objs.size (cellsFrom (s3.heap.objs.size + 1) scope.names (cloFrom X.env.cells scope.names [])) fp
  have rk := hk s3 H3 s3.heap.objs.size (cellsFrom (s3.heap.objs.size + 1) scope.names (cloFrom X.env.cells scope.names [])) fp
  have rv := he s3 H3 s3.heap.objs.size (cellsFrom (s3.heap.objs.size + 1) scope.names (cloFrom X.env.cells scope.names [])) fp
  have hloc : (compEnvC scope (cellsFrom (s3.heap.objs.size + 1) scope.names (cloFrom X.env.cells scope.names [])) s3.heap.objs.size X.env).locals = s3.heap.objs.size := rfl
  have goal2 : codeAny (model X.prog X.w) X.A (.compStart (.DictComp kx vx [⟨tg, iter, ifs, 0⟩] scope pos) 0 (.ref it) (.ref s2.heap.objs.size) (compEnvC scope (cellsFrom (s3.heap.objs.size + 1) scope.names (cloFrom X.env.cells scope.names [])) s3.heap.objs.size X.env)) (compPost (model X.prog X.w) X.A X.xe none (EP X pins σ Q) (.ref s2.heap.objs.size) s3.heap.objs.size) { s3 with heap := pushCells (s3.heap.push { cls := .type "dict", data := .dict #[] }) scope.names } := by
    generalize hY : compEnvC scope (cellsFrom (s3.heap.objs.size + 1) scope.names (cloFrom X.env.cells scope.names [])) s3.heap.objs.size X.env = ce at B rg rt rk rv hloc ⊢
    generalize hs4 : ({ s3 with heap := pushCells (s3.heap.push { cls := .type "dict", data := .dict #[] }) scope.names } : Shared) = s4 at B ⊢
    have st4 : tn 0 s4.heap := T.keep _ _ _ st3 fun b _ o e => hs4 ▸ pushCells_keeps _ _ _ _ (Heap.get?_push_of_some _ e)
    have own' : ∀ {σ' : L2.St} {H' : Hp} {s' : Shared}, Inv (X.blk s3 H3 scope ce fp) [] σ' H' s' → (∀ b ∈ fp, H' b = none) → ∀ b ∈ fp, FpOk (X.blk s3 H3 scope ce fp) [] H' b := fun J' n b hb => ⟨n b hb, (J'.ok.exf b hb).1, J'.ok.exfs b hb, .inl hb, fun x c z => (J'.ok.exf b hb).2 x c z, fun p hp => by cases (show p ∈ ([] : List (Addr × Obj)) from by simpa using hp)⟩
    have walk : codeAny (model X.prog X.w) X.A (.compLoop (.DictComp kx vx [⟨tg, iter, ifs, 0⟩] scope pos) 0 (.ref it) (.ref s2.heap.objs.size) ce) (compPost (model X.prog X.w) X.A X.xe none (EP X pins σ Q) (.ref s2.heap.objs.size) s3.heap.objs.size) s4 := by
      refine compLoop_anyD (fun n s' => ∃ i H', n = M - i ∧ i ≤ M ∧ Inv (X.blk s3 H3 scope ce fp) [] (wipe σ (own.map (·.2))) H' s' ∧ tn i s'.heap ∧ (∀ b ∈ fp, H' b = none) ∧ W i H') ?_ M ⟨0, H3, rfl, Nat.zero_le _, B, st4, fun b hb => (f4 b hb).1.1, w0⟩
      rintro n s5 ⟨i, H5, rfl, iM, I5, st5, n5, w5⟩
      rcases turn i H5 iM w5 with ⟨stop, qq⟩ | ⟨lt, go, step⟩
      · refine thnF (T.done (X.blk s3 H3 scope ce fp) rfl rfl rfl hc i [] s5 _ H5 (fun _ _ => False) I5 (own' I5 n5) st5 stop) fun r s6 ⟨hr, I6⟩ => ?_
        subst hr
        have fr : H5 s3.heap.objs.size = none := hloc ▸ I6.free
        obtain ⟨m, hn, _⟩ := I6.loc
        have I7 : Inv X pins σ H5 s6 := I3.call' (ch := fp) I6.os I6.base I6.hok I6.bare fun b hb => let z := (f4 b hb).1.2; ⟨z.2.2.1, z.1, z.2.2.2.1, z.2.2.2.2⟩
        obtain ⟨g0, g1, _, g3, g4, g5⟩ := I3.fpOk (H' := H5) (Nat.le_refl _) fr
        exact ⟨m, by rw [← hloc]; exact hn, fun h2 sb => ⟨.ref s2.heap.objs.size, H5, I7.turned (t' := s6.toks) (fun b o hb z => (sb.2 b hb).trans z) g0 g1 g3 g4 g5, rfl, qq⟩⟩
      · refine thnF (T.item (X.blk s3 H3 scope ce fp) rfl rfl rfl hc i [] s5 _ H5 (fun _ _ => False) I5 (own' I5 n5) st5 go) fun r s6 ⟨u, hr, h6⟩ => ?_
        subst hr
        refine thnF h6 fun _ s7 ⟨x, H7, I7, r7, y7, st7, n7⟩ => ?_
        refine thnF (rg.run _ s7 _ H7 x u _ (I7.pinned (own' I7 n7) (T.obj _ _ st7)) r7 (step x H7 y7)) fun _ s8 ⟨σ8, H8, I8, w8, q8⟩ => thnF (rt.run _ s8 σ8 H8 _ I8 q8) fun b s9 ⟨H9, I9, q9⟩ => ?_
        have close : ∀ {s' : Shared} {H' : Hp}, Inv (X.blk s3 H3 scope ce fp) ([] ++ pinsAt fp s7.heap) σ8 H' s' → W (i + 1) H' → ∃ m, m < M - i ∧ ∃ i H', m = M - i ∧ i ≤ M ∧ Inv (X.blk s3 H3 scope ce fp) [] (wipe σ (own.map (·.2))) H' s' ∧ tn i s'.heap ∧ (∀ b ∈ fp, H' b = none) ∧ W i H' := fun {s' H'} I' w' => by
          have pin := fun b (hb : b ∈ fp) o (e : s7.heap.get? b = some o) => I'.pin (b, o) (List.mem_append_right _ (List.mem_append_right _ (mem_pinsAt hb e)))
          refine ⟨M - (i + 1), by omega, i + 1, H', rfl, lt, (I'.unpinned (pins := [])).weak (by rw [← w8, wipe_length]) fun j v e => (wipe_some (by rw [w8]; exact e)).1, T.keep _ _ _ st7 fun b hb o e => (pin b hb o e).1, fun b hb => (T.obj _ _ st7 b hb).elim fun o z => (pin b hb o z.1).2.1, w'⟩
        cases b with
        | false => exact close I9 (by simpa using q9)
        | true =>
          have q9 := (if_pos (rfl : (true : Bool) = true)).mp q9
          show wpAny _ _ _ _ _ _
          refine thnF (rk.run _ s9 σ8 H9 _ I9 q9) fun z s10 ⟨yk, H10, I10, r10, q10⟩ => thnF (rv.run _ s10 σ8 H10 _ I10 q10) fun z2 s11 ⟨yv, H11, I11, r11, kvs, ks, a, ek, ea, eD, hl, nx⟩ => ?_
          subst ek
          cases r10
          exact dT_store (X := X.blk s3 H3 scope ce fp) I11 hu eD ea hl r11 fun s12 I12 => close I12 nx
    exact codeAny_compStart_dict walk (T.self X.A 0 _ _ _ st4 walk)
  exact goal2
end
end Zd

set_option Elab.async false
set_option maxRecDepth 100000
set_option maxHeartbeats 4000000
/-! Zd14: tuple(d.values()). -/
namespace Zd
open PySem PySem.W PySem.Calls PySem.Spec PyProof.Rows L2
section
variable {prog : Program} {w : World} {A : Around} {E : Value → Shared → Prop} {s : Shared} {T : String} {r d : Addr} {n : Nat} {P : Nat → Value → Prop} {OK : Heap → Prop}
/-- tuple(x), x a source of n things -/
theorem tuple_src {Q : Value → Shared → Prop} (K : KdlSrc prog w T r d n P OK) (hh : A.handled = none) (ok : OK s.heap) (hn : n ≤ sizeLine)
    (q : ∀ (h2 : Heap) (tk : Nat) (acc : Array Value), (∀ b o, s.heap.get? b = some o → h2.get? b = some o) → ItemsOf P acc n → Q (.ref h2.objs.size) { s with heap := h2.push { cls := .type "tuple", data := .seq acc }, toks := tk }) :
    wpAny (model prog w) A (call (.type "tuple") [.ref r]) Q E s := by
  have made : codeAny (model prog w) A.in1 (.call (.builtin "tuple.__new__") ⟨[.type "tuple", .ref r], []⟩) (wants (fun v z => z.TypeIs v "tuple" ∧ Q v z) E) s := by
    refine codeAny_of_tree (show wpAny _ A.in1.in1 (do checkBuiltinCall "tuple.__new__" ⟨[.type "tuple", .ref r], []⟩; again (.builtin "tuple.__new__" ⟨[.type "tuple", .ref r], []⟩)) _ _ s from ?_)
    refine wpAny_bind (wpAny_of_eq (F.newCall_tuple_1 _) (wpAny_pure ⟨plainId_quiet F.plain_tuple_new _, codeAny_builtin F.entry_tuple_new ?_⟩))
    rw [Around.under_plainId F.plain_tuple_new _]; have a1 := sub_tuple_self; have a2 := init_tuple_lookup; have a3 := madeHere_tuple; have ty := K.type s ok; have hB : A.in1.in1.handled = none := hh; have nt := K.notTuple
    wp_walk using wpAny_typeOf ty, kdu_collect (A := A.in1.in1) K hB ok hn
    intro h2 tk acc kp its
    have e : acc.toList.toArray = acc := Array.toArray_toList
    show wpAny _ _ (Builtin.Tuple.tupleExact acc.toList.toArray >>= fun v => ret v) _ _ _
    rw [e]; unfold Builtin.Tuple.tupleExact
    refine wpAny_bind (wpAny_newObj_type ?_ (by show acc.size ≤ sizeLine; rw [its.1]; exact hn)); exact wpAny_pure ⟨⟨_, Heap.get?_push_size _ rfl, rfl⟩, q h2 tk acc kp its⟩
  exact callType_codes (Q₁ := fun v z => z.TypeIs v "tuple" ∧ Q v z) F.called_tuple (F.typeCall_tuple_1 _) F.entry_object_init made fun v z k => ⟨k.1, F.args_object_init_2 v _, object_init_meets F.called_tuple.init.lookup F.called_tuple.made (by decide) prog w A.in1 _ z ⟨k.1, rfl, k.2⟩⟩
end
/-- the reading -/
def tTupVals (td : TE) : TE := fun σ H Q => td σ H fun x H1 => ∃ a kvs, x = .ref a ∧ H1 a = some (.dT kvs) ∧ ∀ p, H1 p = none → Q (.ref p) (upd H1 p (.tup (kvs.map (·.2))))
section
variable {X : Cx} {o : Expr} {p pos apos mpos : Pos} {td : TE}
theorem vals_of_pairs {H : Hp} : ∀ {kvs : List (List Key × V)} {xs : List (List Key × Addr × Value)}, Paired (fun (p : List Key × V) (q : List Key × Addr × Value) => p.1 = q.1 ∧ H q.2.1 = some (.tup (p.1.map kV)) ∧ RelV p.2 q.2.2) kvs xs → Vals (kvs.map (·.2)) (xs.map (·.2.2))
  | _, _, .nil => .nil
  | _, _, .cons r t => .cons r.2.2 (vals_of_pairs t)
theorem pe_tupVals (hc : X.calm = true) (hg : Gl X "tuple") (hm : X.mg "tuple" = none) (hd : PE X o td) (hbase : attributeBase o "values" X.env (eval o X.env) = eval o X.env := by rfl) (hline : (apos.endLine == mpos.line) = true := by rfl)
    (hs0 : starEach [Expr.Call (.Attribute o "values" apos) [] [] mpos] X.env = (false, eval (Expr.Call (.Attribute o "values" apos) [] [] mpos) X.env) :: starEach [] X.env := by rfl) :
    PE X (.Call (.Name "tuple" p) [.Call (.Attribute o "values" apos) [] [] mpos] [] pos) (tTupVals td) := by
  refine ⟨fun pins s σ H Q I h => wpAny_Call_Name_kw (ld_blt I hg hm PyProof.Rows.boot_tuple (PyProof.Rows.callWith_type1 ?_ hs0 rfl))⟩
  rw [hs0]
  show wpAny _ _ (spliced ((false, eval (Expr.Call (.Attribute o "values" apos) [] [] mpos) X.env) :: backTo pos (starEach [] X.env))) _ _ s
  refine Calls.spliced_cons (wpAny_Call_method0_late hbase hline (thn (hd.run pins s σ H _ I h) fun v s1 ⟨x, H1, I1, r1, a, kvs, ex, ha, q⟩ => ?_))
  subst ex
  cases r1
  have ⟨hz, hsys, xs, rel, ob, es, ep, ho, exd, hdat, hes, _⟩ := I1.hok a _ ha
  refine ⟨"dict", "dict.values", F.plainAttrs_dict, F.slot_dict_values, F.type_dict_values, ⟨ob, ho, exd.1⟩, fun b e => by cases e; exact ⟨ob, ho, exd.2.1⟩, Calls.callWith_builtin rfl (PySem.evalArgs_none ?_)⟩
  refine call_meetsIn F.slot_dict_values ⟨ob, ho, exd.1⟩ F.entry_dict_values (F.args_dict_values_1 _) (meets_dict_values_raw a hsys) ⟨⟨es, ep, ob, ho, exd, hdat⟩, Calls.spliced_nil ?_⟩
  have esz : es.size = kvs.length := by rw [← Array.length_toList, hes, List.length_map, ← Paired.length rel]
  have kp1 : ∀ b u, s1.heap.get? b = some u → (s1.heap.push { cls := .type "dict_values", data := .fields #[.ref a] }).get? b = some u := fun b u e => Heap.get?_push_of_some _ e
  refine tuple_src (KdlSrc.rawValues (prog := X.prog) (w := X.w) (r := s1.heap.objs.size) (d := a) (es := es) (ep := ep)) (I.ok.hd hc) ⟨⟨_, Heap.get?_push_size _ rfl, rfl, rfl⟩, ob, kp1 _ _ ho, exd, hdat⟩ (by rw [esz]; exact hz) fun h2 tk acc kp its => ?_
  have kp2 : ∀ b u, s1.heap.get? b = some u → h2.get? b = some u := fun b u e => kp b u (kp1 b u e)
  have I2 : Inv X pins σ H1 { s1 with heap := h2, toks := tk } := I1.kept (t' := tk) kp2
  have ea : acc.toList = xs.map (·.2.2) := by
    have xl : xs.length = es.size := by rw [← Array.length_toList, hes, List.length_map]
    refine List.ext_getElem? fun i => ?_
    by_cases hi : i < acc.size
    · obtain ⟨h3, e3⟩ := its.2 i acc[i] (Array.getElem?_eq_getElem hi)
      have h4 : es.toList[i]? = some es[i] := by rw [Array.getElem?_toList, Array.getElem?_eq_getElem h3]
      rw [hes, List.getElem?_map] at h4
      obtain ⟨x, hx, ex⟩ := Option.map_eq_some_iff.mp h4
      rw [Array.getElem?_toList, Array.getElem?_eq_getElem hi, e3, List.getElem?_map, hx, ← ex]; rfl
    · have := its.1
      rw [List.getElem?_eq_none (by rw [Array.length_toList]; omega), List.getElem?_eq_none (by rw [List.length_map]; omega)]
  have I3 := I2.laid (a := h2.objs.size) (o := .tup (kvs.map (·.2))) (h' := h2.push { cls := .type "tuple", data := .seq acc }) (t' := tk) (fun b u e => Heap.get?_push_of_some _ e) (Nat.le_refl _) ⟨by rw [List.length_map]; exact hz, xs.map (·.2.2), vals_of_pairs rel, by rw [← ea]; simpa using IsTup.new h2 acc⟩
  exact ⟨.ref h2.objs.size, _, I3, rfl, q _ (I2.hok.fresh (Nat.le_refl _))⟩
end
end Zd

set_option Elab.async false
set_option maxRecDepth 100000
set_option maxHeartbeats 4000000
/-! Zd15: dicts with tuple keys and instances, as data. -/
namespace Zd
open PySem L2 StX
/-- what stands at a key -/
def dctAt : List (List Key) → List Dt → List Key → Option Dt
  | k' :: ks, d :: ds, k => if k' = k then some d else dctAt ks ds k
  | _, _, _ => none
/-- what stands under a name -/
def fldAt : List Str → List Dt → Str → Option Dt
  | k' :: ks, d :: ds, k => if k' = k then some d else fldAt ks ds k
  | _, _, _ => none
abbrev tupK (k : List Key) : Dt := .tup (k.map keyD)
section
variable {G H : Hp}
theorem keysD : ∀ {vs : List V} {k : List Key}, Dqs G vs (k.map keyD) → vs = k.map kV
  | [], [], .nil => rfl
  | _ :: _, _ :: _, .cons h hs => by rw [keyD_dq h, keysD hs]; rfl
theorem tupK_ref {v : V} {k : List Key} (h : Dq G v (tupK k)) : ∃ b, v = .ref b ∧ G b = some (.tup (k.map kV)) := by
  generalize hd : tupK k = d at h
  cases h with
  | tup a1 a2 =>
    have e := Dt.tup.inj hd
    subst e
    have := keysD a2
    subst this
    exact ⟨_, rfl, a1⟩
  | _ => cases hd
theorem valV_dct : ∀ {kvs : List (List Key × V)} {ds : List Dt} (k : List Key), Dqs G (kvs.map (·.2)) ds → (∀ d, dctAt (kvs.map (·.1)) ds k = some d → ∃ v, valV kvs k = some v ∧ Dq G v d) ∧ (dctAt (kvs.map (·.1)) ds k = none → valV kvs k = none)
  | [], [], k, .nil => ⟨(fun d h => by cases h), fun _ => rfl⟩
  | p :: r, d :: ds, k, .cons h hs => by
    obtain ⟨i1, i2⟩ := valV_dct (kvs := r) k hs
    show (∀ e, (if p.1 = k then some d else dctAt (r.map (·.1)) ds k) = some e → _) ∧ ((if p.1 = k then some d else dctAt (r.map (·.1)) ds k) = none → _)
    by_cases z : p.1 = k
    · rw [if_pos z, valV_pos z]
      exact ⟨fun e he => ⟨p.2, rfl, by rw [← Option.some.inj he]; exact h⟩, fun he => by cases he⟩
    · rw [if_neg z, valV_neg z]
      exact ⟨i1, i2⟩
theorem lookup_fld : ∀ {fs : List (Str × V)} {ds : List Dt} {f : Str} {d : Dt}, Dqs G (fs.map (·.2)) ds → fldAt (fs.map (·.1)) ds f = some d → ∃ v, fs.lookup f = some v ∧ Dq G v d
  | [], [], f, d, .nil, h => by cases h
  | p :: r, e :: ds, f, d, .cons h hs, k => by
    have k : (if p.1 = f then some e else fldAt (r.map (·.1)) ds f) = some d := k
    by_cases z : p.1 = f
    · rw [if_pos z] at k
      refine ⟨p.2, ?_, by rw [← Option.some.inj k]; exact h⟩
      rw [List.lookup_cons, show (f == p.1) = true by rw [z]; simp]
    · rw [if_neg z] at k
      obtain ⟨v, e1, e2⟩ := lookup_fld hs k
      refine ⟨v, ?_, e2⟩
      rw [List.lookup_cons, show (f == p.1) = false by simpa using fun q => z q.symm]
      exact e1
end
section
variable {c : Bs} {δ : Fe} {te ta tb td ty tx tk tv : TE} {tt : TT} {T : Dt → Prop} {K : PySem.W.Frag}
/-- d[k], d.get(k, x) -/
theorem de_getT {ks : List (List Key)} {ds : List Dt} {k : List Key} {x : Dt} (hd : De c td δ (.dct ks ds)) (hk : De c ty δ (tupK k)) (h : dctAt ks ds k = some x) : De c (tDGet td ty) δ x := fun σ G H e Q q =>
  hd σ G H e _ fun v d G1 H1 g1 d1 p1 => hk σ G1 H1 (e.up g1) _ fun y d' G2 H2 g2 d2 p2 => by
    subst p1 p2
    obtain ⟨b, rfl, eb⟩ := tupK_ref d2
    cases d1 with
    | dct a1 a2 a3 =>
      subst a2
      obtain ⟨u, e1, e2⟩ := (valV_dct k (a3.up g2.gg)).1 x h
      exact ⟨_, u, rfl, by rw [← e1]; exact DGet.t (g2.gh _ _ (g2.gg _ _ a1)) (g2.gh _ _ eb), q u x G2 H2 (g1.trans e.jj g2) e2 rfl⟩
theorem de_get2T {ks : List (List Key)} {ds : List Dt} {k : List Key} {x : Dt} (hd : De c td δ (.dct ks ds)) (hk : De c ty δ (tupK k)) (hx : De c tx δ x) : De c (tDGet2 td ty tx) δ ((dctAt ks ds k).getD x) := fun σ G H e Q q =>
  hd σ G H e _ fun v d G1 H1 g1 d1 p1 => by
    subst p1
    cases d1 with
    | dct a1 a2 a3 =>
      refine ⟨_, rfl, .inr ⟨_, .of (g1.gh _ _ a1)⟩, ?_⟩
      refine hk σ G1 H1 (e.up g1) _ fun y d' G2 H2 g2 d2 p2 => hx σ G2 H2 ((e.up g1).up g2) _ fun z d3 G3 H3 g3 d3' p3 => ?_
      subst p2 p3 a2
      obtain ⟨b, rfl, eb⟩ := tupK_ref d2
      have g13 := (g1.trans e.jj g2).trans e.jj g3
      refine ⟨_, DGet.t (g3.gh _ _ (g3.gg _ _ (g2.gg _ _ a1))) (g3.gh _ _ (g3.gg _ _ eb)), ?_⟩
      obtain ⟨i1, i2⟩ := valV_dct k ((a3.up g2.gg).up g3.gg)
      cases h : dctAt _ _ k with
      | none =>
        rw [i2 h]
        exact q z d3 G3 H3 g13 d3' (by rw [h]; rfl)
      | some w =>
        obtain ⟨u, e1, e2⟩ := i1 w h
        rw [e1]
        exact q u w G3 H3 g13 e2 (by rw [h]; rfl)
/-- tuple(d.values()) -/
theorem de_tupVals {ks : List (List Key)} {ds : List Dt} (hd : De c td δ (.dct ks ds)) : De c (tTupVals td) δ (.tup ds) := fun σ G H e Q q =>
  hd σ G H e _ fun v d G1 H1 g1 d1 p1 => by
    subst p1
    cases d1 with
    | dct a1 a2 a3 =>
      refine ⟨_, _, rfl, g1.gh _ _ a1, fun p hp => ?_⟩
      exact q (.ref p) _ _ _ (g1.newDat e.jj hp (.tup _)) (.tup upd_same (a3.up fun b o z => by rw [upd_ne (ne_of_none (g1.gh b o z) hp)]; exact z)) rfl
/-- o.f -/
theorem de_fld {C : Addr} {ks : List Str} {ds : List Dt} {f : Str} {x : Dt} (hd : De c td δ (.ins C ks ds)) (hC : Cls K C) (hn : NoAttr K C f) (h : fldAt ks ds f = some x) : De c (tFld K td f) δ x := fun σ G H e Q q =>
  hd σ G H e _ fun v d G1 H1 g1 d1 p1 => by
    subst p1
    cases d1 with
    | ins a1 a2 a3 =>
      subst a2
      obtain ⟨u, e1, e2⟩ := lookup_fld a3 h
      exact ⟨_, C, _, _, u, rfl, g1.gh _ _ a1, hC, hn, e1, q u x G1 H1 g1 e2 rfl⟩
/-- {k: v for ..}, all keys different -/
theorem dn_dcT {wi : TI} {g : TG} {vs : List Nat} {S : List Dt → Prop} {T : List (List Key × Dt) → Prop} (hw : Di c wi δ S)
    (h : ∀ xs, S xs → ∃ I : Nat → List (List Key × Dt) → Prop, I 0 [] ∧ (∀ i d acc, xs[i]? = some d → I i acc →
        Dg c g d (wipeF δ vs) vs (fun δ2 => ∃ k x, De c tk δ2 (tupK k) ∧ De c tv δ2 x ∧ k ∉ acc.map (·.1) ∧ I (i + 1) (acc ++ [(k, x)]))) ∧
      (∀ acc, I xs.length acc → T acc) ∧ xs.length ≤ 10000000 ∧ ∀ i acc, I i acc → acc.length ≤ i) : Dn c (tDcT wi g tYes tk tv vs) δ (fun d => ∃ acc, T acc ∧ d = .dct (acc.map (·.1)) (acc.map (·.2))) := fun σ G H e Q q => by
  refine hw σ G H e _ fun J xs G1 H1 g1 s1 ok => ?_
  obtain ⟨I, i0, turn, fin, hlen, hsz⟩ := h xs s1
  intro D hD
  have hD0 : H D = none := g1.fresh e.jj hD
  have gD1 : G1 D = none := by
    cases k : G1 D with
    | none => rfl
    | some u => rw [g1.gh D u k] at hD; cases hD
  have notS : ¬ c.b.S D := fun s => c.b.hs _ _ g1.jj s hD
  have keepD : ∀ {Ga Ha Gb Hb : Hp} {ws : List (List Key × V)}, Gx c.b Ga Ha Gb Hb → Ha D = some (.dT ws) → Ga D = none → Hb D = some (.dT ws) ∧ Gb D = none := fun {Ga Ha Gb Hb ws} gg hh nn => ⟨gg.hh D _ notS hh, by
    cases k : Gb D with
    | none => rfl
    | some u =>
      rcases gg.nw D (by rw [k]; simp) with z | z | ⟨_, z⟩
      · exact absurd nn z
      · rw [hh] at z; cases z
      · rw [hh] at z; cases z⟩
  refine ⟨xs.length, fun i Hi => ∃ Gi acc kvs, Gx c.b G H Gi Hi ∧ Same G1 Gi ∧ Hi D = some (.dT kvs) ∧ Gi D = none ∧ kvs.map (·.1) = acc.map (·.1) ∧ Dqs Gi (kvs.map (·.2)) (acc.map (·.2)) ∧ I i acc, ⟨G1, [], [], g1.trans e.jj (Gx.put g1.gh g1.jj hD), Same.refl _, upd_same, gD1, rfl, .nil, i0⟩, ?_⟩
  rintro i Hi hi ⟨Gi, acc, kvs, gi, si, hDi, gDi, hka, hdq, ia⟩
  obtain ⟨okgo, okstop⟩ := ok i Gi Hi si gi.gh gi.jj
  by_cases hlt : i < xs.length
  · obtain ⟨go, step⟩ := okgo hlt
    refine .inr ⟨hlt, go, fun x H' hy => ?_⟩
    obtain ⟨d, G2, hd, g2, dx⟩ := step x H' hy
    have gi2 := gi.trans e.jj g2
    obtain ⟨hD2, gD2⟩ := keepD g2 hDi gDi
    refine turn i d acc hd ia (L2.wipe σ vs) G2 H' x ((e.up gi2).wipe vs) dx _ fun δ3 σ3 G3 H3 e3 g3 w3 k3 => ?_
    obtain ⟨hD3, gD3⟩ := keepD g3 hD2 gD2
    obtain ⟨key, y, hk, hv, hnew, hI⟩ := k3
    refine ⟨by rw [w3, wipe_wipe], ?_⟩
    show tk σ3 H3 _
    refine hk σ3 G3 H3 e3 _ fun u du G4 H4 g4 dq4 p4 => hv σ3 G4 H4 (e3.up g4) _ fun z dz G5 H5 g5 dq5 p5 => ?_
    subst p4 p5
    obtain ⟨b, rfl, eb⟩ := tupK_ref dq4
    obtain ⟨hD4, gD4⟩ := keepD g4 hD3 gD3
    obtain ⟨hD5, gD5⟩ := keepD g5 hD4 gD4
    have gx5 := ((gi2.trans e.jj g3).trans e.jj g4).trans e.jj g5
    have kl : kvs.length = acc.length := by simpa using congrArg List.length hka
    have no : valV kvs key = none := by
      unfold valV
      rw [Option.map_eq_none_iff, List.find?_eq_none]
      intro p hp hdec
      have e4 : p.1 = key := of_decide_eq_true hdec
      exact hnew (by rw [← hka, ← e4]; exact List.mem_map.mpr ⟨p, hp, rfl⟩)
    refine ⟨kvs, key, b, rfl, g5.gh _ _ (g5.gg _ _ eb), hD5, sz_lt' (by have := hsz i acc ia; omega), G5, acc ++ [(key, dz)], kvs ++ [(key, z)], ?_, (((si.trans g2.gg).trans g3.gg).trans g4.gg).trans g5.gg, ?_, gD5, by rw [List.map_append, List.map_append, hka]; rfl, ?_, hI⟩
    · rw [putK_new z no]
      exact Gx.poke e.jj gx5 hD0 gD5
    · rw [putK_new z no]
      exact upd_same
    · rw [List.map_append, List.map_append]
      exact (hdq.up (((g2.gg.trans g3.gg).trans g4.gg).trans g5.gg)).append (.cons dq5 .nil)
  · have ei : i = xs.length := by omega
    subst ei
    refine .inl ⟨okstop (Nat.le_refl _), q (.ref D) _ _ Hi (gi.freeze hD0 gDi hDi) (.dct upd_same hka (hdq.up fun b o z => ?_)) ⟨acc, fin acc ia, rfl⟩⟩
    rw [upd_ne (ne_of_none z gDi)]
    exact z
end
end Zd

set_option Elab.async false
set_option maxRecDepth 100000
set_option maxHeartbeats 4000000
/-! Zd16: more of statements, by data. -/
namespace Zd
open PySem L2 StX
section
variable {c : Bs} {δ : Fe} {ta tb te : TE} {tr : TA} {ts : TS} {p : Po} {T : Dt → Prop} {K : PySem.W.Frag}
theorem pe_fldK {X : Cx} (hK : X.K = K) {e : Expr} {f : Str} {pos : Pos} (he : PE X e te) (hb : attributeBase e f X.env (eval e X.env) = eval e X.env) : PE X (.Attribute e f pos) (tFld K te f) := by subst hK; exact pe_fld he hb
/-- target = e -/
theorem ds_asg {g : TG} {vs : List Nat} {d : Dt} (h : De c te δ d) (k : Dg c g d δ vs p.N) : Ds c (tAsg te g) δ p := fun D σ G H e n r b q =>
  h σ G H e _ fun v d' G1 H1 g1 d1 t1 => by
    subst t1
    exact k σ G1 H1 v (e.up g1) d1 _ fun δ' σ' G2 H2 e2 g2 _ k2 => n δ' σ' G2 H2 (g1.gg.trans g2.gg) e2 k2
theorem ds_asgS {g : TG} {vs : List Nat} {d : Dt} {M : Fe → Prop} (h : De c te δ d) (k : Dg c g d δ vs M) (m : ∀ δ', M δ' → Ds c ts δ' p) : Ds c (tSeq (tAsg te g) ts) δ p := ds_seq (M := M) (ds_asg h k) m
/-- x += e, ints -/
theorem ds_addTo {i : Nat} {a b : Int} (h : δ[i]? = some (.dat (.int a))) (he : De c te δ (.int b)) (k : p.N (δ.set i (.dat (.int (a + b))))) : Ds c (tAug i te (ipI fun i j => i + j)) δ p := fun D σ G H e n r bb q => by
  obtain ⟨v, e1, dq⟩ := e.sl i _ h
  cases dq
  refine ⟨_, e1, he σ G H e _ fun v d G1 H1 g1 d1 t1 => ?_⟩
  subst t1
  cases d1
  exact ⟨a, b, rfl, rfl, n _ _ G1 H1 g1.gg ((e.up g1).setDat i (.int _)) k⟩
/-- *t, .., t a tuple -/
theorem da_starT {xs ds : List Dt} (ha : De c ta δ (.tup xs)) (hr : Ds' c tr δ (· = ds)) : Ds' c (tStar K ta tr) δ (· = xs ++ ds) := fun σ G H e Q q =>
  ha σ G H e _ fun v x G1 H1 g1 d1 p1 => by
    subst p1
    cases d1 with
    | tup h1 h2 =>
      refine ⟨_, _, rfl, .inl (SqT.of (g1.gh _ _ h1)), ?_⟩
      exact hr σ G1 H1 (e.up g1) _ fun vs ys G2 H2 g2 d2 p2 => q _ _ G2 H2 (g1.trans e.jj g2) ((h2.up g2.gg).append d2) (by rw [p2])
/-- walks over a list or a tuple -/
theorem de_modE {i j : Int} (ha : De c ta δ (.int i)) (hb : De c tb δ (.int j)) (h : 0 < j) : De c (tOp (rI (fun _ j => 0 < j) fun i j => .int (i % j)) ta tb) δ (.int (i % j)) := de_mod ha hb h
end
/-! ### a program (or another object) that stands somewhere, known by some of its fields -/
/-- a def whose first argument is an object of the class at C that has the fields F a -/
def spP {α : Type} (C : Addr) (F : α → List (Str × Dt)) (A : α → List Dt) (pre : α → Prop) (post : α → Dt → Prop) : Sp := fun vs H Q _ => ∃ G x dx fs us a, vs = .ref x :: us ∧ Same G H ∧ H x = some (.ins C dx fs) ∧ (∀ f d, (f, d) ∈ F a → ∃ v, fs.lookup f = some v ∧ Dq G v d) ∧ Dqs G us (A a) ∧ pre a ∧
  ∀ v d G' H', Gx Bx.pure G H G' H' → Dq G' v d → post a d → Q v H'
structure PrgC (c : Bs) (x C : Addr) (F : List (Str × Dt)) : Prop where
  b : c.b = Bx.pure
  h : ∃ dx fs, c.H0 x = some (.ins C dx fs) ∧ ∀ f d, (f, d) ∈ F → ∃ v, fs.lookup f = some v ∧ Dq c.G0 v d
section
variable {c : Bs} {δ : Fe} {ta tb te : TE} {tr : TA} {K : PySem.W.Frag} {x C : Addr} {F : List (Str × Dt)}
theorem de_fldR {i : Nat} {f : Str} {d : Dt} (P : PrgC c x C F) (hi : δ[i]? = some (.raw (.ref x))) (hf : (f, d) ∈ F) (hC : Cls K C) (hn : NoAttr K C f) : De c (tFld K (tVar i) f) δ d := fun σ G H e Q q => by
  obtain ⟨dx, fs, h1, h2⟩ := P.h
  obtain ⟨v, h3, h4⟩ := h2 f d hf
  refine ⟨.ref x, e.sl i _ hi, x, C, dx, fs, v, rfl, e.gx.hh x _ (by rw [P.b]; exact id) h1, hC, hn, h3, q v d G H (Gx.refl e.same e.jj) (h4.up e.gx.gg) rfl⟩
theorem Dqs.startR {G H : Hp} (s : Same G H) {v : V} (N : List Str) : ∀ {us : List V} {ds : List Dt}, Dqs G us ds → us.length + 1 ≤ N.length → Ec ⟨Bx.pure, G, H⟩ G H (L2.start N (v :: us)) (.raw v :: ds.map Sl.dat ++ List.replicate (N.length - (ds.length + 1)) .un) := fun {us ds} h hl => by
  have hlen := h.length
  have noown : ∀ (i : Nat) (y : Sl), (Sl.raw v :: ds.map Sl.dat ++ List.replicate (N.length - (ds.length + 1)) .un)[i]? = some y → y.owns = false := by
    intro i y hy
    rcases List.mem_append.mp (List.mem_of_getElem? hy) with hm | hm
    · rcases List.mem_cons.mp hm with rfl | hm
      · rfl
      · obtain ⟨d, _, rfl⟩ := List.mem_map.mp hm
        rfl
    · rw [List.eq_of_mem_replicate hm]; rfl
  refine ⟨trivial, Gx.refl s trivial, ?_, fun i y hy => ?_, fun i k y z q hy hz oy oz => by rw [noown i y hy] at oy; cases oy⟩
  · show (L2.start N (v :: us)).length = _
    simp [L2.start, hlen]
  · cases i with
    | zero =>
      have := Option.some.inj hy
      subst this
      rfl
    | succ i =>
      have hy' : (ds.map Sl.dat ++ List.replicate (N.length - (ds.length + 1)) .un)[i]? = some y := hy
      by_cases hi : i < ds.length
      · rw [List.getElem?_append_left (by simpa using hi), List.getElem?_map, List.getElem?_eq_getElem hi] at hy'
        have := Option.some.inj hy'
        subst this
        obtain ⟨u, hu, du⟩ := h.get (List.getElem?_eq_getElem hi)
        refine ⟨u, ?_, du⟩
        show (us.map some ++ _)[i]? = _
        rw [List.getElem?_append_left (by simpa [hlen] using hi), List.getElem?_map, hu]
        rfl
      · rw [List.getElem?_append_right (by simpa using Nat.le_of_not_lt hi)] at hy'
        rw [List.eq_of_mem_replicate (List.mem_of_getElem? hy')]
        trivial
theorem spP_len {α : Type} {C : Addr} {F : α → List (Str × Dt)} {A : α → List Dt} {pre : α → Prop} {post : α → Dt → Prop} {vs : List V} {H : Hp} {Q : VK} {E : XK} {n : Nat} (hn : ∀ a, (A a).length = n) (h : spP C F A pre post vs H Q E) : vs.length = n + 1 := by
  obtain ⟨G, x, dx, fs, us, a, rfl, _, _, _, d, _⟩ := h
  rw [List.length_cons, d.length, hn]
theorem ok_bodyP {α : Type} {F : α → List (Str × Dt)} {A : α → List Dt} {pre : α → Prop} {post : α → Dt → Prop} {N : List Str} {vs : List V} {H : Hp} {Q : VK} {E : XK} {ts : TS} (δ : Addr → α → Fe) (h : spP C F A pre post vs H Q E) (hl : ∀ a, (A a).length + 1 ≤ N.length)
    (hδ : ∀ x a, .raw (.ref x) :: (A a).map Sl.dat ++ List.replicate (N.length - ((A a).length + 1)) .un = δ x a)
    (k : ∀ (c : Bs) (x : Addr) (a : α), PrgC c x C (F a) → pre a → Ds c ts (δ x a) { N := fun _ => post a .non, R := post a }) :
    ts { nx := fun _ H' => Q .non H', rt := Q } (L2.start N vs) H := by
  obtain ⟨G, x, dx, fs, us, a, rfl, s, hx, hf, d, pr, q⟩ := h
  have e := d.startR s (v := .ref x) N (by rw [d.length]; exact hl a)
  rw [hδ] at e
  exact k ⟨Bx.pure, G, H⟩ x a ⟨rfl, dx, fs, hx, hf⟩ pr _ _ G H e (fun δ' σ' G' H' _ e n => q _ _ G' H' e.gx .non n) (fun v d G' H' g dq r => q v d G' H' g dq r) (fun _ _ _ _ _ _ z => z.elim) fun _ _ _ _ _ _ z => z.elim
/-- its call, the object being data -/
theorem de_callP {α : Type} {F : α → List (Str × Dt)} {A : α → List Dt} {pre : α → Prop} {f : α → Dt} {E : XK} {ks : List Str} {ds : List Dt} (a : α) (hd : De c te δ (.ins C ks ds)) (ha : Ds' c tr δ (· = A a)) (hF : ∀ g d, (g, d) ∈ F a → fldAt ks ds g = some d) (hp : pre a) :
    De c (tCall (spP C F A pre fun a d => d = f a) [] E (tCons te tr)) δ (f a) := fun σ G H e Q q =>
  hd σ G H e _ fun v d G1 H1 g1 d1 p1 => ha σ G1 H1 (e.up g1) _ fun vs es G2 H2 g2 d2 p2 => by
    subst p1 p2
    cases d1 with
    | ins a1 a2 a3 =>
      subst a2
      refine ⟨G2, _, _, _, vs, a, by rw [List.append_nil], g2.gh, g2.gh _ _ (g2.gg _ _ a1), fun g d hm => lookup_fld (a3.up g2.gg) (hF g d hm), d2, hp, fun v d G3 H3 g3 d3 p3 => q v d G3 H3 ((g1.trans e.jj g2).trans e.jj (g3.of_pure g2.jj)) d3 p3⟩
/-- its call, the object being the caller's own first argument -/
theorem de_callPR {α : Type} {Fa : α → List (Str × Dt)} {A : α → List Dt} {pre : α → Prop} {f : α → Dt} {E : XK} {i : Nat} (a : α) (P : PrgC c x C F) (hi : δ[i]? = some (.raw (.ref x))) (ha : Ds' c tr δ (· = A a)) (hF : ∀ g d, (g, d) ∈ Fa a → (g, d) ∈ F) (hp : pre a) :
    De c (tCall (spP C Fa A pre fun a d => d = f a) [] E (tCons (tVar i) tr)) δ (f a) := fun σ G H e Q q => by
  obtain ⟨dx, fs, h1, h2⟩ := P.h
  refine ⟨.ref x, e.sl i _ hi, ha σ G H e _ fun vs es G2 H2 g2 d2 p2 => ?_⟩
  subst p2
  have e2 := e.up g2
  refine ⟨G2, x, dx, fs, vs, a, by rw [List.append_nil], g2.gh, e2.gx.hh x _ (by rw [P.b]; exact id) h1, fun g d hm => ?_, d2, hp, fun v d G3 H3 g3 d3 p3 => q v d G3 H3 (g2.trans e.jj (g3.of_pure g2.jj)) d3 p3⟩
  obtain ⟨v, h3, h4⟩ := h2 g d (hF g d hm)
  exact ⟨v, h3, h4.up e2.gx.gg⟩
end
end Zd

set_option Elab.async false
set_option maxRecDepth 100000
set_option maxHeartbeats 4000000
/-! Zd17: a dict of the body's own whose keys are tuples of ints and texts. -/
namespace Zd
open PySem L2 StX
/-- d[k] = x, in its place or at the end -/
def putA (acc : List (List Key × Dt)) (k : List Key) (x : Dt) : List (List Key × Dt) := if (acc.any fun kv => decide (kv.1 = k)) = true then acc.map (fun kv => if kv.1 = k then (kv.1, x) else kv) else acc ++ [(k, x)]
/-- in a slot: the dict that holds acc -/
def DTo (acc : List (List Key × Dt)) : Hp → Addr → HO → Prop := fun G _ o => ∃ kvs : List (List Key × V), o = .dT kvs ∧ kvs.map (·.1) = acc.map (·.1) ∧ Dqs G (kvs.map (·.2)) (acc.map (·.2))
theorem put_rel {G : Hp} {k : List Key} {v : V} {x : Dt} (hx : Dq G v x) {kvs : List (List Key × V)} {acc : List (List Key × Dt)} (h1 : kvs.map (·.1) = acc.map (·.1)) (h2 : Dqs G (kvs.map (·.2)) (acc.map (·.2))) :
    (putK kvs k v).map (·.1) = (putA acc k x).map (·.1) ∧ Dqs G ((putK kvs k v).map (·.2)) ((putA acc k x).map (·.2)) := by
  have key : ∀ (kvs : List (List Key × V)) (acc : List (List Key × Dt)), kvs.map (·.1) = acc.map (·.1) → Dqs G (kvs.map (·.2)) (acc.map (·.2)) →
      (kvs.map fun kv => if kv.1 = k then (kv.1, v) else kv).map (·.1) = (acc.map fun kv => if kv.1 = k then (kv.1, x) else kv).map (·.1) ∧ Dqs G ((kvs.map fun kv => if kv.1 = k then (kv.1, v) else kv).map (·.2)) ((acc.map fun kv => if kv.1 = k then (kv.1, x) else kv).map (·.2)) := by
    intro kvs
    induction kvs with
    | nil => intro acc h1 h2; cases acc with
      | nil => exact ⟨rfl, .nil⟩
      | cons a r => cases h1
    | cons p r ih => intro acc h1 h2; cases acc with
      | nil => cases h1
      | cons a s =>
        have e := List.cons.inj h1
        cases h2 with
        | cons d1 d2 =>
          obtain ⟨i1, i2⟩ := ih s e.2 d2
          have e1 : p.1 = a.1 := e.1
          simp only [List.map_cons]
          by_cases z : a.1 = k
          · rw [if_pos z, if_pos (e1.trans z)]
            exact ⟨by rw [i1, e1], .cons hx i2⟩
          · rw [if_neg z, if_neg (fun q => z (e1 ▸ q))]
            exact ⟨by rw [i1, e1], .cons d1 i2⟩
  have iff : (kvs.any fun kv => decide (kv.1 = k)) = (acc.any fun kv => decide (kv.1 = k)) := by
    have a1 : (kvs.any fun kv => decide (kv.1 = k)) = (kvs.map (·.1)).any fun q => decide (q = k) := by rw [List.any_map]; rfl
    have a2 : (acc.any fun kv => decide (kv.1 = k)) = (acc.map (·.1)).any fun q => decide (q = k) := by rw [List.any_map]; rfl
    rw [a1, a2, h1]
  unfold putK putA
  rw [iff]
  by_cases z : (acc.any fun kv => decide (kv.1 = k)) = true
  · rw [if_pos z, if_pos z]
    exact key kvs acc h1 h2
  · rw [if_neg z, if_neg z]
    refine ⟨by rw [List.map_append, List.map_append, h1]; rfl, ?_⟩
    rw [List.map_append, List.map_append]
    exact h2.append (.cons hx .nil)
section
variable {c : Bs} {δ : Fe} {ta tb te td ty tv : TE} {ts : TS} {p : Po}
/-- d = {} -/
theorem ds_letDT {i : Nat} (k : Ds c ts (δ.set i (.obj (DTo []))) p) : Ds c (tSeq (tAsg tDNewT (gName i)) ts) δ p :=
  ds_seq (M := (· = δ.set i (.obj (DTo [])))) (fun D σ G H e n r b q => fun a ha =>
    n _ _ G _ (Same.refl G) ((e.up (Gx.put e.same e.jj ha)).setOwn i (.obj (DTo [])) (fun k y hk oy sk => e.noSlot ha k y hk oy sk) fun hlt =>
      ⟨a, _, List.getElem?_set_self (by rw [e.len]; exact hlt), upd_same, (by
        cases k : G a with
        | none => rfl
        | some u => rw [e.same a u k] at ha; cases ha), e.gx.fresh e.j0 ha, (fun _ _ => ⟨[], rfl, rfl, .nil⟩), fun _ z => nomatch z⟩) rfl) fun δ' e => by rw [e]; exact k
/-- d[k] = e -/
theorem ds_putDT {i : Nat} {acc : List (List Key × Dt)} {k : List Key} {x : Dt} (h : δ[i]? = some (.obj (DTo acc))) (hv : De c tv δ x) (hy : De c ty δ (tupK k)) (hl : acc.length < 10000000) (n' : p.N (δ.set i (.obj (DTo (putA acc k x))))) : Ds c (sDPut (tVar i) ty tv) δ p := fun D σ G H e n r b q => by
  refine hv σ G H e _ fun v d G1 H1 g1 d1 p1 => ?_
  obtain ⟨a, o, e1, _⟩ := (e.up g1).sl i _ h
  refine ⟨.ref a, e1, hy σ G1 H1 (e.up g1) _ fun y d' G2 H2 g2 d2 p2 => ?_⟩
  subst p1 p2
  have e2 := (e.up g1).up g2
  obtain ⟨a', o', e1', h1, _, _, h4⟩ := e2.sl i _ h
  rw [e1] at e1'
  have ea := V.ref.inj (Option.some.inj (Option.some.inj e1'))
  subst ea
  obtain ⟨kvs, rfl, hk, hq⟩ := h4.1 G2 (Same.refl _)
  obtain ⟨bb, rfl, eb⟩ := tupK_ref d2
  have kl : kvs.length = acc.length := by simpa using congrArg List.length hk
  refine ⟨a, _, rfl, DPut.t h1 (g2.gh _ _ eb) (sz_lt' (by omega)), n _ _ G2 _ (g1.gg.trans g2.gg) (e2.pokeO h e1 fun G' s' => ?_) n'⟩
  obtain ⟨r1, r2⟩ := put_rel (k := k) (d1.up (g2.gg.trans s')) hk (hq.up s')
  exact ⟨_, rfl, r1, r2⟩
/-- the body's dict at i is data from now on -/
theorem ds_freezeDT {i : Nat} {acc : List (List Key × Dt)} (h : δ[i]? = some (.obj (DTo acc))) (k : Ds c ts (δ.set i (.dat (.dct (acc.map (·.1)) (acc.map (·.2))))) p) : Ds c ts δ p := fun D σ G H e n r b q => by
  obtain ⟨a, o, e1, h1, h2, h3, h4⟩ := e.sl i _ h
  obtain ⟨kvs, rfl, hk, hq⟩ := h4.1 G (Same.refl _)
  have up : Same G (upd G a (.dT kvs)) := fun x u z => by rw [upd_ne (ne_of_none z h2)]; exact z
  have hi : i < δ.length := (List.getElem?_eq_some_iff.mp h).1
  have e' : En c.b c.G0 c.H0 (upd G a (.dT kvs)) H σ (δ.set i (.dat (.dct (acc.map (·.1)) (acc.map (·.2))))) := by
    refine ⟨e.j0, e.gx.freeze h3 h2 h1, by rw [List.length_set, e.len], fun m x hm => ?_, fun m l y z u hm hl oy oz sm sl => ?_⟩
    · by_cases him : i = m
      · subst him
        rw [List.getElem?_set_self hi] at hm
        have := Option.some.inj hm
        subst this
        exact ⟨_, e1, .dct upd_same hk (hq.up up)⟩
      · rw [List.getElem?_set_ne him] at hm
        have q := e.sl m x hm
        have na : ∀ {b : Addr}, x.owns = true → σ[m]? = some (some (.ref b)) → b ≠ a := fun {b} ox s z => him (e.apart i m _ x a h hm rfl ox e1 (by rw [← z]; exact s))
        cases x with
        | un => trivial
        | dat d => obtain ⟨v, e2, q2⟩ := q; exact ⟨v, e2, q2.up up⟩
        | own es =>
          obtain ⟨b, ws, e2, q1, q2, q3, q4⟩ := q
          exact ⟨b, ws, e2, q1, by rw [upd_ne (na rfl e2)]; exact q2, q3, q4.up up⟩
        | obj Φ =>
          obtain ⟨b, o, e2, q1, q2, q3, q4, q5⟩ := q
          exact ⟨b, o, e2, q1, by rw [upd_ne (na rfl e2)]; exact q2, q3, fun G' s' => q4 G' (up.trans s'), q5⟩
        | raw v => exact q
    · have ne : ∀ {j : Nat} {u : Sl}, (δ.set i (.dat (.dct (acc.map (·.1)) (acc.map (·.2)))))[j]? = some u → u.owns = true → δ[j]? = some u := fun {j u} hj ou => by
        by_cases hij : i = j
        · subst hij
          rw [List.getElem?_set_self hi] at hj
          have := Option.some.inj hj
          subst this
          cases ou
        · rw [List.getElem?_set_ne hij] at hj
          exact hj
      exact e.apart m l y z u (ne hm oy) (ne hl oz) oy oz sm sl
  exact k D σ _ H e' (fun δ2 σ2 G2 H2 s2 => n δ2 σ2 G2 H2 (up.trans s2)) r (fun δ2 σ2 G2 H2 s2 => b δ2 σ2 G2 H2 (up.trans s2)) fun δ2 σ2 G2 H2 s2 => q δ2 σ2 G2 H2 (up.trans s2)
end
end Zd

set_option Elab.async false
set_option maxRecDepth 100000
set_option maxHeartbeats 4000000
/-! Zd18: a walk over a list or a tuple. -/
namespace Zd
open PySem PySem.Spec PyProof.Rows L2 StX
def iSeq (K : PySem.W.Frag) (tl : TE) : TI := fun σ H R => tl σ H fun x H1 => ∃ a, x = .ref a ∧ (((∃ xs, SqL K H1 a xs) ∧ R (Itl K a) H1) ∨ ((∃ xs, SqT K H1 a xs) ∧ R (Itt K a) H1))
theorem pi_seqK {X : Cx} {K : PySem.W.Frag} {tg l : Expr} {tl : TE} (hK : X.K = K) (hl : PE X l tl) : PI X tg l (iSeq K tl) := by
  subst hK
  refine ⟨fun pins s σ H R I h => thn (hl.run pins s σ H _ I h) fun v s1 ⟨x, H1, I1, r1, a, ex, z⟩ => ?_⟩
  subst ex
  cases r1
  have own : ∀ b ∈ [s1.heap.objs.size], FpOk X pins H1 b := fun b hb => List.mem_singleton.mp hb ▸ I1.fpOk (Nat.le_refl _) (I1.hok.fresh (Nat.le_refl _))
  rcases z with ⟨⟨xs, hq⟩, q⟩ | ⟨⟨xs, hq⟩, q⟩
  · have ⟨_, _, p, _⟩ := I1.list hq
    exact wpAny_pyIter_list p.isList ⟨_, _, _, _, H1, rfl, I1.kept (t' := s1.toks) fun b o e => Heap.get?_push_of_some _ e, turn_list a _, ⟨_, Heap.get?_push_size _ rfl, rfl, rfl⟩, own, q⟩
  · have ⟨its, _, p, _⟩ := I1.tuple hq
    exact wpAny_pyIter_tuple (items := its.toArray) p ⟨_, _, _, _, H1, rfl, I1.kept (t' := s1.toks) fun b o e => Heap.get?_push_of_some _ e, turn_tuple a _, ⟨_, Heap.get?_push_size _ rfl, rfl, rfl⟩, own, q⟩
section
variable {c : Bs} {δ : Fe} {te ta tb : TE} {K : PySem.W.Frag}
abbrev seqD (t : Bool) (xs : List Dt) : Dt := if t = true then .tup xs else .lst xs
theorem di_seq {t : Bool} {xs : List Dt} (h : De c te δ (seqD t xs)) : Di c (iSeq K te) δ (· = xs) := by
  cases t with
  | true =>
      intro σ G H e R q
      refine h σ G H e _ fun v x G1 H1 g1 d1 p1 => ?_
      subst p1
      generalize hd : seqD true xs = dd at d1
      cases d1 with
      | tup a1 a2 =>
        have e1 := Dt.tup.inj hd
        subst e1
        refine ⟨_, rfl, .inr ⟨⟨_, SqT.of (g1.gh _ _ a1)⟩, q _ xs G1 H1 g1 rfl fun i G2 H2 s1 s2 j => ⟨fun hi => ?_, fun hi => ?_⟩⟩⟩
        · obtain ⟨y, hy, dy⟩ := a2.get (List.getElem?_eq_getElem hi)
          refine ⟨⟨_, y, SqT.of (s2 _ _ (s1 _ _ a1)), hy⟩, fun z H' hz => ?_⟩
          obtain ⟨rfl, hz⟩ := hz
          have e3 := Option.some.inj ((hz _ (SqT.of (s2 _ _ (s1 _ _ a1)))).symm.trans hy)
          subst e3
          exact ⟨_, G2, List.getElem?_eq_getElem hi, Gx.refl s2 j, dy.up s1⟩
        · exact ⟨_, SqT.of (s2 _ _ (s1 _ _ a1)), by rw [a2.length]; exact hi⟩
      | _ => cases hd
  | false =>
      intro σ G H e R q
      refine h σ G H e _ fun v x G1 H1 g1 d1 p1 => ?_
      subst p1
      generalize hd : seqD false xs = dd at d1
      cases d1 with
      | lst a1 a2 =>
        have e1 := Dt.lst.inj hd
        subst e1
        refine ⟨_, rfl, .inl ⟨⟨_, SqL.of (g1.gh _ _ a1)⟩, q _ xs G1 H1 g1 rfl fun i G2 H2 s1 s2 j => ⟨fun hi => ?_, fun hi => ?_⟩⟩⟩
        · obtain ⟨y, hy, dy⟩ := a2.get (List.getElem?_eq_getElem hi)
          refine ⟨⟨_, y, SqL.of (s2 _ _ (s1 _ _ a1)), hy⟩, fun z H' hz => ?_⟩
          obtain ⟨rfl, hz⟩ := hz
          have e3 := Option.some.inj ((hz _ (SqL.of (s2 _ _ (s1 _ _ a1)))).symm.trans hy)
          subst e3
          exact ⟨_, G2, List.getElem?_eq_getElem hi, Gx.refl s2 j, dy.up s1⟩
        · exact ⟨_, SqL.of (s2 _ _ (s1 _ _ a1)), by rw [a2.length]; exact hi⟩
      | _ => cases hd
/-- *x, .., x a list or a tuple -/
theorem da_starS {t : Bool} {xs ds : List Dt} {tr : TA} (ha : De c ta δ (seqD t xs)) (hr : Ds' c tr δ (· = ds)) : Ds' c (tStar K ta tr) δ (· = xs ++ ds) := by
  cases t with
  | true => exact da_starT ha hr
  | false => exact da_starE ha hr
theorem dt_BB {P : Bool → Prop} (h : Dn c te δ (IsB P)) : Dt' c (tB te) δ P := fun σ G H e Q q =>
  h σ G H e _ fun v d G1 H1 g1 d1 p1 => by
    obtain ⟨b, rfl, hb⟩ := p1
    cases d1
    exact ⟨b, rfl, q b G1 H1 g1 hb⟩
end
end Zd

set_option Elab.async false
set_option maxRecDepth 100000
set_option maxHeartbeats 4000000
/-! Zd19: an instance that is being made: its __init__, its fields one after the other. -/
namespace Zd
open PySem L2 StX
/-- in a slot: the instance at x, of the class at C, with the fields told -/
def InsO (x C : Addr) (ks : List Str) (ds : List Dt) : Hp → Addr → HO → Prop := fun G p o => p = x ∧ ∃ dx fs, o = .ins C dx fs ∧ fs.map (·.1) = ks ∧ Dqs G (fs.map (·.2)) ds
theorem putF_new {f : Str} {v : V} : ∀ {fs : List (Str × V)}, f ∉ fs.map (·.1) → putF f v fs = fs ++ [(f, v)]
  | [], _ => rfl
  | (g, x) :: r, h => by
    rw [List.map_cons, List.mem_cons, not_or] at h
    show (if g = f then (g, v) :: r else (g, x) :: putF f v r) = _
    rw [if_neg fun e => h.1 e.symm, putF_new h.2]
    rfl
section
variable {c : Bs} {δ : Fe} {ta tb te tv : TE} {tr : TA} {ts : TS} {p : Po} {K : PySem.W.Frag} {x0 C : Addr} {ks : List Str} {ds : List Dt}
/-- self.f -/
theorem de_fldO {i : Nat} {f : Str} {x : Dt} (h : δ[i]? = some (.obj (InsO x0 C ks ds))) (hC : Cls K C) (hn : NoAttr K C f) (hf : fldAt ks ds f = some x) : De c (tFld K (tVar i) f) δ x := fun σ G H e Q q => by
  obtain ⟨a, o, e1, h1, _, _, h4⟩ := e.sl i _ h
  obtain ⟨px, dx, fs, rfl, hk, hq⟩ := h4.1 G (Same.refl _)
  subst hk
  obtain ⟨u, e2, e3⟩ := lookup_fld hq hf
  exact ⟨.ref a, e1, a, C, dx, fs, u, rfl, h1, hC, hn, e2, q u x G H (Gx.refl e.same e.jj) e3 rfl⟩
/-- self.f = e, f a new field -/
theorem ds_setFld {i : Nat} {f : Str} {x : Dt} (h : δ[i]? = some (.obj (InsO x0 C ks ds))) (hC : Cls K C) (hn : NoAttr K C f) (hv : De c tv δ x) (hf : f ∉ ks) (hl : ks.length < 1000) (k : p.N (δ.set i (.obj (InsO x0 C (ks ++ [f]) (ds ++ [x]))))) : Ds c (sFld K (tVar i) tv f) δ p := fun D σ G H e n r b q => by
  refine hv σ G H e _ fun v d G1 H1 g1 d1 p1 => ?_
  subst p1
  obtain ⟨a, o, e1, h1, _, _, h4⟩ := (e.up g1).sl i _ h
  obtain ⟨px, dx, fs, rfl, hk, hq⟩ := h4.1 G1 (Same.refl _)
  refine ⟨.ref a, e1, a, C, dx, fs, rfl, h1, hC, hn, by rw [← List.length_map (f := Prod.fst), hk]; exact hl, ?_⟩
  refine n _ _ G1 _ g1.gg ((e.up g1).pokeO h e1 fun G' s' => ⟨px, dx, putF f v fs, rfl, ?_, ?_⟩) k
  · rw [putF_new (by rw [hk]; exact hf), List.map_append, hk]; rfl
  · rw [putF_new (by rw [hk]; exact hf), List.map_append]
    exact (hq.up s').append (.cons (d1.up s') .nil)
/-- a def's call with the instance as its first argument -/
theorem de_callPO {α : Type} {Fa : α → List (Str × Dt)} {A : α → List Dt} {pre : α → Prop} {f : α → Dt} {E : XK} {i : Nat} (a : α) (h : δ[i]? = some (.obj (InsO x0 C ks ds))) (ha : Ds' c tr δ (· = A a)) (hF : ∀ g d, (g, d) ∈ Fa a → fldAt ks ds g = some d) (hp : pre a) :
    De c (tCall (spP C Fa A pre fun a d => d = f a) [] E (tCons (tVar i) tr)) δ (f a) := fun σ G H e Q q => by
  obtain ⟨x, o, e1, _⟩ := e.sl i _ h
  refine ⟨.ref x, e1, ha σ G H e _ fun vs es G2 H2 g2 d2 p2 => ?_⟩
  subst p2
  have e2 := e.up g2
  obtain ⟨x', o', e1', h1, _, _, h4⟩ := e2.sl i _ h
  rw [e1] at e1'
  have ea := V.ref.inj (Option.some.inj (Option.some.inj e1'))
  subst ea
  obtain ⟨px, dx, fs, rfl, hk, hq⟩ := h4.1 G2 (Same.refl _)
  subst hk
  exact ⟨G2, x, dx, fs, vs, a, by rw [List.append_nil], g2.gh, h1, fun g d hm => lookup_fld hq (hF g d hm), d2, hp, fun v d G3 H3 g3 d3 p3 => q v d G3 H3 (g2.trans e.jj (g3.of_pure g2.jj)) d3 p3⟩
end
/-- the heap without the thing at x -/
def less (H : Hp) (x : Addr) : Hp := fun a => if a = x then none else H a
theorem less_at {H : Hp} {x : Addr} : less H x x = none := by unfold less; rw [if_pos rfl]
theorem less_ne {H : Hp} {x a : Addr} (h : a ≠ x) : less H x a = H a := by unfold less; rw [if_neg h]
/-- __init__(self, ..): the new instance gets the fields ks with the things ds a -/
def spI {α : Type} (C : Addr) (A : α → List Dt) (pre : α → Prop) (ks : List Str) (ds : α → List Dt) : Sp := fun vs H Q _ => ∃ G x dx us a, vs = .ref x :: us ∧ Same G (less H x) ∧ H x = some (.ins C dx []) ∧ Dqs G us (A a) ∧ pre a ∧
  ∀ G' H' dx' fs, Gx Bx.pure G (less H x) G' H' → G' x = none → H' x = some (.ins C dx' fs) → fs.map (·.1) = ks → Dqs G' (fs.map (·.2)) (ds a) → Q .non H'
theorem spI_len {α : Type} {C : Addr} {A : α → List Dt} {pre : α → Prop} {ks : List Str} {ds : α → List Dt} {vs : List V} {H : Hp} {Q : VK} {E : XK} {n : Nat} (hn : ∀ a, (A a).length = n) (h : spI C A pre ks ds vs H Q E) : vs.length = n + 1 := by
  obtain ⟨G, x, dx, us, a, rfl, _, _, d, _⟩ := h
  rw [List.length_cons, d.length, hn]
theorem ok_bodyI {α : Type} {C : Addr} {A : α → List Dt} {pre : α → Prop} {ks : List Str} {ds : α → List Dt} {N : List Str} {vs : List V} {H : Hp} {Q : VK} {E : XK} {ts : TS} (δ : Addr → α → Fe) (h : spI C A pre ks ds vs H Q E) (hl : ∀ a, (A a).length + 1 ≤ N.length)
    (hδ : ∀ x0 a, .obj (InsO x0 C [] []) :: (A a).map Sl.dat ++ List.replicate (N.length - ((A a).length + 1)) .un = δ x0 a)
    (k : ∀ (c : Bs) (x0 : Addr) (a : α), pre a → Ds c ts (δ x0 a) { N := fun δ' => δ'[0]? = some (.obj (InsO x0 C ks (ds a))), R := fun _ => False }) :
    ts { nx := fun _ H' => Q .non H', rt := Q } (L2.start N vs) H := by
  obtain ⟨G, x, dx, us, a, rfl, s, hx, d, pr, q⟩ := h
  have gx : G x = none := by
    cases z : G x with
    | none => rfl
    | some o => have := s x o z; rw [less_at] at this; cases this
  have e0 := d.startR (v := .ref x) s N (by rw [d.length]; exact hl a)
  have hle : Same (less H x) H := fun b o z => by
    by_cases hb : b = x
    · rw [hb, less_at] at z; cases z
    · rwa [less_ne hb] at z
  have e : Ec ⟨Bx.pure, G, less H x⟩ G H (L2.start N (.ref x :: us)) (δ x a) := by
    rw [← hδ]
    have noown : ∀ (i : Nat) (y : Sl), (Sl.obj (InsO x C [] []) :: (A a).map Sl.dat ++ List.replicate (N.length - ((A a).length + 1)) .un)[i]? = some y → y.owns = true → i = 0 := by
      intro i y hy oy
      cases i with
      | zero => rfl
      | succ i =>
        have hy' : ((A a).map Sl.dat ++ List.replicate (N.length - ((A a).length + 1)) .un)[i]? = some y := hy
        rcases List.mem_append.mp (List.mem_of_getElem? hy') with hm | hm
        · obtain ⟨d, _, rfl⟩ := List.mem_map.mp hm
          cases oy
        · rw [List.eq_of_mem_replicate hm] at oy; cases oy
    refine ⟨trivial, ⟨Same.refl G, fun b o _ z => hle b o z, fun b o z => hle b o (s b o z), fun _ z => .inl z, trivial⟩, ?_, fun i y hy => ?_, fun i j y z w hy hz oy oz _ _ => (noown i y hy oy).trans (noown j z hz oz).symm⟩
    · rw [e0.len]; simp
    · cases i with
      | zero =>
        have := Option.some.inj hy
        subst this
        exact ⟨x, _, rfl, hx, gx, less_at, (fun G' _ => ⟨rfl, dx, [], rfl, rfl, .nil⟩), fun _ z => nomatch z⟩
      | succ i =>
        have q0 := e0.sl (i + 1) y hy
        cases y with
        | un => trivial
        | dat d => exact q0
        | raw v => exact q0
        | own _ => exact absurd (noown _ _ hy rfl) (Nat.succ_ne_zero i)
        | obj _ => exact absurd (noown _ _ hy rfl) (Nat.succ_ne_zero i)
  refine k ⟨Bx.pure, G, less H x⟩ x a pr _ _ G H e (fun δ' σ' G' H' _ e' n => ?_) (fun _ _ _ _ _ _ z => z.elim) (fun _ _ _ _ _ _ z => z.elim) (fun _ _ _ _ _ _ z => z.elim)
  obtain ⟨x', o, e1, h1, h2, h3, h4⟩ := e'.sl 0 _ n
  obtain ⟨rfl, dx', fs, rfl, hk, hq⟩ := h4.1 G' (Same.refl _)
  exact q G' H' dx' fs e'.gx h2 h1 hk hq
/-- C(..): a new instance is data at once -/
theorem de_make {α : Type} {c : Bs} {δ : Fe} {tr : TA} {C : Addr} {A : α → List Dt} {pre : α → Prop} {ks : List Str} {ds : α → List Dt} {E : XK} (a : α) (ha : Ds' c tr δ (· = A a)) (hp : pre a) : De c (tMake C (spI C A pre ks ds) [] E tr) δ (.ins C ks (ds a)) := fun σ G H e Q q =>
  ha σ G H e _ fun vs es G1 H1 g1 d1 p1 => fun x dx hx hdx ne => by
    subst p1
    have e1 := e.up g1
    have at2 : ∀ b o, H1 b = some o → less (upd (upd H1 dx (.own x)) x (.ins C dx [])) x b = some o := fun b o z => by
      have n1 := ne_of_none z hx
      rw [less_ne n1, upd_ne n1, upd_ne (ne_of_none z hdx)]
      exact z
    refine ⟨G1, x, dx, vs, a, by rw [List.append_nil], fun b o z => at2 b o (e1.same b o z), upd_same, d1, hp, fun G' H' dx' fs g gx hx' hk hq => ⟨rfl, ?_⟩⟩
    have up : Same G' (upd G' x (.ins C dx' fs)) := fun b o z => by rw [upd_ne (ne_of_none z gx)]; exact z
    refine q (.ref x) (.ins C ks (ds a)) (upd G' x (.ins C dx' fs)) H' (g1.trans e.jj ⟨g.gg.trans up, fun b o _ z => g.hh b o id (at2 b o z), fun b o z => ?_, fun b z => ?_, c.b.st _ _ e1.jj fun b sb => ?_⟩) (.ins upd_same hk (hq.up up)) rfl
    · by_cases hb : b = x
      · rw [hb, upd_same] at z
        rw [hb, hx', z]
      · rw [upd_ne hb] at z
        exact g.gh b o z
    · by_cases hb : b = x
      · exact .inr (.inl (by rw [hb]; exact hx))
      · rw [upd_ne hb] at z
        refine (g.nw b z).imp (fun y => y) fun y => ?_
        rw [less_ne hb, upd_ne hb] at y
        by_cases hb2 : b = dx
        · rw [hb2]; exact .inl hdx
        · rwa [upd_ne hb2] at y
    · cases z : H1 b with
      | none => exact absurd z (c.b.hs _ _ e1.jj sb)
      | some o => exact g.hh b o id (at2 b o z)
end Zd

set_option Elab.async false
set_option maxRecDepth 100000
set_option maxHeartbeats 4000000
/-! Zd20: list comprehensions with three clauses, none with a test. -/
namespace Zd
open PySem PySem.Spec PyProof.Rows L2
abbrev c3 (elt t0 i0 t1 i1 t2 i2 : Expr) (scope : Scope) (pos : Pos) : Expr := .ListComp elt [⟨t0, i0, [], 0⟩, ⟨t1, i1, [], 0⟩, ⟨t2, i2, [], 0⟩] scope pos
/-- what a clause does behind its target: the next clause, started -/
def nextC (e : Expr) (k : Nat) (i : Expr) (acc : Value) (env : Env) (k' : Sem Fin) : Sem Fin := eval i env >>= fun x => standAt i.pos >>= fun _ => foldedSetIterable i env x >>= fun z => holding [z] (pyIter z) >>= fun j => runOwn (.compStart e k j acc env) env >>= fun _ => k'
def lastC (elt : Expr) (acc : Value) (env : Env) (k' : Sem Fin) : Sem Fin := (eval elt env >>= fun v => call (.builtin "list.append") [acc, v] >>= fun _ => (pure () : Sem Unit)) >>= fun _ => k'
def turnC (e : Expr) (k : Nat) (t i : Expr) (it acc : Value) (env : Env) (rest : Sem Fin → Sem Fin) : Sem Fin := standAt i.pos >>= fun _ => pyNext it >>= fun r => match r with
  | none => pure (.done .next)
  | some v => letOwnedTupleGo t it v >>= fun _ => assign t env v >>= fun _ => rest (again (.compLoop e k it acc env))
section
variable {elt t0 i0 t1 i1 t2 i2 : Expr} {scope : Scope} {pos : Pos} {it acc : Value} {env : Env}
theorem turn0 : compTurn (c3 elt t0 i0 t1 i1 t2 i2 scope pos) 0 it acc env = turnC (c3 elt t0 i0 t1 i1 t2 i2 scope pos) 0 t0 i0 it acc env (nextC (c3 elt t0 i0 t1 i1 t2 i2 scope pos) 1 i1 acc env) := by rfl
theorem turn1 : compTurn (c3 elt t0 i0 t1 i1 t2 i2 scope pos) 1 it acc env = turnC (c3 elt t0 i0 t1 i1 t2 i2 scope pos) 1 t1 i1 it acc env (nextC (c3 elt t0 i0 t1 i1 t2 i2 scope pos) 2 i2 acc env) := by rfl
theorem turn2 : compTurn (c3 elt t0 i0 t1 i1 t2 i2 scope pos) 2 it acc env = turnC (c3 elt t0 i0 t1 i1 t2 i2 scope pos) 2 t2 i2 it acc env (lastC elt acc env) := by rfl
variable {prog : Program} {w : World} {A : Around} {R : Result → Shared → Prop} {s : Shared}
/-- what a clause's rest does: P holds behind it, and nothing is raised -/
abbrev Does (prog : Program) (w : World) (A : Around) (rest : Sem Fin → Sem Fin) (s : Shared) (P : Shared → Prop) : Prop := ∀ (k' : Sem Fin) (QF : Fin → Shared → Prop) (EF : Value → Shared → Prop), (∀ s4, P s4 → wpAny (model prog w) A k' QF EF s4) → wpAny (model prog w) A (rest k') QF EF s
theorem loopC {k : Nat} {t i : Expr} {rest : Sem Fin → Sem Fin} (eqn : compTurn (c3 elt t0 i0 t1 i1 t2 i2 scope pos) k it acc env = turnC (c3 elt t0 i0 t1 i1 t2 i2 scope pos) k t i it acc env rest) (I : Nat → Shared → Prop)
    (turn : ∀ n s, I n s → wpAny (model prog w) A (pyNext it) (fun r s1 => (r = none ∧ R (.ok .next) s1) ∨ ∃ v, r = some v ∧ wpAny (model prog w) A (letOwnedTupleGo t it v) (fun _ s2 => wpAny (model prog w) A (assign t env v) (fun _ s3 => Does prog w A rest s3 fun s4 => ∃ m, m < n ∧ I m s4) (fun _ _ => False) s2) (fun _ _ => False) s1) (fun _ _ => False) s)
    (n : Nat) (h : I n s) : codeAny (model prog w) A (.compLoop (c3 elt t0 i0 t1 i1 t2 i2 scope pos) k it acc env) R s := by
  refine codeAny_loop rfl I (fun n s hI => ?_) n h
  show wpAny _ _ (Sem.onRaise (compTurn (c3 elt t0 i0 t1 i1 t2 i2 scope pos) k it acc env) _) _ _ _
  refine wpAny_noted ?_
  rw [eqn]
  refine wpAny_bind (wpAny_standAt (wpAny_bind (thnF (turn n s hI) fun r s1 h1 => ?_)))
  rcases h1 with ⟨rfl, h1⟩ | ⟨v, rfl, h1⟩
  · exact wpAny_pure h1
  · refine wpAny_bind (thnF h1 fun _ s2 h2 => wpAny_bind (thnF h2 fun _ s3 h3 => h3 _ _ _ fun s4 h4 => wpAny_pure ⟨rfl, h4⟩))
/-- the next clause's start -/
theorem startC1 (walk : codeAny (model prog w) A (.compLoop (c3 elt t0 i0 t1 i1 t2 i2 scope pos) 1 it acc env) R s) (twice : wpAny (model prog w) A (pyIter it) (fun j z => codeAny (model prog w) A (.compLoop (c3 elt t0 i0 t1 i1 t2 i2 scope pos) 1 j acc env) R z) (fun _ _ => False) s) :
    codeAny (model prog w) A (.compStart (c3 elt t0 i0 t1 i1 t2 i2 scope pos) 1 it acc env) R s := by
  refine codeAny_of_tree (show wpAny _ _ (Sem.onRaise (compStart (c3 elt t0 i0 t1 i1 t2 i2 scope pos) 1 it acc env) _) _ _ _ from wpAny_notedAt ?_)
  unfold compStart
  refine (show wpAny _ _ (ask >>= _) _ _ _ from wpAny_bind (wpAny_askSetting (wpAny_ite ?_)))
  split
  · first | exact wpAny_bind (wpAny_pure (wpAny_pure ⟨rfl, walk⟩)) | exact wpAny_pure ⟨rfl, walk⟩
  · refine wpAny_bind (wpAny_rule (show wpAny _ _ (standAt i1.pos >>= _) _ _ _ from wpAny_bind (wpAny_standAt (wpAny_bind (thnF twice fun j z k => wpAny_pure ⟨rfl, k⟩)))))
theorem startC2 (walk : codeAny (model prog w) A (.compLoop (c3 elt t0 i0 t1 i1 t2 i2 scope pos) 2 it acc env) R s) (twice : wpAny (model prog w) A (pyIter it) (fun j z => codeAny (model prog w) A (.compLoop (c3 elt t0 i0 t1 i1 t2 i2 scope pos) 2 j acc env) R z) (fun _ _ => False) s) :
    codeAny (model prog w) A (.compStart (c3 elt t0 i0 t1 i1 t2 i2 scope pos) 2 it acc env) R s := by
  refine codeAny_of_tree (show wpAny _ _ (Sem.onRaise (compStart (c3 elt t0 i0 t1 i1 t2 i2 scope pos) 2 it acc env) _) _ _ _ from wpAny_notedAt ?_)
  unfold compStart
  refine (show wpAny _ _ (ask >>= _) _ _ _ from wpAny_bind (wpAny_askSetting (wpAny_ite ?_)))
  split
  · first | exact wpAny_bind (wpAny_pure (wpAny_pure ⟨rfl, walk⟩)) | exact wpAny_pure ⟨rfl, walk⟩
  · refine wpAny_bind (wpAny_rule (show wpAny _ _ (standAt i2.pos >>= _) _ _ _ from wpAny_bind (wpAny_standAt (wpAny_bind (thnF twice fun j z k => wpAny_pure ⟨rfl, k⟩)))))
end
/-! ### readings -/
abbrev Bd := L2.St → Hp → (L2.St → Hp → Prop) → Prop
/-- a clause that walks, its rest body -/
def loopB (wi : TI) (g : TG) (body : Bd) : Bd := fun σ H K => wi σ H fun J H1 => ∃ (M : Nat) (W : Nat → L2.St → Hp → Prop), W 0 σ H1 ∧ ∀ i σ2 H2, i ≤ M → W i σ2 H2 →
  (J.stop i H2 ∧ K σ2 H2) ∨ (i < M ∧ J.go i H2 ∧ ∀ x H3, J.yld i H2 x H3 → g x σ2 H3 fun σ4 H4 => body σ4 H4 fun σ5 H5 => W (i + 1) σ5 H5)
/-- the item that is put in -/
def lastB (te : TE) (D : Addr) : Bd := fun σ H K => te σ H fun z H1 => ∃ xs, H1 D = some (.lst xs) ∧ xs.length < sizeLine ∧ K σ (upd H1 D (.lst (xs ++ [z])))
abbrev Runs (Y : Cx) (rest : Sem Fin → Sem Fin) (body : Bd) : Prop := ∀ (pins : List (Addr × Obj)) (s : Shared) (σ : L2.St) (H : Hp) (K : L2.St → Hp → Prop), Inv Y pins σ H s → body σ H K → Does Y.prog Y.w Y.A rest s fun z => ∃ σ' H', Inv Y pins σ' H' z ∧ K σ' H'
section
variable {Y : Cx} {elt : Expr} {te : TE} {D : Addr}
theorem runs_last (hY : Y.xe = fun _ _ => False) (he : PE Y elt te) : Runs Y (lastC elt (.ref D) Y.env) (lastB te D) := fun pins s σ H K I h k' QF EF hk => by
  have r := he.run pins s σ H _ I h
  rw [hY] at r
  exact wpAny_bind (wpAny_bind (thnF r fun v s1 ⟨z, H1, I1, r1, xs, h1, h2, h3⟩ => wpAny_bind (app_ok I1 h1 h2 r1 fun s2 I2 => wpAny_pure (hk s2 ⟨σ, _, I2, h3⟩))))
theorem runs_next {t0 i0 t1 i1 t2 i2 tg iter : Expr} {scope : Scope} {pos : Pos} {k : Nat} {wi : TI} {g : TG} {rest : Sem Fin → Sem Fin} {body : Bd} (hY : Y.xe = fun _ _ => False) (hc : Y.calm = true) (hi : PI Y tg iter wi) (hg : PG Y tg g) (hr : Runs Y rest body) (hs : ∀ x, foldedSetIterable iter Y.env x = pure x)
    (eqn : ∀ it, compTurn (c3 elt t0 i0 t1 i1 t2 i2 scope pos) k it (.ref D) Y.env = turnC (c3 elt t0 i0 t1 i1 t2 i2 scope pos) k tg iter it (.ref D) Y.env rest)
    (start : ∀ (it : Value) (R : Result → Shared → Prop) (s : Shared), codeAny (model Y.prog Y.w) Y.A (.compLoop (c3 elt t0 i0 t1 i1 t2 i2 scope pos) k it (.ref D) Y.env) R s → wpAny (model Y.prog Y.w) Y.A (pyIter it) (fun j z => codeAny (model Y.prog Y.w) Y.A (.compLoop (c3 elt t0 i0 t1 i1 t2 i2 scope pos) k j (.ref D) Y.env) R z) (fun _ _ => False) s → codeAny (model Y.prog Y.w) Y.A (.compStart (c3 elt t0 i0 t1 i1 t2 i2 scope pos) k it (.ref D) Y.env) R s) :
    Runs Y (nextC (c3 elt t0 i0 t1 i1 t2 i2 scope pos) k iter (.ref D) Y.env) (loopB wi g body) := fun pins s σ H K I h k' QF EF hk => by
  have r := hi.run pins s σ H _ I h
  rw [hY] at r
  refine wpAny_bind (thnF r fun x s1 h1 => wpAny_bind (wpAny_standAt (wpAny_bind (wpAny_of_eq (hs x) (wpAny_bind (wpAny_holding (thnF h1 fun itv s2 ⟨it, fp, tn, J, H1, ei, I1, T, st, f, M, W, w0, turn⟩ => ?_)))))))
  subst ei
  refine wpAny_bind (wpAny_runOwn ?_)
  rw [Around.mark_none]
  have own : ∀ {H' : Hp}, (∀ b ∈ fp, H' b = none) → ∀ b ∈ fp, FpOk Y pins H' b := fun n b hb => ⟨n b hb, (f b hb).2⟩
  have walk : codeAny (model Y.prog Y.w) Y.A (.compLoop (c3 elt t0 i0 t1 i1 t2 i2 scope pos) k (.ref it) (.ref D) Y.env) (fun r s' => match r with
      | .ok _ => wpAny (model Y.prog Y.w) Y.A k' QF EF s'
      | .error e => cameBackBy (model Y.prog Y.w) Y.A Y.env EF e s') s2 := by
    refine loopC (eqn _) (fun n s' => ∃ i σ' H', n = M - i ∧ i ≤ M ∧ Inv Y pins σ' H' s' ∧ tn i s'.heap ∧ (∀ b ∈ fp, H' b = none) ∧ W i σ' H') ?_ M ⟨0, σ, H1, rfl, Nat.zero_le _, I1, st, fun b hb => (f b hb).1, w0⟩
    rintro n s3 ⟨i, σ3, H3, rfl, iM, I3, st3, n3, w3⟩
    rcases turn i σ3 H3 iM w3 with ⟨stop, kk⟩ | ⟨lt, go, step⟩
    · exact thnF (T.done Y rfl rfl rfl hc i pins s3 σ3 H3 (fun _ _ => False) I3 (own n3) st3 stop) fun r s4 ⟨hu, I4⟩ => .inl ⟨hu, hk s4 ⟨σ3, H3, I4, kk⟩⟩
    · refine thnF (T.item Y rfl rfl rfl hc i pins s3 σ3 H3 (fun _ _ => False) I3 (own n3) st3 go) fun r s4 ⟨u, hu, h4⟩ => .inr ⟨u, hu, thnF h4 fun _ s5 ⟨x, H5, I5, r5, y5, st5, n5⟩ => ?_⟩
      have rg := hg.run _ s5 σ3 H5 x u _ (I5.pinned (own n5) (T.obj _ _ st5)) r5 (step x H5 y5)
      rw [hY] at rg
      refine thnF rg fun _ s6 ⟨σ6, H6, I6, q6⟩ => fun k2 QF2 EF2 hk2 => hr _ _ _ _ _ I6 q6 k2 QF2 EF2 fun s7 ⟨σ7, H7, I7, w7⟩ => hk2 s7 ⟨M - (i + 1), by omega, i + 1, σ7, H7, rfl, lt, I7.unpinned, T.keep _ _ _ st5 fun b hb o e => (I7.pin (b, o) (List.mem_append_right _ (List.mem_append_right _ (mem_pinsAt hb e)))).1, fun b hb => (T.obj _ _ st5 b hb).elim fun o z => (I7.pin (b, o) (List.mem_append_right _ (List.mem_append_right _ (mem_pinsAt hb z.1)))).2.1, w7⟩
  exact start _ _ _ walk (T.self Y.A 0 _ _ _ st walk)
end
end Zd

set_option Elab.async false
set_option maxRecDepth 100000
set_option maxHeartbeats 4000000
/-! Zd21: [e for a in .. for b in .. for c in ..], no tests. -/
namespace Zd
open PySem PySem.Spec PyProof.Rows L2
/-- the reading: the outer clause by M turns, the inner ones by loopB -/
def tLc3 (wi : TI) (g : TG) (wi1 : TI) (g1 : TG) (wi2 : TI) (g2 : TG) (te : TE) (vs : List Nat) : TE := fun σ H Q => wi σ H fun J H1 => ∀ D, H1 D = none → ∃ (M : Nat) (W : Nat → Hp → Prop), W 0 (upd H1 D (.lst [])) ∧ ∀ i H2, i ≤ M → W i H2 →
  (J.stop i H2 ∧ Q (.ref D) H2) ∨ (i < M ∧ J.go i H2 ∧ ∀ x H3, J.yld i H2 x H3 → g x (wipe σ vs) H3 fun σ4 H4 => loopB wi1 g1 (loopB wi2 g2 (lastB te D)) σ4 H4 fun σ5 H5 => wipe σ5 vs = wipe σ vs ∧ W (i + 1) H5)
section
variable {X : Cx} {elt t0 i0 t1 i1 t2 i2 : Expr} {scope : Scope} {own : List (Str × Nat)} {pos : Pos} {wi wi1 wi2 : TI} {g g1 g2 : TG} {te : TE}
theorem pe_lc3 (hc : X.calm = true) (hN : X.N.Nodup) (hi : PI X t0 i0 wi) (ok : BlkOk X.N X.env.scope scope own) (hg : Blks X scope fun Y => PG Y t0 g) (hi1 : Blks X scope fun Y => PI Y t1 i1 wi1) (hg1 : Blks X scope fun Y => PG Y t1 g1) (hi2 : Blks X scope fun Y => PI Y t2 i2 wi2) (hg2 : Blks X scope fun Y => PG Y t2 g2) (he : Blks X scope fun Y => PE Y elt te)
    (hs : ∀ x, foldedSetIterable i0 X.env x = pure x := by intro _; rfl) (hs1 : ∀ env x, foldedSetIterable i1 env x = pure x := by intro _ _; rfl) (hs2 : ∀ env x, foldedSetIterable i2 env x = pure x := by intro _ _; rfl) : PE X (c3 elt t0 i0 t1 i1 t2 i2 scope pos) (tLc3 wi g wi1 g1 wi2 g2 te (own.map (·.2))) := by
  refine ⟨fun pins s σ H Q I h => ?_⟩
  rw [arm_eval_ListComp]
  have cl := closure_ok (env := X.env) (scope := scope) fun y hy e => (ok.free y hy e).elim (fun k => I.ok.has _ (.inl k)) fun k => I.ok.has _ (.inr k)
  refine wpAny_comprehension_free (use := none) rfl hs cl ok.kind (fun y hy e => (ok.uniq y hy).trans (by rw [e])) (thn (hi.run pins s σ H _ I h) fun xv s1 h1 => thn h1 fun itv s2 ⟨it, fp, tn, J, H2, ei, I2, T, st2, f2, q⟩ => ?_)
  subst ei
  have nD : H2 s2.heap.objs.size = none := I2.hok.fresh (Nat.le_refl _)
  obtain ⟨M, W, w0, turn⟩ := q _ nD
  have keep3 : ∀ b o, s2.heap.get? b = some o → (s2.heap.push { cls := .type "list", data := .seq ([] : List Value).toArray }).get? b = some o := fun _ _ e => Heap.get?_push_of_some _ e
  have I3 := I2.laid (t' := s2.toks) (o := .lst []) keep3 (Nat.le_refl _) ⟨Nat.zero_le _, [], 0, .nil, Heap.get?_push_size _ rfl⟩
  refine wpAny_newObj_type (newEnv_comp ?_) (by show 0 ≤ sizeLine; exact Nat.zero_le _)
  have low : ∀ b ∈ fp, b < s2.heap.objs.size := fun b hb => (T.obj 0 _ st2 b hb).elim fun o z => Heap.lt_size z.1
  have f3 : ∀ b ∈ fp, FpOk X pins (upd H2 s2.heap.objs.size (.lst [])) b ∧ b < (s2.heap.push { cls := .type "list", data := .seq ([] : List Value).toArray }).objs.size := fun b hb =>
    ⟨⟨(upd_ne (Nat.ne_of_lt (low b hb))).trans (f2 b hb).1, (f2 b hb).2⟩, Nat.lt_of_lt_of_le (low b hb) (by rw [Heap.size_push]; exact Nat.le_succ _)⟩
  generalize hH3 : upd H2 s2.heap.objs.size (.lst []) = H3 at I3 f3 w0
  generalize hs3 : ({ s2 with heap := s2.heap.push { cls := .type "list", data := .seq ([] : List Value).toArray }, toks := s2.toks } : Shared) = s3 at I3
  have hh3 : s3.heap = s2.heap.push { cls := .type "list", data := .seq ([] : List Value).toArray } := by rw [← hs3]
  have f4 : ∀ b ∈ fp, FpOk X pins H3 b ∧ b < s3.heap.objs.size := fun b hb => by rw [hh3]; exact f3 b hb
  have st3 : tn 0 s3.heap := T.keep _ _ _ st2 fun b _ o e => hh3 ▸ keep3 b o e
  have B := block_start I3 ok hN f4
  have rg := hg s3 H3 s3.heap.objs.size (cellsFrom (s3.heap.objs.size + 1) scope.names (cloFrom X.env.cells scope.names [])) fp
  have ri1 := hi1 s3 H3 s3.heap.objs.size (cellsFrom (s3.heap.objs.size + 1) scope.names (cloFrom X.env.cells scope.names [])) fp
  have rg1 := hg1 s3 H3 s3.heap.objs.size (cellsFrom (s3.heap.objs.size + 1) scope.names (cloFrom X.env.cells scope.names [])) fp
  have ri2 := hi2 s3 H3 s3.heap.objs.size (cellsFrom (s3.heap.objs.size + 1) scope.names (cloFrom X.env.cells scope.names [])) fp
  have rg2 := hg2 s3 H3 s3.heap.objs.size (cellsFrom (s3.heap.objs.size + 1) scope.names (cloFrom X.env.cells scope.names [])) fp
  have re := he s3 H3 s3.heap.objs.size (cellsFrom (s3.heap.objs.size + 1) scope.names (cloFrom X.env.cells scope.names [])) fp
  have hloc : (compEnvC scope (cellsFrom (s3.heap.objs.size + 1) scope.names (cloFrom X.env.cells scope.names [])) s3.heap.objs.size X.env).locals = s3.heap.objs.size := rfl
  have goal2 : codeAny (model X.prog X.w) X.A (.compStart (c3 elt t0 i0 t1 i1 t2 i2 scope pos) 0 (.ref it) (.ref s2.heap.objs.size) (compEnvC scope (cellsFrom (s3.heap.objs.size + 1) scope.names (cloFrom X.env.cells scope.names [])) s3.heap.objs.size X.env)) (compPost (model X.prog X.w) X.A X.xe none (EP X pins σ Q) (.ref s2.heap.objs.size) s3.heap.objs.size) { s3 with heap := pushCells (s3.heap.push { cls := .type "dict", data := .dict #[] }) scope.names } := by
    generalize hY : compEnvC scope (cellsFrom (s3.heap.objs.size + 1) scope.names (cloFrom X.env.cells scope.names [])) s3.heap.objs.size X.env = ce at B rg ri1 rg1 ri2 rg2 re hloc ⊢
    generalize hs4 : ({ s3 with heap := pushCells (s3.heap.push { cls := .type "dict", data := .dict #[] }) scope.names } : Shared) = s4 at B ⊢
    have st4 : tn 0 s4.heap := T.keep _ _ _ st3 fun b _ o e => hs4 ▸ pushCells_keeps _ _ _ _ (Heap.get?_push_of_some _ e)
    have inner : Runs (X.blk s3 H3 scope ce fp) (nextC (c3 elt t0 i0 t1 i1 t2 i2 scope pos) 1 i1 (.ref s2.heap.objs.size) ce) (loopB wi1 g1 (loopB wi2 g2 (lastB te s2.heap.objs.size))) :=
      runs_next (Y := X.blk s3 H3 scope ce fp) rfl hc ri1 rg1 (runs_next (Y := X.blk s3 H3 scope ce fp) rfl hc ri2 rg2 (runs_last (Y := X.blk s3 H3 scope ce fp) rfl re) (hs2 _) (fun _ => turn2) fun _ _ _ a b => startC2 a b) (hs1 _) (fun _ => turn1) fun _ _ _ a b => startC1 a b
    have own' : ∀ {σ' : L2.St} {H' : Hp} {s' : Shared}, Inv (X.blk s3 H3 scope ce fp) [] σ' H' s' → (∀ b ∈ fp, H' b = none) → ∀ b ∈ fp, FpOk (X.blk s3 H3 scope ce fp) [] H' b := fun J' n b hb => ⟨n b hb, (J'.ok.exf b hb).1, J'.ok.exfs b hb, .inl hb, fun x c z => (J'.ok.exf b hb).2 x c z, fun p hp => by cases (show p ∈ ([] : List (Addr × Obj)) from by simpa using hp)⟩
    have walk : codeAny (model X.prog X.w) X.A (.compLoop (c3 elt t0 i0 t1 i1 t2 i2 scope pos) 0 (.ref it) (.ref s2.heap.objs.size) ce) (compPost (model X.prog X.w) X.A X.xe none (EP X pins σ Q) (.ref s2.heap.objs.size) s3.heap.objs.size) s4 := by
      refine loopC turn0 (fun n s' => ∃ i H', n = M - i ∧ i ≤ M ∧ Inv (X.blk s3 H3 scope ce fp) [] (wipe σ (own.map (·.2))) H' s' ∧ tn i s'.heap ∧ (∀ b ∈ fp, H' b = none) ∧ W i H') ?_ M ⟨0, H3, rfl, Nat.zero_le _, B, st4, fun b hb => (f4 b hb).1.1, w0⟩
      rintro n s5 ⟨i, H5, rfl, iM, I5, st5, n5, w5⟩
      rcases turn i H5 iM w5 with ⟨stop, qq⟩ | ⟨lt, go, step⟩
      · refine thnF (T.done (X.blk s3 H3 scope ce fp) rfl rfl rfl hc i [] s5 _ H5 (fun _ _ => False) I5 (own' I5 n5) st5 stop) fun r s6 ⟨hr, I6⟩ => .inl ⟨hr, ?_⟩
        have fr : H5 s3.heap.objs.size = none := hloc ▸ I6.free
        obtain ⟨m, hn, _⟩ := I6.loc
        have I7 : Inv X pins σ H5 s6 := I3.call' (ch := fp) I6.os I6.base I6.hok I6.bare fun b hb => let z := (f4 b hb).1.2; ⟨z.2.2.1, z.1, z.2.2.2.1, z.2.2.2.2⟩
        obtain ⟨g0, gg1, _, gg3, gg4, gg5⟩ := I3.fpOk (H' := H5) (Nat.le_refl _) fr
        exact ⟨m, by rw [← hloc]; exact hn, fun h2 sb => ⟨.ref s2.heap.objs.size, H5, I7.turned (t' := s6.toks) (fun b o hb z => (sb.2 b hb).trans z) g0 gg1 gg3 gg4 gg5, rfl, qq⟩⟩
      · refine thnF (T.item (X.blk s3 H3 scope ce fp) rfl rfl rfl hc i [] s5 _ H5 (fun _ _ => False) I5 (own' I5 n5) st5 go) fun r s6 ⟨u, hu, h6⟩ => .inr ⟨u, hu, thnF h6 fun _ s7 ⟨x, H7, I7, r7, y7, st7, n7⟩ => ?_⟩
        refine thnF (rg.run _ s7 _ H7 x u _ (I7.pinned (own' I7 n7) (T.obj _ _ st7)) r7 (step x H7 y7)) fun _ s8 ⟨σ8, H8, I8, q8⟩ => fun k2 QF2 EF2 hk2 => inner _ _ _ _ _ I8 q8 k2 QF2 EF2 fun s9 ⟨σ9, H9, I9, w9, w'⟩ => hk2 s9 ?_
        have pin := fun b (hb : b ∈ fp) o (e : s7.heap.get? b = some o) => I9.pin (b, o) (List.mem_append_right _ (List.mem_append_right _ (mem_pinsAt hb e)))
        exact ⟨M - (i + 1), by omega, i + 1, H9, rfl, lt, (I9.unpinned (pins := [])).weak (by rw [← w9, wipe_length]) fun j v e => (wipe_some (by rw [w9]; exact e)).1, T.keep _ _ _ st7 fun b hb o e => (pin b hb o e).1, fun b hb => (T.obj _ _ st7 b hb).elim fun o z => (pin b hb o z.1).2.1, w'⟩
    exact codeAny_compStart_list walk (T.self X.A 0 _ _ _ st4 walk)
  exact goal2
end
end Zd

set_option Elab.async false
set_option maxRecDepth 100000
set_option maxHeartbeats 4000000
/-! Zd22: comprehensions with three clauses, by data. -/
namespace Zd
open PySem L2 StX
theorem wipe_off {σ : L2.St} {i : Nat} : ∀ {vs : List Nat}, i ∉ vs → (wipe σ vs)[i]? = σ[i]?
  | [], _ => rfl
  | v :: vs, h => by
    rw [List.mem_cons, not_or] at h
    show ((wipe σ vs).set v none)[i]? = _
    rw [List.getElem?_set_ne (fun e => h.1 e.symm), wipe_off h.2]
theorem wipe_on {σ : L2.St} {i : Nat} (hi : i < σ.length) : ∀ {vs : List Nat}, i ∈ vs → (wipe σ vs)[i]? = some none
  | v :: vs, h => by
    show ((wipe σ vs).set v none)[i]? = _
    by_cases e : v = i
    · subst e
      rw [List.getElem?_set_self (by rw [wipe_length]; exact hi)]
    · rw [List.getElem?_set_ne e]
      exact wipe_on hi ((List.mem_cons.mp h).resolve_left fun q => e q.symm)
theorem wipe_sub {σ σ' : L2.St} {vs vs1 : List Nat} (hsub : ∀ i ∈ vs1, i ∈ vs) (h : wipe σ' vs1 = wipe σ vs1) : wipe σ' vs = wipe σ vs := by
  have hl : σ'.length = σ.length := by rw [← wipe_length σ' vs1, h, wipe_length]
  refine List.ext_getElem? fun i => ?_
  by_cases hi : i ∈ vs
  · by_cases hlt : i < σ.length
    · rw [wipe_on hlt hi, wipe_on (by omega) hi]
    · rw [List.getElem?_eq_none (by rw [wipe_length]; omega), List.getElem?_eq_none (by rw [wipe_length]; omega)]
  · rw [wipe_off hi, wipe_off hi, ← wipe_off (vs := vs1) (fun q => hi (hsub i q)), h, wipe_off (fun q => hi (hsub i q))]
theorem wipeF_un {δ : Fe} {i : Nat} : ∀ {vs : List Nat}, i ∈ vs → ∀ x, (wipeF δ vs)[i]? = some x → x = .un
  | v :: vs, h, x, hx => by
    have hx : ((wipeF δ vs).set v .un)[i]? = some x := hx
    by_cases e : v = i
    · subst e
      have hlt : v < (wipeF δ vs).length := by
        have := (List.getElem?_eq_some_iff.mp hx).1
        rwa [List.length_set] at this
      rw [List.getElem?_set_self hlt] at hx
      exact (Option.some.inj hx).symm
    · rw [List.getElem?_set_ne e] at hx
      exact wipeF_un ((List.mem_cons.mp h).resolve_left fun q => e q.symm) x hx
section
variable {b : Bx} {G0 H0 G H : Hp} {σ σ' : L2.St} {δ : Fe}
theorem En.forgets (e : En b G0 H0 G H σ δ) : ∀ vs : List Nat, En b G0 H0 G H σ (wipeF δ vs)
  | [] => e
  | v :: vs => (En.forgets e vs).forget v
/-- a frame that knows nothing of vs, and owns nothing, stands where only vs was changed -/
theorem En.agree {vs : List Nat} (e : En b G0 H0 G H σ (wipeF δ vs)) (hw : L2.wipe σ' vs = L2.wipe σ vs) (hno : ((wipeF δ vs).all fun x => !x.owns) = true) : En b G0 H0 G H σ' (wipeF δ vs) := by
  have no : ∀ (k : Nat) (y : Sl), (wipeF δ vs)[k]? = some y → y.owns = false := fun k y h => by
    simpa using List.all_eq_true.mp hno y (List.mem_of_getElem? h)
  have hl : σ'.length = σ.length := by rw [← wipe_length σ' vs, hw, wipe_length]
  refine ⟨e.j0, e.gx, by rw [hl, e.len], fun i x h => ?_, fun i k x y p hx _ ox _ _ _ => by rw [no i x hx] at ox; cases ox⟩
  by_cases hi : i ∈ vs
  · rw [wipeF_un hi x h]; trivial
  · have q := e.sl i x h
    have es : σ'[i]? = σ[i]? := by rw [← wipe_off (vs := vs) hi, hw, wipe_off hi]
    cases x with
    | un => trivial
    | dat d => obtain ⟨v, e1, q1⟩ := q; exact ⟨v, es.trans e1, q1⟩
    | raw v => exact es.trans q
    | own _ => cases no i _ h
    | obj _ => cases no i _ h
end
/-- growth, the list at D apart -/
structure GxD (b : Bx) (D : Addr) (G H G' H' : Hp) : Prop where
  gg : Same G G'
  hh : ∀ a o, ¬ b.S a → a ≠ D → H a = some o → H' a = some o
  gh : Same G' H'
  nw : ∀ a, G' a ≠ none → G a ≠ none ∨ H a = none ∨ ∃ xs, H a = some (.tup xs)
  jj : b.J H'
  al : H' D ≠ none
  nt : ∀ xs, H' D ≠ some (.tup xs)
theorem GxD.keep {b : Bx} {D : Addr} {G H G' H' : Hp} (j : b.J H) (g : GxD b D G H G' H') {a : Addr} (h : H a ≠ none) : H' a ≠ none := by
  by_cases s : b.S a
  · exact b.hs _ _ g.jj s
  · by_cases d : a = D
    · rw [d]; exact g.al
    · cases e : H a with
      | none => exact absurd e h
      | some o => rw [g.hh a o s d e]; simp
theorem GxD.trans {b : Bx} {D : Addr} {G H G1 H1 G2 H2 : Hp} (j : b.J H) (x : GxD b D G H G1 H1) (y : GxD b D G1 H1 G2 H2) : GxD b D G H G2 H2 where
  gg := x.gg.trans y.gg
  hh := fun a o s d e => y.hh a o s d (x.hh a o s d e)
  gh := y.gh
  nw := fun a h => by
    rcases y.nw a h with k | k | ⟨xs, k⟩
    · exact x.nw a k
    · refine .inr (.inl ?_)
      cases e : H a with
      | none => rfl
      | some o => exact absurd k (x.keep j (by rw [e]; simp))
    · cases e : H a with
      | none => exact .inr (.inl rfl)
      | some o =>
        by_cases s : b.S a
        · exact absurd k (b.ht _ _ xs x.jj s)
        · by_cases d : a = D
          · rw [d] at k
            exact absurd k (x.nt xs)
          · have z := x.hh a o s d e
            rw [k] at z
            exact .inr (.inr ⟨xs, z.symm⟩)
  jj := y.jj
  al := y.al
  nt := y.nt
theorem Gx.toD {b : Bx} {D : Addr} {G H G' H' : Hp} (g : Gx b G H G' H') (h : H' D ≠ none) (ht : ∀ xs, H' D ≠ some (.tup xs)) : GxD b D G H G' H' := ⟨g.gg, fun a o s _ e => g.hh a o s e, g.gh, g.nw, g.jj, h, ht⟩
/-- what D wasn't known to grows all the same -/
theorem Gx.thenD {b : Bx} {D : Addr} {G0 H0 G H G' H' : Hp} (j : b.J H0) (g : Gx b G0 H0 G H) (h0 : H0 D = none) (d : GxD b D G H G' H') : Gx b G0 H0 G' H' :=
  ⟨g.gg.trans d.gg, fun a o s e => d.hh a o s (ne_of_none e h0) (g.hh a o s e), d.gh, fun a h => by
    rcases d.nw a h with k | k | ⟨xs, k⟩
    · exact g.nw a k
    · refine .inr (.inl ?_)
      cases e : H0 a with
      | none => rfl
      | some o => exact absurd k (g.keep j (by rw [e]; simp))
    · cases e : H0 a with
      | none => exact .inr (.inl rfl)
      | some o =>
        by_cases s : b.S a
        · exact absurd k (b.ht _ _ xs g.jj s)
        · have z := g.hh a o s e
          rw [k] at z
          exact .inr (.inr ⟨xs, z.symm⟩), d.jj⟩
section
variable {c : Bs} {δ : Fe} {te : TE}
/-- what a body of clauses puts in: ws, from a frame without objects of its own -/
def Db (c : Bs) (bd : Addr → Bd) (vs : List Nat) (δ : Fe) (ws : List Dt) : Prop := ∀ (σ : L2.St) (G H : Hp) (D : Addr) (us : List V) (acc : List Dt) (K : L2.St → Hp → Prop), Ec c G H σ δ → H D = some (.lst us) → G D = none → c.H0 D = none → Dqs G us acc → acc.length + ws.length ≤ 10000000 →
  (∀ σ' G' H' us', wipe σ' vs = wipe σ vs → GxD c.b D G H G' H' → H' D = some (.lst us') → G' D = none → Dqs G' us' (acc ++ ws) → K σ' H') → bd D σ H K
theorem db_last {vs : List Nat} {d : Dt} (h : De c te δ d) : Db c (lastB te) vs δ [d] := fun σ G H D us acc K e hD gD h0 hq hl k => by
  refine h σ G H e _ fun v d' G1 H1 g1 d1 p1 => ?_
  subst p1
  have notS : ¬ c.b.S D := fun s => c.b.hs _ _ e.j0 s h0
  have hD1 := g1.hh D _ notS hD
  have gD1 : G1 D = none := by
    cases z : G1 D with
    | none => rfl
    | some u =>
      rcases g1.nw D (by rw [z]; simp) with y | y | ⟨_, y⟩
      · exact absurd gD y
      · rw [hD] at y; cases y
      · rw [hD] at y; cases y
  refine ⟨us, hD1, sz_lt' (by rw [hq.length]; simp at hl; omega), k σ G1 _ (us ++ [v]) rfl ⟨g1.gg, fun a o s d z => by rw [upd_ne d]; exact g1.hh a o s z, fun a o z => by rw [upd_ne (ne_of_none z gD1)]; exact g1.gh a o z, g1.nw, c.b.st _ _ g1.jj fun a sa => upd_ne fun z => notS (z ▸ sa), by rw [upd_same]; simp, fun xs z => by rw [upd_same] at z; cases z⟩ upd_same gD1 ((hq.up g1.gg).append (.cons d1 .nil))⟩
/-- a clause -/
theorem db_loop {wi : TI} {g : TG} {bd : Addr → Bd} {vs vs1 vs2 : List Nat} {ys : List Dt} {f : Dt → List Dt} (hw : Di c wi δ (· = ys)) (hno : ((wipeF δ vs1).all fun x => !x.owns) = true) (hs1 : ∀ i ∈ vs1, i ∈ vs) (hs2 : ∀ i ∈ vs2, i ∈ vs1)
    (h : ∀ y ∈ ys, Dg c g y (wipeF δ vs1) vs1 (fun δ2 => Db c bd vs2 δ2 (f y))) : Db c (fun D => loopB wi g (bd D)) vs1 δ (ys.flatMap f) := fun σ G H D us acc K e hD gD h0 hq hl k => by
  refine hw σ G H e _ fun J xs G1 H1 g1 p1 ok => ?_
  subst p1
  have notS : ¬ c.b.S D := fun s => c.b.hs _ _ e.j0 s h0
  have keepD : ∀ {Ga Ha Gb Hb : Hp} {ws : List V}, Gx c.b Ga Ha Gb Hb → Ha D = some (.lst ws) → Ga D = none → Hb D = some (.lst ws) ∧ Gb D = none := fun {Ga Ha Gb Hb ws} gg hh nn => ⟨gg.hh D _ notS hh, by
    cases z : Gb D with
    | none => rfl
    | some u =>
      rcases gg.nw D (by rw [z]; simp) with y | y | ⟨_, y⟩
      · exact absurd nn y
      · rw [hh] at y; cases y
      · rw [hh] at y; cases y⟩
  obtain ⟨hD1, gD1⟩ := keepD g1 hD gD
  have part : ∀ (i : Nat) (y : Dt), xs[i]? = some y → (xs.take (i + 1)).flatMap f = (xs.take i).flatMap f ++ f y := fun i y hy => by rw [List.take_add_one, hy, List.flatMap_append]; simp
  have small : ∀ i : Nat, ((xs.take i).flatMap f).length ≤ (xs.flatMap f).length := fun i => by
    conv => rhs; rw [← List.take_append_drop i xs]
    rw [List.flatMap_append, List.length_append]; omega
  refine ⟨xs.length, fun i σ2 H2 => ∃ G2 us2, wipe σ2 vs1 = wipe σ vs1 ∧ Ec c G2 H2 σ2 (wipeF δ vs1) ∧ GxD c.b D G H G2 H2 ∧ Same G1 G2 ∧ H2 D = some (.lst us2) ∧ G2 D = none ∧ Dqs G2 us2 (acc ++ (xs.take i).flatMap f), ⟨G1, us, rfl, (e.up g1).forgets vs1, g1.toD (by rw [hD1]; simp) (fun xs z => by rw [hD1] at z; cases z), Same.refl _, hD1, gD1, by simpa using hq.up g1.gg⟩, ?_⟩
  rintro i σ2 H2 hi ⟨G2, us2, w2, e2, d2, s2, hD2, gD2, q2⟩
  obtain ⟨okgo, okstop⟩ := ok i G2 H2 s2 e2.same e2.jj
  by_cases hlt : i < xs.length
  · obtain ⟨go, step⟩ := okgo hlt
    refine .inr ⟨hlt, go, fun x H3 hy => ?_⟩
    obtain ⟨y, G3, hy1, g3, dx⟩ := step x H3 hy
    obtain ⟨hD3, gD3⟩ := keepD g3 hD2 gD2
    have e3 := e2.up g3
    refine h y (List.mem_of_getElem? hy1) σ2 G3 H3 x e3 dx _ fun δ4 σ4 G4 H4 e4 g4 w4 k4 => ?_
    obtain ⟨hD4, gD4⟩ := keepD g4 hD3 gD3
    have hsm := small (i + 1)
    rw [part i y hy1, List.length_append] at hsm
    refine k4 σ4 G4 H4 D us2 (acc ++ (xs.take i).flatMap f) _ e4 hD4 gD4 h0 (q2.up (g3.gg.trans g4.gg)) (by rw [List.length_append]; omega) fun σ5 G5 H5 us5 w5 d5 hD5 gD5 q5 => ?_
    have s35 : Same G3 G5 := g4.gg.trans d5.gg
    have d35 : GxD c.b D G3 H3 G5 H5 := (g4.toD (by rw [hD4]; simp) (fun xs z => by rw [hD4] at z; cases z)).trans e3.jj d5
    have gx5 : Gx c.b c.G0 c.H0 G5 H5 := e3.gx.thenD e.j0 h0 d35
    refine ⟨G5, us5, (wipe_sub hs2 w5).trans (w4.trans w2), ?_, (d2.trans e.jj (g3.toD (by rw [hD3]; simp) (fun xs z => by rw [hD3] at z; cases z))).trans e.jj d35, (s2.trans g3.gg).trans s35, hD5, gD5, by rw [part i y hy1, ← List.append_assoc]; exact q5⟩
    exact (e3.upNo hno s35 gx5).agree ((wipe_sub hs2 w5).trans w4) hno
  · have ei : i = xs.length := by omega
    subst ei
    rw [List.take_length] at q2
    exact .inl ⟨okstop (Nat.le_refl _), k σ2 G2 H2 us2 w2 d2 hD2 gD2 q2⟩
/-- [e for .. for .. for ..] -/
theorem dl_lc3 {wi wi1 wi2 : TI} {g g1 g2 : TG} {vs vs1 : List Nat} {xs : List Dt} {f : Dt → List Dt} (hw : Di c wi δ (· = xs)) (hlen : (xs.flatMap f).length ≤ 10000000) (hs1 : ∀ i ∈ vs1, i ∈ vs)
    (h : ∀ d ∈ xs, Dg c g d (wipeF δ vs) vs (fun δ2 => Db c (fun D => loopB wi1 g1 (loopB wi2 g2 (lastB te D))) vs1 δ2 (f d))) : Dl c (tLc3 wi g wi1 g1 wi2 g2 te vs) δ (· = xs.flatMap f) := fun σ G H e Q q => by
  refine hw σ G H e _ fun J xs' G1 H1 g1' p1 ok => ?_
  subst p1
  intro D hD
  have hD0 : H D = none := g1'.fresh e.jj hD
  have h00 : c.H0 D = none := e.gx.fresh e.j0 hD0
  have gD1 : G1 D = none := by
    cases k : G1 D with
    | none => rfl
    | some u => rw [g1'.gh D u k] at hD; cases hD
  have notS : ¬ c.b.S D := fun s => c.b.hs _ _ g1'.jj s hD
  have keepD : ∀ {Ga Ha Gb Hb : Hp} {ws : List V}, Gx c.b Ga Ha Gb Hb → Ha D = some (.lst ws) → Ga D = none → Hb D = some (.lst ws) ∧ Gb D = none := fun {Ga Ha Gb Hb ws} gg hh nn => ⟨gg.hh D _ notS hh, by
    cases z : Gb D with
    | none => rfl
    | some u =>
      rcases gg.nw D (by rw [z]; simp) with y | y | ⟨_, y⟩
      · exact absurd nn y
      · rw [hh] at y; cases y
      · rw [hh] at y; cases y⟩
  have part : ∀ (i : Nat) (y : Dt), xs'[i]? = some y → (xs'.take (i + 1)).flatMap f = (xs'.take i).flatMap f ++ f y := fun i y hy => by rw [List.take_add_one, hy, List.flatMap_append]; simp
  have small : ∀ i : Nat, ((xs'.take i).flatMap f).length ≤ (xs'.flatMap f).length := fun i => by
    conv => rhs; rw [← List.take_append_drop i xs']
    rw [List.flatMap_append, List.length_append]; omega
  refine ⟨xs'.length, fun i Hi => ∃ Gi ws, Gx c.b G H Gi Hi ∧ Same G1 Gi ∧ Hi D = some (.lst ws) ∧ Gi D = none ∧ Dqs Gi ws ((xs'.take i).flatMap f), ⟨G1, [], g1'.trans e.jj (Gx.put g1'.gh g1'.jj hD), Same.refl _, upd_same, gD1, by simpa using Dqs.nil⟩, ?_⟩
  rintro i Hi hi ⟨Gi, ws, gi, si, hDi, gDi, qi⟩
  obtain ⟨okgo, okstop⟩ := ok i Gi Hi si gi.gh gi.jj
  by_cases hlt : i < xs'.length
  · obtain ⟨go, step⟩ := okgo hlt
    refine .inr ⟨hlt, go, fun x H3 hy => ?_⟩
    obtain ⟨y, G3, hy1, g3, dx⟩ := step x H3 hy
    have gi3 := gi.trans e.jj g3
    obtain ⟨hD3, gD3⟩ := keepD g3 hDi gDi
    refine h y (List.mem_of_getElem? hy1) (wipe σ vs) G3 H3 x ((e.up gi3).wipe vs) dx _ fun δ4 σ4 G4 H4 e4 g4 w4 k4 => ?_
    obtain ⟨hD4, gD4⟩ := keepD g4 hD3 gD3
    have hsm := small (i + 1)
    rw [part i y hy1, List.length_append] at hsm
    refine k4 σ4 G4 H4 D ws ((xs'.take i).flatMap f) _ e4 hD4 gD4 h00 (qi.up (g3.gg.trans g4.gg)) (by omega) fun σ5 G5 H5 us5 w5 d5 hD5 gD5 q5 => ?_
    have gi5 : Gx c.b G H G5 H5 := Gx.thenD e.jj (gi3.trans e.jj g4) hD0 d5
    exact ⟨(wipe_sub hs1 w5).trans (w4.trans (wipe_wipe σ vs)), G5, us5, gi5, ((si.trans g3.gg).trans g4.gg).trans d5.gg, hD5, gD5, by rw [part i y hy1]; exact q5⟩
  · have ei : i = xs'.length := by omega
    subst ei
    rw [List.take_length] at qi
    exact .inl ⟨okstop (Nat.le_refl _), q D ws _ Gi Hi gi hD0 gDi hDi qi rfl⟩
end
/-- the rule with all written out -/
theorem pe_lc3W {X : Cx} {elt t0 i0 t1 i1 t2 i2 : Expr} {scope : Scope} {own : List (Str × Nat)} {pos : Pos} {wi wi1 wi2 : TI} {g g1 g2 : TG} {te : TE} (hc : X.calm = true) (hN : X.N.Nodup) (hi : PI X t0 i0 wi) (ok : BlkOk X.N X.env.scope scope own)
    (hg : ∀ (s : Shared) (H : Hp) (C : Addr) (cl : List (Str × Addr)) (fp : List Addr), PG (X.blk s H scope (compEnvC scope cl C X.env) fp) t0 g) (hi1 : ∀ (s : Shared) (H : Hp) (C : Addr) (cl : List (Str × Addr)) (fp : List Addr), PI (X.blk s H scope (compEnvC scope cl C X.env) fp) t1 i1 wi1)
    (hg1 : ∀ (s : Shared) (H : Hp) (C : Addr) (cl : List (Str × Addr)) (fp : List Addr), PG (X.blk s H scope (compEnvC scope cl C X.env) fp) t1 g1) (hi2 : ∀ (s : Shared) (H : Hp) (C : Addr) (cl : List (Str × Addr)) (fp : List Addr), PI (X.blk s H scope (compEnvC scope cl C X.env) fp) t2 i2 wi2)
    (hg2 : ∀ (s : Shared) (H : Hp) (C : Addr) (cl : List (Str × Addr)) (fp : List Addr), PG (X.blk s H scope (compEnvC scope cl C X.env) fp) t2 g2) (he : ∀ (s : Shared) (H : Hp) (C : Addr) (cl : List (Str × Addr)) (fp : List Addr), PE (X.blk s H scope (compEnvC scope cl C X.env) fp) elt te)
    (hs : ∀ x, foldedSetIterable i0 X.env x = pure x := by intro _; rfl) (hs1 : ∀ env x, foldedSetIterable i1 env x = pure x := by intro _ _; rfl) (hs2 : ∀ env x, foldedSetIterable i2 env x = pure x := by intro _ _; rfl) :
    PE X (.ListComp elt [⟨t0, i0, [], 0⟩, ⟨t1, i1, [], 0⟩, ⟨t2, i2, [], 0⟩] scope pos) (tLc3 wi g wi1 g1 wi2 g2 te (own.map (·.2))) := pe_lc3 hc hN hi ok hg hi1 hg1 hi2 hg2 he hs hs1 hs2
end Zd

set_option Elab.async false
set_option maxRecDepth 100000
set_option maxHeartbeats 4000000
/-! Zd23: lists turned round; targets of a list or a tuple. -/
namespace Zd
open PySem L2 StX
section
variable {c : Bs} {δ : Fe} {te : TE} {K : PySem.W.Frag}
/-- xs[::-1] -/
theorem dl_rev {xs : List Dt} (h : De c te δ (.lst xs)) : Dl c (tRevL K te) δ (· = xs.reverse) := fun σ G H e Q q =>
  h σ G H e _ fun v x G1 H1 g1 d1 p1 => by
    subst p1
    have rev : ∀ {vs : List V} {ds : List Dt}, Dqs G1 vs ds → Dqs G1 vs.reverse ds.reverse := fun {vs ds} hq => by
      induction vs generalizing ds with
      | nil => cases hq; exact .nil
      | cons v r ih => cases hq with
        | cons a b =>
          rw [List.reverse_cons, List.reverse_cons]
          exact (ih b).append (.cons a .nil)
    cases d1 with
    | lst a1 a2 =>
      refine ⟨_, _, rfl, SqL.of (g1.gh _ _ a1), fun p hp => ?_⟩
      refine q p _ _ G1 _ (g1.trans e.jj (Gx.put g1.gh g1.jj hp)) (g1.fresh e.jj hp) ?_ upd_same (rev a2) rfl
      cases k : G1 p with
      | none => rfl
      | some u => rw [g1.gh p u k] at hp; cases hp
/-- one target, two ways -/
theorem pg_or {X : Cx} {tg : Expr} {g1 g2 : TG} (h1 : PG X tg g1) (h2 : PG X tg g2) : PG X tg (fun v σ H Q => g1 v σ H Q ∨ g2 v σ H Q) := ⟨fun pins s σ H v u Q I r hw => hw.elim (h1.run pins s σ H v u Q I r) (h2.run pins s σ H v u Q I r)⟩
end
end Zd

set_option Elab.async false
set_option maxRecDepth 100000
set_option maxHeartbeats 4000000
/-! Zd24: where lists and tuples replace each other, the module's own tuples among them. -/
namespace Zd
open PySem L2 StX
/-- a list, a tuple, the module's own at a -/
inductive Sk where
  | lst | tup | ftup | con (a : Addr)
def sqD : Sk → List Dt → Dt
  | .lst, xs => .lst xs
  | .tup, xs => .tup xs
  | .ftup, xs => .ftup xs
  | .con a, _ => .con a
/-- the module's own at a holds xs -/
def CstT (K : PySem.W.Frag) (a : Addr) (xs : List Dt) : Prop := ∃ vs, (∀ H, SqT K H a vs) ∧ ∀ G, Dqs G vs xs
def SkOk (K : PySem.W.Frag) (k : Sk) (xs : List Dt) : Prop := ∀ a, k = .con a → CstT K a xs
theorem skOk_lst {K : PySem.W.Frag} {xs : List Dt} : SkOk K .lst xs := fun _ e => nomatch e
theorem skOk_tup {K : PySem.W.Frag} {xs : List Dt} : SkOk K .tup xs := fun _ e => nomatch e
theorem skOk_ftup {K : PySem.W.Frag} {xs : List Dt} : SkOk K .ftup xs := fun _ e => nomatch e
theorem SqT.frz {K : PySem.W.Frag} {H : Hp} {a : Addr} {ob : Obj} {vs : List V} (h : H a = some (.frz ob (.tup vs))) : SqT K H a vs := .inl (.inr ⟨ob, h⟩)
theorem skOk_con {K : PySem.W.Frag} {a : Addr} {xs : List Dt} (h : CstT K a xs) : SkOk K (.con a) xs := fun _ e => by cases e; exact h
/-- what it reads as, for good -/
theorem sq_read {K : PySem.W.Frag} {k : Sk} {xs : List Dt} {v : V} {G : Hp} (ok : SkOk K k xs) (h : Dq G v (sqD k xs)) : ∃ a vs, v = .ref a ∧ Dqs G vs xs ∧ ((∀ H, Same G H → SqL K H a vs) ∨ (∀ H, Same G H → SqT K H a vs)) := by
  generalize hd : sqD k xs = d at h
  cases k with
  | lst =>
    cases h with
    | lst a1 a2 =>
      have e := Dt.lst.inj hd
      subst e
      exact ⟨_, _, rfl, a2, .inl fun H s => SqL.of (s _ _ a1)⟩
    | _ => cases hd
  | tup =>
    cases h with
    | tup a1 a2 =>
      have e := Dt.tup.inj hd
      subst e
      exact ⟨_, _, rfl, a2, .inr fun H s => SqT.of (s _ _ a1)⟩
    | _ => cases hd
  | ftup =>
    cases h with
    | ftup a1 c1 c2 a2 =>
      have e := Dt.ftup.inj hd
      subst e
      exact ⟨_, _, rfl, a2, .inr fun H s => SqT.frz (s _ _ a1)⟩
    | _ => cases hd
  | con a =>
    cases h with
    | con b =>
      have e := Dt.con.inj hd
      subst e
      obtain ⟨vs, h1, h2⟩ := ok a rfl
      exact ⟨a, vs, rfl, h2 G, .inr fun H _ => h1 H⟩
    | _ => cases hd
section
variable {c : Bs} {δ : Fe} {te ta tb : TE} {tr : TA} {K : PySem.W.Frag} {k : Sk} {xs ds : List Dt} {T : Dt → Prop}
theorem di_sq (ok : SkOk K k xs) (h : De c te δ (sqD k xs)) : Di c (iSeq K te) δ (· = xs) := fun σ G H e R q =>
  h σ G H e _ fun v x G1 H1 g1 d1 p1 => by
    subst p1
    obtain ⟨a, vs, rfl, a2, z⟩ := sq_read ok d1
    rcases z with z | z
    · refine ⟨a, rfl, .inl ⟨⟨vs, z _ g1.gh⟩, q _ xs G1 H1 g1 rfl fun i G2 H2 s1 s2 j => ⟨fun hi => ?_, fun hi => ?_⟩⟩⟩
      · obtain ⟨y, hy, dy⟩ := a2.get (List.getElem?_eq_getElem hi)
        refine ⟨⟨vs, y, z _ (s1.trans s2), hy⟩, fun u H' hu => ?_⟩
        obtain ⟨rfl, hu⟩ := hu
        have e3 := Option.some.inj ((hu vs (z _ (s1.trans s2))).symm.trans hy)
        subst e3
        exact ⟨_, G2, List.getElem?_eq_getElem hi, Gx.refl s2 j, dy.up s1⟩
      · exact ⟨vs, z _ (s1.trans s2), by rw [a2.length]; exact hi⟩
    · refine ⟨a, rfl, .inr ⟨⟨vs, z _ g1.gh⟩, q _ xs G1 H1 g1 rfl fun i G2 H2 s1 s2 j => ⟨fun hi => ?_, fun hi => ?_⟩⟩⟩
      · obtain ⟨y, hy, dy⟩ := a2.get (List.getElem?_eq_getElem hi)
        refine ⟨⟨vs, y, z _ (s1.trans s2), hy⟩, fun u H' hu => ?_⟩
        obtain ⟨rfl, hu⟩ := hu
        have e3 := Option.some.inj ((hu vs (z _ (s1.trans s2))).symm.trans hy)
        subst e3
        exact ⟨_, G2, List.getElem?_eq_getElem hi, Gx.refl s2 j, dy.up s1⟩
      · exact ⟨vs, z _ (s1.trans s2), by rw [a2.length]; exact hi⟩
/-- *x, .. -/
theorem da_starQ (ok : SkOk K k xs) (ha : De c ta δ (sqD k xs)) (hr : Ds' c tr δ (· = ds)) : Ds' c (tStar K ta tr) δ (· = xs ++ ds) := fun σ G H e Q q =>
  ha σ G H e _ fun v x G1 H1 g1 d1 p1 => by
    subst p1
    obtain ⟨a, vs, rfl, a2, z⟩ := sq_read ok d1
    have go : tr σ H1 fun ws H2 => Q (vs ++ ws) H2 := hr σ G1 H1 (e.up g1) _ fun ws ys G2 H2 g2 d2 p2 => q _ _ G2 H2 (g1.trans e.jj g2) ((a2.up g2.gg).append d2) (by rw [p2])
    rcases z with z | z
    · exact ⟨a, vs, rfl, .inr (z _ g1.gh), go⟩
    · exact ⟨a, vs, rfl, .inl (z _ g1.gh), go⟩
theorem pg_unlK {X : Cx} (hK : X.K = K) {es : List Expr} {k : Nat} {t : TGs} {n : Nat} {pos : Pos} (hc : X.calm = true) (h : PGs X es t)
    (hn : (assignEach es X.env).length = n := by rfl) (hst : (assignEach es X.env).findIdx? (·.1) = none := by rfl) : PG X (.Tuple es k pos) (gUnl K n t) := by subst hK; exact pg_unl hc h hn hst
/-- one target, a list or a tuple -/
def gSq (K : PySem.W.Frag) (n : Nat) (gs : TGs) : TG := fun v σ H Q => gTup K n gs v σ H Q ∨ gUnl K n gs v σ H Q
theorem pg_sqK {X : Cx} (hK : X.K = K) {es : List Expr} {k : Nat} {t : TGs} {n : Nat} {pos : Pos} (hc : X.calm = true) (h : PGs X es t)
    (hn : (assignEach es X.env).length = n := by rfl) (hst : (assignEach es X.env).findIdx? (·.1) = none := by rfl) : PG X (.Tuple es k pos) (gSq K n t) := pg_or (pg_tupK hK hc h hn hst) (pg_unlK hK hc h hn hst)
theorem dg_sq {n : Nat} {gs : TGs} {vs : List Nat} {M : Fe → Prop} (ok : SkOk K k ds) (hn : ds.length = n) (h : Dgs c gs ds δ vs M) : Dg c (gSq K n gs) (sqD k ds) δ vs M := fun σ G H v e d Q q => by
  obtain ⟨a, ws, rfl, a2, z⟩ := sq_read ok d
  rcases z with z | z
  · exact .inr ⟨a, ws, rfl, z _ e.same, by rw [a2.length, hn], h σ G H _ e a2 Q q⟩
  · exact .inl ⟨a, ws, rfl, z _ e.same, by rw [a2.length, hn], h σ G H _ e a2 Q q⟩
/-- (a, b, ..) = a list -/
theorem dg_unl {n : Nat} {gs : TGs} {vs : List Nat} {M : Fe → Prop} (hn : ds.length = n) (h : Dgs c gs ds δ vs M) : Dg c (gUnl K n gs) (.lst ds) δ vs M := fun σ G H v e d Q q => by
  cases d with
  | lst a1 a2 => exact ⟨_, _, rfl, SqL.of (e.same _ _ a1), by rw [a2.length, hn], h σ G H _ e a2 Q q⟩
/-- list(x) -/
theorem dl_listOfQ (ok : SkOk K k xs) (h : De c te δ (sqD k xs)) : Dl c (tCB (rListOf K) (tCons te tNil)) δ (· = xs) := fun σ G H e Q q =>
  h σ G H e _ fun v x G1 H1 g1 d1 p1 => by
    subst p1
    obtain ⟨a, vs, rfl, a2, z⟩ := sq_read ok d1
    refine ⟨a, vs, rfl, z.imp (fun z => z _ g1.gh) (fun z => z _ g1.gh), fun p hp => ?_⟩
    refine q p _ _ G1 _ (g1.trans e.jj (Gx.put g1.gh g1.jj hp)) (g1.fresh e.jj hp) ?_ upd_same a2 rfl
    cases k : G1 p with
    | none => rfl
    | some u => rw [g1.gh p u k] at hp; cases hp
theorem dl_listOfT (h : De c te δ (.tup xs)) : Dl c (tCB (rListOf K) (tCons te tNil)) δ (· = xs) := dl_listOfQ (k := .tup) skOk_tup h
/-- sorted(a list of ints) -/
theorem cr_sortedIK {X : Cx} (hK : X.K = K) : CallR X (.builtin "sorted") (rSortedI K) := by subst hK; exact cr_sortedI
theorem dl_sortedI {ns : List Int} (h : De c te δ (.lst (ns.map Dt.int))) : Dl c (tCB (rSortedI K) (tCons te tNil)) δ (fun ds => ∃ ms : List Int, ds = ms.map Dt.int ∧ ms.Perm ns ∧ ms.Pairwise (· ≤ ·)) := fun σ G H e Q q =>
  h σ G H e _ fun v x G1 H1 g1 d1 p1 => by
    subst p1
    cases d1 with
    | lst a1 a2 =>
      have ev := a2.ints
      subst ev
      refine ⟨_, ns, rfl, SqL.of (g1.gh _ _ a1), fun ms p pm pw hp => ?_⟩
      refine q p _ _ G1 _ (g1.trans e.jj (Gx.put g1.gh g1.jj hp)) (g1.fresh e.jj hp) ?_ upd_same (Dqs.of_ints ms) ⟨ms, rfl, pm, pw⟩
      cases k : G1 p with
      | none => rfl
      | some u => rw [g1.gh p u k] at hp; cases hp
/-- x[i], len(x), tuple(x) -/
theorem rv_ixQ {b : Bx} {i : Int} {d : Dt} (ok : SkOk K k ds) (h : atI ds i = some d) : Rv b (rIx K) (sqD k ds) (.int i) (· = d) := rv_val fun v w G H s d1 d2 Q q => by
  obtain ⟨a, vs, rfl, a2, z⟩ := sq_read ok d1
  cases d2
  obtain ⟨u, hu, du⟩ := dqs_at a2 h
  rcases z with z | z
  · exact .inl ⟨a, vs, i, u, rfl, rfl, z _ s, hu, q u du⟩
  · exact .inr (.inl ⟨a, vs, i, u, rfl, rfl, z _ s, hu, q u du⟩)
theorem de_lenQ (ok : SkOk K k ds) (h : De c ta δ (sqD k ds)) : De c (tCB (rLen K) (tCons ta tNil)) δ (.int ds.length) := fun σ G H e Q q =>
  h σ G H e _ fun v x G1 H1 g1 d1 p1 => by
    subst p1
    obtain ⟨a, vs, rfl, a2, z⟩ := sq_read ok d1
    refine ⟨_, ds.length, rfl, ?_, q _ _ G1 H1 g1 (.int _) rfl⟩
    rcases z with z | z
    · exact .inl ⟨vs, z _ g1.gh, by rw [a2.length]⟩
    · exact .inr ⟨vs, z _ g1.gh, by rw [a2.length]⟩
theorem de_lenF (h : De c ta δ (.ftup ds)) : De c (tCB (rLen K) (tCons ta tNil)) δ (.int ds.length) := de_lenQ (k := .ftup) skOk_ftup h
theorem de_ixF {i : Int} {d : Dt} (ha : De c ta δ (.ftup ds)) (hb : De c tb δ (.int i)) (h : atI ds i = some d) : De c (tOp (rIxT K) ta tb) δ d := de_op ha hb (rv_val fun v w G H s d1 d2 Q q => by
  cases d1 with
  | ftup a1 c1 c2 a2 =>
    cases d2
    obtain ⟨u, hu, du⟩ := dqs_at a2 h
    exact ⟨_, _, i, u, rfl, rfl, SqT.frz (s _ _ a1), hu, q u du⟩)
theorem de_tupleOfFK (h : De c te δ (.ftup xs)) : De c (tCB (rTupOf K) (tCons te tNil)) δ (.ftup xs) := fun σ G H e Q q =>
  h σ G H e _ fun v x G1 H1 g1 d1 p1 => by
    subst p1
    cases d1 with
    | ftup a1 c1 c2 a2 => exact ⟨_, _, rfl, .inr ⟨SqT.frz (g1.gh _ _ a1), q _ _ G1 H1 g1 (.ftup a1 c1 c2 a2) rfl⟩⟩
/-- tuple(a list), and what is known of the new object -/
def rTupF (K : PySem.W.Frag) : List V → Hp → VK → Prop := fun xs H Q => ∃ p ys, xs = [.ref p] ∧ SqL K H p ys ∧ ∀ (l : Addr) (ob : Obj), H l = none → ob.cls = .type "tuple" → ob.dict = none → Q (.ref l) (upd H l (.frz ob (.tup ys)))
theorem call_tupF {X : Cx} : CallR X (.type "tuple") (rTupF X.K) := by
  intro pins s σ H xs us Q I r h
  obtain ⟨p, ys, rfl, hq, q⟩ := h
  obtain ⟨u, rfl, rx⟩ := vals1 r
  cases rx
  obtain ⟨its, r', pl, hz⟩ := I.list hq
  have hlen := r'.length
  refine call_tuple_list pl.isList (fun h' kp => ?_) (by simp only [List.size_toArray] <;> omega)
  have I1 : Inv X pins σ H { s with heap := h' } := I.kept (t' := s.toks) kp
  have I2 : Inv X pins σ (upd H h'.objs.size (.frz { cls := .type "tuple", data := .seq its.toArray } (.tup ys))) { s with heap := h'.push { cls := .type "tuple", data := .seq its.toArray } } :=
    I1.laid (t' := s.toks) (fun b o e => Heap.get?_push_of_some _ e) (Nat.le_refl _) (show ObjOk X.prog X.w _ _ _ (.frz _ (.tup ys)) from ⟨Heap.get?_push_size _ rfl, hz, its, r', PyProof.Rows.IsTup.new _ _⟩)
  exact ⟨.ref h'.objs.size, _, I2, rfl, q _ _ (I1.hok.fresh (Nat.le_refl _)) rfl rfl⟩
def rTupB (K : PySem.W.Frag) : List V → Hp → VK → Prop := fun xs H Q => rTupOf K xs H Q ∨ rTupF K xs H Q
theorem call_tupBK {X : Cx} (hK : X.K = K) : CallR X (.type "tuple") (rTupB K) := by
  subst hK
  intro pins s σ H xs us Q I r h
  rcases h with h | h
  · exact call_tuple_ofK rfl pins s σ H xs us Q I r h
  · exact call_tupF pins s σ H xs us Q I r h
/-- tuple(a list), as is wanted -/
def tupX (fr : Bool) (xs : List Dt) : Dt := if fr = true then .ftup xs else .tup xs
theorem de_tupleB {fr : Bool} (h : De c te δ (.lst xs)) : De c (tCB (rTupB K) (tCons te tNil)) δ (tupX fr xs) := by
  cases fr with
  | false =>
    intro σ G H e Q q
    exact h σ G H e _ fun v x G1 H1 g1 d1 p1 => by
      subst p1
      cases d1 with
      | lst a1 a2 =>
        refine .inl ⟨_, _, rfl, .inl ⟨SqL.of (g1.gh _ _ a1), fun p hp => ?_⟩⟩
        exact q (.ref p) (.tup xs) _ _ (g1.newDat e.jj hp _) (.tup upd_same (a2.up fun a u k => by rw [upd_ne (ne_of_none (g1.gh a u k) hp)]; exact k)) rfl
  | true =>
    intro σ G H e Q q
    exact h σ G H e _ fun v x G1 H1 g1 d1 p1 => by
      subst p1
      cases d1 with
      | lst a1 a2 =>
        refine .inr ⟨_, _, rfl, SqL.of (g1.gh _ _ a1), fun p ob hp h1 h2 => ?_⟩
        exact q (.ref p) (.ftup xs) _ _ (g1.newDat e.jj hp _) (.ftup upd_same h1 h2 (a2.up fun a u k => by rw [upd_ne (ne_of_none (g1.gh a u k) hp)]; exact k)) rfl
/-- t[lo:hi], and what is known of it -/
def rSlF (K : PySem.W.Frag) : V → Option Int → Option Int → Hp → VK → Prop := fun x lo hi H Q => ∃ a xs, x = .ref a ∧ SqT K H a xs ∧
  (HT.sIx xs.length 0 lo = 0 ∧ HT.sIx xs.length xs.length hi = xs.length → Q (.ref a) H) ∧ (¬ (HT.sIx xs.length 0 lo = 0 ∧ HT.sIx xs.length xs.length hi = xs.length) → ∀ (p : Addr) (ob : Obj), H p = none → ob.cls = .type "tuple" → ob.dict = none → Q (.ref p) (upd H p (.frz ob (.tup (cutV xs lo hi)))))
theorem sl_tupF {X : Cx} : SlR X (rSlF X.K) := by
  intro pins s σ H x v vl vu lo hi sl Q I rx hs pl pu h
  obtain ⟨a, xs, rfl, hx, q1, q2⟩ := h
  cases rx
  obtain ⟨its, r, ht, hz⟩ := I.tuple hx
  have hlen : its.toArray.size = xs.length := by rw [List.size_toArray]; exact r.length.symm
  refine ⟨"tuple", _, PyProof.Rows.slot_tuple_getitem.lookup, ht.typeIs, ?_⟩
  by_cases hw : HT.sIx xs.length 0 lo = 0 ∧ HT.sIx xs.length xs.length hi = xs.length
  · exact getItem_tuple_whole ht hs pl pu (by rw [hlen]; exact hw) ⟨.ref a, H, I, rfl, q1 hw⟩
  · refine HT.getItem_tuple_cut ht hs pl pu (by rw [hlen]; exact hw) ?_ (by rw [hlen]; exact hz)
    rw [hlen]
    refine ⟨.ref s.heap.objs.size, _, I.laid (t' := s.toks) (o := .frz { cls := .type "tuple", data := .seq ((its.toArray.toList.drop (HT.sIx xs.length 0 lo)).take (HT.sIx xs.length xs.length hi - HT.sIx xs.length 0 lo)).toArray } (.tup (cutV xs lo hi))) (fun b ob q => Heap.get?_push_of_some _ q) (Nat.le_refl _) ?_, rfl, q2 hw _ _ (I.hok.fresh (Nat.le_refl _)) rfl rfl⟩
    exact ⟨Heap.get?_push_size _ rfl, Nat.le_trans (cutV_length xs lo hi) hz, _, (r.drop (HT.sIx xs.length 0 lo)).take (HT.sIx xs.length xs.length hi - HT.sIx xs.length 0 lo), PyProof.Rows.IsTup.new _ _⟩
theorem sl_tupFK {X : Cx} (hK : X.K = K) : SlR X (rSlF K) := by subst hK; exact sl_tupF
theorem dn_slF {tl th : TO} {A B : Option Int → Prop} (h : De c te δ (.ftup xs)) (hl : Dp' c tl δ A) (hh : Dp' c th δ B) (kk : ∀ lo hi, A lo → B hi → T (.ftup (cutD xs lo hi))) : Dn c (tSl (rSlF K) te tl th) δ T := fun σ G H e Q q =>
  h σ G H e _ fun v x G1 H1 g1 d1 p1 => hl σ G1 H1 (e.up g1) _ fun lo G2 H2 g2 p2 => hh σ G2 H2 (e.up (g1.trans e.jj g2)) _ fun hi G3 H3 g3 p3 => by
    subst p1
    have g13 := (g1.trans e.jj g2).trans e.jj g3
    have kk := kk lo hi p2 p3
    cases d1 with
    | ftup a1 c1 c2 a2 =>
      rename_i a ob vs
      have hl := a2.length
      have b1 := g3.gg _ _ (g2.gg _ _ a1)
      have b2 := (a2.up g2.gg).up g3.gg
      refine ⟨_, _, rfl, SqT.frz (g3.gh _ _ b1), fun hw => ?_, fun hw p ob' hp h1 h2 => ?_⟩
      · have e1 : cutD xs lo hi = xs := by
          unfold cutD
          rw [← hl, hw.1, hw.2, List.drop_zero, Nat.sub_zero, hl, List.take_length]
        rw [e1] at kk
        exact q _ _ G3 H3 g13 (.ftup b1 c1 c2 b2) kk
      · exact q (.ref p) _ _ _ (g13.newDat e.jj hp _) (.ftup upd_same h1 h2 (dqs_cut (b2.up fun a u k => by rw [upd_ne (ne_of_none (g3.gh a u k) hp)]; exact k) lo hi)) kk
/-- t.index(x), t a tuple of texts without attributes -/
def rTIdx (K : PySem.W.Frag) : V → List V → Hp → VK → Prop := fun x xs H Q => ∃ p, ∃ ys : List Str, ∃ z j, x = .ref p ∧ xs = [.str z] ∧ SqT K H p (ys.map V.str) ∧ ys[j]? = some z ∧ (∀ m, m < j → ys[m]? ≠ some z) ∧ Q (.int (j : Nat)) H
def tBMF (K : PySem.W.Frag) (r : V → List V → Hp → VK → Prop) (to : TE) (t : TA) : TE := fun σ H Q => to σ H fun x H1 => (∃ p ob vs, x = .ref p ∧ H1 p = some (.frz ob (.tup vs)) ∧ ob.cls = .type "tuple" ∧ ob.dict = none) ∧ t σ H1 fun xs H2 => r x xs H2 Q
theorem pe_tIdxK {X : Cx} (hK : X.K = K) {o e : Expr} {es : List Expr} {to : TE} {t : TA} {apos cpos : Pos} (ho : PE X o to) (ha : PA X (e :: es) t)
    (hbase : attributeBase o "index" X.env (eval o X.env) = eval o X.env := by rfl)
    (hfew : ((backTo cpos (starEach (e :: es) X.env)).all (fun x => !x.1) && (backToKw cpos (keywordEach [] X.env)).all (fun x => x.1.isSome)
      && decide ((e :: es).length + ([] : List Keyword).length + (if ([] : List Keyword).isEmpty then 0 else 1) < 30)) = true := by rfl)
    (hline : (apos.endLine == cpos.line) = true := by rfl) (hs : starEach (e :: es) X.env = (false, eval e X.env) :: starEach es X.env := by rfl) (hplain : (backTo cpos (starEach es X.env)).any (·.1) = false := by rfl) :
    PE X (.Call (.Attribute o "index" apos) (e :: es) [] cpos) (tBMF K (rTIdx K) to t) := by
  subst hK
  refine ⟨fun pins s σ H Q I h => ?_⟩
  refine wpAny_Call_method_late hbase hfew hline rfl (thn (ho.run pins s σ H _ I h) fun v s1 ⟨x, H1, I1, r1, ty, q1⟩ => ?_)
  obtain ⟨p, ob, vs, rfl, hp, h1, h2⟩ := ty
  have hob : s1.heap.get? p = some ob := (show ObjOk X.prog X.w H1 s1.heap p (.frz ob (.tup vs)) from I1.hok p _ hp).1
  have ev : v = .ref p := r1
  subst ev
  refine ⟨"tuple", _, PySem.F.plainAttrs_tuple, PySem.F.slot_tuple_index, PySem.F.type_tuple_index, ⟨ob, hob, h1⟩, fun a ea => by cases ea; exact ⟨ob, hob, h2⟩, ?_⟩
  have hA := ha.run cpos pins s1 σ H1 _ I1 q1
  rw [hs] at hA ⊢
  refine Calls.callWith_builtin (by show (false || (backTo cpos (starEach es X.env)).any (·.1)) = false; rw [hplain] <;> rfl) (Calls.evalArgs_plain ?_)
  exact thn hA fun us s2 ⟨vs, H2, I2, r2, q2⟩ => mt_tup_index pins s2 σ H2 (.ref p) vs (.ref p) us Q I2 rfl r2 q2
theorem de_tIdx {ns : List Str} {z : Str} {j : Nat} (ho : De c ta δ (.ftup (ns.map Dt.str))) (ha : De c tb δ (.str z)) (hj : ns[j]? = some z) (hno : ∀ m, m < j → ns[m]? ≠ some z) : De c (tBMF K (rTIdx K) ta (tCons tb tNil)) δ (.int (j : Nat)) := fun σ G H e Q q =>
  ho σ G H e _ fun v x G1 H1 g1 d1 p1 => by
    subst p1
    cases d1 with
    | ftup a1 c1 c2 a2 =>
      have ev := a2.strs
      subst ev
      refine ⟨⟨_, _, _, rfl, g1.gh _ _ a1, c1, c2⟩, ?_⟩
      refine ha σ G1 H1 (e.up g1) _ fun w y G2 H2 g2 d2 p2 => ?_
      subst p2
      cases d2
      exact ⟨_, ns, z, j, rfl, rfl, SqT.frz (g2.gh _ _ (g2.gg _ _ a1)), hj, hno, q _ _ G2 H2 (g1.trans e.jj g2) (.int _) rfl⟩
end
/-! ### one row of ascending ints, and one more -/
def candL (n : Int) : List Int → List Int
  | [] => [n]
  | v :: r => if n < v then n :: v :: r else if n = v then v :: r else v :: candL n r
theorem candL_mem {n k : Int} : ∀ {hs : List Int}, k ∈ candL n hs ↔ k ∈ hs ∨ k = n
  | [] => by simp [candL]
  | v :: r => by
    unfold candL
    split
    · rw [List.mem_cons (b := n), or_comm]
    · split
      · rename_i e
        subst e
        simp only [List.mem_cons]
        constructor <;> intro h
        · exact .inl h
        · rcases h with h | h
          · exact h
          · exact .inl h
      · rw [List.mem_cons, candL_mem (hs := r), List.mem_cons, or_assoc]
theorem candL_asc {n : Int} : ∀ {hs : List Int}, hs.Pairwise (· < ·) → (candL n hs).Pairwise (· < ·)
  | [], _ => by simp [candL]
  | v :: r, h => by
    obtain ⟨h1, h2⟩ := List.pairwise_cons.mp h
    unfold candL
    split
    · rename_i hn
      refine List.pairwise_cons.mpr ⟨fun x hx => ?_, h⟩
      rcases List.mem_cons.mp hx with rfl | hx
      · exact hn
      · have := h1 x hx; omega
    · split
      · exact h
      · refine List.pairwise_cons.mpr ⟨fun x hx => ?_, candL_asc h2⟩
        rcases candL_mem.mp hx with hx | rfl
        · exact h1 x hx
        · omega
theorem asc_eq : ∀ {a b : List Int}, a.Pairwise (· < ·) → b.Pairwise (· < ·) → (∀ k, k ∈ a ↔ k ∈ b) → a = b
  | [], [], _, _, _ => rfl
  | [], y :: b, _, _, h => by have := (h y).mpr List.mem_cons_self; cases this
  | x :: a, [], _, _, h => by have := (h x).mp List.mem_cons_self; cases this
  | x :: a, y :: b, ha, hb, h => by
    obtain ⟨a1, a2⟩ := List.pairwise_cons.mp ha
    obtain ⟨b1, b2⟩ := List.pairwise_cons.mp hb
    have exy : x = y := by
      rcases List.mem_cons.mp ((h x).mp List.mem_cons_self) with e | e
      · exact e
      · rcases List.mem_cons.mp ((h y).mpr List.mem_cons_self) with e2 | e2
        · exact e2.symm
        · have := a1 y e2; have := b1 x e; omega
    subst exy
    rw [asc_eq a2 b2 fun k => ⟨fun hk => ?_, fun hk => ?_⟩]
    · rcases List.mem_cons.mp ((h k).mp (List.mem_cons_of_mem _ hk)) with e | e
      · have := a1 k hk; omega
      · exact e
    · rcases List.mem_cons.mp ((h k).mpr (List.mem_cons_of_mem _ hk)) with e | e
      · have := b1 k hk; omega
      · exact e
theorem le_asc {a : List Int} (h : a.Pairwise (· ≤ ·)) (nd : a.Nodup) : a.Pairwise (· < ·) := by
  rw [List.nodup_iff_pairwise_ne] at nd
  exact (h.and nd).imp fun ⟨h1, h2⟩ => by omega
end Zd

set_option Elab.async false
set_option maxRecDepth 100000
set_option maxHeartbeats 4000000
namespace K30
open PySem L2 StX Zd
def topS (i : Nat) : Stmt := PySem.Challenge.pw_missesnone_k30_endings.main.body.getD i (.Pass ⟨0, 0, 0, 0⟩)
abbrev s_Program___init__ : Stmt := inClass (topS 6) 0
abbrev N_Program___init__ : List Str := ["self", "names", "ports", "modes", "rows", "name", "labels", "count", "given", "cell", "row"]
theorem sc_Program___init__ : FnScope N_Program___init__ ["self", "names", "ports", "modes", "rows"] (defScope s_Program___init__) := ⟨rfl, rfl, rfl, by decide +kernel, rfl, by decide +kernel, by decide +kernel⟩
abbrev s_Program___eq__ : Stmt := inClass (topS 6) 1
abbrev N_Program___eq__ : List Str := ["self", "other"]
theorem sc_Program___eq__ : FnScope N_Program___eq__ ["self", "other"] (defScope s_Program___eq__) := ⟨rfl, rfl, rfl, by decide +kernel, rfl, by decide +kernel, by decide +kernel⟩
abbrev s_copy_of_row : Stmt := topS 7
abbrev N_copy_of_row : List Str := ["row", "follower", "kept", "writes", "write"]
theorem sc_copy_of_row : FnScope N_copy_of_row ["row"] (defScope s_copy_of_row) := ⟨rfl, rfl, rfl, by decide +kernel, rfl, by decide +kernel, by decide +kernel⟩
abbrev s_cells : Stmt := topS 8
abbrev N_cells : List Str := ["program", "mode", "name", "position"]
theorem sc_cells : FnScope N_cells ["program"] (defScope s_cells) := ⟨rfl, rfl, rfl, by decide +kernel, rfl, by decide +kernel, by decide +kernel⟩
abbrev s_row_at : Stmt := topS 9
abbrev N_row_at : List Str := ["program", "cell"]
theorem sc_row_at : FnScope N_row_at ["program", "cell"] (defScope s_row_at) := ⟨rfl, rfl, rfl, by decide +kernel, rfl, by decide +kernel, by decide +kernel⟩
abbrev s_idle_row : Stmt := topS 10
abbrev N_idle_row : List Str := ["program", "cell", "mode", "_", "position", "count", "many", "kept", "at"]
theorem sc_idle_row : FnScope N_idle_row ["program", "cell"] (defScope s_idle_row) := ⟨rfl, rfl, rfl, by decide +kernel, rfl, by decide +kernel, by decide +kernel⟩
abbrev s_position_of : Stmt := topS 11
abbrev N_position_of : List Str := ["number", "held", "position", "value"]
theorem sc_position_of : FnScope N_position_of ["number", "held"] (defScope s_position_of) := ⟨rfl, rfl, rfl, by decide +kernel, rfl, by decide +kernel, by decide +kernel⟩
abbrev s_candidate_count : Stmt := topS 12
abbrev N_candidate_count : List Str := ["count", "position"]
theorem sc_candidate_count : FnScope N_candidate_count ["count", "position"] (defScope s_candidate_count) := ⟨rfl, rfl, rfl, by decide +kernel, rfl, by decide +kernel, by decide +kernel⟩
abbrev s_candidates : Stmt := topS 13
abbrev N_candidates : List Str := ["held", "number"]
theorem sc_candidates : FnScope N_candidates ["held", "number"] (defScope s_candidates) := ⟨rfl, rfl, rfl, by decide +kernel, rfl, by decide +kernel, by decide +kernel⟩
abbrev s_step : Stmt := topS 14
abbrev N_step : List Str := ["program", "place", "event", "mode", "held", "name", "number", "cell", "follower", "kept", "writes", "numbers", "output", "port", "label", "at", "following"]
theorem sc_step : FnScope N_step ["program", "place", "event"] (defScope s_step) := ⟨rfl, rfl, rfl, by decide +kernel, rfl, by decide +kernel, by decide +kernel⟩
abbrev s_run : Stmt := topS 15
abbrev N_run : List Str := ["program", "events", "place", "outputs", "touched", "event", "output", "cell"]
theorem sc_run : FnScope N_run ["program", "events"] (defScope s_run) := ⟨rfl, rfl, rfl, by decide +kernel, rfl, by decide +kernel, by decide +kernel⟩
abbrev s_endings : Stmt := topS 18
abbrev N_endings : List Str := ["program", "first", "second", "first_schedule", "many", "schedule", "ending"]
theorem sc_endings : FnScope N_endings ["program", "first", "second"] (defScope s_endings) := ⟨rfl, rfl, rfl, by decide +kernel, rfl, by decide +kernel, by decide +kernel⟩
abbrev s_schedules : Stmt := topS 19
abbrev N_schedules : List Str := ["many", "others", "earlier", "rest"]
theorem sc_schedules : FnScope N_schedules ["many", "others"] (defScope s_schedules) := ⟨rfl, rfl, rfl, by decide +kernel, rfl, by decide +kernel, by decide +kernel⟩
abbrev s_merged : Stmt := topS 20
abbrev N_merged : List Str := ["schedule", "first", "second", "waiting", "others", "events", "of_first"]
theorem sc_merged : FnScope N_merged ["schedule", "first", "second"] (defScope s_merged) := ⟨rfl, rfl, rfl, by decide +kernel, rfl, by decide +kernel, by decide +kernel⟩
abbrev s_ending_of : Stmt := topS 21
abbrev N_ending_of : List Str := ["program", "events", "shown", "port", "_", "output", "label", "number"]
theorem sc_ending_of : FnScope N_ending_of ["program", "events"] (defScope s_ending_of) := ⟨rfl, rfl, rfl, by decide +kernel, rfl, by decide +kernel, by decide +kernel⟩
abbrev s__law_cell : Stmt := topS 23
abbrev N__law_cell : List Str := ["script", "k"]
theorem sc__law_cell : FnScope N__law_cell ["script", "k"] (defScope s__law_cell) := ⟨rfl, rfl, rfl, by decide +kernel, rfl, by decide +kernel, by decide +kernel⟩
abbrev s__law_source : Stmt := topS 24
abbrev N__law_source : List Str := ["cell", "k"]
theorem sc__law_source : FnScope N__law_source ["cell", "k"] (defScope s__law_source) := ⟨rfl, rfl, rfl, by decide +kernel, rfl, by decide +kernel, by decide +kernel⟩
abbrev s__law_pick : Stmt := topS 25
abbrev N__law_pick : List Str := ["source", "many", "picked", "mixed"]
theorem sc__law_pick : FnScope N__law_pick ["source", "many"] (defScope s__law_pick) := ⟨rfl, rfl, rfl, by decide +kernel, rfl, by decide +kernel, by decide +kernel⟩
abbrev s__law_worded : Stmt := topS 26
abbrev N__law_worded : List Str := ["source", "words"]
theorem sc__law_worded : FnScope N__law_worded ["source", "words"] (defScope s__law_worded) := ⟨rfl, rfl, rfl, by decide +kernel, rfl, by decide +kernel, by decide +kernel⟩
abbrev s__law_cells : Stmt := topS 27
abbrev N__law_cells : List Str := ["plan", "every", "mode", "name", "position"]
theorem sc__law_cells : FnScope N__law_cells ["plan"] (defScope s__law_cells) := ⟨rfl, rfl, rfl, by decide +kernel, rfl, by decide +kernel, by decide +kernel⟩
abbrev s__law_known : Stmt := topS 28
abbrev N__law_known : List Str := ["plan", "cell"]
theorem sc__law_known : FnScope N__law_known ["plan", "cell"] (defScope s__law_known) := ⟨rfl, rfl, rfl, by decide +kernel, rfl, by decide +kernel, by decide +kernel⟩
abbrev s__law_some : Stmt := topS 29
abbrev N__law_some : List Str := ["source", "known", "count", "left", "k", "at"]
theorem sc__law_some : FnScope N__law_some ["source", "known", "count"] (defScope s__law_some) := ⟨rfl, rfl, rfl, by decide +kernel, rfl, by decide +kernel, by decide +kernel⟩
abbrev s__law_writes : Stmt := topS 30
abbrev N__law_writes : List Str := ["source", "plan", "known", "writes", "k", "port"]
theorem sc__law_writes : FnScope N__law_writes ["source", "plan", "known"] (defScope s__law_writes) := ⟨rfl, rfl, rfl, by decide +kernel, rfl, by decide +kernel, by decide +kernel⟩
abbrev s__law_drawn_row : Stmt := topS 31
abbrev N__law_drawn_row : List Str := ["source", "plan", "cell", "known", "target", "k"]
theorem sc__law_drawn_row : FnScope N__law_drawn_row ["source", "plan", "cell"] (defScope s__law_drawn_row) := ⟨rfl, rfl, rfl, by decide +kernel, rfl, by decide +kernel, by decide +kernel⟩
abbrev s__law_named : Stmt := topS 32
abbrev N__law_named : List Str := ["source", "count", "ends", "letters", "menu", "words", "k", "word", "j", "turn"]
theorem sc__law_named : FnScope N__law_named ["source", "count", "ends"] (defScope s__law_named) := ⟨rfl, rfl, rfl, by decide +kernel, rfl, by decide +kernel, by decide +kernel⟩
abbrev s__law_plan : Stmt := topS 33
abbrev N__law_plan : List Str := ["source", "wide", "names", "told", "first", "second", "ports", "count", "counts", "words", "modes", "k", "plan", "rows", "cell"]
theorem sc__law_plan : FnScope N__law_plan ["source", "wide"] (defScope s__law_plan) := ⟨rfl, rfl, rfl, by decide +kernel, rfl, by decide +kernel, by decide +kernel⟩
abbrev s__law_program : Stmt := topS 34
abbrev N__law_program : List Str := ["plan"]
theorem sc__law_program : FnScope N__law_program ["plan"] (defScope s__law_program) := ⟨rfl, rfl, rfl, by decide +kernel, rfl, by decide +kernel, by decide +kernel⟩
abbrev s__law_idle : Stmt := topS 35
abbrev N__law_idle : List Str := ["plan", "cell", "mode", "name", "position", "held", "k"]
theorem sc__law_idle : FnScope N__law_idle ["plan", "cell"] (defScope s__law_idle) := ⟨rfl, rfl, rfl, by decide +kernel, rfl, by decide +kernel, by decide +kernel⟩
abbrev s__law_table : Stmt := topS 36
abbrev N__law_table : List Str := ["plan", "table", "cell", "row"]
theorem sc__law_table : FnScope N__law_table ["plan"] (defScope s__law_table) := ⟨rfl, rfl, rfl, by decide +kernel, rfl, by decide +kernel, by decide +kernel⟩
abbrev s__law_index : Stmt := topS 37
abbrev N__law_index : List Str := ["words", "word", "k"]
theorem sc__law_index : FnScope N__law_index ["words", "word"] (defScope s__law_index) := ⟨rfl, rfl, rfl, by decide +kernel, rfl, by decide +kernel, by decide +kernel⟩
abbrev s__law_position : Stmt := topS 38
abbrev N__law_position : List Str := ["number", "held", "less", "value"]
theorem sc__law_position : FnScope N__law_position ["number", "held"] (defScope s__law_position) := ⟨rfl, rfl, rfl, by decide +kernel, rfl, by decide +kernel, by decide +kernel⟩
abbrev s__law_step : Stmt := topS 39
abbrev N__law_step : List Str := ["plan", "table", "place", "event", "position", "cell", "known", "target", "holds", "writes", "output", "write", "k"]
theorem sc__law_step : FnScope N__law_step ["plan", "table", "place", "event"] (defScope s__law_step) := ⟨rfl, rfl, rfl, by decide +kernel, rfl, by decide +kernel, by decide +kernel⟩
abbrev s__law_run : Stmt := topS 40
abbrev N__law_run : List Str := ["plan", "events", "table", "place", "outputs", "touched", "event", "output", "cell"]
theorem sc__law_run : FnScope N__law_run ["plan", "events"] (defScope s__law_run) := ⟨rfl, rfl, rfl, by decide +kernel, rfl, by decide +kernel, by decide +kernel⟩
abbrev s__law_input : Stmt := topS 41
abbrev N__law_input : List Str := ["source", "plan", "size", "events", "far", "k", "number"]
theorem sc__law_input : FnScope N__law_input ["source", "plan", "size"] (defScope s__law_input) := ⟨rfl, rfl, rfl, by decide +kernel, rfl, by decide +kernel, by decide +kernel⟩
abbrev s__law_schedules : Stmt := topS 42
abbrev N__law_schedules : List Str := ["first", "second", "found", "rest"]
theorem sc__law_schedules : FnScope N__law_schedules ["first", "second"] (defScope s__law_schedules) := ⟨rfl, rfl, rfl, by decide +kernel, rfl, by decide +kernel, by decide +kernel⟩
abbrev s__law_ending : Stmt := topS 43
abbrev N__law_ending : List Str := ["plan", "first", "second", "schedule", "events", "k", "ahead", "choice", "outputs", "shown", "name", "labels", "pairs", "output", "triple"]
theorem sc__law_ending : FnScope N__law_ending ["plan", "first", "second", "schedule"] (defScope s__law_ending) := ⟨rfl, rfl, rfl, by decide +kernel, rfl, by decide +kernel, by decide +kernel⟩
abbrev s__law_due : Stmt := topS 44
abbrev N__law_due : List Str := ["plan", "first", "second", "found", "rows", "schedule", "ending", "at", "k"]
theorem sc__law_due : FnScope N__law_due ["plan", "first", "second"] (defScope s__law_due) := ⟨rfl, rfl, rfl, by decide +kernel, rfl, by decide +kernel, by decide +kernel⟩
abbrev s_law : Stmt := topS 45
abbrev N_law : List Str := ["script", "source", "plan", "program", "size", "at", "first", "second", "given", "told", "e", "row", "choice"]
theorem sc_law : FnScope N_law ["script"] (defScope s_law) := ⟨rfl, rfl, rfl, by decide +kernel, rfl, by decide +kernel, by decide +kernel⟩
section
variable {P : Program} {w : World} {K : PySem.W.Frag} {mg : Str → Option Value} {base : Heap}
/-! ### the law's draws -/
def spCell (K : PySem.W.Frag) : Sp := fun vs H Q _ => ∃ (a : Addr) (ns : List Int) (k : Int), vs = [.ref a, .int k] ∧ SqL K H a (ns.map V.int) ∧ ns.length ≤ 1000 ∧ 0 ≤ k ∧ ∀ n : Int, Q (.int n) H
theorem ok__law_cell {f : Addr} {fd : FuncData} (F : Fun K "_law_cell" "_law_cell" s__law_cell f fd) (m_len : mg "len" = none) : FnOk P w K mg base CX0 1 f fd ["script", "k"] (spCell K) := by
  have nd := sc__law_cell.nd
  refine F.ok sc__law_cell (fun vs H Q E h => by obtain ⟨a, ns, k, rfl, _⟩ := h; rfl) (fun cdv A outer s H vs Q E hr h => ⟨_, (pss_cons (ps_if (pt_cmpR op_lt (pv 1) (pe_callB (call_lenK (K := K) rfl) (by rfl) m_len PySem.boot_len (pa_cons (pv 0) pa_nil)) (nomark _)) (pss_one (ps_ret (pe_ix (ix_listK (K := K) rfl) (pv 0) (pv 1) (fun _ _ => rfl)))) pss_nil)
      (pss_one (ps_ret pe_int))) , ?_⟩)
  obtain ⟨a, ns, k, rfl, hS, hl, hk, q⟩ := h
  refine ⟨.int k, rfl, .ref a, rfl, _, _, rfl, .inl ⟨_, hS, rfl⟩, k, _, rfl, rfl, _, rfl, ?_⟩
  refine ite2 (fun e => ?_) (fun e => ?_)
  · have hlt : k.toNat < ns.length := by
      have := of_decide_eq_true e
      rw [List.length_map] at this
      omega
    refine ⟨.ref a, rfl, .int k, rfl, a, _, k, .int ns[k.toNat], rfl, rfl, hS, ?_, q _⟩
    exact at_of (j := k.toNat) (by omega) (by rw [List.getElem?_map, List.getElem?_eq_getElem hlt]; rfl)
  · exact q 0
/-- a new source -/
def spSource : Sp := fun vs H Q _ => ∃ (n k : Int), vs = [.int n, .int k] ∧ 0 ≤ k ∧ k < 1000000 ∧ ∀ (p : Addr) (x y : Int), H p = none → 0 ≤ y → y < 2147483648 → Q (.ref p) (upd H p (.lst [.int x, .int y]))
theorem ok__law_source {f : Addr} {fd : FuncData} (F : Fun K "_law_source" "_law_source" s__law_source f fd) (m_int : mg "int" = none) : FnOk P w K mg base CX0 1 f fd ["cell", "k"] spSource := by
  have nd := sc__law_source.nd
  refine F.ok sc__law_source (fun vs H Q E h => by obtain ⟨n, k, rfl, _⟩ := h; rfl) (fun cdv A outer s H vs Q E hr h => ⟨_, (pss_cons (ps_if (pt_cmpR op_ge (pv 0) (pe_op op_pow pe_int pe_int) (nomark _)) (pss_one (ps_ret (pe_lst (pa_cons (pe_op op_sub (pv 0) (pe_op op_pow pe_int pe_int)) (pa_cons (pe_op op_add (pv 1) pe_int) pa_nil))))) pss_nil)
      (pss_one (ps_ret (pe_lst (pa_cons pe_int (pa_cons (pe_op op_mod (pe_callTy call_int1 (by rfl) m_int (by decide +kernel) (pa_cons (pe_op op_add (pe_op op_add (pe_op op_mul (pv 0) pe_int) (pe_op op_mul (pv 1) pe_int)) pe_int) pa_nil)) pe_int) pa_nil)))))) , ?_⟩)
  obtain ⟨n, k, rfl, hk, hk2, q⟩ := h
  refine ⟨.int n, rfl, 10, 18, rfl, rfl, ⟨by decide, by decide, by decide⟩, n, _, rfl, rfl, _, rfl, ?_⟩
  refine ite2 (fun e => ?_) (fun e => ?_)
  · refine ⟨.int n, rfl, 10, 18, rfl, rfl, ⟨by decide, by decide, by decide⟩, n, _, rfl, rfl, .int k, rfl, k, 1, rfl, rfl, sz_ok (by show 2 ≤ 10000000; decide), fun p hp => q p _ _ hp (by omega) (by omega)⟩
  · refine ⟨.int n, rfl, n, 7919, rfl, rfl, .inr ⟨by decide, by decide⟩, .int k, rfl, k, 104729, rfl, rfl, .inr ⟨by decide, by decide⟩, _, _, rfl, rfl, _, _, rfl, rfl, .inl ⟨_, rfl, _, _, rfl, rfl, by show (0 : Int) < 2147483647; decide, sz_ok (by show 2 ≤ 10000000; decide), fun p hp => q p _ _ hp ?_ ?_⟩⟩
    · exact Int.emod_nonneg _ (by decide)
    · have := Int.emod_lt_of_pos (n * 7919 + k * 104729 + 1) (b := 2147483647) (by decide)
      omega
theorem ok__law_pick {f : Addr} {fd : FuncData} (F : Fun K "_law_pick" "_law_pick" s__law_pick f fd) (m_int : mg "int" = none) : FnOk P w K mg base CX0 1 f fd ["source", "many"] spPick := by
  have nd := sc__law_pick.nd
  refine F.ok sc__law_pick (fun vs H Q E h => by obtain ⟨p, x, y, m, rfl, _⟩ := h; rfl) (fun cdv A outer s H vs Q E hr h => ⟨_, (pss_cons (ps_if (pt_cmpR op_gt (pe_ix (ix_listK (K := K) rfl) (pv 0) pe_int (fun _ _ => rfl)) pe_int (nomark _)) (pss_cons (ps_set (i := 2) nd rfl (by first | exact Or.inl rfl | exact Or.inr rfl) (pe_op op_mod (pe_callTy call_int1 (by rfl) m_int (by decide +kernel) (pa_cons (pe_ix (ix_listK (K := K) rfl) (pv 0) pe_int (fun _ _ => rfl)) pa_nil)) (pv 1)))
      (pss_cons (ps_asg (pe_op op_fdivW (pe_ix (ix_listK (K := K) rfl) (pv 0) pe_int (fun _ _ => rfl)) (pv 1)) (pg_sub (pv 0) pe_int set_list))
      (pss_one (ps_ret (pv 2))))) pss_nil)
      (pss_cons (ps_asg (pe_op op_mod (pe_callTy call_int1 (by rfl) m_int (by decide +kernel) (pa_cons (pe_op op_add (pe_op op_mul (pe_ix (ix_listK (K := K) rfl) (pv 0) pe_int (fun _ _ => rfl)) pe_int) pe_int) pa_nil)) pe_int) (pg_sub (pv 0) pe_int set_list))
      (pss_cons (ps_set (i := 3) nd rfl (by first | exact Or.inl rfl | exact Or.inr rfl) (pe_op op_mod (pe_callTy call_int1 (by rfl) m_int (by decide +kernel) (pa_cons (pe_op op_add (pe_op op_add (pe_op op_mul (pe_ix (ix_listK (K := K) rfl) (pv 0) pe_int (fun _ _ => rfl)) pe_int) (pe_op op_fdiv (pe_ix (ix_listK (K := K) rfl) (pv 0) pe_int (fun _ _ => rfl)) pe_int)) pe_int) pa_nil)) pe_int))
      (pss_one (ps_ret (pe_op op_mod (pe_callTy call_int1 (by rfl) m_int (by decide +kernel) (pa_cons (pe_op op_fdiv (pv 3) pe_int) pa_nil)) (pv 1))))))) , ?_⟩)
  obtain ⟨p, x, y, m, rfl, e, y0, y1, m0, m1, q⟩ := h
  have hS : SqL K H p [.int x, .int y] := SqL.of e
  have cm : CDivW x m := wide_div m0 (b := 30) (by omega) (by decide) (by decide)
  refine ⟨.ref p, rfl, p, _, 0, .int x, rfl, rfl, hS, rfl, x, 1, rfl, rfl, _, rfl, ite2 (fun h1 => ?_) (fun h1 => ?_)⟩
  · refine ⟨.ref p, rfl, p, _, 0, .int x, rfl, rfl, hS, rfl, .inl ⟨x, rfl, .int m, rfl, x, m, rfl, rfl, m0, ?_⟩⟩
    refine ⟨.ref p, rfl, p, _, 0, .int x, rfl, rfl, hS, rfl, .int m, rfl, x, m, rfl, rfl, cm, .ref p, rfl, p, _, 0, 0, rfl, rfl, e, rfl, .int (x % m), rfl, ?_⟩
    exact q _ _ _ y0 y1 (Int.emod_nonneg _ (by omega)) (Int.emod_lt_of_pos _ m0)
  · have e1 : ∀ z : Int, (upd H p (.lst ([V.int x, V.int y].set 1 (.int z)))) p = some (.lst [.int x, .int z]) := fun z => upd_same
    have b1 : (0 : Int) ≤ (y * 48271 + 12345) % 2147483647 := Int.emod_nonneg _ (by decide)
    have b2 : (y * 48271 + 12345) % 2147483647 < 2147483647 := Int.emod_lt_of_pos _ (by decide)
    refine ⟨.ref p, rfl, p, _, 1, .int y, rfl, rfl, hS, rfl, y, 48271, rfl, rfl, .inl ⟨by omega, by omega⟩, _, 12345, rfl, rfl, .inl ⟨_, rfl, _, _, rfl, rfl, by show (0 : Int) < 2147483647; decide, .ref p, rfl, p, _, 1, 1, rfl, rfl, e, rfl, ?_⟩⟩
    have hS2 : SqL K (upd H p (.lst ([V.int x, V.int y].set 1 (.int ((y * 48271 + 12345) % 2147483647))))) p [.int x, .int ((y * 48271 + 12345) % 2147483647)] := SqL.of (e1 _)
    refine ⟨.ref p, rfl, p, _, 1, _, rfl, rfl, hS2, rfl, _, 69621, rfl, rfl, .inl ⟨by omega, by omega⟩, .ref p, rfl, p, _, 1, _, rfl, rfl, hS2, rfl, _, 127, rfl, rfl, ⟨by decide, by decide⟩, _, _, rfl, rfl, _, 7, rfl, rfl, .inl ⟨_, rfl, _, _, rfl, rfl, by show (0 : Int) < 2147483629; decide, ?_⟩⟩
    refine ⟨_, rfl, _, 16, rfl, rfl, ⟨by decide, by decide⟩, .inl ⟨_, rfl, .int m, rfl, _, m, rfl, rfl, m0, ?_⟩⟩
    exact q x _ _ b1 (by omega) (Int.emod_nonneg _ (by omega)) (Int.emod_lt_of_pos _ m0)
abbrev spWorded (K : PySem.W.Frag) : Sp := spS (fun a : Sk × List Dt => [sqD a.1 a.2]) (fun a => SkOk K a.1 a.2 ∧ 0 < a.2.length ∧ a.2.length < 1000000) fun a d => d ∈ a.2
theorem at_of' {α : Type} {xs : List α} {z : Int} {j : Nat} {v : α} (e : z = (j : Int)) (h : xs[j]? = some v) : atI xs z = some v := by
  rw [e]
  exact atI_nat h
theorem atI_nat' {α : Type} {xs : List α} {r : Int} (h0 : 0 ≤ r) (h : r < xs.length) : ∃ d, atI xs r = some d ∧ d ∈ xs := by
  have hlt : r.toNat < xs.length := by omega
  refine ⟨xs[r.toNat], ?_, List.getElem_mem hlt⟩
  exact at_of' (by omega) (List.getElem?_eq_getElem hlt)
theorem ok__law_worded {f f2 : Addr} {fd fd2 : FuncData} (F : Fun K "_law_worded" "_law_worded" s__law_worded f fd) (k__law_pick : Kn K mg "_law_pick" s__law_pick ["source", "many"] f2 fd2) (m_int : mg "int" = none) (m_len : mg "len" = none) : FnOk P w K mg base CX0 2 f fd ["source", "words"] (spWorded K) := by
  have nd := sc__law_worded.nd
  have G__law_pick : FnOk P w K mg base CX0 1 f2 fd2 ["source", "many"] spPickS := (ok__law_pick k__law_pick.F m_int).imp pick_S
  refine F.ok sc__law_worded (fun vs H Q E h => spS_len (fun _ => rfl) h) (fun cdv A outer s H vs Q E hr h => ⟨_, (pss_one (ps_ret (pe_ix (ix_seqK (K := K) rfl) (pv 1) (pe_call G__law_pick (hr.mono (by decide)) (by rfl) k__law_pick.g k__law_pick.F.kp k__law_pick.b .nil pass0 (pa_cons (pv 0) (pa_cons (pe_callB (call_lenK (K := K) rfl) (by rfl) m_len PySem.boot_len (pa_cons (pv 1) pa_nil)) pa_nil))) (fun _ _ => rfl)))) , ?_⟩)
  refine ok_bodyS (fun p a => [.raw (.ref p), .dat (sqD a.1 a.2)]) h (fun _ => Nat.le_refl 2) (fun _ _ => rfl) fun c p a S hp => ?_
  obtain ⟨t, ds⟩ := a
  obtain ⟨hok, hp1, hp2⟩ : SkOk K t ds ∧ 0 < ds.length ∧ ds.length < 1000000 := hp
  refine ds_ret (T := fun d => d ∈ ds) (dn_op (P := (· = sqD t ds)) (R := fun d => ∃ r : Int, d = .int r ∧ 0 ≤ r ∧ r < ds.length) (de_var rfl) (dn_callS S rfl (da_consE (de_lenQ hok (de_var rfl)) da_nil) fun xs e => ⟨ds.length, e, ⟨by omega, by omega⟩, fun d h => h⟩) ?_) fun d h => h
  rintro x y rfl ⟨r, rfl, r0, r1⟩
  obtain ⟨d, h1, h2⟩ := atI_nat' (xs := ds) r0 r1
  intro v w G H s j d1 d2 Q q
  exact rv_ixQ hok h1 v w G H s j d1 d2 Q fun u d' G' H' g dq e => q u d' G' H' g dq (by rw [e]; exact h2)
end
end K30

set_option Elab.async false
set_option maxRecDepth 100000
set_option maxHeartbeats 4000000
namespace K30
open PySem L2 StX Zd
abbrev strsD (xs : List Str) : Dt := .lst (xs.map Dt.str)
abbrev strsT (xs : List Str) : Dt := .tup (xs.map Dt.str)
abbrev strsF (xs : List Str) : Dt := .ftup (xs.map Dt.str)
abbrev strsX (fr : Bool) (xs : List Str) : Dt := tupX fr (xs.map Dt.str)
def menuW : List Str := ["put", "pull", "at", "write", "go", "hold", "vex", "hear", "port", "mode", "test", "edit", "undo", "redo", "a", "putx", "jq"]
def az : Str := "abcdefghijklmnopqrstuvwxyz"
def azn : Str := "abcdefghijklmopqrstuvwxy"
def azt : Str := "abcdefghijklmopq"
theorem menu_ok : ∀ w ∈ menuW, Wd false w := by decide +kernel
/-- the word with another first letter -/
def swapV (w : Str) (u : Nat) : Str := ⟨((sg azt).getD u 0 :: (sg w).drop 1).toArray⟩
theorem swapV_sg (w : Str) (u : Nat) : sg (swapV w u) = (sg azt).getD u 0 :: (sg w).drop 1 := rfl
theorem swapV_nodup (w : Str) {n : Nat} (h : n ≤ 16) : ((List.range n).map (swapV w)).Nodup := by
  rw [List.nodup_iff_pairwise_ne, List.pairwise_map]
  have nr : (List.range n).Nodup := List.nodup_range
  rw [List.nodup_iff_pairwise_ne] at nr
  refine nr.imp_of_mem fun {a b} ha hb hne e => ?_
  have h1 := List.mem_range.mp ha
  have h2 := List.mem_range.mp hb
  have e1 := congrArg sg e
  rw [swapV_sg, swapV_sg] at e1
  have e2 := (List.cons.inj e1).1
  have la : (sg azt).length = 16 := by decide +kernel
  have nd : (sg azt).Nodup := by decide +kernel
  rw [List.getD_eq_getElem?_getD, List.getD_eq_getElem?_getD, List.getElem?_eq_getElem (show a < (sg azt).length by omega), List.getElem?_eq_getElem (show b < (sg azt).length by omega)] at e2
  exact hne ((List.getElem_inj nd).mp e2)
/-- what the turns leave -/
def Turns (ws : List Str) (w0 : Str) (e : Bool) (i : Nat) (w : Str) : Prop := Wd e w ∧ (sg w).drop 1 = (sg w0).drop 1 ∧ (w ∉ ws ∨ ((∀ u, u + 1 < i → swapV w0 u ∈ ws) ∧ (0 < i → w = swapV w0 (i - 1))))
theorem Turns.fin {ws : List Str} {w0 w : Str} {e : Bool} {n : Nat} (h : Turns ws w0 e n w) (h0 : 0 < n) (hn : n ≤ 16) (hl : ws.length < n) : w ∉ ws := by
  rcases h.2.2 with h | ⟨h1, h2⟩
  · exact h
  · intro hw
    have : ((List.range n).map (swapV w0)).length ≤ ws.length := nodup_len (swapV_nodup w0 hn) fun a ha => by
      obtain ⟨u, hu, rfl⟩ := List.mem_map.mp ha
      have hu := List.mem_range.mp hu
      by_cases z : u + 1 < n
      · exact h1 u z
      · have : u = n - 1 := by omega
        rw [this, ← h2 h0]; exact hw
    rw [List.length_map, List.length_range] at this
    omega
theorem lowB_of_fst {x : Nat} (h : fstB x = true) : lowB x = true := (Bool.and_eq_true _ _ ▸ h : _ ∧ _).1
theorem wd_swap {e : Bool} {w : Str} (h : Wd e w) {u : Nat} (hu : u < 16) : Wd e (swapV w u) := by
  have h' := wl_iff.mp h
  obtain ⟨⟨x, r, hx, h1⟩, h2, h3⟩ := h'
  have lo : ∀ u < 16, fstB ((sg azt).getD u 0) = true := by decide +kernel
  refine wl_iff.mpr ⟨⟨_, _, rfl, lo u hu⟩, ?_, fun y hy => ?_⟩
  · rw [swapV_sg, List.length_cons, List.length_drop]
    omega
  · rw [swapV_sg] at hy
    rcases List.mem_cons.mp hy with rfl | hy
    · rw [lowB_of_fst (lo u hu)]; rfl
    · exact h3 y (List.mem_of_mem_drop hy)
section
variable {P : Program} {w : World} {K : PySem.W.Frag} {mg : Str → Option Value} {base : Heap}
def endsOk (e : Str) : Prop := e = "" ∨ e = "0123456789"
def endB (e : Str) : Bool := decide (0 < e.length)
/-- words: so many, all different -/
structure Words (e : Bool) (n : Nat) (ws : List Str) : Prop where
  len : ws.length = n
  nd : ws.Nodup
  ok : ∀ w ∈ ws, Wd e w
abbrev spNamed (fr : Bool) : Sp := spS (fun a : Nat × Str => [.int a.1, .str a.2]) (fun a => a.1 ≤ 16 ∧ endsOk a.2) fun a d => ∃ ws, d = strsX fr ws ∧ Words (endB a.2) a.1 ws
theorem low_az : ∀ x ∈ az.cps.toList, lowB x = true := by decide +kernel
theorem ok__law_named (fr : Bool) {f f2 f3 : Addr} {fd fd2 fd3 : FuncData} (F : Fun K "_law_named" "_law_named" s__law_named f fd) (k__law_worded : Kn K mg "_law_worded" s__law_worded ["source", "words"] f3 fd3) (k__law_pick : Kn K mg "_law_pick" s__law_pick ["source", "many"] f2 fd2)
    (m_int : mg "int" = none) (m_len : mg "len" = none) (m_range : mg "range" = none) (m_tuple : mg "tuple" = none) : FnOk P w K mg base CX0 3 f fd ["source", "count", "ends"] (spNamed fr) := by
  have nd := sc__law_named.nd
  have G__law_pick : FnOk P w K mg base CX0 1 f2 fd2 ["source", "many"] spPickS := (ok__law_pick k__law_pick.F m_int).imp pick_S
  have G__law_worded : FnOk P w K mg base CX0 2 f3 fd3 ["source", "words"] (spWorded K) := ok__law_worded k__law_worded.F k__law_pick m_int m_len
  refine F.ok sc__law_named (fun vs H Q E h => spS_len (fun _ => rfl) h) (fun cdv A outer s H vs Q E hr h => ⟨_, (pss_cons (ps_set (i := 3) nd rfl (by first | exact Or.inl rfl | exact Or.inr rfl) pe_str)
      (pss_cons (ps_set (i := 4) nd rfl (by first | exact Or.inl rfl | exact Or.inr rfl) (pe_lst (pa_cons pe_str (pa_cons pe_str (pa_cons pe_str (pa_cons pe_str (pa_cons pe_str (pa_cons pe_str (pa_cons pe_str (pa_cons pe_str (pa_cons pe_str (pa_cons pe_str (pa_cons pe_str (pa_cons pe_str (pa_cons pe_str (pa_cons pe_str (pa_cons pe_str (pa_cons pe_str (pa_cons pe_str pa_nil)))))))))))))))))))
      (pss_cons (ps_set (i := 5) nd rfl (by first | exact Or.inl rfl | exact Or.inr rfl) (pe_lst pa_nil))
      (pss_cons (ps_for PassesOwn.never rfl (pi_range1 rfl m_range (pa_cons (pv 1) pa_nil)) (pg_name (i := 6) nd rfl (by first | exact Or.inl rfl | exact Or.inr rfl)) (pss_cons (ps_set (i := 7) nd rfl (by first | exact Or.inl rfl | exact Or.inr rfl) (pe_call G__law_worded (hr.mono (by decide)) (by rfl) k__law_worded.g k__law_worded.F.kp k__law_worded.b .nil pass0 (pa_cons (pv 0) (pa_cons (pv 4) pa_nil))))
      (pss_cons (ps_if (pt_cmpR op_eq (pe_call G__law_pick (hr.mono (by decide)) (by rfl) k__law_pick.g k__law_pick.F.kp k__law_pick.b .nil pass0 (pa_cons (pv 0) (pa_cons pe_int pa_nil))) pe_int (nomark _)) (pss_cons (ps_set (i := 7) nd rfl (by first | exact Or.inl rfl | exact Or.inr rfl) (pe_ix ix_str pe_str (pe_call G__law_pick (hr.mono (by decide)) (by rfl) k__law_pick.g k__law_pick.F.kp k__law_pick.b .nil pass0 (pa_cons (pv 0) (pa_cons pe_int pa_nil))) (fun _ _ => rfl)))
      (pss_one (ps_for PassesOwn.never rfl (pi_range1 rfl m_range (pa_cons (pe_ix (ix_listK (K := K) rfl) (pe_lst (pa_cons pe_int (pa_cons pe_int (pa_cons pe_int (pa_cons pe_int pa_nil))))) (pe_call G__law_pick (hr.mono (by decide)) (by rfl) k__law_pick.g k__law_pick.F.kp k__law_pick.b .nil pass0 (pa_cons (pv 0) (pa_cons pe_int pa_nil))) (fun _ _ => rfl)) pa_nil)) (pg_name (i := 8) nd rfl (by first | exact Or.inl rfl | exact Or.inr rfl)) (pss_one (ps_set (i := 7) nd rfl (by first | exact Or.inl rfl | exact Or.inr rfl) (pe_op op_add_str (pv 7) (pe_ix ix_str (pv 3) (pe_call G__law_pick (hr.mono (by decide)) (by rfl) k__law_pick.g k__law_pick.F.kp k__law_pick.b .nil pass0 (pa_cons (pv 0) (pa_cons pe_int pa_nil))) (fun _ _ => rfl)))))))) pss_nil)
      (pss_cons (ps_if (PW.pt (pw_and (pt_cmpR op_gt (pe_callB call_len_str (by rfl) m_len PySem.boot_len (pa_cons (pv 2) pa_nil)) pe_int (nomark _)) (pw_and1 (pt_cmpR op_eq (pe_call G__law_pick (hr.mono (by decide)) (by rfl) k__law_pick.g k__law_pick.F.kp k__law_pick.b .nil pass0 (pa_cons (pv 0) (pa_cons pe_int pa_nil))) pe_int (nomark _))))) (pss_one (ps_set (i := 7) nd rfl (by first | exact Or.inl rfl | exact Or.inr rfl) (pe_op op_add_str (pe_op op_add_str (pe_slice sl_str (pv 7) po_none (po_some pe_int)) (pe_ix ix_str (pv 2) (pe_call G__law_pick (hr.mono (by decide)) (by rfl) k__law_pick.g k__law_pick.F.kp k__law_pick.b .nil pass0 (pa_cons (pv 0) (pa_cons pe_int pa_nil))) (fun _ _ => rfl))) (pe_ix ix_str (pv 2) (pe_call G__law_pick (hr.mono (by decide)) (by rfl) k__law_pick.g k__law_pick.F.kp k__law_pick.b .nil pass0 (pa_cons (pv 0) (pa_cons pe_int pa_nil))) (fun _ _ => rfl))))) pss_nil)
      (pss_cons (ps_for PassesOwn.never rfl (pi_range1 rfl m_range (pa_cons (pv 1) pa_nil)) (pg_name (i := 9) nd rfl (by first | exact Or.inl rfl | exact Or.inr rfl)) (pss_one (ps_if (pt_cmpR (op_in_seqK (K := K) rfl) (pv 7) (pv 5) (by rfl)) (pss_one (ps_set (i := 7) nd rfl (by first | exact Or.inl rfl | exact Or.inr rfl) (pe_op op_add_str (pe_ix ix_str pe_str (pv 9) (fun _ _ => rfl)) (pe_slice sl_str (pv 7) (po_some pe_int) po_none)))) pss_nil)))
      (pss_one (ps_expr (pe_bm PySem.F.plainAttrs_list PySem.F.slot_list_append PySem.F.type_list_append mt_append (pv 5) (pa_cons (pv 7) pa_nil)))))))))
      (pss_one (ps_ret (pe_callTy (call_tupBK (K := K) rfl) (by rfl) m_tuple (by decide +kernel) (pa_cons (pv 5) pa_nil)))))))) , ?_⟩)
  refine ok_bodyS (fun p a => [.raw (.ref p), .dat (.int a.1), .dat (.str a.2), .un, .un, .un, .un, .un, .un, .un]) h (fun _ => by show 3 ≤ 10; decide) (fun _ _ => rfl) fun c p a S hp => ?_
  obtain ⟨count, ends⟩ := a
  obtain ⟨hc, he⟩ : count ≤ 16 ∧ endsOk ends := hp
  have hel : ends.length ≤ 10 := by rcases he with rfl | rfl <;> decide +kernel
  refine ds_letE (d := .str az) de_str ?_
  refine ds_letE (d := strsD menuW) (de_lst (da_consE de_str (da_consE de_str (da_consE de_str (da_consE de_str (da_consE de_str (da_consE de_str (da_consE de_str (da_consE de_str (da_consE de_str (da_consE de_str (da_consE de_str (da_consE de_str (da_consE de_str (da_consE de_str (da_consE de_str (da_consE de_str (da_consE de_str da_nil)))))))))))))))))) ?_
  refine ds_letOwnE (dl_lst da_nil fun _ e => by rw [e]; exact Nat.zero_le _) ?_
  refine ds_seq (M := fun δ' => ∃ ws x6 x7 x8 x9, Words (endB ends) count ws ∧ δ' = [.raw (.ref p), .dat (.int count), .dat (.str ends), .dat (.str az), .dat (strsD menuW), .own (ws.map Dt.str), x6, x7, x8, x9]) (ds_for (vs := [6]) (di_rng1E (n := count) (de_var rfl) (by omega) (by omega)) fun xs e => ?_) ?_
  · subst e
    refine ⟨fun i δ' => ∃ ws x6 x7 x8 x9, Words (endB ends) i ws ∧ δ' = [.raw (.ref p), .dat (.int count), .dat (.str ends), .dat (.str az), .dat (strsD menuW), .own (ws.map Dt.str), x6, x7, x8, x9], ⟨[], .un, .un, .un, .un, ⟨rfl, List.nodup_nil, fun w hw => by cases hw⟩, rfl⟩, ?_, ?_⟩
    · rintro i d δ' hd ⟨ws, x6, x7, x8, x9, hW, rfl⟩
      have hi : i < count := by
        have := (List.getElem?_eq_some_iff.mp hd).1
        rw [rngD_len] at this
        omega
      have hwl := hW.len
      refine dg_name (by decide) ?_
      refine ds_let (T := IsS (Wd false)) (dn_callS S rfl (da_consE (de_var rfl) da_nil) fun xs e => ⟨(.lst, menuW.map Dt.str), e, ⟨skOk_lst, by decide +kernel, by decide +kernel⟩, fun d hd => ?_⟩) fun d h => ?_
      · obtain ⟨w, hw, rfl⟩ := List.mem_map.mp hd
        exact ⟨w, rfl, menu_ok w hw⟩
      obtain ⟨w1, rfl, hw1⟩ := h
      -- another word
      refine ds_seq (M := fun δ' => ∃ w x8, Wd false w ∧ δ' = [.raw (.ref p), .dat (.int count), .dat (.str ends), .dat (.str az), .dat (strsD menuW), .own (ws.map Dt.str), .dat d, .dat (.str w), x8, x9]) (ds_if (dt_any (dt_testB (dn_eqI (dn_pick S rfl de_int (by decide) (by decide)) de_int))) (fun _ => ?_) (fun _ => ds_next ⟨w1, x8, hw1, rfl⟩)) ?_
      · refine ds_let (T := IsS (fun w => wl false 1 (sg w) = true)) (dn_ixS (z := azn) de_str (dn_pick S rfl de_int (by decide) (by decide)) (by decide +kernel) (by decide +kernel)) fun d2 h => ?_
        obtain ⟨w2, rfl, hw2⟩ := h
        refine ds_for (vs := [8]) (di_rng1 (P := IsI fun r => 0 ≤ r ∧ r ≤ 7) (dn_ixL (de_lst (da_consE de_int (da_consE de_int (da_consE de_int (da_consE de_int da_nil))))) (dn_pick S rfl de_int (by decide) (by decide)) (fun x hx => ?_)) fun d3 h => ?_) fun xs hxs => ?_
        · simp only [List.mem_cons, List.not_mem_nil, or_false] at hx
          rcases hx with rfl | rfl | rfl | rfl <;> exact ⟨_, rfl, by decide⟩
        · obtain ⟨r, rfl, h⟩ := h
          exact ⟨r, rfl, by omega, by omega⟩
        · obtain ⟨m, ⟨r, hr0, hr⟩, rfl⟩ := hxs
          have hr0 := Dt.int.inj hr0
          subst hr0
          refine ⟨fun j δ' => ∃ w x8, wl false (1 + j) (sg w) = true ∧ δ' = [.raw (.ref p), .dat (.int count), .dat (.str ends), .dat (.str az), .dat (strsD menuW), .own (ws.map Dt.str), .dat d, .dat (.str w), x8, x9], ⟨w2, x8, hw2, rfl⟩, ?_, ?_⟩
          · rintro j dj δ' hdj ⟨w3, y8, hw3, rfl⟩
            have hj := (List.getElem?_eq_some_iff.mp hdj).1
            rw [rngD_len] at hj
            refine dg_name (by decide) (ds_set (T := IsS fun w => wl false (1 + (j + 1)) (sg w) = true) (dn_addS (A := fun w => wl false (1 + j) (sg w) = true) (B := fun w => ∃ x, sg w = [x] ∧ lowB x = true) ((de_var rfl).isS hw3) (dn_ixS (z := az) (de_var rfl) (dn_pick S rfl de_int (by decide) (by decide)) (by decide +kernel) fun x hx => ⟨x, rfl, low_az x hx⟩) fun a b ha hb => ?_) fun d4 h => ?_)
            · obtain ⟨x, hx, hlo⟩ := hb
              have l1 := (wl_iff.mp ha).2.1
              have l2 : b.length = 1 := by rw [← sg_len, hx]; rfl
              rw [sg_len] at l1
              refine ⟨by omega, ?_⟩
              rw [sg_add]
              refine wl_app ha (fun y hy => ?_) (by rw [sg_len, hx]; show a.length + 1 ≤ _; omega)
              rw [hx] at hy
              rw [List.mem_singleton.mp hy, hlo]; rfl
            · obtain ⟨w4, rfl, hw4⟩ := h
              exact ⟨w4, _, hw4, rfl⟩
          · rintro δ' ⟨w3, y8, hw3, rfl⟩
            rw [rngD_len] at hw3
            exact ⟨w3, y8, wl_more hw3 (by omega), rfl⟩
      rintro δ' ⟨w2, y8, hw2, rfl⟩
      -- an end
      refine ds_seq (M := fun δ' => ∃ w, Wd (endB ends) w ∧ δ' = [.raw (.ref p), .dat (.int count), .dat (.str ends), .dat (.str az), .dat (strsD menuW), .own (ws.map Dt.str), .dat d, .dat (.str w), y8, x9]) (ds_if (dt_andP (dt_testE (de_cmp (f := fun i j => decide (j < i)) (de_lenS (z := ends) (de_var rfl) (by omega)) de_int)) fun _ => dt_any (dt_testB (dn_eqI (dn_pick S rfl de_int (by decide) (by decide)) de_int))) (fun ht => ?_) (fun _ => ds_next ⟨w2, wl_sign hw2 (fun z => by cases z), rfl⟩)) ?_
      · have hpos : 0 < ends.length := by
          rcases ht with ⟨z, _⟩ | ⟨z, _⟩
          · cases z
          · have := of_decide_eq_true z.symm
            omega
        have heb : endB ends = true := decide_eq_true hpos
        have hes : ends = "0123456789" := by
          rcases he with rfl | rfl
          · exact absurd hpos (by decide +kernel)
          · rfl
        subst hes
        have hend : ∀ x ∈ ("0123456789" : Str).cps.toList, digB x = true := by decide +kernel
        refine ds_set (T := IsS (Wd true)) (dn_addS (A := fun w => wl true 7 (sg w) = true) (B := fun w => ∃ x, sg w = [x] ∧ digB x = true) (dn_addS (A := fun w => wl true 6 (sg w) = true) (B := fun w => ∃ x, sg w = [x] ∧ digB x = true) (De.isS (i := cutS w2 none (some 6)) (de_slS (de_var rfl) dp_none (dp_someE de_int) ?_) ?_)
            (dn_ixS (z := "0123456789") (de_var rfl) (dn_pick S rfl de_int (by decide) (by decide)) (by decide +kernel) fun x hx => ⟨x, rfl, hend x hx⟩) fun a b ha hb => ?_) (dn_ixS (z := "0123456789") (de_var rfl) (dn_pick S rfl de_int (by decide) (by decide)) (by decide +kernel) fun x hx => ⟨x, rfl, hend x hx⟩) fun a b ha hb => ?_) fun d4 h => ?_
        · have := (wl_iff.mp hw2).2.1
          rw [sg_len] at this
          omega
        · rw [show sg (cutS w2 none (some 6)) = (sg w2).take 6 from sg_head w2 6]
          obtain ⟨⟨x, r, h1, h2⟩, h3, h4⟩ := wl_iff.mp hw2
          refine wl_iff.mpr ⟨⟨x, r.take 5, by rw [h1]; rfl, h2⟩, by rw [List.length_take]; omega, fun y hy => ?_⟩
          have := h4 y (List.mem_of_mem_take hy)
          simp at this
          rw [this]; rfl
        · obtain ⟨x, hx, hlo⟩ := hb
          have l1 := (wl_iff.mp ha).2.1
          have l2 : b.length = 1 := by rw [← sg_len, hx]; rfl
          rw [sg_len] at l1
          refine ⟨by omega, ?_⟩
          rw [sg_add]
          refine wl_app ha (fun y hy => ?_) (by rw [sg_len, hx]; show a.length + 1 ≤ _; omega)
          rw [hx] at hy
          rw [List.mem_singleton.mp hy, hlo]; simp
        · obtain ⟨x, hx, hlo⟩ := hb
          have l1 := (wl_iff.mp ha).2.1
          have l2 : b.length = 1 := by rw [← sg_len, hx]; rfl
          rw [sg_len] at l1
          refine ⟨by omega, ?_⟩
          show wl true 8 (sg (a ++ b)) = true
          rw [sg_add]
          refine wl_app ha (fun y hy => ?_) (by rw [sg_len, hx]; show a.length + 1 ≤ _; omega)
          rw [hx] at hy
          rw [List.mem_singleton.mp hy, hlo]; simp
        · obtain ⟨w3, rfl, hw3⟩ := h
          exact ⟨w3, by rw [heb]; exact hw3, rfl⟩
      rintro δ' ⟨w3, hw3, rfl⟩
      -- the turns
      refine ds_seq (M := fun δ' => ∃ w x9, Wd (endB ends) w ∧ w ∉ ws ∧ δ' = [.raw (.ref p), .dat (.int count), .dat (.str ends), .dat (.str az), .dat (strsD menuW), .own (ws.map Dt.str), .dat d, .dat (.str w), y8, x9]) (ds_for (vs := [9]) (di_rng1E (n := count) (de_var rfl) (by omega) (by omega)) fun xs e => ?_) ?_
      · subst e
        refine ⟨fun j δ' => ∃ w x9, Turns ws w3 (endB ends) j w ∧ δ' = [.raw (.ref p), .dat (.int count), .dat (.str ends), .dat (.str az), .dat (strsD menuW), .own (ws.map Dt.str), .dat d, .dat (.str w), y8, x9], ⟨w3, x9, ⟨hw3, rfl, .inr ⟨fun u hu => by omega, fun z => by omega⟩⟩, rfl⟩, ?_, ?_⟩
        · rintro j dj δ' hdj ⟨w4, y9, hT, rfl⟩
          have hj : j < count := by
            have := (List.getElem?_eq_some_iff.mp hdj).1
            rw [rngD_len] at this
            omega
          have hdj' : dj = .int (j : Int) := by
            rw [rngD_get (by omega)] at hdj
            have := (Option.some.inj hdj).symm
            rw [this, Int.zero_add]
          subst hdj'
          obtain ⟨hT1, hT2, hT3⟩ := hT
          have hw4l : w4.length ≤ 8 := by have := (wl_iff.mp hT1).2.1; rwa [sg_len] at this
          refine dg_name (by decide) ?_
          refine ds_ifE (k := decide (w4 ∈ ws)) (dt_thaw (i := 5) rfl (dt_testE (de_op (de_var rfl) (de_var rfl) rv_inS))) (fun hk => ?_) (fun hk => ?_)
          · have hin : w4 ∈ ws := of_decide_eq_true hk
            have la : (sg azt).length = 16 := by decide +kernel
            refine ds_set (T := (· = .str (swapV w3 j))) (De.eq (de_addS (i := ⟨#[(sg azt).getD j 0]⟩) (j := cutS w4 (some 1) none) (de_ixSn (z := azt) de_str (de_var rfl) (by decide +kernel) ?_) (de_slS (de_var rfl) (dp_someE de_int) dp_none (by omega)) ?_) ?_) fun d4 h => ?_
            · show (sg azt)[j]? = _
              rw [List.getD_eq_getElem?_getD, List.getElem?_eq_getElem (by omega)]
              rfl
            · have : (cutS w4 (some 1) none).length ≤ 8 := by rw [← sg_len, sg_tail, List.length_drop, sg_len]; omega
              show 1 + _ ≤ _
              omega
            · congr 1
              refine sg_inj ?_
              rw [sg_add, sg_tail, swapV_sg, hT2]
              rfl
            · subst h
              refine ⟨swapV w3 j, _, ⟨wd_swap hw3 (by omega), rfl, .inr ⟨fun u hu => ?_, fun _ => rfl⟩⟩, rfl⟩
              rcases hT3 with z | ⟨z1, z2⟩
              · exact absurd hin z
              · by_cases q : u + 1 < j
                · exact z1 u q
                · have : u = j - 1 := by omega
                  rw [this, ← z2 (by omega)]; exact hin
          · exact ds_next ⟨w4, _, ⟨hT1, hT2, .inl (of_decide_eq_false hk)⟩, rfl⟩
        · rintro δ' ⟨w4, y9, hT, rfl⟩
          rw [rngD_len] at hT
          exact ⟨w4, y9, hT.1, Turns.fin hT (by omega) (by omega) (by omega), rfl⟩
      rintro δ' ⟨w4, y9, hw4, hnew, rfl⟩
      refine ds_append (i := 5) rfl (de_var rfl) (by rw [List.length_map]; omega) fun d4 e => ?_
      subst e
      refine ⟨ws ++ [w4], _, _, _, _, ⟨by rw [List.length_append, hwl]; rfl, ?_, fun w hw => ?_⟩, by rw [List.map_append]; rfl⟩
      · rw [List.nodup_append]
        refine ⟨hW.nd, by simp, fun a ha b hb e => ?_⟩
        rw [List.mem_singleton.mp hb] at e
        exact hnew (e ▸ ha)
      · rcases List.mem_append.mp hw with hw | hw
        · exact hW.ok w hw
        · rw [List.mem_singleton.mp hw]; exact hw4
    · rintro δ' ⟨ws, x6, x7, x8, x9, hW, rfl⟩
      rw [rngD_len] at hW
      exact ⟨ws, x6, x7, x8, x9, by simpa using hW, rfl⟩
  rintro δ' ⟨ws, x6, x7, x8, x9, hW, rfl⟩
  refine ds_freeze (i := 5) rfl ?_
  exact ds_retE (de_tupleB (fr := fr) (de_var rfl)) ⟨ws, rfl, hW⟩
end
end K30

set_option Elab.async false
set_option maxRecDepth 100000
set_option maxHeartbeats 4000000
namespace K30
open PySem L2 StX Zd
/-! ### plans as data -/
abbrev Port := Str × List Str
abbrev Mode := Str × Nat
abbrev Cell := Nat × Nat × Nat
abbrev Wr := Nat × Str × Nat
abbrev Row := Nat × List Nat × List Wr
def nD (k : Nat) : Dt := .int (k : Int)
abbrev kLb : Bool := false
abbrev kL : Sk := .tup
abbrev strsL (xs : List Str) : Dt := strsT xs
theorem skOk_L {K : PySem.W.Frag} {xs : List Dt} : SkOk K kL xs := skOk_tup
def portD (p : Port) : Dt := .tup [.str p.1, strsL p.2]
def modeD (m : Mode) : Dt := .tup [.str m.1, nD m.2]
def cellD (c : Cell) : Dt := .tup [nD c.1, nD c.2.1, nD c.2.2]
def wrD (w : Wr) : Dt := .tup [nD w.1, .str w.2.1, nD w.2.2]
def rowD (r : Row) : Dt := .tup [nD r.1, .tup (r.2.1.map nD), .tup (r.2.2.map wrD)]
def crD (x : Cell × Row) : Dt := .tup [cellD x.1, rowD x.2]
structure Plan where
  names : List Str
  ports : List Port
  modes : List Mode
  rows : List (Cell × Row)
def planD (pl : Plan) : Dt := .lst [strsF pl.names, .tup (pl.ports.map portD), .tup (pl.modes.map modeD), .lst (pl.rows.map crD)]
def cntOf (modes : List Mode) (m : Nat) : Nat := (modes[m]?.map (·.2)).getD 0
def cellsN (ns k m : Nat) : List Cell := (List.range ns).flatMap fun n => (List.range (2 * k + 1)).map fun p => (m, n, p)
def cellsL (ns : Nat) (modes : List Mode) : List Cell := (List.range modes.length).flatMap fun m => cellsN ns (cntOf modes m) m
theorem cnt_get {modes : List Mode} {m : Nat} (h : m < modes.length) : modes[m]? = some (modes[m].1, cntOf modes m) := by
  unfold cntOf
  rw [List.getElem?_eq_getElem h]
  rfl
theorem mem_cellsL {ns : Nat} {modes : List Mode} {m n p : Nat} : (m, n, p) ∈ cellsL ns modes ↔ m < modes.length ∧ n < ns ∧ p < 2 * cntOf modes m + 1 := by
  unfold cellsL cellsN
  simp only [List.mem_flatMap, List.mem_map, List.mem_range, Prod.mk.injEq]
  constructor
  · rintro ⟨a, ha, b, hb, x, hx, rfl, rfl, rfl⟩
    exact ⟨ha, hb, hx⟩
  · rintro ⟨h1, h2, h3⟩
    exact ⟨m, h1, n, h2, p, h3, rfl, rfl, rfl⟩
/-- what the modes, the ports, a plan without rows are -/
structure PlanB (pl : Plan) : Prop where
  n0 : 0 < pl.names.length
  n4 : pl.names.length ≤ 4
  nW : Words false pl.names.length pl.names
  p0 : 0 < pl.ports.length
  p3 : pl.ports.length ≤ 3
  pN : (pl.ports.map (·.1)).Nodup
  pW : ∀ x ∈ pl.ports, Wd false x.1 ∧ 0 < x.2.length ∧ x.2.length ≤ 4 ∧ x.2.Nodup ∧ ∀ w ∈ x.2, Wd false w
  m0 : 0 < pl.modes.length
  m16 : pl.modes.length ≤ 17
  mW : ∀ x ∈ pl.modes, Wd true x.1 ∧ x.2 ≤ 3
  mF : cntOf pl.modes 0 = 0
def knownOf (modes : List Mode) (x : Cell) : Nat := cntOf modes x.1 + 1 - x.2.2 % 2
structure RowOk (pl : Plan) (known : Nat) (r : Row) : Prop where
  t : r.1 < pl.modes.length
  tk : cntOf pl.modes r.1 ≤ known
  hl : r.2.1.length = cntOf pl.modes r.1
  ha : r.2.1.Pairwise (· < ·)
  hk : ∀ k ∈ r.2.1, k < known
  wl : r.2.2.length ≤ 4
  ww : ∀ x ∈ r.2.2, ∃ port, pl.ports[x.1]? = some port ∧ x.2.1 ∈ port.2 ∧ x.2.2 < known
theorem cnt_le {pl : Plan} (h : PlanB pl) (m : Nat) : cntOf pl.modes m ≤ 3 := by
  unfold cntOf
  cases e : pl.modes[m]? with
  | none => exact Nat.zero_le _
  | some x => exact (h.mW x (List.mem_of_getElem? e)).2
section
variable {P : Program} {w : World} {K : PySem.W.Frag} {mg : Str → Option Value} {base : Heap}
variable {c : Bs} {δ : Fe} {te ta tb : TE}
theorem de_modes {pl : Plan} (h : De c te δ (planD pl)) : De c (tOp (rIxL K) te (tC (.int 2))) δ (.tup (pl.modes.map modeD)) := de_ixL h de_int rfl
theorem de_names {pl : Plan} (h : De c te δ (planD pl)) : De c (tOp (rIxL K) te (tC (.int 0))) δ (strsF pl.names) := de_ixL h de_int rfl
theorem de_ports {pl : Plan} (h : De c te δ (planD pl)) : De c (tOp (rIxL K) te (tC (.int 1))) δ (.tup (pl.ports.map portD)) := de_ixL h de_int rfl
theorem de_rows {pl : Plan} (h : De c te δ (planD pl)) : De c (tOp (rIxL K) te (tC (.int 3))) δ (.lst (pl.rows.map crD)) := de_ixL h de_int rfl
theorem de_cnt {modes : List Mode} {m : Nat} (h : De c te δ (.tup (modes.map modeD))) (hm : De c tb δ (nD m)) (hl : m < modes.length) : De c (tOp (rIxT K) (tOp (rIxT K) te tb) (tC (.int 1))) δ (nD (cntOf modes m)) :=
  de_ixT (de_ixTn (i := m) (d := modeD (modes[m].1, cntOf modes m)) h hm (by rw [List.getElem?_map, cnt_get hl]; rfl)) de_int rfl
/-! ### the law's cells -/
abbrev spCells : Sp := spT (fun pl : Plan => [planD pl]) (fun pl => pl.names.length ≤ 100 ∧ pl.modes.length ≤ 100 ∧ ∀ m, cntOf pl.modes m ≤ 100) fun pl d => d = .lst ((cellsL pl.names.length pl.modes).map cellD)
theorem flat_succ {α : Type} (f : Nat → List α) (n : Nat) : (List.range (n + 1)).flatMap f = (List.range n).flatMap f ++ f n := by
  rw [List.range_succ, List.flatMap_append]
  simp
theorem flat_len {α : Type} (N : Nat) (g : Nat → Nat → α) : ∀ n : Nat, ((List.range n).flatMap fun n => (List.range N).map (g n)).length = n * N
  | 0 => by simp
  | n + 1 => by rw [flat_succ, List.length_append, flat_len N g n, Nat.succ_mul, List.length_map, List.length_range]
theorem cellsN_len (ns k m : Nat) : (cellsN ns k m).length = ns * (2 * k + 1) := flat_len _ _ _
theorem cellsN_succ (ns k m : Nat) : cellsN (ns + 1) k m = cellsN ns k m ++ (List.range (2 * k + 1)).map fun p => (m, ns, p) := flat_succ _ _
theorem cells_part_le {ns b : Nat} {modes : List Mode} (hn : ns ≤ 100) (hb : ∀ m, cntOf modes m ≤ 100) : ∀ i : Nat, ((List.range i).flatMap fun m => cellsN ns (cntOf modes m) m).length ≤ i * 20100
  | 0 => by simp
  | i + 1 => by
    have ih := cells_part_le (b := b) hn hb i
    rw [List.range_succ, List.flatMap_append, List.length_append]
    have h1 : (cellsN ns (cntOf modes i) i).length ≤ 100 * 201 := by
      rw [cellsN_len]
      have := hb i
      exact Nat.mul_le_mul hn (by omega)
    simp only [List.flatMap_cons, List.flatMap_nil, List.append_nil]
    omega
theorem ok__law_cells {f : Addr} {fd : FuncData} (F : Fun K "_law_cells" "_law_cells" s__law_cells f fd) (m_len : mg "len" = none) (m_range : mg "range" = none) : FnOk P w K mg base CX0 1 f fd ["plan"] spCells := by
  have nd := sc__law_cells.nd
  refine F.ok sc__law_cells (fun vs H Q E h => spT_len (fun _ => rfl) h) (fun cdv A outer s H vs Q E hr h => ⟨_, (pss_cons (ps_set (i := 1) nd rfl (by first | exact Or.inl rfl | exact Or.inr rfl) (pe_lst pa_nil))
      (pss_cons (ps_for PassesOwn.never rfl (pi_range1 rfl m_range (pa_cons (pe_callB (call_lenK (K := K) rfl) (by rfl) m_len PySem.boot_len (pa_cons (pe_ix (ix_listK (K := K) rfl) (pv 0) pe_int (fun _ _ => rfl)) pa_nil)) pa_nil)) (pg_name (i := 2) nd rfl (by first | exact Or.inl rfl | exact Or.inr rfl)) (pss_one (ps_for PassesOwn.never rfl (pi_range1 rfl m_range (pa_cons (pe_callB (call_lenK (K := K) rfl) (by rfl) m_len PySem.boot_len (pa_cons (pe_ix (ix_listK (K := K) rfl) (pv 0) pe_int (fun _ _ => rfl)) pa_nil)) pa_nil)) (pg_name (i := 3) nd rfl (by first | exact Or.inl rfl | exact Or.inr rfl)) (pss_one (ps_set (i := 1) nd rfl (by first | exact Or.inl rfl | exact Or.inr rfl) (pe_op op_cat (pv 1) (pe_lc (own := [("position", 4)]) (g := gName 4) rfl nd (pi_range1 rfl m_range (pa_cons (pe_op op_add (pe_op op_mul pe_int (pe_ix (ix_tupK (K := K) rfl) (pe_ix (ix_tupK (K := K) rfl) (pe_ix (ix_listK (K := K) rfl) (pv 0) pe_int (fun _ _ => rfl)) (pv 2) (fun _ _ => rfl)) pe_int (fun _ _ => rfl))) pe_int) pa_nil)) (by refine blkOk_by ?_; show blkC N__law_cells (defScope s__law_cells) _ _ = true; decide +kernel) (fun _ _ _ _ _ => (pg_name (i := 4) nd rfl (by first | exact Or.inl rfl | exact Or.inr rfl))) (fun _ _ _ _ _ => pts_nil) (fun _ _ _ _ _ => (pe_tup (pa_cons (pv 2) (pa_cons (pv 3) (pa_cons (pv 4) pa_nil))))))))))))
      (pss_one (ps_ret (pv 1))))) , ?_⟩)
  refine ok_bodyT (fun pl => [.dat (planD pl), .un, .un, .un, .un]) h (fun _ => by show 1 ≤ 5; decide) (fun _ => rfl) fun c pl hc hp => ?_
  obtain ⟨hp1, hp2, hp3⟩ : pl.names.length ≤ 100 ∧ pl.modes.length ≤ 100 ∧ ∀ m, cntOf pl.modes m ≤ 100 := hp
  refine ds_letE (d := .lst []) (de_lst da_nil) ?_
  refine ds_seq (M := fun δ' => ∃ x2 x3 x4, δ' = [.dat (planD pl), .dat (.lst ((cellsL pl.names.length pl.modes).map cellD)), x2, x3, x4]) (ds_for (vs := [2]) (di_rng1E (n := pl.modes.length) (De.eq (de_lenTK (de_modes (de_var rfl))) (by rw [List.length_map])) (by omega) (by omega)) fun xs e => ?_) ?_
  · subst e
    refine ⟨fun i δ' => ∃ x2 x3 x4, δ' = [.dat (planD pl), .dat (.lst (((List.range i).flatMap fun m => cellsN pl.names.length (cntOf pl.modes m) m).map cellD)), x2, x3, x4], ⟨.un, .un, .un, rfl⟩, ?_, ?_⟩
    · rintro i d δ' hd ⟨x2, x3, x4, rfl⟩
      obtain ⟨hi, rfl⟩ := rng_get hd
      have hi : i < pl.modes.length := by omega
      have hk := hp3 i
      have hpart := cells_part_le (b := 0) hp1 hp3 i
      have hi2 : i * 20100 ≤ 100 * 20100 := Nat.mul_le_mul (by omega) (Nat.le_refl _)
      refine dg_name (by decide) ?_
      refine (ds_for (vs := [3]) (di_rng1E (n := pl.names.length) (De.eq (de_lenF (de_names (de_var rfl))) (by rw [List.length_map])) (by omega) (by omega)) fun xs e => ?_)
      subst e
      refine ⟨fun j δ' => ∃ x3 x4, δ' = [.dat (planD pl), .dat (.lst ((((List.range i).flatMap fun m => cellsN pl.names.length (cntOf pl.modes m) m) ++ cellsN j (cntOf pl.modes i) i).map cellD)), .dat (nD i), x3, x4], ⟨x3, x4, by simp [cellsN]; rfl⟩, ?_, ?_⟩
      · rintro j d δ' hd ⟨y3, y4, rfl⟩
        obtain ⟨hj, rfl⟩ := rng_get hd
        have hj : j < pl.names.length := by omega
        refine dg_name (by decide) ?_
        refine ds_set (Dl.de (dl_cat (de_var rfl) (Dl.de (dl_lcMap (fun d => .tup [nD i, nD j, d]) (di_rng1E (n := 2 * (cntOf pl.modes i : Int) + 1) (de_add (de_mulL de_int (de_cnt (de_modes (de_var rfl)) (de_var rfl) hi) (by decide)) de_int) (by omega) (by omega)) (by rw [rngD_len]; omega) fun d hd => dg_name (by decide) (de_tup (da_consE (de_var rfl) (da_consE (de_var rfl) (da_consE (de_var rfl) da_nil)))))) ?_)) fun d' e => ?_
        · rw [List.length_map, List.length_append, List.length_map, rngD_len, cellsN_len]
          have : j * (2 * cntOf pl.modes i + 1) ≤ 100 * 201 := Nat.mul_le_mul (by omega) (by omega)
          omega
        · subst e
          refine ⟨.dat (nD j), y4, ?_⟩
          have e1 : (2 * (cntOf pl.modes i : Int) + 1).toNat = 2 * cntOf pl.modes i + 1 := by omega
          have e3 : (((List.range i).flatMap fun m => cellsN pl.names.length (cntOf pl.modes m) m) ++ cellsN j (cntOf pl.modes i) i).map cellD ++ (rngD 0 (2 * (cntOf pl.modes i : Int) + 1).toNat).map (fun d => .tup [nD i, nD j, d]) = (((List.range i).flatMap fun m => cellsN pl.names.length (cntOf pl.modes m) m) ++ cellsN (j + 1) (cntOf pl.modes i) i).map cellD := by
            rw [e1, cellsN_succ, rng_eq, List.map_map, List.map_append, List.map_append, List.map_append, List.append_assoc, List.map_map]
            rfl
          rw [e3]
          rfl
      · rintro δ' ⟨y3, y4, rfl⟩
        rw [rngD_len]
        refine ⟨.dat (nD i), y3, y4, ?_⟩
        rw [flat_succ, Int.toNat_natCast]
    · rintro δ' ⟨x2, x3, x4, rfl⟩
      refine ⟨x2, x3, x4, ?_⟩
      rw [rngD_len, Int.toNat_natCast]
      rfl
  · rintro δ' ⟨x2, x3, x4, rfl⟩
    exact ds_retE (de_var rfl) rfl
/-! ### what is known at a cell -/
abbrev spKnown : Sp := spT (fun a : Plan × Cell => [planD a.1, cellD a.2]) (fun a => a.2.1 < a.1.modes.length) fun a d => d = nD (knownOf a.1.modes a.2)
theorem ok__law_known {f : Addr} {fd : FuncData} (F : Fun K "_law_known" "_law_known" s__law_known f fd) : FnOk P w K mg base CX0 1 f fd ["plan", "cell"] spKnown := by
  have nd := sc__law_known.nd
  refine F.ok sc__law_known (fun vs H Q E h => spT_len (fun _ => rfl) h) (fun cdv A outer s H vs Q E hr h => ⟨_, (pss_one (ps_ret (pe_op op_sub (pe_op op_add (pe_ix (ix_tupK (K := K) rfl) (pe_ix (ix_tupK (K := K) rfl) (pe_ix (ix_listK (K := K) rfl) (pv 0) pe_int (fun _ _ => rfl)) (pe_ix (ix_tupK (K := K) rfl) (pv 1) pe_int (fun _ _ => rfl)) (fun _ _ => rfl)) pe_int (fun _ _ => rfl)) pe_int) (pe_op op_mod (pe_ix (ix_tupK (K := K) rfl) (pv 1) pe_int (fun _ _ => rfl)) pe_int)))) , ?_⟩)
  refine ok_bodyT (fun a => [.dat (planD a.1), .dat (cellD a.2)]) h (fun _ => by show 2 ≤ 2; decide) (fun _ => rfl) fun c a hc hp => ?_
  obtain ⟨pl, m, n, q⟩ := a
  have hp : m < pl.modes.length := hp
  refine ds_retE (d := nD (knownOf pl.modes (m, n, q))) (De.eq (de_sub (de_add (de_cnt (m := m) (de_modes (de_var rfl)) (de_ixT (d := nD m) (de_var rfl) de_int rfl) hp) de_int) (de_mod (de_ixT (d := nD q) (de_var rfl) de_int rfl) de_int (by decide))) ?_) rfl
  show Dt.int _ = Dt.int _
  congr 1
  show (cntOf pl.modes m : Int) + 1 - (q : Int) % 2 = ((cntOf pl.modes m + 1 - q % 2 : Nat) : Int)
  omega
/-! ### some of the known -/
abbrev spSome : Sp := spS (fun a : Nat × Nat => [nD a.1, nD a.2]) (fun a => a.2 ≤ a.1 ∧ a.1 ≤ 100) fun a d => ∃ ks : List Nat, d = .tup (ks.map nD) ∧ ks.length = a.2 ∧ ks.Pairwise (· < ·) ∧ ∀ k ∈ ks, k < a.1
theorem ok__law_some {f f2 : Addr} {fd fd2 : FuncData} (F : Fun K "_law_some" "_law_some" s__law_some f fd) (k__law_pick : Kn K mg "_law_pick" s__law_pick ["source", "many"] f2 fd2) (m_int : mg "int" = none) (m_len : mg "len" = none) (m_range : mg "range" = none) (m_tuple : mg "tuple" = none) : FnOk P w K mg base CX0 2 f fd ["source", "known", "count"] spSome := by
  have nd := sc__law_some.nd
  have G__law_pick : FnOk P w K mg base CX0 1 f2 fd2 ["source", "many"] spPickS := (ok__law_pick k__law_pick.F m_int).imp pick_S
  refine F.ok sc__law_some (fun vs H Q E h => spS_len (fun _ => rfl) h) (fun cdv A outer s H vs Q E hr h => ⟨_, (pss_cons (ps_setLc (i := 3) (own := [("k", 4)]) (g := gName 4) rfl nd rfl rfl (sw_true rfl rfl rfl (by decide +kernel)) (pi_range1 rfl m_range (pa_cons (pv 1) pa_nil)) (by refine blkOk_by ?_; show blkC N__law_some (defScope s__law_some) _ _ = true; decide +kernel) (fun _ _ _ _ _ => (pg_name (i := 4) nd rfl (by first | exact Or.inl rfl | exact Or.inr rfl))) (fun _ _ _ _ _ => pts_nil) (fun _ _ _ _ _ => (pv 4)))
      (pss_cons (ps_for PassesOwn.never rfl (pi_range1 rfl m_range (pa_cons (pe_op op_sub (pv 1) (pv 2)) pa_nil)) (pg_name (i := 4) nd rfl (by first | exact Or.inl rfl | exact Or.inr rfl)) (pss_cons (ps_set (i := 5) nd rfl (by first | exact Or.inl rfl | exact Or.inr rfl) (pe_call G__law_pick (hr.mono (by decide)) (by rfl) k__law_pick.g k__law_pick.F.kp k__law_pick.b .nil pass0 (pa_cons (pv 0) (pa_cons (pe_callB (call_lenK (K := K) rfl) (by rfl) m_len PySem.boot_len (pa_cons (pv 3) pa_nil)) pa_nil))))
      (pss_one (ps_set (i := 3) nd rfl (by first | exact Or.inl rfl | exact Or.inr rfl) (pe_op op_cat (pe_slice (sl_listK (K := K) rfl) (pv 3) po_none (po_some (pv 5))) (pe_slice (sl_listK (K := K) rfl) (pv 3) (po_some (pe_op op_add (pv 5) pe_int)) po_none))))))
      (pss_one (ps_ret (pe_callTy (call_tuple_ofK (K := K) rfl) (by rfl) m_tuple (by decide +kernel) (pa_cons (pv 3) pa_nil)))))) , ?_⟩)
  refine ok_bodyS (fun p a => [.raw (.ref p), .dat (nD a.1), .dat (nD a.2), .un, .un, .un]) h (fun _ => by show 3 ≤ 6; decide) (fun _ _ => rfl) fun c p a S hp => ?_
  obtain ⟨known, count⟩ := a
  obtain ⟨hp1, hp2⟩ : count ≤ known ∧ known ≤ 100 := hp
  refine ds_letE (d := .lst ((List.range known).map nD)) (De.eq (Dl.de (dl_lcMap (fun d => d) (di_rng1E (n := (known : Int)) (de_var rfl) (by omega) (by omega)) (by rw [rngD_len]; omega) fun d hd => dg_name (by decide) (de_var rfl))) ?_) ?_
  · rw [List.map_id', Int.toNat_natCast, rng_eq]; rfl
  refine ds_seq (M := fun δ' => ∃ (ks : List Nat) (x4 x5 : Sl), (ks.length = count ∧ ks.Pairwise (· < ·) ∧ ∀ k ∈ ks, k < known) ∧ δ' = [.raw (.ref p), .dat (nD known), .dat (nD count), .dat (.lst (ks.map nD)), x4, x5]) (ds_for (vs := [4]) (di_rng1E (n := (known : Int) - count) (de_sub (de_var rfl) (de_var rfl)) (by omega) (by omega)) fun xs e => ?_) ?_
  · subst e
    refine ⟨fun i δ' => ∃ (ks : List Nat) (x4 x5 : Sl), (ks.length = known - i ∧ ks.Pairwise (· < ·) ∧ ∀ k ∈ ks, k < known) ∧ δ' = [.raw (.ref p), .dat (nD known), .dat (nD count), .dat (.lst (ks.map nD)), x4, x5], ⟨List.range known, .un, .un, ⟨by simp, List.pairwise_lt_range, fun k hk => List.mem_range.mp hk⟩, rfl⟩, ?_, ?_⟩
    · rintro i d δ' hd ⟨ks, x4, x5, ⟨h1, h2, h3⟩, rfl⟩
      obtain ⟨hi, rfl⟩ := rng_get hd
      refine dg_name (by decide) ?_
      refine ds_let (T := fun d => ∃ a : Nat, d = nD a ∧ a < ks.length) ((dn_pick S rfl (m := (ks.length : Int)) (De.eq (de_lenLK (de_var rfl)) (by rw [List.length_map])) (by omega) (by omega)).imp fun d hd => ?_) fun d hd => ?_
      · obtain ⟨r, rfl, r0, r1⟩ := hd
        refine ⟨r.toNat, ?_, by omega⟩
        show Dt.int r = Dt.int _
        congr 1
        omega
      obtain ⟨a, rfl, ha⟩ := hd
      refine ds_set (Dl.de (dl_cat (Dl.de (dl_slE (hi := some (a : Int)) (de_var rfl) dp_none (dp_someE (de_var rfl)))) (Dl.de (dl_slE (lo := some ((a + 1 : Nat) : Int)) (de_var rfl) (dp_someE (De.eq (de_add (de_var rfl) de_int) rfl)) dp_none)) ?_)) fun d' e => ?_
      · rw [cutD_take, cutD_drop, List.length_take, List.length_drop, List.length_map]; omega
      · subst e
        refine ⟨ks.eraseIdx a, .dat (nD i), .dat (nD a), ⟨by rw [List.length_eraseIdx_of_lt ha]; omega, h2.sublist (List.eraseIdx_sublist ks a), fun k hk => h3 k (List.mem_of_mem_eraseIdx hk)⟩, ?_⟩
        rw [cutD_take, cutD_drop, ← List.map_take, ← List.map_drop, ← List.map_append, ← List.eraseIdx_eq_take_drop_succ]
        rfl
    · rintro δ' ⟨ks, x4, x5, ⟨h1, h2, h3⟩, rfl⟩
      rw [rngD_len] at h1
      exact ⟨ks, x4, x5, ⟨by omega, h2, h3⟩, rfl⟩
  · rintro δ' ⟨ks, x4, x5, ⟨h1, h2, h3⟩, rfl⟩
    exact ds_retE (de_tupleOfLK (de_var rfl)) ⟨ks, rfl, h1, h2, h3⟩
end
end K30

set_option Elab.async false
set_option maxRecDepth 100000
set_option maxHeartbeats 4000000
namespace K30
open PySem L2 StX Zd
section
variable {P : Program} {w : World} {K : PySem.W.Frag} {mg : Str → Option Value} {base : Heap}
abbrev spWrites : Sp := spS (fun a : Plan × Nat => [planD a.1, nD a.2]) (fun a => PlanB a.1 ∧ 0 < a.2 ∧ a.2 ≤ 100) fun a d => ∃ ws : List Wr, d = .tup (ws.map wrD) ∧ ws.length ≤ 4 ∧ ∀ x ∈ ws, ∃ port, a.1.ports[x.1]? = some port ∧ x.2.1 ∈ port.2 ∧ x.2.2 < a.2
theorem ok__law_writes {f f2 f3 : Addr} {fd fd2 fd3 : FuncData} (F : Fun K "_law_writes" "_law_writes" s__law_writes f fd) (k__law_pick : Kn K mg "_law_pick" s__law_pick ["source", "many"] f2 fd2) (k__law_worded : Kn K mg "_law_worded" s__law_worded ["source", "words"] f3 fd3) (m_int : mg "int" = none) (m_len : mg "len" = none) (m_range : mg "range" = none) (m_tuple : mg "tuple" = none) : FnOk P w K mg base CX0 3 f fd ["source", "plan", "known"] spWrites := by
  have nd := sc__law_writes.nd
  have G__law_pick : FnOk P w K mg base CX0 1 f2 fd2 ["source", "many"] spPickS := (ok__law_pick k__law_pick.F m_int).imp pick_S
  have G__law_worded : FnOk P w K mg base CX0 2 f3 fd3 ["source", "words"] (spWorded K) := ok__law_worded k__law_worded.F k__law_pick m_int m_len
  refine F.ok sc__law_writes (fun vs H Q E h => spS_len (fun _ => rfl) h) (fun cdv A outer s H vs Q E hr h => ⟨_, (pss_cons (ps_set (i := 3) nd rfl (by first | exact Or.inl rfl | exact Or.inr rfl) (pe_lst pa_nil))
      (pss_cons (ps_for PassesOwn.never rfl (pi_range1 rfl m_range (pa_cons (pe_ix (ix_listK (K := K) rfl) (pe_lst (pa_cons pe_int (pa_cons pe_int (pa_cons pe_int (pa_cons pe_int (pa_cons pe_int (pa_cons pe_int (pa_cons pe_int (pa_cons pe_int pa_nil))))))))) (pe_call G__law_pick (hr.mono (by decide)) (by rfl) k__law_pick.g k__law_pick.F.kp k__law_pick.b .nil pass0 (pa_cons (pv 0) (pa_cons pe_int pa_nil))) (fun _ _ => rfl)) pa_nil)) (pg_name (i := 4) nd rfl (by first | exact Or.inl rfl | exact Or.inr rfl)) (pss_cons (ps_set (i := 5) nd rfl (by first | exact Or.inl rfl | exact Or.inr rfl) (pe_call G__law_pick (hr.mono (by decide)) (by rfl) k__law_pick.g k__law_pick.F.kp k__law_pick.b .nil pass0 (pa_cons (pv 0) (pa_cons (pe_callB (call_lenK (K := K) rfl) (by rfl) m_len PySem.boot_len (pa_cons (pe_ix (ix_listK (K := K) rfl) (pv 1) pe_int (fun _ _ => rfl)) pa_nil)) pa_nil))))
      (pss_one (ps_expr (pe_bm PySem.F.plainAttrs_list PySem.F.slot_list_append PySem.F.type_list_append mt_append (pv 3) (pa_cons (pe_tup (pa_cons (pv 5) (pa_cons (pe_call G__law_worded (hr.mono (by decide)) (by rfl) k__law_worded.g k__law_worded.F.kp k__law_worded.b .nil pass0 (pa_cons (pv 0) (pa_cons (pe_ix (ix_tupK (K := K) rfl) (pe_ix (ix_tupK (K := K) rfl) (pe_ix (ix_listK (K := K) rfl) (pv 1) pe_int (fun _ _ => rfl)) (pv 5) (fun _ _ => rfl)) pe_int (fun _ _ => rfl)) pa_nil))) (pa_cons (pe_call G__law_pick (hr.mono (by decide)) (by rfl) k__law_pick.g k__law_pick.F.kp k__law_pick.b .nil pass0 (pa_cons (pv 0) (pa_cons (pv 2) pa_nil))) pa_nil)))) pa_nil))))))
      (pss_one (ps_ret (pe_callTy (call_tuple_ofK (K := K) rfl) (by rfl) m_tuple (by decide +kernel) (pa_cons (pv 3) pa_nil)))))) , ?_⟩)
  refine ok_bodyS (fun p a => [.raw (.ref p), .dat (planD a.1), .dat (nD a.2), .un, .un, .un]) h (fun _ => by show 3 ≤ 6; decide) (fun _ _ => rfl) fun c p a S hp => ?_
  obtain ⟨pl, known⟩ := a
  obtain ⟨hB, hk0, hk1⟩ : PlanB pl ∧ 0 < known ∧ known ≤ 100 := hp
  have hp3 := hB.p3
  refine ds_letOwnE (dl_lst da_nil fun _ e => by rw [e]; exact Nat.zero_le _) ?_
  refine ds_seq (M := fun δ' => ∃ (ws : List Wr) (x4 x5 : Sl), (ws.length ≤ 4 ∧ ∀ x ∈ ws, ∃ port, pl.ports[x.1]? = some port ∧ x.2.1 ∈ port.2 ∧ x.2.2 < known) ∧ δ' = [.raw (.ref p), .dat (planD pl), .dat (nD known), .own (ws.map wrD), x4, x5]) (ds_for (vs := [4]) (di_rng1 (P := IsI fun r => 0 ≤ r ∧ r ≤ 4) (dn_ixL (de_lst (da_consE de_int (da_consE de_int (da_consE de_int (da_consE de_int (da_consE de_int (da_consE de_int (da_consE de_int (da_consE de_int da_nil))))))))) (dn_pick S rfl de_int (by decide) (by decide)) (fun x hx => ?_)) fun d3 h => ?_) fun xs hxs => ?_) ?_
  · simp only [List.mem_cons, List.not_mem_nil, or_false] at hx
    rcases hx with rfl | rfl | rfl | rfl | rfl | rfl | rfl | rfl <;> exact ⟨_, rfl, by decide⟩
  · obtain ⟨r, rfl, h⟩ := h
    exact ⟨r, rfl, by omega, by omega⟩
  · obtain ⟨m, ⟨r, hr0, hr⟩, rfl⟩ := hxs
    have hr0 := Dt.int.inj hr0
    subst hr0
    refine ⟨fun i δ' => ∃ (ws : List Wr) (x4 x5 : Sl), (ws.length = i ∧ ∀ x ∈ ws, ∃ port, pl.ports[x.1]? = some port ∧ x.2.1 ∈ port.2 ∧ x.2.2 < known) ∧ δ' = [.raw (.ref p), .dat (planD pl), .dat (nD known), .own (ws.map wrD), x4, x5], ⟨[], .un, .un, ⟨rfl, fun x hx => by cases hx⟩, rfl⟩, ?_, ?_⟩
    · rintro i d δ' hd ⟨ws, x4, x5, ⟨h1, h2⟩, rfl⟩
      obtain ⟨hi, rfl⟩ := rng_get hd
      refine dg_name (by decide) ?_
      refine ds_let (T := fun d => ∃ a : Nat, d = nD a ∧ a < pl.ports.length) ((dn_pick S rfl (m := (pl.ports.length : Int)) (De.eq (de_lenTK (de_ports (de_var rfl))) (by rw [List.length_map])) (by have := hB.p0; omega) (by omega)).imp fun d hd => ?_) fun d hd => ?_
      · obtain ⟨r, rfl, r0, r1⟩ := hd
        refine ⟨r.toNat, ?_, by omega⟩
        show Dt.int r = Dt.int _
        congr 1
        omega
      obtain ⟨a, rfl, ha⟩ := hd
      obtain ⟨port, hport⟩ : ∃ port, pl.ports[a]? = some port := ⟨_, List.getElem?_eq_getElem ha⟩
      obtain ⟨q1, q2, q3, q4, q5⟩ := hB.pW port (List.mem_of_getElem? hport)
      refine ds_append (i := 3) rfl (T := fun d => ∃ (l : Str) (k : Nat), d = wrD (a, l, k) ∧ l ∈ port.2 ∧ k < known) (dn_tup (S := fun ds => ∃ (l : Str) (k : Nat), ds = [nD a, .str l, nD k] ∧ l ∈ port.2 ∧ k < known) (da_cons (P := (· = nD a)) (S := fun ds => ∃ (l : Str) (k : Nat), ds = [.str l, nD k] ∧ l ∈ port.2 ∧ k < known) (de_var rfl)
        (da_cons (P := IsS (· ∈ port.2)) (S := fun ds => ∃ k : Nat, ds = [nD k] ∧ k < known) (dn_callS S rfl (da_consE (de_ixT (d := strsL port.2) (de_ixTn (i := a) (d := portD port) (de_ports (de_var rfl)) (de_var rfl) (by rw [List.getElem?_map, hport]; rfl)) de_int rfl) da_nil) fun xs e => ⟨(kL, port.2.map Dt.str), e, ⟨skOk_L, by simpa using q2, by simp; omega⟩, fun d hd => ?_⟩)
          (da_cons (P := fun d => ∃ k : Nat, d = nD k ∧ k < known) (S := (· = [])) ((dn_pick S rfl (m := (known : Int)) (de_var rfl) (by omega) (by omega)).imp fun d hd => ?_) da_nil fun d ds hd hds => ?_) fun d ds hd hds => ?_) fun d ds hd hds => ?_) (fun ds hd => ?_) fun ds hd => ?_) (by rw [List.length_map]; omega) fun d hd => ?_
      · obtain ⟨l, hl, rfl⟩ := List.mem_map.mp hd
        exact ⟨l, rfl, hl⟩
      · obtain ⟨r, rfl, r0, r1⟩ := hd
        refine ⟨r.toNat, ?_, by omega⟩
        show Dt.int r = Dt.int _
        congr 1
        omega
      · obtain ⟨k, rfl, hk⟩ := hd
        exact ⟨k, by rw [hds], hk⟩
      · obtain ⟨l, rfl, hl⟩ := hd
        obtain ⟨k, rfl, hk⟩ := hds
        exact ⟨l, k, rfl, hl, hk⟩
      · subst hd
        obtain ⟨l, k, rfl, hl⟩ := hds
        exact ⟨l, k, rfl, hl⟩
      · obtain ⟨l, k, rfl, _⟩ := hd
        show 3 ≤ 10000000
        decide
      · obtain ⟨l, k, rfl, h⟩ := hd
        exact ⟨l, k, rfl, h⟩
      · obtain ⟨l, k, rfl, hl, hk⟩ := hd
        refine ⟨ws ++ [(a, l, k)], .dat (nD i), .dat (nD a), ⟨by rw [List.length_append, h1]; rfl, fun x hx => ?_⟩, by rw [List.map_append]; rfl⟩
        rcases List.mem_append.mp hx with hx | hx
        · exact h2 x hx
        · rw [List.mem_singleton.mp hx]
          exact ⟨port, hport, hl, hk⟩
    · rintro δ' ⟨ws, x4, x5, ⟨h1, h2⟩, rfl⟩
      rw [rngD_len] at h1
      exact ⟨ws, x4, x5, ⟨by omega, h2⟩, rfl⟩
  · rintro δ' ⟨ws, x4, x5, ⟨h1, h2⟩, rfl⟩
    refine ds_freeze (i := 3) rfl ?_
    exact ds_retE (de_tupleOfLK (de_var rfl)) ⟨ws, rfl, h1, h2⟩
/-! ### a drawn row -/
abbrev spDrawn : Sp := spS (fun a : Plan × Cell => [planD a.1, cellD a.2]) (fun a => PlanB a.1 ∧ a.2.1 < a.1.modes.length ∧ a.2.2.2 < 2 * cntOf a.1.modes a.2.1 + 1) fun a d => ∃ r : Row, d = rowD r ∧ RowOk a.1 (knownOf a.1.modes a.2) r
theorem ok__law_drawn_row {f f2 f3 f4 f5 f6 : Addr} {fd fd2 fd3 fd4 fd5 fd6 : FuncData} (F : Fun K "_law_drawn_row" "_law_drawn_row" s__law_drawn_row f fd) (k__law_pick : Kn K mg "_law_pick" s__law_pick ["source", "many"] f2 fd2) (k__law_worded : Kn K mg "_law_worded" s__law_worded ["source", "words"] f3 fd3)
    (k__law_known : Kn K mg "_law_known" s__law_known ["plan", "cell"] f4 fd4) (k__law_some : Kn K mg "_law_some" s__law_some ["source", "known", "count"] f5 fd5) (k__law_writes : Kn K mg "_law_writes" s__law_writes ["source", "plan", "known"] f6 fd6) (m_int : mg "int" = none) (m_len : mg "len" = none) (m_range : mg "range" = none) (m_tuple : mg "tuple" = none) : FnOk P w K mg base CX0 4 f fd ["source", "plan", "cell"] spDrawn := by
  have nd := sc__law_drawn_row.nd
  have G__law_worded : FnOk P w K mg base CX0 2 f3 fd3 ["source", "words"] (spWorded K) := ok__law_worded k__law_worded.F k__law_pick m_int m_len
  have G__law_known : FnOk P w K mg base CX0 1 f4 fd4 ["plan", "cell"] spKnown := ok__law_known k__law_known.F
  have G__law_some : FnOk P w K mg base CX0 2 f5 fd5 ["source", "known", "count"] spSome := ok__law_some k__law_some.F k__law_pick m_int m_len m_range m_tuple
  have G__law_writes : FnOk P w K mg base CX0 3 f6 fd6 ["source", "plan", "known"] spWrites := ok__law_writes k__law_writes.F k__law_pick k__law_worded m_int m_len m_range m_tuple
  refine F.ok sc__law_drawn_row (fun vs H Q E h => spS_len (fun _ => rfl) h) (fun cdv A outer s H vs Q E hr h => ⟨_, (pss_cons (ps_set (i := 3) nd rfl (by first | exact Or.inl rfl | exact Or.inr rfl) (pe_call G__law_known (hr.mono (by decide)) (by rfl) k__law_known.g k__law_known.F.kp k__law_known.b .nil pass0 (pa_cons (pv 1) (pa_cons (pv 2) pa_nil))))
      (pss_cons (ps_set (i := 4) nd rfl (by first | exact Or.inl rfl | exact Or.inr rfl) (pe_call G__law_worded (hr.mono (by decide)) (by rfl) k__law_worded.g k__law_worded.F.kp k__law_worded.b .nil pass0 (pa_cons (pv 0) (pa_cons (pe_lc (own := [("k", 5)]) (g := gName 5) rfl nd (pi_range1 rfl m_range (pa_cons (pe_callB (call_lenK (K := K) rfl) (by rfl) m_len PySem.boot_len (pa_cons (pe_ix (ix_listK (K := K) rfl) (pv 1) pe_int (fun _ _ => rfl)) pa_nil)) pa_nil)) (by refine blkOk_by ?_; show blkC N__law_drawn_row (defScope s__law_drawn_row) _ _ = true; decide +kernel) (fun _ _ _ _ _ => (pg_name (i := 5) nd rfl (by first | exact Or.inl rfl | exact Or.inr rfl))) (fun _ _ _ _ _ => pts_one (pt_cmpR op_le (pe_ix (ix_tupK (K := K) rfl) (pe_ix (ix_tupK (K := K) rfl) (pe_ix (ix_listK (K := K) rfl) (pv 1) pe_int (fun _ _ => rfl)) (pv 5) (fun _ _ => rfl)) pe_int (fun _ _ => rfl)) (pv 3) (nomark _))) (fun _ _ _ _ _ => (pv 5))) pa_nil))))
      (pss_one (ps_ret (pe_tup (pa_cons (pv 4) (pa_cons (pe_call G__law_some (hr.mono (by decide)) (by rfl) k__law_some.g k__law_some.F.kp k__law_some.b .nil pass0 (pa_cons (pv 0) (pa_cons (pv 3) (pa_cons (pe_ix (ix_tupK (K := K) rfl) (pe_ix (ix_tupK (K := K) rfl) (pe_ix (ix_listK (K := K) rfl) (pv 1) pe_int (fun _ _ => rfl)) (pv 4) (fun _ _ => rfl)) pe_int (fun _ _ => rfl)) pa_nil)))) (pa_cons (pe_call G__law_writes (hr.mono (by decide)) (by rfl) k__law_writes.g k__law_writes.F.kp k__law_writes.b .nil pass0 (pa_cons (pv 0) (pa_cons (pv 1) (pa_cons (pv 3) pa_nil)))) pa_nil)))))))) , ?_⟩)
  refine ok_bodyS (fun p a => [.raw (.ref p), .dat (planD a.1), .dat (cellD a.2), .un, .un, .un]) h (fun _ => by show 3 ≤ 6; decide) (fun _ _ => rfl) fun c p a S hp => ?_
  obtain ⟨pl, cell⟩ := a
  obtain ⟨hB, hm, hq⟩ : PlanB pl ∧ cell.1 < pl.modes.length ∧ cell.2.2 < 2 * cntOf pl.modes cell.1 + 1 := hp
  have hc3 := cnt_le hB
  have hk1 : 0 < knownOf pl.modes cell := by unfold knownOf; omega
  have hk4 : knownOf pl.modes cell ≤ 4 := by unfold knownOf; have := hc3 cell.1; omega
  refine ds_letE (de_callT (A := fun a : Plan × Cell => [planD a.1, cellD a.2]) (f := fun a => nD (knownOf a.1.modes a.2)) (pl, cell) (da_consE (de_var rfl) (da_consE (de_var rfl) da_nil)) hm) ?_
  have hm16 := hB.m16
  refine ds_let (T := fun d => ∃ t : Nat, d = nD t ∧ t < pl.modes.length ∧ cntOf pl.modes t ≤ knownOf pl.modes cell) (dn_callS S rfl (da_consE (Dl.de (dl_lcFilter (fun d => match d with
    | .int k => decide (cntOf pl.modes k.toNat ≤ knownOf pl.modes cell)
    | _ => false) (fun d => d) (di_rng1E (n := (pl.modes.length : Int)) (De.eq (de_lenTK (de_modes (de_var rfl))) (by rw [List.length_map])) (by omega) (by omega)) (by rw [rngD_len]; omega) fun d hd => ?_)) da_nil) fun xs e => ⟨(.lst, _), e, ⟨skOk_lst, ?_, ?_⟩, fun d hd => ?_⟩) fun d hd => ?_
  · obtain ⟨k, hk⟩ := List.mem_iff_getElem?.mp hd
    obtain ⟨hk, rfl⟩ := rng_get hk
    refine dg_name (by decide) ⟨dt_testE (De.eq (de_cmp (f := fun i j => decide (i ≤ j)) (de_cnt (m := k) (de_modes (de_var rfl)) (de_var rfl) (by show k < pl.modes.length; omega)) (de_var rfl)) ?_), fun _ => de_var rfl⟩
    show Dt.bl (decide ((cntOf pl.modes k : Int) ≤ (knownOf pl.modes cell : Int))) = Dt.bl (decide (cntOf pl.modes ((k : Int)).toNat ≤ knownOf pl.modes cell))
    rw [Int.toNat_natCast]
    congr 1
    simp
  · rw [List.map_id']
    refine List.length_pos_of_mem (a := nD 0) (List.mem_filter.mpr ⟨List.mem_of_getElem? (i := 0) ?_, ?_⟩)
    · rw [rngD_get (by have := hB.m0; omega)]; rfl
    · show decide (cntOf pl.modes ((0 : Nat) : Int).toNat ≤ knownOf pl.modes cell) = true
      rw [Int.toNat_natCast, hB.mF]
      simp
  · rw [List.map_id']
    exact Nat.lt_of_le_of_lt (List.length_filter_le _ _) (by rw [rngD_len]; omega)
  · have hd : d ∈ List.map (fun d => d) (List.filter _ _) := hd
    rw [List.map_id'] at hd
    obtain ⟨h1, h2⟩ := List.mem_filter.mp hd
    obtain ⟨k, hk⟩ := List.mem_iff_getElem?.mp h1
    obtain ⟨hk, rfl⟩ := rng_get hk
    refine ⟨k, rfl, by omega, ?_⟩
    have h2 : decide (cntOf pl.modes ((k : Int)).toNat ≤ knownOf pl.modes cell) = true := h2
    rw [Int.toNat_natCast] at h2
    exact of_decide_eq_true h2
  obtain ⟨t, rfl, ht1, ht2⟩ := hd
  refine ds_ret (T := fun d => ∃ r : Row, d = rowD r ∧ RowOk pl (knownOf pl.modes cell) r) (dn_tup (S := fun ds => ∃ (ks : List Nat) (ws : List Wr), ds = [nD t, .tup (ks.map nD), .tup (ws.map wrD)] ∧ RowOk pl (knownOf pl.modes cell) (t, ks, ws))
    (da_cons (P := (· = nD t)) (S := fun ds => ∃ (ks : List Nat) (ws : List Wr), ds = [.tup (ks.map nD), .tup (ws.map wrD)] ∧ RowOk pl (knownOf pl.modes cell) (t, ks, ws)) (de_var rfl)
      (da_cons (P := fun d => ∃ ks : List Nat, d = .tup (ks.map nD) ∧ ks.length = cntOf pl.modes t ∧ ks.Pairwise (· < ·) ∧ ∀ k ∈ ks, k < knownOf pl.modes cell) (S := fun ds => ∃ ws : List Wr, ds = [.tup (ws.map wrD)] ∧ ws.length ≤ 4 ∧ ∀ x ∈ ws, ∃ port, pl.ports[x.1]? = some port ∧ x.2.1 ∈ port.2 ∧ x.2.2 < knownOf pl.modes cell)
        (dn_callS S rfl (da_consE (de_var rfl) (da_consE (de_cnt (m := t) (de_modes (de_var rfl)) (de_var rfl) ht1) da_nil)) fun xs e => ⟨(knownOf pl.modes cell, cntOf pl.modes t), e, ⟨ht2, by show knownOf pl.modes cell ≤ 100; omega⟩, fun d hd => hd⟩)
        (da_cons (P := fun d => ∃ ws : List Wr, d = .tup (ws.map wrD) ∧ ws.length ≤ 4 ∧ ∀ x ∈ ws, ∃ port, pl.ports[x.1]? = some port ∧ x.2.1 ∈ port.2 ∧ x.2.2 < knownOf pl.modes cell) (S := (· = [])) (dn_callS S rfl (da_consE (de_var rfl) (da_consE (de_var rfl) da_nil)) fun xs e => ⟨(pl, knownOf pl.modes cell), e, ⟨hB, hk1, by show knownOf pl.modes cell ≤ 100; omega⟩, fun d hd => hd⟩) da_nil fun d ds hd hds => ?_) fun d ds hd hds => ?_) fun d ds hd hds => ?_) (fun ds hd => ?_) fun ds hd => ?_) fun d h => h
  · obtain ⟨ws, rfl, h⟩ := hd
    exact ⟨ws, by rw [hds], h⟩
  · obtain ⟨ks, rfl, h1, h2, h3⟩ := hd
    obtain ⟨ws, rfl, h4, h5⟩ := hds
    exact ⟨ks, ws, rfl, ⟨ht1, ht2, h1, h2, h3, h4, h5⟩⟩
  · subst hd
    obtain ⟨ks, ws, rfl, h⟩ := hds
    exact ⟨ks, ws, rfl, h⟩
  · obtain ⟨ks, ws, rfl, h⟩ := hd
    show 3 ≤ 10000000
    decide
  · obtain ⟨ks, ws, rfl, h⟩ := hd
    exact ⟨(t, ks, ws), rfl, h⟩
end
end K30

set_option Elab.async false
set_option maxRecDepth 100000
set_option maxHeartbeats 4000000
namespace K30
open PySem L2 StX Zd
structure PortsOk (ps : List Port) : Prop where
  p0 : 0 < ps.length
  p3 : ps.length ≤ 3
  pN : (ps.map (·.1)).Nodup
  pW : ∀ x ∈ ps, Wd false x.1 ∧ 0 < x.2.length ∧ x.2.length ≤ 4 ∧ x.2.Nodup ∧ ∀ w ∈ x.2, Wd false w
  f2 : ∀ q, ps[0]? = some q → q.2.length = 2
theorem PortsOk.take {ps : List Port} (h : PortsOk ps) {n : Nat} (h0 : 0 < n) : PortsOk (ps.take n) where
  p0 := by rw [List.length_take]; have := h.p0; omega
  p3 := by rw [List.length_take]; have := h.p3; omega
  pN := by rw [List.map_take]; exact h.pN.sublist (List.take_sublist _ _)
  pW := fun x hx => h.pW x (List.mem_of_mem_take hx)
  f2 := fun q hq => h.f2 q (by rwa [List.getElem?_take_of_lt h0] at hq)
theorem Words.take {e : Bool} {n m : Nat} {ws : List Str} (h : Words e n ws) : Words e (min m n) (ws.take m) where
  len := by rw [List.length_take, h.len]
  nd := h.nd.sublist (List.take_sublist _ _)
  ok := fun w hw => h.ok w (List.mem_of_mem_take hw)
theorem ports_of {t0 t1 t2 : Str} {fs ss ls : List Str} (ht : Words false 3 [t0, t1, t2]) (hf : Words false 2 fs) (hs : Words false 2 ss) (hl : Words false 4 ls) : PortsOk [(t0, fs), (t1, ss), (t2, ls)] where
  p0 := Nat.succ_pos _
  p3 := Nat.le_refl 3
  pN := ht.nd
  pW := fun x hx => by
    simp only [List.mem_cons, List.not_mem_nil, or_false] at hx
    rcases hx with rfl | rfl | rfl
    · exact ⟨ht.ok _ (by simp), by rw [hf.len]; decide, by rw [hf.len]; decide, hf.nd, hf.ok⟩
    · exact ⟨ht.ok _ (by simp), by rw [hs.len]; decide, by rw [hs.len]; decide, hs.nd, hs.ok⟩
    · exact ⟨ht.ok _ (by simp), by rw [hl.len]; decide, by rw [hl.len]; decide, hl.nd, hl.ok⟩
  f2 := fun q hq => by cases hq; exact hf.len
theorem endB_no : endB "" = false := by decide +kernel
theorem endB_yes : endB "0123456789" = true := by decide +kernel
structure PlanOk (pl : Plan) : Prop where
  base : PlanB pl
  rc : (pl.rows.map (·.1)).Sublist (cellsL pl.names.length pl.modes)
  ro : ∀ x ∈ pl.rows, RowOk pl (knownOf pl.modes x.1) x.2
  f2 : ∀ q, pl.ports[0]? = some q → q.2.length = 2
  m16 : pl.modes.length ≤ 16
  mN : (pl.modes.map (·.1)).Nodup
abbrev spPlan : Sp := spS (fun w : Nat => [nD w]) (fun w => w ≤ 1) fun _ d => ∃ pl, d = planD pl ∧ PlanOk pl
def cntL (w : Nat) : List Dt := if w = 0 then [.int 1, .int 1, .int 2, .int 1] else [.int 1, .int 2, .int 3, .int 4]
section
variable {P : Program} {w : World} {K : PySem.W.Frag} {mg : Str → Option Value} {base : Heap}
variable {c : Bs} {δ : Fe} {te ta tb : TE}
/-- so many words -/
theorem dn_named {fr : Bool} {E : XK} {p : Addr} {A : Nat → Prop} {e : Str} (S : SrcC c p) (h : δ[0]? = some (.raw (.ref p))) (hn : Dn c ta δ (fun d => ∃ n : Nat, d = nD n ∧ A n)) (he : De c tb δ (.str e)) (hA : ∀ n, A n → n ≤ 16) (ho : endsOk e) :
    Dn c (tCall (spNamed fr) [] E (tCons (tVar 0) (tCons ta (tCons tb tNil)))) δ (fun d => ∃ n ws, d = strsX fr ws ∧ A n ∧ Words (endB e) n ws) :=
  dn_callS S h (da_cons (P := fun d => ∃ n : Nat, d = nD n ∧ A n) (S := (· = [.str e])) (T := fun ds => ∃ n : Nat, ds = [nD n, .str e] ∧ A n) hn (da_consE he da_nil) fun d ds ⟨n, e1, e2⟩ e3 => ⟨n, by rw [e1, e3], e2⟩) fun xs ⟨n, e1, e2⟩ => ⟨(n, e), e1, ⟨hA n e2, ho⟩, fun d ⟨ws, e3, e4⟩ => ⟨n, ws, e3, e2, e4⟩⟩
theorem dn_namedN {E : XK} {p : Addr} {n : Nat} {e : Str} (S : SrcC c p) (h : δ[0]? = some (.raw (.ref p))) (hn : De c ta δ (nD n)) (he : De c tb δ (.str e)) (hA : n ≤ 16) (ho : endsOk e) :
    Dn c (tCall (spNamed false) [] E (tCons (tVar 0) (tCons ta (tCons tb tNil)))) δ (fun d => ∃ ws, d = strsT ws ∧ Words (endB e) n ws) :=
  (dn_named (fr := false) (A := (· = n)) S h (hn.dn ⟨n, rfl, rfl⟩) he (fun m e => by rw [e]; exact hA) ho).imp fun d ⟨m, ws, e1, e2, e3⟩ => ⟨ws, e1, by rw [← e2]; exact e3⟩
theorem dn_namedL {E : XK} {p : Addr} {n : Nat} {e : Str} (S : SrcC c p) (h : δ[0]? = some (.raw (.ref p))) (hn : De c ta δ (nD n)) (he : De c tb δ (.str e)) (hA : n ≤ 16) (ho : endsOk e) :
    Dn c (tCall (spNamed kLb) [] E (tCons (tVar 0) (tCons ta (tCons tb tNil)))) δ (fun d => ∃ ws, d = strsL ws ∧ Words (endB e) n ws) :=
  (dn_named (fr := kLb) (A := (· = n)) S h (hn.dn ⟨n, rfl, rfl⟩) he (fun m e => by rw [e]; exact hA) ho).imp fun d ⟨m, ws, e1, e2, e3⟩ => ⟨ws, e1, by rw [← e2]; exact e3⟩
theorem de_ixLb {ds : List Dt} {i : Int} {d : Dt} (ha : De c ta δ (.tup ds)) (hb : De c tb δ (.int i)) (h : atI ds i = some d) : De c (tOp (rIxT K) ta tb) δ d := de_ixT ha hb h
theorem de_dispL {tr : TA} {ds : List Dt} (ha : Ds' c tr δ (· = ds)) (hl : ds.length ≤ 10000000 := by first | decide | (simp; done)) : De c (tTup tr) δ (.tup ds) := de_tup ha hl
theorem rv_inSL {b : Bx} {neg : Bool} {z : Str} {ns : List Str} : Rv b (rIn K neg) (.str z) (.tup (ns.map Dt.str)) (· = .bl (if neg then !decide (z ∈ ns) else decide (z ∈ ns))) := rv_inST
theorem isI_nat {P : Int → Prop} {A : Nat → Prop} (h : ∀ r, P r → 0 ≤ r ∧ A r.toNat) {d : Dt} (hd : IsI P d) : ∃ n : Nat, d = nD n ∧ A n := by
  obtain ⟨r, rfl, hr⟩ := hd
  obtain ⟨h0, hA⟩ := h r hr
  refine ⟨r.toNat, ?_, hA⟩
  show Dt.int r = Dt.int _
  rw [Int.toNat_of_nonneg h0]
theorem ok__law_plan {f f2 f3 f4 f5 f6 f7 f8 f9 : Addr} {fd fd2 fd3 fd4 fd5 fd6 fd7 fd8 fd9 : FuncData} (F : Fun K "_law_plan" "_law_plan" s__law_plan f fd) (k__law_pick : Kn K mg "_law_pick" s__law_pick ["source", "many"] f2 fd2) (k__law_worded : Kn K mg "_law_worded" s__law_worded ["source", "words"] f3 fd3)
    (k__law_known : Kn K mg "_law_known" s__law_known ["plan", "cell"] f4 fd4) (k__law_some : Kn K mg "_law_some" s__law_some ["source", "known", "count"] f5 fd5) (k__law_writes : Kn K mg "_law_writes" s__law_writes ["source", "plan", "known"] f6 fd6)
    (k__law_drawn_row : Kn K mg "_law_drawn_row" s__law_drawn_row ["source", "plan", "cell"] f7 fd7) (k__law_named : Kn K mg "_law_named" s__law_named ["source", "count", "ends"] f8 fd8) (k__law_cells : Kn K mg "_law_cells" s__law_cells ["plan"] f9 fd9)
    (m_int : mg "int" = none) (m_len : mg "len" = none) (m_range : mg "range" = none) (m_tuple : mg "tuple" = none) : FnOk P w K mg base CX0 5 f fd ["source", "wide"] spPlan := by
  have nd := sc__law_plan.nd
  have G__law_pick : FnOk P w K mg base CX0 1 f2 fd2 ["source", "many"] spPickS := (ok__law_pick k__law_pick.F m_int).imp pick_S
  have G__law_namedF : FnOk P w K mg base CX0 3 f8 fd8 ["source", "count", "ends"] (spNamed true) := ok__law_named true k__law_named.F k__law_worded k__law_pick m_int m_len m_range m_tuple
  have G__law_named : FnOk P w K mg base CX0 3 f8 fd8 ["source", "count", "ends"] (spNamed false) := ok__law_named false k__law_named.F k__law_worded k__law_pick m_int m_len m_range m_tuple
  have G__law_cells : FnOk P w K mg base CX0 1 f9 fd9 ["plan"] spCells := ok__law_cells k__law_cells.F m_len m_range
  have G__law_drawn_row : FnOk P w K mg base CX0 4 f7 fd7 ["source", "plan", "cell"] spDrawn := ok__law_drawn_row k__law_drawn_row.F k__law_pick k__law_worded k__law_known k__law_some k__law_writes m_int m_len m_range m_tuple
  refine F.ok sc__law_plan (fun vs H Q E h => spS_len (fun _ => rfl) h) (fun cdv A outer s H vs Q E hr h => ⟨_, (pss_cons (ps_set (i := 2) nd rfl (by first | exact Or.inl rfl | exact Or.inr rfl) (pe_call G__law_namedF (hr.mono (by decide)) (by rfl) k__law_named.g k__law_named.F.kp k__law_named.b .nil pass0 (pa_cons (pv 0) (pa_cons (pe_ix (ix_listK (K := K) rfl) (pe_ix (ix_listK (K := K) rfl) (pe_lst (pa_cons (pe_lst (pa_cons pe_int (pa_cons pe_int (pa_cons pe_int (pa_cons pe_int pa_nil))))) (pa_cons (pe_lst (pa_cons pe_int (pa_cons pe_int (pa_cons pe_int (pa_cons pe_int pa_nil))))) pa_nil))) (pv 1) (fun _ _ => rfl)) (pe_call G__law_pick (hr.mono (by decide)) (by rfl) k__law_pick.g k__law_pick.F.kp k__law_pick.b .nil pass0 (pa_cons (pv 0) (pa_cons pe_int pa_nil))) (fun _ _ => rfl)) (pa_cons pe_str pa_nil)))))
      (pss_cons (ps_set (i := 3) nd rfl (by first | exact Or.inl rfl | exact Or.inr rfl) (pe_call G__law_named (hr.mono (by decide)) (by rfl) k__law_named.g k__law_named.F.kp k__law_named.b .nil pass0 (pa_cons (pv 0) (pa_cons pe_int (pa_cons pe_str pa_nil)))))
      (pss_cons (ps_set (i := 4) nd rfl (by first | exact Or.inl rfl | exact Or.inr rfl) (pe_call G__law_named (hr.mono (by decide)) (by rfl) k__law_named.g k__law_named.F.kp k__law_named.b .nil pass0 (pa_cons (pv 0) (pa_cons pe_int (pa_cons pe_str pa_nil)))))
      (pss_cons (ps_set (i := 5) nd rfl (by first | exact Or.inl rfl | exact Or.inr rfl) (pe_call G__law_named (hr.mono (by decide)) (by rfl) k__law_named.g k__law_named.F.kp k__law_named.b .nil pass0 (pa_cons (pv 0) (pa_cons pe_int (pa_cons pe_str pa_nil)))))
      (pss_cons (ps_if (pt_cmpR (op_notIn_seqK (K := K) rfl) (pe_ix (ix_tupK (K := K) rfl) (pv 4) pe_int (fun _ _ => rfl)) (pv 5) (by rfl)) (pss_one (ps_set (i := 5) nd rfl (by first | exact Or.inl rfl | exact Or.inr rfl) (pe_tup (pa_cons (pe_ix (ix_tupK (K := K) rfl) (pv 5) pe_int (fun _ _ => rfl)) (pa_cons (pe_ix (ix_tupK (K := K) rfl) (pv 4) pe_int (fun _ _ => rfl)) pa_nil))))) pss_nil)
      (pss_cons (ps_set (i := 6) nd rfl (by first | exact Or.inl rfl | exact Or.inr rfl) (pe_lst (pa_cons (pe_tup (pa_cons (pe_ix (ix_tupK (K := K) rfl) (pv 3) pe_int (fun _ _ => rfl)) (pa_cons (pv 4) pa_nil))) (pa_cons (pe_tup (pa_cons (pe_ix (ix_tupK (K := K) rfl) (pv 3) pe_int (fun _ _ => rfl)) (pa_cons (pv 5) pa_nil))) (pa_cons (pe_tup (pa_cons (pe_ix (ix_tupK (K := K) rfl) (pv 3) pe_int (fun _ _ => rfl)) (pa_cons (pe_call G__law_named (hr.mono (by decide)) (by rfl) k__law_named.g k__law_named.F.kp k__law_named.b .nil pass0 (pa_cons (pv 0) (pa_cons pe_int (pa_cons pe_str pa_nil)))) pa_nil))) pa_nil)))))
      (pss_cons (ps_set (i := 6) nd rfl (by first | exact Or.inl rfl | exact Or.inr rfl) (pe_slice (sl_listK (K := K) rfl) (pv 6) po_none (po_some (pe_ix (ix_listK (K := K) rfl) (pe_lst (pa_cons pe_int (pa_cons pe_int (pa_cons pe_int (pa_cons (pe_op op_add pe_int (pe_op op_mul pe_int (pv 1))) pa_nil))))) (pe_call G__law_pick (hr.mono (by decide)) (by rfl) k__law_pick.g k__law_pick.F.kp k__law_pick.b .nil pass0 (pa_cons (pv 0) (pa_cons pe_int pa_nil))) (fun _ _ => rfl)))))
      (pss_cons (ps_set (i := 7) nd rfl (by first | exact Or.inl rfl | exact Or.inr rfl) (pe_ix (ix_listK (K := K) rfl) (pe_lst (pa_cons pe_int (pa_cons pe_int (pa_cons pe_int (pa_cons pe_int (pa_cons (pe_op op_add pe_int (pe_op op_mul pe_int (pv 1))) pa_nil)))))) (pe_call G__law_pick (hr.mono (by decide)) (by rfl) k__law_pick.g k__law_pick.F.kp k__law_pick.b .nil pass0 (pa_cons (pv 0) (pa_cons pe_int pa_nil))) (fun _ _ => rfl)))
      (pss_cons (ps_set (i := 8) nd rfl (by first | exact Or.inl rfl | exact Or.inr rfl) (pe_lst (pa_cons pe_int (pa_cons pe_int (pa_cons pe_int (pa_cons pe_int (pa_cons (pe_op op_add pe_int (pv 1)) pa_nil)))))))
      (pss_cons (ps_if (PW.pt (pw_and (pt_cmpR op_eq (pv 1) pe_int (nomark _)) (pw_and1 (pt_cmpR op_eq (pe_call G__law_pick (hr.mono (by decide)) (by rfl) k__law_pick.g k__law_pick.F.kp k__law_pick.b .nil pass0 (pa_cons (pv 0) (pa_cons pe_int pa_nil))) pe_int (nomark _))))) (pss_cons (ps_set (i := 7) nd rfl (by first | exact Or.inl rfl | exact Or.inr rfl) (pe_op op_add pe_int (pe_call G__law_pick (hr.mono (by decide)) (by rfl) k__law_pick.g k__law_pick.F.kp k__law_pick.b .nil pass0 (pa_cons (pv 0) (pa_cons pe_int pa_nil)))))
      (pss_cons (ps_set (i := 8) nd rfl (by first | exact Or.inl rfl | exact Or.inr rfl) (pe_lst (pa_cons pe_int (pa_cons pe_int (pa_cons pe_int (pa_cons pe_int (pa_cons pe_int pa_nil)))))))
      (pss_one (ps_set (i := 2) nd rfl (by first | exact Or.inl rfl | exact Or.inr rfl) (pe_slice (sl_tupFK (K := K) rfl) (pv 2) po_none (po_some pe_int)))))) pss_nil)
      (pss_cons (ps_set (i := 9) nd rfl (by first | exact Or.inl rfl | exact Or.inr rfl) (pe_call G__law_named (hr.mono (by decide)) (by rfl) k__law_named.g k__law_named.F.kp k__law_named.b .nil pass0 (pa_cons (pv 0) (pa_cons (pe_op op_add (pv 7) pe_int) (pa_cons pe_str pa_nil)))))
      (pss_cons (ps_set (i := 10) nd rfl (by first | exact Or.inl rfl | exact Or.inr rfl) (pe_op op_cat (pe_lst (pa_cons (pe_tup (pa_cons (pe_ix (ix_tupK (K := K) rfl) (pv 9) pe_int (fun _ _ => rfl)) (pa_cons pe_int pa_nil))) pa_nil)) (pe_lc (own := [("k", 11)]) (g := gName 11) rfl nd (pi_range1 rfl m_range (pa_cons (pv 7) pa_nil)) (by refine blkOk_by ?_; show blkC N__law_plan (defScope s__law_plan) _ _ = true; decide +kernel) (fun _ _ _ _ _ => (pg_name (i := 11) nd rfl (by first | exact Or.inl rfl | exact Or.inr rfl))) (fun _ _ _ _ _ => pts_nil) (fun _ _ _ _ _ => (pe_tup (pa_cons (pe_ix (ix_tupK (K := K) rfl) (pv 9) (pe_op op_add (pv 11) pe_int) (fun _ _ => rfl)) (pa_cons (pe_ix (ix_listK (K := K) rfl) (pv 8) (pe_call G__law_pick (hr.mono (by decide)) (by rfl) k__law_pick.g k__law_pick.F.kp k__law_pick.b .nil pass0 (pa_cons (pv 0) (pa_cons pe_int pa_nil))) (fun _ _ => rfl)) pa_nil)))))))
      (pss_cons (ps_set (i := 12) nd rfl (by first | exact Or.inl rfl | exact Or.inr rfl) (pe_lst (pa_cons (pe_callTy (call_tuple_ofK (K := K) rfl) (by rfl) m_tuple (by decide +kernel) (pa_cons (pv 2) pa_nil)) (pa_cons (pe_callTy (call_tuple_ofK (K := K) rfl) (by rfl) m_tuple (by decide +kernel) (pa_cons (pv 6) pa_nil)) (pa_cons (pe_callTy (call_tuple_ofK (K := K) rfl) (by rfl) m_tuple (by decide +kernel) (pa_cons (pv 10) pa_nil)) (pa_cons (pe_lst pa_nil) pa_nil))))))
      (pss_cons (ps_set (i := 13) nd rfl (by first | exact Or.inl rfl | exact Or.inr rfl) (pe_lst pa_nil))
      (pss_cons (ps_for PassesOwn.never rfl (pi_listK (K := K) rfl (pe_call G__law_cells (hr.mono (by decide)) (by rfl) k__law_cells.g k__law_cells.F.kp k__law_cells.b .nil pass0 (pa_cons (pv 12) pa_nil))) (pg_name (i := 14) nd rfl (by first | exact Or.inl rfl | exact Or.inr rfl)) (pss_one (ps_if (pt_cmpR op_gt (pe_call G__law_pick (hr.mono (by decide)) (by rfl) k__law_pick.g k__law_pick.F.kp k__law_pick.b .nil pass0 (pa_cons (pv 0) (pa_cons pe_int pa_nil))) pe_int (nomark _)) (pss_one (ps_expr (pe_bm PySem.F.plainAttrs_list PySem.F.slot_list_append PySem.F.type_list_append mt_append (pv 13) (pa_cons (pe_tup (pa_cons (pv 14) (pa_cons (pe_call G__law_drawn_row (hr.mono (by decide)) (by rfl) k__law_drawn_row.g k__law_drawn_row.F.kp k__law_drawn_row.b .nil pass0 (pa_cons (pv 0) (pa_cons (pv 12) (pa_cons (pv 14) pa_nil)))) pa_nil))) pa_nil)))) pss_nil)))
      (pss_one (ps_ret (pe_lst (pa_cons (pe_ix (ix_listK (K := K) rfl) (pv 12) pe_int (fun _ _ => rfl)) (pa_cons (pe_ix (ix_listK (K := K) rfl) (pv 12) pe_int (fun _ _ => rfl)) (pa_cons (pe_ix (ix_listK (K := K) rfl) (pv 12) pe_int (fun _ _ => rfl)) (pa_cons (pv 13) pa_nil)))))))))))))))))))))) , ?_⟩)
  refine ok_bodyS (fun p w => [.raw (.ref p), .dat (nD w), .un, .un, .un, .un, .un, .un, .un, .un, .un, .un, .un, .un, .un]) h (fun _ => by show 2 ≤ 15; decide) (fun _ _ => rfl) fun c p wide S hp => ?_
  have hw : wide = 0 ∨ wide = 1 := by have hp : wide ≤ 1 := hp; omega
  -- names
  have hcl : (cntL wide).length = 4 := by rcases hw with rfl | rfl <;> rfl
  have hcx : ∀ x ∈ cntL wide, IsI (fun r => 1 ≤ r ∧ r ≤ 4) x := fun x hx => by
    rcases hw with rfl | rfl
    all_goals
      simp only [cntL, if_true, if_neg Nat.one_ne_zero, List.mem_cons, List.not_mem_nil, or_false] at hx
      rcases hx with rfl | rfl | rfl | rfl <;> exact ⟨_, rfl, by decide⟩
  refine ds_let (T := fun d => ∃ n ws, d = strsF ws ∧ (0 < n ∧ n ≤ 4) ∧ Words false n ws) ((dn_named (fr := true) (A := fun n => 0 < n ∧ n ≤ 4) (e := "") S rfl ((dn_ixL (xs := cntL wide) (R := IsI fun r => 1 ≤ r ∧ r ≤ 4) (de_ixLn (i := wide) (de_lst (da_consE (de_lst (da_consE de_int (da_consE de_int (da_consE de_int (da_consE de_int da_nil))))) (da_consE (de_lst (da_consE de_int (da_consE de_int (da_consE de_int (da_consE de_int da_nil))))) da_nil))) (de_var rfl) (by rcases hw with rfl | rfl <;> rfl)) ((dn_pick S rfl de_int (by decide) (by decide)).imp fun d ⟨r, e, h1, h2⟩ => ⟨r, e, h1, by rw [hcl]; exact h2⟩) hcx).imp fun d hd => isI_nat (A := fun n => 0 < n ∧ n ≤ 4) (fun r hr => ⟨by omega, by omega, by omega⟩) hd) de_str (fun n h => by omega) (.inl rfl)).imp fun d hd => by rw [endB_no] at hd; exact hd) fun d hd => ?_
  obtain ⟨n0, nms, rfl, hn0, hnms⟩ := hd
  -- told, first, second
  refine ds_let (T := fun d => ∃ ws, d = strsT ws ∧ Words false 3 ws) ((dn_namedN (n := 3) (e := "") S rfl de_int de_str (by decide) (.inl rfl)).imp fun d hd => by rw [endB_no] at hd; exact hd) fun d hd => ?_
  obtain ⟨told, rfl, ht⟩ := hd
  obtain ⟨t0, t1, t2, rfl⟩ : ∃ t0 t1 t2, told = [t0, t1, t2] := by
    have := ht.len
    match told, this with
    | [a, b, c], _ => exact ⟨a, b, c, rfl⟩
  refine ds_let (T := fun d => ∃ ws, d = strsL ws ∧ Words false 2 ws) ((dn_namedL (n := 2) (e := "") S rfl de_int de_str (by decide) (.inl rfl)).imp fun d hd => by rw [endB_no] at hd; exact hd) fun d hd => ?_
  obtain ⟨first, rfl, hf⟩ := hd
  obtain ⟨f0, f1, rfl⟩ : ∃ f0 f1, first = [f0, f1] := by
    have := hf.len
    match first, this with
    | [a, b], _ => exact ⟨a, b, rfl⟩
  refine ds_let (T := fun d => ∃ ws, d = strsL ws ∧ Words false 2 ws) ((dn_namedL (n := 2) (e := "") S rfl de_int de_str (by decide) (.inl rfl)).imp fun d hd => by rw [endB_no] at hd; exact hd) fun d hd => ?_
  obtain ⟨second, rfl, hs⟩ := hd
  obtain ⟨s0, s1, rfl⟩ : ∃ s0 s1, second = [s0, s1] := by
    have := hs.len
    match second, this with
    | [a, b], _ => exact ⟨a, b, rfl⟩
  refine ds_seq (M := fun δ' => ∃ ss, Words false 2 ss ∧ δ' = [.raw (.ref p), .dat (nD wide), .dat (strsF nms), .dat (strsT [t0, t1, t2]), .dat (strsL [f0, f1]), .dat (strsL ss), .un, .un, .un, .un, .un, .un, .un, .un, .un]) (ds_ifE (k := !decide (f1 ∈ [s0, s1])) (dt_testE (de_op (de_ixLb (d := .str f1) (de_var rfl) de_int rfl) (de_var rfl) rv_inSL)) (fun hk => ?_) (fun _ => ds_next ⟨[s0, s1], hs, rfl⟩)) ?_
  · have hnin : f1 ∉ [s0, s1] := by simpa using hk
    refine ds_set (T := (· = strsL [s0, f1])) (de_dispL (da_consE (de_ixLb (d := .str s0) (de_var rfl) de_int rfl) (da_consE (de_ixLb (d := .str f1) (de_var rfl) de_int rfl) da_nil))) fun d e => ?_
    subst e
    refine ⟨[s0, f1], ⟨rfl, ?_, fun w hw => ?_⟩, rfl⟩
    · refine List.nodup_cons.mpr ⟨fun h => hnin ?_, by simp⟩
      rw [← List.mem_singleton.mp h]
      exact List.mem_cons_self
    · simp only [List.mem_cons, List.not_mem_nil, or_false] at hw
      rcases hw with rfl | rfl
      · exact hs.ok _ (by simp)
      · exact hf.ok _ (by simp)
  rintro δ' ⟨ss, hss, rfl⟩
  -- ports
  refine ds_let (T := fun d => ∃ ps, d = .lst (ps.map portD) ∧ ps.length = 3 ∧ PortsOk ps) (Dl.dn (dl_lst (S := fun ds => ∃ ps : List Port, ds = ps.map portD ∧ ps.length = 3 ∧ PortsOk ps) (da_cons (P := (· = portD (t0, [f0, f1]))) (S := fun ds => ∃ ls, ds = [portD (t1, ss), portD (t2, ls)] ∧ Words false 4 ls) (de_tup (da_consE (de_ixT (d := .str t0) (de_var rfl) de_int rfl) (da_consE (de_var rfl) da_nil)))
    (da_cons (P := (· = portD (t1, ss))) (S := fun ds => ∃ ls, ds = [portD (t2, ls)] ∧ Words false 4 ls) (de_tup (da_consE (de_ixT (d := .str t1) (de_var rfl) de_int rfl) (da_consE (de_var rfl) da_nil)))
      (da_cons (P := fun d => ∃ ls, d = portD (t2, ls) ∧ Words false 4 ls) (S := (· = [])) (dn_tup (S := fun ds => ∃ ls, ds = [.str t2, strsL ls] ∧ Words false 4 ls) (da_cons (P := (· = .str t2)) (S := fun ds => ∃ ls, ds = [strsL ls] ∧ Words false 4 ls) (de_ixT (d := .str t2) (de_var rfl) de_int rfl)
        (da_cons (P := fun d => ∃ ls, d = strsL ls ∧ Words false 4 ls) (S := (· = [])) ((dn_namedL (n := 4) (e := "") S rfl de_int de_str (by decide) (.inl rfl)).imp fun d hd => by rw [endB_no] at hd; exact hd) da_nil fun d ds ⟨ls, e1, e2⟩ e3 => ⟨ls, by rw [e1, e3], e2⟩) fun d ds e0 ⟨ls, e1, e2⟩ => ⟨ls, by rw [e0, e1], e2⟩) (fun ds ⟨ls, e1, e2⟩ => by rw [e1]; show 2 ≤ 10000000; decide) fun ds ⟨ls, e1, e2⟩ => ⟨ls, by rw [e1]; rfl, e2⟩) da_nil fun d ds ⟨ls, e1, e2⟩ e3 => ⟨ls, by rw [e1, e3], e2⟩) fun d ds e0 ⟨ls, e1, e2⟩ => ⟨ls, by rw [e0, e1], e2⟩)
    fun d ds e0 ⟨ls, e1, e2⟩ => ⟨[(t0, [f0, f1]), (t1, ss), (t2, ls)], by rw [e0, e1]; rfl, rfl, ports_of ht hf hss e2⟩) fun ds ⟨ps, e1, e2, _⟩ => by rw [e1, List.length_map, e2]; decide) fun ds ⟨ps, e1, e2⟩ => ⟨ps, by rw [e1], e2⟩) fun d hd => ?_
  obtain ⟨ps3, rfl, hps3, hpo3⟩ := hd
  refine ds_let (T := fun d => ∃ ps, d = .lst (ps.map portD) ∧ PortsOk ps) (Dl.dn (dl_sl (P := (· = none)) (R := fun o => ∃ n : Nat, o = some (n : Int) ∧ 0 < n) (de_var rfl) dp_none (dp_some (dn_ixL (R := IsI fun r => 1 ≤ r) (xs := [.int 1, .int 1, .int 2, .int (1 + 2 * (wide : Int))]) (de_lst (da_consE de_int (da_consE de_int (da_consE de_int (da_consE (de_add de_int (de_mulL de_int (de_var rfl) (by decide))) da_nil))))) (dn_pick S rfl de_int (by show (0 : Int) < ((4 : Nat) : Int); decide) (by show ((4 : Nat) : Int) < 1000000000; decide)) fun x hx => ?_) fun d hd => ?_)) fun ds hd => ?_) fun d hd => ?_
  · simp only [List.mem_cons, List.not_mem_nil, or_false] at hx
    rcases hx with rfl | rfl | rfl | rfl <;> exact ⟨_, rfl, by omega⟩
  · obtain ⟨r, rfl, h⟩ := hd
    exact ⟨r, rfl, r.toNat, by rw [Int.toNat_of_nonneg (by omega)], by omega⟩
  · obtain ⟨lo, hi, rfl, ⟨n, rfl, hn⟩, rfl⟩ := hd
    exact ⟨ps3.take n, by rw [cutD_take, ← List.map_take], hpo3.take hn⟩
  obtain ⟨ps, rfl, hpo⟩ := hd
  -- count, counts
  refine ds_let (T := fun d => ∃ n : Nat, d = nD n ∧ n ≤ 4) ((dn_ixL (R := IsI fun r => 0 ≤ r ∧ r ≤ 4) (xs := [.int 0, .int 1, .int 1, .int 2, .int (2 + 2 * (wide : Int))]) (de_lst (da_consE de_int (da_consE de_int (da_consE de_int (da_consE de_int (da_consE (de_add de_int (de_mulL de_int (de_var rfl) (by decide))) da_nil)))))) (dn_pick S rfl de_int (by show (0 : Int) < ((5 : Nat) : Int); decide) (by show ((5 : Nat) : Int) < 1000000000; decide)) fun x hx => ?_).imp fun d hd => isI_nat (A := fun n => n ≤ 4) (fun r hr => ⟨by omega, by omega⟩) hd) fun d hd => ?_
  · simp only [List.mem_cons, List.not_mem_nil, or_false] at hx
    rcases hx with rfl | rfl | rfl | rfl | rfl <;> exact ⟨_, rfl, by omega⟩
  obtain ⟨cnt0, rfl, hcnt0⟩ := hd
  refine ds_letE (d := .lst (([0, 1, 1, 2, 2 + wide] : List Nat).map nD)) (de_lst (da_consE de_int (da_consE de_int (da_consE de_int (da_consE de_int (da_consE (De.eq (de_add de_int (de_var rfl)) (by rfl)) da_nil)))))) ?_
  refine ds_seq (M := fun δ' => ∃ n ws k cs, (0 < n ∧ n ≤ 4) ∧ Words false n ws ∧ k ≤ 15 ∧ (cs.length = 5 ∧ ∀ x ∈ cs, x ≤ 3) ∧ δ' = [.raw (.ref p), .dat (nD wide), .dat (strsF ws), .dat (strsT [t0, t1, t2]), .dat (strsL [f0, f1]), .dat (strsL ss), .dat (.lst (ps.map portD)), .dat (nD k), .dat (.lst ((cs : List Nat).map nD)), .un, .un, .un, .un, .un, .un]) (ds_if (dt_any (dt_andP (A := fun _ => True) (B := fun _ => True) (dt_any (dt_testE (de_op (de_var rfl) de_int rv_eqI))) fun _ => dt_any (dt_testB (dn_eqI (dn_pick S rfl de_int (by decide) (by decide)) de_int)))) (fun _ => ?_) (fun _ => ds_next ⟨n0, nms, cnt0, [0, 1, 1, 2, 2 + wide], hn0, hnms, by omega, ⟨rfl, fun x hx => ?_⟩, rfl⟩)) ?_
  · refine ds_let (T := fun d => ∃ n : Nat, d = nD n ∧ n ≤ 15) ((dn_addI (A := (· = 5)) (B := fun r => 0 ≤ r ∧ r < 11) (R := fun r => 0 ≤ r ∧ r ≤ 15) (de_int.isI rfl) (dn_pick S rfl de_int (by decide) (by decide)) fun i j hi hj => by omega).imp fun d hd => isI_nat (A := fun n => n ≤ 15) (fun r hr => ⟨by omega, by omega⟩) hd) fun d hd => ?_
    obtain ⟨k, rfl, hk⟩ := hd
    refine ds_letE (d := .lst (([0, 1, 1, 0, 1] : List Nat).map nD)) (de_lst (da_consE de_int (da_consE de_int (da_consE de_int (da_consE de_int (da_consE de_int da_nil)))))) ?_
    refine ds_set (T := (· = strsF (nms.take 2))) (dn_slF (A := (· = none)) (B := (· = some ((2 : Nat) : Int))) (de_var rfl) dp_none (dp_someE de_int) fun lo hi e1 e2 => by rw [e1, e2, cutD_take, ← List.map_take]) fun d e => ?_
    subst e
    refine ⟨_, nms.take 2, k, [0, 1, 1, 0, 1], ?_, hnms.take, hk, ⟨rfl, fun x hx => ?_⟩, rfl⟩
    · omega
    · simp only [List.mem_cons, List.not_mem_nil, or_false] at hx
      omega
  · simp only [List.mem_cons, List.not_mem_nil, or_false] at hx
    omega
  rintro δ' ⟨n, names, k, cs, hn, hnm, hk, ⟨hcs, hcs3⟩, rfl⟩
  -- words, modes
  refine ds_let (T := fun d => ∃ ws, d = strsT ws ∧ Words true (k + 1) ws) ((dn_namedN (n := k + 1) (e := "0123456789") S rfl (De.eq (de_add (de_var rfl) de_int) (by rfl)) de_str (by omega) (.inr rfl)).imp fun d hd => by rw [endB_yes] at hd; exact hd) fun d hd => ?_
  obtain ⟨ws, rfl, hws⟩ := hd
  have hwl := hws.len
  obtain ⟨w0, wr, rfl⟩ : ∃ w0 wr, ws = w0 :: wr := by
    match ws, hwl with
    | a :: b, _ => exact ⟨a, b, rfl⟩
  have hwr : wr.length = k := by simpa using hwl
  refine ds_let (T := fun d => ∃ ms : List Mode, d = .lst (ms.map modeD) ∧ ms.map (·.1) = w0 :: wr ∧ (∀ x ∈ ms, x.2 ≤ 3) ∧ cntOf ms 0 = 0) (Dl.dn (dl_catP (A := (· = [modeD (w0, 0)])) (B := fun ys => ∃ ms : List Mode, ys = ms.map modeD ∧ ms.map (·.1) = wr ∧ ∀ x ∈ ms, x.2 ≤ 3) ((de_lst (da_consE (de_tup (da_consE (de_ixTn (i := 0) (d := .str w0) (de_var rfl) de_int rfl) (da_consE de_int da_nil))) da_nil)).dn ⟨_, rfl, rfl⟩)
    (Dl.dn (dl_lc (T := fun ys => ∃ ms : List Mode, ys = ms.map modeD ∧ ms.map (·.1) = wr ∧ ∀ x ∈ ms, x.2 ≤ 3) (di_rng1E (n := (k : Int)) (de_var rfl) (by omega) (by omega)) fun xs e => ?_) fun ds hd => ⟨ds, rfl, hd⟩) ?_) fun ds hd => ?_) fun d hd => ?_
  · subst e
    refine ⟨fun i acc => ∃ ms : List Mode, acc = ms.map modeD ∧ ms.map (·.1) = wr.take i ∧ ∀ x ∈ ms, x.2 ≤ 3, ⟨[], rfl, by simp, fun x hx => by cases hx⟩, ?_, ?_, by rw [rngD_len]; omega⟩
    · rintro i d acc hd ⟨ms, rfl, h1, h2⟩
      obtain ⟨hi, rfl⟩ := rng_get hd
      have hi : i < wr.length := by omega
      refine dg_name (by decide) (dt_yes.imp fun b hb => ?_)
      rw [hb, if_pos rfl]
      refine dn_tup (S := fun ds => ∃ n : Nat, ds = [.str wr[i], nD n] ∧ n ≤ 3) (da_cons (P := (· = .str wr[i])) (S := fun ds => ∃ n : Nat, ds = [nD n] ∧ n ≤ 3) (de_ixTn (i := i + 1) (xs := (w0 :: wr).map Dt.str) (d := .str wr[i]) (de_var rfl) (De.eq (de_add (i := (i : Int)) (j := 1) (de_var rfl) de_int) (by rfl)) (by rw [List.getElem?_map]; show (wr[i]?).map Dt.str = _; rw [List.getElem?_eq_getElem hi]; rfl))
        (da_cons (P := fun d => ∃ n : Nat, d = nD n ∧ n ≤ 3) (S := (· = [])) (dn_ixL (xs := cs.map nD) (de_var rfl) ((dn_pick S rfl de_int (by decide) (by decide)).imp fun d ⟨r, e, h1, h2⟩ => ⟨r, e, h1, by rw [List.length_map, hcs]; exact h2⟩) fun x hx => ?_) da_nil fun d ds ⟨n, e1, e2⟩ e3 => ⟨n, by rw [e1, e3], e2⟩) fun d ds e0 ⟨n, e1, e2⟩ => ⟨n, by rw [e0, e1], e2⟩) (fun ds ⟨n, e1, e2⟩ => by rw [e1]; show 2 ≤ 10000000; decide) fun ds ⟨n, e1, e2⟩ => ⟨ms ++ [(wr[i], n)], by rw [e1, List.map_append]; rfl, ?_, fun x hx => ?_⟩
      · obtain ⟨y, hy, rfl⟩ := List.mem_map.mp hx
        exact ⟨y, rfl, hcs3 y hy⟩
      · rw [List.map_append, h1, List.take_add_one, List.getElem?_eq_getElem hi]
        rfl
      · rcases List.mem_append.mp hx with hx | hx
        · exact h2 x hx
        · rw [List.mem_singleton.mp hx]; exact e2
    · rintro acc ⟨ms, rfl, h1, h2⟩
      rw [rngD_len, Int.toNat_natCast, List.take_of_length_le (by omega)] at h1
      exact ⟨ms, rfl, h1, h2⟩
  · rintro xs ys rfl ⟨ms, rfl, h1, h2⟩
    have := congrArg List.length h1
    rw [List.length_map] at this ⊢
    show 1 + ms.length ≤ _
    omega
  · obtain ⟨xs, ys, rfl, ⟨ms, rfl, h1, h2⟩, rfl⟩ := hd
    refine ⟨(w0, 0) :: ms, rfl, by rw [List.map_cons, h1], fun x hx => ?_, rfl⟩
    rcases List.mem_cons.mp hx with rfl | hx
    · exact Nat.zero_le _
    · exact h2 x hx
  obtain ⟨ms, rfl, hmw, hm3, hm0⟩ := hd
  have hml : ms.length = k + 1 := by
    have := congrArg List.length hmw
    rw [List.length_map] at this
    rw [this, hwl]
  -- plan
  refine ds_letE (d := planD ⟨names, ps, ms, []⟩) (de_lst (da_consE (de_tupleOfFK (de_var rfl)) (da_consE (de_tupleOfLK (de_var rfl)) (da_consE (de_tupleOfLK (de_var rfl)) (da_consE (de_lst da_nil) da_nil))))) ?_
  have hB : ∀ rs, PlanB ⟨names, ps, ms, rs⟩ := fun rs => { n0 := by rw [hnm.len]; omega, n4 := by rw [hnm.len]; omega, nW := by rw [hnm.len]; exact hnm, p0 := hpo.p0, p3 := hpo.p3, pN := hpo.pN, pW := hpo.pW, m0 := by show 0 < ms.length; omega, m16 := by show ms.length ≤ 17; omega, mW := fun x hx => ⟨hws.ok _ (by rw [← hmw]; exact List.mem_map.mpr ⟨x, hx, rfl⟩), hm3 x hx⟩, mF := hm0 }
  have hcm : ∀ m, cntOf ms m ≤ 3 := cnt_le (hB [])
  have hcs' : (cellsL names.length ms).length ≤ 16 * 20100 := by
    have h1 := cells_part_le (ns := names.length) (b := 0) (modes := ms) (by rw [hnm.len]; omega) (fun m => by have := hcm m; omega) ms.length
    exact Nat.le_trans h1 (Nat.mul_le_mul (by omega) (Nat.le_refl _))
  refine ds_letOwnE (dl_lst da_nil fun _ e => by rw [e]; exact Nat.zero_le _) ?_
  refine ds_seq (M := fun δ' => ∃ (rs : List (Cell × Row)) (x14 : Sl), PlanOk ⟨names, ps, ms, rs⟩ ∧ δ' = [.raw (.ref p), .dat (nD wide), .dat (strsF names), .dat (strsT [t0, t1, t2]), .dat (strsL [f0, f1]), .dat (strsL ss), .dat (.lst (ps.map portD)), .dat (nD k), .dat (.lst (cs.map nD)), .dat (strsT (w0 :: wr)), .dat (.lst (ms.map modeD)), .un, .dat (planD ⟨names, ps, ms, []⟩), .own (rs.map crD), x14]) (ds_for (vs := [14]) (di_list (de_callT (A := fun pl : Plan => [planD pl]) (f := fun pl => .lst ((cellsL pl.names.length pl.modes).map cellD)) ⟨names, ps, ms, []⟩ (da_consE (de_var rfl) da_nil) ⟨by show names.length ≤ 100; rw [hnm.len]; omega, by show ms.length ≤ 100; omega, fun m => by show cntOf ms m ≤ 100; have := hcm m; omega⟩)) fun xs e => ?_) ?_
  · subst e
    refine ⟨fun i δ' => ∃ (rs : List (Cell × Row)) (x14 : Sl), ((rs.map (·.1)).Sublist ((cellsL names.length ms).take i) ∧ ∀ x ∈ rs, RowOk ⟨names, ps, ms, []⟩ (knownOf ms x.1) x.2) ∧ δ' = [.raw (.ref p), .dat (nD wide), .dat (strsF names), .dat (strsT [t0, t1, t2]), .dat (strsL [f0, f1]), .dat (strsL ss), .dat (.lst (ps.map portD)), .dat (nD k), .dat (.lst (cs.map nD)), .dat (strsT (w0 :: wr)), .dat (.lst (ms.map modeD)), .un, .dat (planD ⟨names, ps, ms, []⟩), .own (rs.map crD), x14], ⟨[], .un, ⟨List.nil_sublist _, fun x hx => by cases hx⟩, rfl⟩, ?_, ?_⟩
    · rintro i d δ' hd ⟨rs, x14, ⟨h1, h2⟩, rfl⟩
      have hd : ((cellsL names.length ms).map cellD)[i]? = some d := hd
      obtain ⟨cell, hc, rfl⟩ : ∃ cell, (cellsL names.length ms)[i]? = some cell ∧ d = cellD cell := by
        rw [List.getElem?_map] at hd
        cases e : (cellsL names.length ms)[i]? with
        | none => rw [e] at hd; cases hd
        | some x => rw [e] at hd; exact ⟨x, rfl, (Option.some.inj hd).symm⟩
      have hmem : cell ∈ cellsL names.length ms := List.mem_of_getElem? hc
      obtain ⟨m, nn, q⟩ := cell
      obtain ⟨hq1, hq2, hq3⟩ := mem_cellsL.mp hmem
      have hrl : rs.length ≤ 16 * 20100 := by
        have := h1.length_le
        rw [List.length_map, List.length_take] at this
        omega
      have hstep : (cellsL names.length ms).take (i + 1) = (cellsL names.length ms).take i ++ [(m, nn, q)] := by rw [List.take_add_one, hc]; rfl
      refine dg_name (by decide) ?_
      refine ds_if (dt_any (dt_testB (dn_cmpI (f := fun i j => decide (j < i)) (dn_pick S rfl de_int (by decide) (by decide)) de_int))) (fun _ => ?_) (fun _ => ds_next ⟨rs, _, ⟨?_, h2⟩, rfl⟩)
      · refine ds_append (i := 13) rfl (T := fun d => ∃ r : Row, d = crD ((m, nn, q), r) ∧ RowOk ⟨names, ps, ms, []⟩ (knownOf ms (m, nn, q)) r) (dn_tup (S := fun ds => ∃ r : Row, ds = [cellD (m, nn, q), rowD r] ∧ RowOk ⟨names, ps, ms, []⟩ (knownOf ms (m, nn, q)) r) (da_cons (P := (· = cellD (m, nn, q))) (S := fun ds => ∃ r : Row, ds = [rowD r] ∧ RowOk ⟨names, ps, ms, []⟩ (knownOf ms (m, nn, q)) r) (de_var rfl)
          (da_cons (P := fun d => ∃ r : Row, d = rowD r ∧ RowOk ⟨names, ps, ms, []⟩ (knownOf ms (m, nn, q)) r) (S := (· = [])) (dn_callS S rfl (da_consE (de_var rfl) (da_consE (de_var rfl) da_nil)) fun xs e => ⟨(⟨names, ps, ms, []⟩, (m, nn, q)), e, ⟨hB [], hq1, hq3⟩, fun d hd => hd⟩) da_nil fun d ds ⟨r, e1, e2⟩ e3 => ⟨r, by rw [e1, e3], e2⟩) fun d ds e0 ⟨r, e1, e2⟩ => ⟨r, by rw [e0, e1], e2⟩) (fun ds ⟨r, e1, e2⟩ => by rw [e1]; show 2 ≤ 10000000; decide) fun ds ⟨r, e1, e2⟩ => ⟨r, by rw [e1]; rfl, e2⟩) (by rw [List.length_map]; omega) fun d hd => ?_
        obtain ⟨r, rfl, hr⟩ := hd
        refine ⟨rs ++ [((m, nn, q), r)], _, ⟨?_, fun x hx => ?_⟩, by rw [List.map_append]; rfl⟩
        · rw [hstep, List.map_append]
          exact h1.append (List.Sublist.refl _)
        · rcases List.mem_append.mp hx with hx | hx
          · exact h2 x hx
          · rw [List.mem_singleton.mp hx]; exact hr
      · rw [hstep]
        exact h1.trans (List.sublist_append_left _ _)
    · rintro δ' ⟨rs, x14, ⟨h1, h2⟩, rfl⟩
      have h1 : (rs.map (·.1)).Sublist ((cellsL names.length ms).take ((cellsL names.length ms).map cellD).length) := h1
      rw [List.length_map, List.take_length] at h1
      exact ⟨rs, x14, ⟨hB rs, h1, fun x hx => let h := h2 x hx; ⟨h.t, h.tk, h.hl, h.ha, h.hk, h.wl, h.ww⟩, hpo.f2, by show ms.length ≤ 16; omega, by show (ms.map _).Nodup; rw [hmw]; exact hws.nd⟩, rfl⟩
  rintro δ' ⟨rs, x14, hP, rfl⟩
  refine ds_freeze (i := 13) rfl ?_
  exact ds_retE (d := planD ⟨names, ps, ms, rs⟩) (de_lst (da_consE (de_names (pl := ⟨names, ps, ms, []⟩) (de_var rfl)) (da_consE (de_ports (pl := ⟨names, ps, ms, []⟩) (de_var rfl)) (da_consE (de_modes (pl := ⟨names, ps, ms, []⟩) (de_var rfl)) (da_consE (de_var rfl) da_nil))))) ⟨_, rfl, hP⟩
end
end K30

set_option Elab.async false
set_option maxRecDepth 100000
set_option maxHeartbeats 4000000
/-! Zd25: data compared; a statement and the rest; isinstance of a tuple. -/
namespace Zd
open PySem L2 StX
mutual
/-- the data d reads as p -/
inductive Pd (K : PySem.W.Frag) : Dt → PyData → Prop
  | non : Pd K .non .none
  | bl (b : Bool) : Pd K (.bl b) (.bool b)
  | int (i : Int) : Pd K (.int i) (.int i)
  | str (s : Str) : Pd K (.str s) (.str s)
  | lst {ds : List Dt} {ps : List PyData} : Pds K ds ps → Pd K (.lst ds) (.list ps)
  | tup {ds : List Dt} {ps : List PyData} : Pds K ds ps → Pd K (.tup ds) (.tuple ps)
  | ftup {ds : List Dt} {ps : List PyData} : Pds K ds ps → Pd K (.ftup ds) (.tuple ps)
  | con {a : Addr} {ds : List Dt} {ps : List PyData} : CstT K a ds → Pds K ds ps → Pd K (.con a) (.tuple ps)
inductive Pds (K : PySem.W.Frag) : List Dt → List PyData → Prop
  | nil : Pds K [] []
  | cons {d : Dt} {p : PyData} {ds : List Dt} {ps : List PyData} : Pd K d p → Pds K ds ps → Pds K (d :: ds) (p :: ps)
end
mutual
theorem Pd.dp {K : PySem.W.Frag} {G H : Hp} (s : Same G H) : ∀ {v : V} {d : Dt} {p : PyData}, Pd K d p → Dq G v d → Dp K H v p
  | _, _, _, .non, h => by cases h; exact .non
  | _, _, _, .bl b, h => by cases h; exact .bl b
  | _, _, _, .int i, h => by cases h; exact .int i
  | _, _, _, .str x, h => by cases h; exact .str x
  | _, _, _, .lst q, h => by
    cases h with
    | lst a1 a2 => exact .lst (SqL.of (s _ _ a1)) (Pds.dp s q a2)
  | _, _, _, .tup q, h => by
    cases h with
    | tup a1 a2 => exact .tup (SqT.of (s _ _ a1)) (Pds.dp s q a2)
  | _, _, _, .ftup q, h => by
    cases h with
    | ftup a1 _ _ a2 => exact .tup (SqT.frz (s _ _ a1)) (Pds.dp s q a2)
  | _, _, _, .con c q, h => by
    cases h with
    | con a =>
      obtain ⟨vs, h1, h2⟩ := c
      exact .tup (h1 H) (Pds.dp s q (h2 G))
theorem Pds.dp {K : PySem.W.Frag} {G H : Hp} (s : Same G H) : ∀ {vs : List V} {ds : List Dt} {ps : List PyData}, Pds K ds ps → Dqs G vs ds → DpAll K H vs ps
  | _, _, _, .nil, h => by cases h; exact .nil
  | _, _, _, .cons q qs, h => by
    cases h with
    | cons h1 h2 => exact .cons (Pd.dp s q h1) (Pds.dp s qs h2)
end
theorem Pds.map {K : PySem.W.Frag} {α : Type} {f : α → Dt} {g : α → PyData} : ∀ {xs : List α}, (∀ x ∈ xs, Pd K (f x) (g x)) → Pds K (xs.map f) (xs.map g)
  | [], _ => .nil
  | x :: r, h => .cons (h x List.mem_cons_self) (Pds.map fun y hy => h y (List.mem_cons_of_mem _ hy))
/-- may be laid, no deeper than n -/
structure Lay (n : Nat) (p : PyData) : Prop where
  c : p.canLay0 = true
  d : p.depth ≤ n
structure Lays (n : Nat) (ps : List PyData) : Prop where
  c : PyData.canLayAll0 ps = true
  d : PyData.depthAll ps ≤ n
theorem lays_nil {n : Nat} : Lays n [] := ⟨rfl, Nat.zero_le _⟩
theorem lays_cons {n : Nat} {p : PyData} {ps : List PyData} (h : Lay n p) (hs : Lays n ps) : Lays n (p :: ps) :=
  ⟨by simp only [PyData.canLayAll0, h.c, hs.c, Bool.and_self], by have := h.d; have := hs.d; simp only [PyData.depthAll]; omega⟩
theorem lays_map {n : Nat} {α : Type} {g : α → PyData} : ∀ {xs : List α}, (∀ x ∈ xs, Lay n (g x)) → Lays n (xs.map g)
  | [], _ => lays_nil
  | x :: r, h => lays_cons (h x List.mem_cons_self) (lays_map fun y hy => h y (List.mem_cons_of_mem _ hy))
theorem lay_int {n : Nat} {i : Int} : Lay n (.int i) := ⟨rfl, by simp only [PyData.depth]; omega⟩
theorem lay_str {n : Nat} {x : Str} (h : PyData.strOk x = true) : Lay n (.str x) := ⟨h, by simp only [PyData.depth]; omega⟩
theorem lay_bl {n : Nat} {b : Bool} : Lay n (.bool b) := ⟨rfl, by simp only [PyData.depth]; omega⟩
theorem lay_non {n : Nat} : Lay n .none := ⟨rfl, by simp only [PyData.depth]; omega⟩
theorem lay_list {n : Nat} {ps : List PyData} (h : Lays n ps) : Lay (n + 1) (.list ps) := ⟨by simp only [PyData.canLay0]; exact h.c, by have := h.d; simp only [PyData.depth]; omega⟩
theorem lay_tuple {n : Nat} {ps : List PyData} (h : Lays n ps) : Lay (n + 1) (.tuple ps) := ⟨by simp only [PyData.canLay0]; exact h.c, by have := h.d; simp only [PyData.depth]; omega⟩
theorem Lay.shaped {n : Nat} {p : PyData} (h : Lay n p) (hn : n ≤ 64) : SeqAt.shaped p = true := by
  unfold SeqAt.shaped
  rw [h.c, Bool.true_and]
  exact decide_eq_true (Nat.le_trans h.d hn)
mutual
theorem eqv_self : ∀ p : PyData, p.canLay0 = true → PyData.eqv p p = true
  | .none, _ => by simp [PyData.eqv]
  | .bool b, _ => by simp [PyData.eqv]
  | .int i, _ => by simp [PyData.eqv]
  | .str x, _ => by simp [PyData.eqv]
  | .list xs, h => by rw [PyData.eqv]; exact eqvAll_self xs (by simpa only [PyData.canLay0] using h)
  | .tuple xs, h => by rw [PyData.eqv]; exact eqvAll_self xs (by simpa only [PyData.canLay0] using h)
  | .dict _, h => by simp [PyData.canLay0] at h
theorem eqvAll_self : ∀ ps : List PyData, PyData.canLayAll0 ps = true → PyData.eqvAll ps ps = true
  | [], _ => by simp [PyData.eqvAll]
  | p :: r, h => by
    simp only [PyData.canLayAll0, Bool.and_eq_true] at h
    rw [PyData.eqvAll, eqv_self p h.1, eqvAll_self r h.2]
    rfl
end
theorem rv_eqP {b : Bx} {K : PySem.W.Frag} {d e : Dt} {p : PyData} {n : Nat} (hd : Pd K d p) (he : Pd K e p) (l : Lay n p) (hn : n ≤ 64 := by decide) : Rv b (rEqD K) d e (· = .bl true) := rv_val fun v w G H s d1 d2 Q q =>
  ⟨p, p, hd.dp s d1, he.dp s d2, l.shaped hn, l.shaped hn, by rw [eqv_self p l.c]; exact q _ (.bl _)⟩
theorem rv_neP {b : Bx} {K : PySem.W.Frag} {d e : Dt} {p : PyData} {n : Nat} (hd : Pd K d p) (he : Pd K e p) (l : Lay n p) (hn : n ≤ 64 := by decide) : Rv b (rNeD K) d e (· = .bl false) := rv_val fun v w G H s d1 d2 Q q =>
  ⟨p, p, hd.dp s d1, he.dp s d2, l.shaped hn, l.shaped hn, by rw [eqv_self p l.c]; exact q _ (.bl _)⟩
section
variable {c : Bs} {δ : Fe} {te ta tb : TE} {ts tv : TS} {K : PySem.W.Frag}
/-- isinstance(x, tuple) -/
theorem de_isTup {xs : List Dt} (h : De c te δ (.tup xs)) : De c (tCB (rIsi K) (tCons te (tCons (tC (.ty "tuple")) tNil))) δ (.bl true) := fun σ G H e Q q =>
  h σ G H e _ fun v d G1 H1 g1 d1 p1 => by
    subst p1
    cases d1 with
    | tup a1 a2 =>
      exact ⟨_, .ty "tuple", .type "tuple", .type "tuple", true, rfl, .ty _, .base (.tup (g1.gh _ _ a1)), by unfold PySem.W.kitOne; rw [if_pos (by decide)], q _ _ G1 H1 g1 (.bl _) rfl⟩
/-- a statement that never returns, and the rest -/
theorem ds_then {M : Fe → Prop} {D : Ends} {σ : L2.St} {G H : Hp} (h : Ds c ts δ { N := M, R := fun _ => False }) (e : Ec c G H σ δ) (k : ∀ δ' σ' G' H', Same G G' → Ec c G' H' σ' δ' → M δ' → tv D σ' H') : tSeq ts tv D σ H :=
  h { D with nx := tv D } σ G H e k (fun _ _ _ _ _ _ z => z.elim) (fun _ _ _ _ _ _ z => z.elim) (fun _ _ _ _ _ _ z => z.elim)
end
/-! ### a new thing that is no data (yet) -/
structure New (H G' H' : Hp) (p : Addr) (o : HO) : Prop where
  h : H p = none
  g : G' p = none
  e : H' p = some o
theorem Gx.take {b : Bx} {G H G' H' : Hp} {p : Addr} {o : HO} (g : Gx b G H G' H') (n : New H G' H' p o) : Gx b G H (upd G' p o) H' := g.freeze n.h n.g n.e
theorem New.next {H G' H' : Hp} {p q : Addr} {o u : HO} (n : New H G' H' p o) (hne : p ≠ q) : New H (upd G' q u) H' p o := ⟨n.h, by rw [upd_ne hne]; exact n.g, n.e⟩
theorem same_upd {G : Hp} {p : Addr} {o : HO} (h : G p = none) : Same G (upd G p o) := fun a u k => by rw [upd_ne (ne_of_none k h)]; exact k
end Zd

set_option Elab.async false
set_option maxRecDepth 100000
set_option maxHeartbeats 4000000
/-! Zd26: a body gone on with from where it stands. -/
namespace Zd
open PySem L2 StX
section
variable {c : Bs} {δ : Fe} {te ta tb : TE} {tt : TT} {ts tv : TS} {K : PySem.W.Frag}
/-- if a test that never holds, and the rest -/
theorem ds_ifNo {D : Ends} {σ : L2.St} {G H : Hp} (h : Dt' c tt δ (· = false)) (e : Ec c G H σ δ) (k : ∀ G1 H1, Gx c.b G H G1 H1 → tv D σ H1) : tSeq (tIfS tt ts tNext) tv D σ H :=
  h σ G H e _ fun b G1 H1 g1 p1 => by
    subst p1
    exact k G1 H1 g1
theorem asg_go {i : Nat} {D : Ends} {σ : L2.St} {H : Hp} (h : te σ H fun v H1 => tv D (σ.set i (some v)) H1) : tSeq (tAsg te (gName i)) tv D σ H := h
theorem ret_go {b : Bool} {D : Ends} {σ : L2.St} {G H : Hp} (h : De c te δ (.bl b)) (e : Ec c G H σ δ) (hq : ∀ H', D.rt (.bl b) H') : tRet te D σ H := h σ G H e _ fun v d G' H' g dq pd => by
  subst pd
  cases dq
  exact hq H'
/-- what was only looked at is no part of the data -/
theorem Gx.back {b : Bx} {G G2 H G' H' : Hp} (gs : Same G G2) (g : Gx b G2 H G' H') : Gx b G H G H' :=
  ⟨Same.refl G, g.hh, fun a u k => g.gh a u (g.gg a u (gs a u k)), fun _ k => .inl k, g.jj⟩
/-- a frame that owns nothing stands at another heap, for a body that goes on from there -/
theorem En.move {b b' : Bx} {G0 H0 G H G' H' : Hp} {σ σ' : L2.St} {δ δ' : Fe} (e : En b G0 H0 G H σ δ) (gs : Same G G') (s : Same G' H') (j : b'.J H') (hl : σ'.length = δ'.length)
    (k : ∀ (i : Nat) (x : Sl), δ'[i]? = some x → x = .un ∨ (x.owns = false ∧ δ[i]? = some x ∧ σ'[i]? = σ[i]?) ∨ (∃ v, x = .raw v ∧ σ'[i]? = some (some v))) : En b' G' H' G' H' σ' δ' := by
  have no : ∀ (i : Nat) (x : Sl), δ'[i]? = some x → x.owns = false := fun i x h => by
    rcases k i x h with rfl | ⟨o, _⟩ | ⟨v, rfl, _⟩
    · rfl
    · exact o
    · rfl
  refine ⟨j, Gx.refl s j, hl, fun i x h => ?_, fun i l x y p hx _ ox _ _ _ => by rw [no i x hx] at ox; cases ox⟩
  rcases k i x h with rfl | ⟨o, h2, hs⟩ | ⟨v, rfl, hv⟩
  · trivial
  · have q := e.sl i x h2
    cases x with
    | un => trivial
    | dat d => obtain ⟨v, e1, q1⟩ := q; exact ⟨v, hs.trans e1, q1.up gs⟩
    | raw v => exact hs.trans q
    | own _ => cases o
    | obj _ => cases o
  · exact hv
theorem SqL.up {H H' : Hp} {a : Addr} {xs : List V} (h : ∀ o, H a = some o → H' a = some o) (q : SqL K H a xs) : SqL K H' a xs := by
  rcases q with q | q
  · rcases q with q | ⟨o, q⟩
    · exact .inl (.inl (h _ q))
    · exact .inl (.inr ⟨o, h _ q⟩)
  · exact .inr q
end
end Zd

set_option Elab.async false
set_option maxRecDepth 100000
set_option maxHeartbeats 4000000
/-! Zd27: dicts of the body's own from ints to ints; a list's item changed; reading where tuples are the module's own. -/
namespace Zd
open PySem L2 StX
/-- in a slot: a dict with at most n keys, in which f stands -/
def DKi (f : Int → Option Int) (n : Nat) : Hp → Addr → HO → Prop := fun _ _ o => ∃ kvs : List (Key × V), o = .dK kvs ∧ kvs.length ≤ n ∧ ∀ k v : Int, f k = some v → valV kvs (.inl k) = some (.int v)
section
variable {c : Bs} {δ : Fe} {ta tb te td ty tv : TE} {ts : TS} {p : Po} {K : PySem.W.Frag} {xs ds : List Dt} {T : Dt → Prop}
theorem ds_letDKi {i : Nat} (k : Ds c ts (δ.set i (.obj (DKi (fun _ => none) 0))) p) : Ds c (tSeq (tAsg tDNewK (gName i)) ts) δ p :=
  ds_seq (M := (· = δ.set i (.obj (DKi (fun _ => none) 0)))) (fun D σ G H e n r b q => fun a ha =>
    n _ _ G _ (Same.refl G) ((e.up (Gx.put e.same e.jj ha)).setOwn i (.obj (DKi (fun _ => none) 0)) (fun k y hk oy sk => e.noSlot ha k y hk oy sk) fun hlt =>
      ⟨a, _, List.getElem?_set_self (by rw [e.len]; exact hlt), upd_same, (by
        cases k : G a with
        | none => rfl
        | some u => rw [e.same a u k] at ha; cases ha), e.gx.fresh e.j0 ha, (fun _ _ => ⟨[], rfl, Nat.le_refl _, fun _ _ h => by cases h⟩), fun _ z => nomatch z⟩) rfl) fun δ' e => by rw [e]; exact k
theorem ds_putDKi {i : Nat} {f : Int → Option Int} {m : Nat} {k v : Int} (h : δ[i]? = some (.obj (DKi f m))) (hv : De c tv δ (.int v)) (hy : De c ty δ (.int k)) (hl : m < 10000000) (n' : p.N (δ.set i (.obj (DKi (fun j => if j = k then some v else f j) (m + 1))))) : Ds c (sDPut (tVar i) ty tv) δ p := fun D σ G H e n r b q => by
  obtain ⟨a, _, e1, _⟩ := e.sl i _ h
  refine hv σ G H e _ fun w d G1 H1 g1 d1 p1 => ?_
  refine ⟨.ref a, e1, hy σ G1 H1 (e.up g1) _ fun y d2 G2 H2 g2 dq2 p2 => ?_⟩
  subst p1 p2
  cases d1
  cases dq2
  have e2 := (e.up g1).up g2
  obtain ⟨a', o', e1', h1', h2', h3', h4'⟩ := e2.sl i _ h
  rw [e1] at e1'
  have ea := V.ref.inj (Option.some.inj (Option.some.inj e1'))
  subst ea
  obtain ⟨kvs, rfl, hkl, hkf⟩ := h4'.1 G2 (Same.refl _)
  refine ⟨a, _, rfl, DPut.k (k := .inl k) h1' (sz_lt' (by omega)), ?_⟩
  refine n _ _ G2 _ (g1.gg.trans g2.gg) (e2.pokeO h e1 fun G' s' => ⟨_, rfl, Nat.le_trans (length_putK _ _ _) (by omega), fun j u hj => ?_⟩) n'
  rw [valV_put]
  have hj : (if j = k then some v else f j) = some u := hj
  by_cases z : j = k
  · rw [if_pos z] at hj
    rw [if_pos (by rw [z]), Option.some.inj hj]
  · rw [if_neg z] at hj
    rw [if_neg (fun q => z (Sum.inl.inj q))]
    exact hkf j u hj
theorem dqs_set {G : Hp} : ∀ {vs : List V} {ds : List Dt} (j : Nat) {v : V} {d : Dt}, Dqs G vs ds → Dq G v d → Dqs G (vs.set j v) (ds.set j d)
  | _, _, _, _, _, .nil, _ => .nil
  | _, _, 0, _, _, .cons _ h2, hv => .cons hv h2
  | _, _, j + 1, _, _, .cons h1 h2, hv => .cons h1 (dqs_set j h2 hv)
/-- xs[i] = e, a list of the body's own -/
theorem ds_setAt {i : Nat} {j : Nat} {ds : List Dt} (h : δ[i]? = some (.own ds)) (he : Dn c te δ T) (hj : De c tb δ (.int (j : Int))) (hl : j < ds.length) (k : ∀ d, T d → p.N (δ.set i (.own (ds.set j d)))) : Ds c (tAsg te (gSub (tVar i) tb L2.rSetL)) δ p := fun D σ G H e n r b q => by
  refine he σ G H e _ fun v d G1 H1 g1 d1 t1 => ?_
  have e1 := e.up g1
  obtain ⟨a, vs, s1, h1, h2, h3, h4⟩ := e1.sl i _ h
  refine ⟨.ref a, s1, hj σ G1 H1 e1 _ fun y d2 G2 H2 g2 dq2 p2 => ?_⟩
  subst p2
  cases dq2
  have e2 := e1.up g2
  obtain ⟨a', vs', s1', h1', h2', h3', h4'⟩ := e2.sl i _ h
  rw [s1] at s1'
  have ea := V.ref.inj (Option.some.inj (Option.some.inj s1'))
  subst ea
  refine ⟨a, vs', (j : Int), j, rfl, rfl, h1', ?_, n _ _ G2 _ (g1.gg.trans g2.gg) (e2.poke h s1 (dqs_set j h4' (d1.up g2.gg))) (k d t1)⟩
  have hlt : j < vs'.length := by rw [h4'.length]; exact hl
  unfold ixN
  rw [if_pos (by omega), if_pos (by omega)]
  simp
theorem sq_readT {k : Sk} {v : V} {G : Hp} (ok : SkOk K k xs) (hk : k ≠ .lst) (h : Dq G v (sqD k xs)) : ∃ a vs, v = .ref a ∧ Dqs G vs xs ∧ ∀ H, Same G H → SqT K H a vs := by
  generalize hd : sqD k xs = d at h
  cases k with
  | lst => exact absurd rfl hk
  | tup =>
    cases h with
    | tup a1 a2 =>
      have e := Dt.tup.inj hd
      subst e
      exact ⟨_, _, rfl, a2, fun H s => SqT.of (s _ _ a1)⟩
    | _ => cases hd
  | ftup =>
    cases h with
    | ftup a1 c1 c2 a2 =>
      have e := Dt.ftup.inj hd
      subst e
      exact ⟨_, _, rfl, a2, fun H s => SqT.frz (s _ _ a1)⟩
    | _ => cases hd
  | con a =>
    cases h with
    | con b =>
      have e := Dt.con.inj hd
      subst e
      obtain ⟨vs, h1, h2⟩ := ok a rfl
      exact ⟨a, vs, rfl, h2 G, fun H _ => h1 H⟩
    | _ => cases hd
/-- x[i], x a tuple, be it the module's own -/
theorem de_ixTQ {k : Sk} {i : Int} {d : Dt} (ok : SkOk K k ds) (hk : k ≠ .lst) (ha : De c ta δ (sqD k ds)) (hb : De c tb δ (.int i)) (h : atI ds i = some d) : De c (tOp (rIxT K) ta tb) δ d := de_op ha hb (rv_val fun v w G H s d1 d2 Q q => by
  obtain ⟨a, vs, rfl, a2, z⟩ := sq_readT ok hk d1
  cases d2
  obtain ⟨u, hu, du⟩ := dqs_at a2 h
  exact ⟨a, vs, i, u, rfl, rfl, z _ s, hu, q u du⟩)
/-- for .. in x, x a tuple, be it the module's own -/
theorem di_tupQ {k : Sk} (ok : SkOk K k xs) (hk : k ≠ .lst) (h : De c te δ (sqD k xs)) : Di c (iTup K te) δ (· = xs) := fun σ G H e R q =>
  h σ G H e _ fun v x G1 H1 g1 d1 p1 => by
    subst p1
    obtain ⟨a, vs, rfl, a2, z⟩ := sq_readT ok hk d1
    refine ⟨a, rfl, ⟨vs, z _ g1.gh⟩, q _ xs G1 H1 g1 rfl fun i G2 H2 s1 s2 j => ⟨fun hi => ?_, fun hi => ?_⟩⟩
    · obtain ⟨y, hy, dy⟩ := a2.get (List.getElem?_eq_getElem hi)
      refine ⟨⟨vs, y, z _ (s1.trans s2), hy⟩, fun u H' hu => ?_⟩
      obtain ⟨rfl, hu⟩ := hu
      have e3 := Option.some.inj ((hu vs (z _ (s1.trans s2))).symm.trans hy)
      subst e3
      exact ⟨_, G2, List.getElem?_eq_getElem hi, Gx.refl s2 j, dy.up s1⟩
    · exact ⟨vs, z _ (s1.trans s2), by rw [a2.length]; exact hi⟩
/-- isinstance(x, bool) -/
theorem de_isBool {b : Bool} (h : De c te δ (.bl b)) : De c (tCB (rIsi K) (tCons te (tCons (tC (.ty "bool")) tNil))) δ (.bl true) := fun σ G H e Q q =>
  h σ G H e _ fun v d G1 H1 g1 d1 p1 => by
    subst p1
    cases d1
    exact ⟨_, .ty "bool", .type "bool", .type "bool", true, rfl, .ty _, .base (.bl _), by unfold PySem.W.kitOne; rw [if_pos (by decide)], q _ _ G1 H1 g1 (.bl _) rfl⟩
theorem rv_isnotB {b : Bx} {x y : Bool} : Rv b (fun x y H Q => ∃ a b, x = .bl a ∧ y = .bl b ∧ Q (.bl (!decide (a = b))) H) (.bl x) (.bl y) (· = .bl (!decide (x = y))) := rv_val fun v w G H s d1 d2 Q q => by
  cases d1
  cases d2
  exact ⟨x, y, rfl, rfl, q _ (.bl _)⟩
theorem rv_eqB {b : Bx} {i j : Bool} : Rv b rEq (.bl i) (.bl j) (· = .bl (decide (i = j))) := rv_val fun v w G H s d1 d2 Q q => by
  cases d1
  cases d2
  refine ⟨rfl, ?_⟩
  rw [show decide (V.bl i = V.bl j) = decide (i = j) by simp]
  exact q _ (.bl _)
end
end Zd

set_option Elab.async false
set_option maxRecDepth 100000
set_option maxHeartbeats 4000000
/-! Zd28: comprehensions over mapped lists; data that differ compared. -/
namespace Zd
open PySem L2 StX
section
variable {c : Bs} {δ : Fe} {te ta tb : TE} {tt : TT} {K : PySem.W.Frag}
theorem get_of {α : Type} {xs : List α} {g : α → Dt} {i : Nat} {d : Dt} (h : (xs.map g)[i]? = some d) : ∃ x, xs[i]? = some x ∧ d = g x := by
  rw [List.getElem?_map] at h
  cases z : xs[i]? with
  | none => rw [z] at h; cases h
  | some x => rw [z] at h; exact ⟨x, rfl, (Option.some.inj h).symm⟩
/-- [f x for x in xs], xs told by a list of another kind -/
theorem dl_lcOf {α : Type} {xs : List α} {b : α → Dt} {wi : TI} {g : TG} {vs : List Nat} (f : α → Dt) (hw : Di c wi δ (· = xs.map b)) (hlen : xs.length ≤ 10000000)
    (h : ∀ x ∈ xs, Dg c g (b x) (wipeF δ vs) vs (fun δ2 => De c te δ2 (f x))) : Dl c (tLc wi g tYes te vs) δ (· = xs.map f) :=
  dl_lc hw fun ys e => ⟨fun i acc => acc = (xs.take i).map f, by simp, fun i d acc hd ia σ G H v en dq Q q => by
      rw [e] at hd
      obtain ⟨x, hx, rfl⟩ := get_of hd
      refine h x (List.mem_of_getElem? hx) σ G H v en dq Q fun δ' σ' G' H' e1 g1 w1 k1 => q δ' σ' G' H' e1 g1 w1 ?_
      refine dt_yes.imp fun k hk => ?_
      rw [hk, if_pos rfl]
      refine k1.imp fun y ey => ?_
      show acc ++ [y] = (xs.take (i + 1)).map f
      rw [ey, ia, List.take_add_one, hx, List.map_append]
      rfl, fun acc (ia : acc = _) => by rw [ia, e, List.length_map, List.take_length], by rw [e, List.length_map]; exact hlen⟩
/-- [f x for x in xs if p x] -/
theorem dl_lcOfF {α : Type} {xs : List α} {b : α → Dt} {wi : TI} {g : TG} {vs : List Nat} (p : α → Bool) (f : α → Dt) (hw : Di c wi δ (· = xs.map b)) (hlen : xs.length ≤ 10000000)
    (h : ∀ x ∈ xs, Dg c g (b x) (wipeF δ vs) vs (fun δ2 => Dt' c tt δ2 (· = p x) ∧ (p x = true → De c te δ2 (f x)))) : Dl c (tLc wi g tt te vs) δ (· = (xs.filter p).map f) :=
  dl_lc hw fun ys e => ⟨fun i acc => acc = ((xs.take i).filter p).map f, by simp, fun i d acc hd ia σ G H v en dq Q q => by
      rw [e] at hd
      obtain ⟨x, hx, rfl⟩ := get_of hd
      refine h x (List.mem_of_getElem? hx) σ G H v en dq Q fun δ' σ' G' H' e1 g1 w1 k1 => q δ' σ' G' H' e1 g1 w1 ?_
      refine k1.1.imp fun k hk => ?_
      subst hk
      cases hp : p x with
      | true =>
        rw [if_pos rfl]
        refine (k1.2 hp).imp fun y ey => ?_
        show acc ++ [y] = ((xs.take (i + 1)).filter p).map f
        rw [ey, ia, List.take_add_one, hx, List.filter_append, List.map_append]
        simp [hp]
      | false =>
        rw [if_neg Bool.false_ne_true]
        show acc = ((xs.take (i + 1)).filter p).map f
        rw [ia, List.take_add_one, hx, List.filter_append, List.map_append]
        simp [hp], fun acc (ia : acc = _) => by rw [ia, e, List.length_map, List.take_length], by rw [e, List.length_map]; exact hlen⟩
theorem di_imp {wi : TI} {S T : List Dt → Prop} (h : Di c wi δ S) (k : ∀ xs, S xs → T xs) : Di c wi δ T := fun σ G H e R q => h σ G H e R fun J xs G' H' g s ok => q J xs G' H' g (k xs s) ok
/-- target = what is drawn -/
theorem ds_asgN {g : TG} {vs : List Nat} {T : Dt → Prop} {p : Po} (h : Dn c te δ T) (k : ∀ d, T d → Dg c g d δ vs p.N) : Ds c (tAsg te g) δ p := fun D σ G H e n r b q =>
  h σ G H e _ fun v d' G1 H1 g1 d1 t1 => k d' t1 σ G1 H1 v (e.up g1) d1 _ fun δ' σ' G2 H2 e2 g2 _ k2 => n δ' σ' G2 H2 (g1.gg.trans g2.gg) e2 k2
/-- [a, b, c, what is drawn] -/
theorem dn_lst4 {t1 t2 t3 t4 : TE} {a b e : Dt} {R : List Dt → Prop} {T : Dt → Prop} (h1 : De c t1 δ a) (h2 : De c t2 δ b) (h3 : De c t3 δ e) (h4 : Dn c t4 δ (fun d => ∃ ds, d = .lst ds ∧ R ds)) (k : ∀ ds, R ds → T (.lst [a, b, e, .lst ds])) : Dn c (tLst (tCons t1 (tCons t2 (tCons t3 (tCons t4 tNil))))) δ T :=
  Dl.dn (dl_lst (S := fun ds => ∃ xs, R xs ∧ ds = [a, b, e, .lst xs]) (da_cons (P := (· = a)) (S := fun ds => ∃ xs, R xs ∧ ds = [b, e, .lst xs]) h1 (da_cons (P := (· = b)) (S := fun ds => ∃ xs, R xs ∧ ds = [e, .lst xs]) h2 (da_cons (P := (· = e)) (S := fun ds => ∃ xs, R xs ∧ ds = [.lst xs]) h3 (da_cons (P := fun d => ∃ ds, d = .lst ds ∧ R ds) (S := (· = [])) h4 da_nil fun d ds ⟨xs, e1, e2⟩ e3 => ⟨xs, e2, by rw [e1, e3]⟩) fun d ds e1 ⟨xs, e2, e3⟩ => ⟨xs, e2, by rw [e1, e3]⟩) fun d ds e1 ⟨xs, e2, e3⟩ => ⟨xs, e2, by rw [e1, e3]⟩) fun d ds e1 ⟨xs, e2, e3⟩ => ⟨xs, e2, by rw [e1, e3]⟩) fun ds ⟨xs, _, e⟩ => by rw [e]; show 4 ≤ 10000000; decide) fun ds ⟨xs, h, e⟩ => by rw [e]; exact k xs h
theorem rv_eqV {b : Bx} {d e : Dt} {p q : PyData} {n : Nat} (hd : Pd K d p) (he : Pd K e q) (lp : Lay n p) (lq : Lay n q) (hn : n ≤ 64 := by decide) : Rv b (rEqD K) d e (· = .bl (PyData.eqv p q)) := rv_val fun v w G H s d1 d2 Q k =>
  ⟨p, q, hd.dp s d1, he.dp s d2, lp.shaped hn, lq.shaped hn, k _ (.bl _)⟩
theorem rv_neV {b : Bx} {d e : Dt} {p q : PyData} {n : Nat} (hd : Pd K d p) (he : Pd K e q) (lp : Lay n p) (lq : Lay n q) (hn : n ≤ 64 := by decide) : Rv b (rNeD K) d e (· = .bl (!PyData.eqv p q)) := rv_val fun v w G H s d1 d2 Q k =>
  ⟨p, q, hd.dp s d1, he.dp s d2, lp.shaped hn, lq.shaped hn, k _ (.bl _)⟩
end
end Zd

set_option Elab.async false
set_option maxRecDepth 100000
set_option maxHeartbeats 4000000
/-! Zd29: max(xs, default=d), max(xs), xs.index(n), over whole numbers. -/
namespace Zd
open PySem PySem.Spec PyProof.Rows L2
section
variable {X : Cx} {K : PySem.W.Frag}
theorem reads_ints {h : Heap} : ∀ {its : List Value} {ns : List Int}, IntsAre its ns → ∃ as, ReadsAll h its (ns.map PyData.int) as
  | _, _, .nil => ⟨_, .nil⟩
  | _, _, .cons k t r => by obtain ⟨as, q⟩ := reads_ints r; exact ⟨_, .cons (.int _ _) q⟩
theorem depth_ints : ∀ ns : List Int, PyData.depthAll (ns.map PyData.int) = 0
  | [] => rfl
  | n :: r => by
    rw [List.map_cons, PyData.depthAll, depth_ints r]
    rfl
theorem alike_ints (ns : List Int) : PySem.W.AlikeAll (ns.map PyData.int) := by
  refine ⟨fun x hx y hy => ?_, fun x hx => ?_⟩
  · obtain ⟨i, _, rfl⟩ := List.mem_map.mp hx
    obtain ⟨j, _, rfl⟩ := List.mem_map.mp hy
    rfl
  · obtain ⟨i, _, rfl⟩ := List.mem_map.mp hx
    exact fun z => nomatch z
/-- max(xs, default=d) -/
def rMaxDf (K : PySem.W.Frag) : List V → List V → Hp → VK → Prop := fun vs zs H Q => ∃ (a : Addr) (ns : List Int) (d : Int), vs = [.ref a] ∧ zs = [.int d] ∧ SqL K H a (ns.map V.int) ∧ (ns = [] → Q (.int d) H) ∧ (∀ n ms, ns = n :: ms → Q (.int (ms.foldl max n)) H)
theorem crk_maxDf (hK : X.K = K) (hc : X.calm = true) (hu : X.A.units + 64 < cLine) : CallRK X (.builtin "max") [Str.ofString "default"] (rMaxDf K) := by
  subst hK
  intro pins s σ H xs zs us ws Q I r1 r2 h
  obtain ⟨a, ns, d, rfl, rfl, hs, q0, q1⟩ := h
  obtain ⟨its, rv, hl, _⟩ := I.list hs
  rw [Vals.ref1 r1]
  obtain ⟨wd, rfl, ⟨td, rfl⟩⟩ : ∃ wd, ws = [wd] ∧ RelV (.int d) wd := by
    cases r2 with
    | cons k t => cases t; exact ⟨_, rfl, k⟩
  obtain ⟨as, ra⟩ := reads_ints (h := s.heap) rv.ints
  refine PySem.W.max_list_default (I.ok.hd hc) hl.isList (xs := ns.map PyData.int) (as := as) ra (alike_ints ns) (by rw [depth_ints]; omega) (fun e h' tk hk => ?_) fun y ys i v h' tk bs e hv rd hk => ?_
  · exact ⟨.int d, H, I.kept hk, ⟨td, rfl⟩, q0 (List.map_eq_nil_iff.mp e)⟩
  · cases ns with
    | nil => cases e
    | cons n ms =>
      rw [List.map_cons, List.cons.injEq] at e
      obtain ⟨rfl, rfl⟩ := e
      rw [PySem.W.maxD_ints] at rd
      obtain ⟨t, rfl, _⟩ := reads_int_inv rd
      exact ⟨.int _, H, I.kept hk, ⟨t, rfl⟩, q1 n ms rfl⟩
theorem cr_maxK (hK : X.K = K) (hc : X.calm = true) : CallR X (.builtin "max") (rMax K) := by subst hK; exact cr_max hc
theorem mt_indexK (hK : X.K = K) : MtR X "list.index" (rIndex K) := by subst hK; exact mt_index
theorem pe_bmIdxK (hK : X.K = K) {o e : Expr} {to : TE} {t : TA} {apos cpos : Pos} (ho : PE X o to) (ha : PA X [e] t)
    (hbase : attributeBase o "index" X.env (eval o X.env) = eval o X.env := by rfl)
    (hfew : ((backTo cpos (starEach [e] X.env)).all (fun x => !x.1) && (backToKw cpos (keywordEach [] X.env)).all (fun x => x.1.isSome)
      && decide ([e].length + ([] : List Keyword).length + (if ([] : List Keyword).isEmpty then 0 else 1) < 30)) = true := by rfl)
    (hline : (apos.endLine == cpos.line) = true := by rfl) (hs : starEach [e] X.env = (false, eval e X.env) :: starEach [] X.env := by rfl) :
    PE X (.Call (.Attribute o "index" apos) [e] [] cpos) (tBM K "list" (rIndex K) to t) := by
  subst hK
  exact pe_bm PySem.F.plainAttrs_list PySem.F.slot_list_index PySem.F.type_list_index mt_index ho ha hbase hfew hline hs
end
section
variable {K : PySem.W.Frag} {c : Bs} {δ : Fe} {te ta tb : TE}
def maxO (d : Int) : List Int → Int
  | [] => d
  | n :: ms => ms.foldl max n
theorem de_maxDf {ns : List Int} {d : Int} (ha : De c ta δ (.lst (ns.map Dt.int))) (hb : De c tb δ (.int d)) :
    De c (tCKw (rMaxDf K) (tCons ta tNil) (tCons tb tNil)) δ (.int (maxO d ns)) := fun σ G H e Q q =>
  ha σ G H e _ fun v x G1 H1 g1 d1 p1 => by
    subst p1
    refine hb σ G1 H1 (e.up g1) _ fun w y G2 H2 g2 d2 p2 => ?_
    subst p2
    cases d2
    cases d1 with
    | lst a1 a2 =>
      have ev := a2.ints
      subst ev
      refine ⟨_, ns, d, rfl, rfl, SqL.of (g2.gh _ _ (g2.gg _ _ a1)), fun en => ?_, fun n ms en => ?_⟩
      · subst en; exact q _ _ G2 H2 (g1.trans e.jj g2) (.int _) rfl
      · subst en; exact q _ _ G2 H2 (g1.trans e.jj g2) (.int _) rfl
theorem dn_maxL {ns : List Int} (ha : De c ta δ (.lst (ns.map Dt.int))) (hn : 0 < ns.length) :
    Dn c (tCB (rMax K) (tCons ta tNil)) δ (fun d => ∃ m, d = .int m ∧ m ∈ ns ∧ ∀ y ∈ ns, y ≤ m) := fun σ G H e Q q =>
  ha σ G H e _ fun v x G1 H1 g1 d1 p1 => by
    subst p1
    cases d1 with
    | lst a1 a2 =>
      have ev := a2.ints
      subst ev
      exact ⟨_, ns, rfl, SqL.of (g1.gh _ _ a1), hn, fun m hm hle => q _ _ G1 H1 g1 (.int _) ⟨m, rfl, hm, hle⟩⟩
theorem de_idxI {ns : List Int} {n : Int} {j : Nat} (ha : De c ta δ (.lst (ns.map Dt.int))) (hb : De c tb δ (.int n)) (hj : ns[j]? = some n) (hno : ∀ m, m < j → ns[m]? ≠ some n) :
    De c (tBM K "list" (rIndex K) ta (tCons tb tNil)) δ (.int (j : Nat)) := fun σ G H e Q q =>
  ha σ G H e _ fun v x G1 H1 g1 d1 p1 => by
    subst p1
    cases d1 with
    | lst a1 a2 =>
      have ev := a2.ints
      subst ev
      refine ⟨.inl ⟨rfl, _, SqL.of (g1.gh _ _ a1)⟩, ?_⟩
      refine hb σ G1 H1 (e.up g1) _ fun w y G2 H2 g2 d2 p2 => ?_
      subst p2
      cases d2
      refine ⟨_, ns.map V.int, .int n, j, .int n, rfl, rfl, SqL.of (g2.gh _ _ (g2.gg _ _ a1)), rfl, by rw [List.all_map]; exact List.all_eq_true.mpr fun _ _ => rfl, by rw [List.getElem?_map, hj]; rfl, ?_, fun m z hm hz => ?_, q _ _ G2 H2 (g1.trans e.jj g2) (.int _) rfl⟩
      · show decide (n = n) = true; exact decide_eq_true rfl
      · rw [List.getElem?_map] at hz
        obtain ⟨k, hk, rfl⟩ := Option.map_eq_some_iff.mp hz
        have := hno m hm
        rw [hk] at this
        show decide (k = n) = false
        exact decide_eq_false fun e => this (by rw [e])
end
end Zd
namespace Zd
open PySem PySem.Spec PyProof.Rows L2
theorem cutD_init (xs : List Dt) (x : Dt) : cutD (xs ++ [x]) none (some (-1)) = xs := by
  unfold cutD
  have e : HT.sIx (xs ++ [x]).length (xs ++ [x]).length (some (-1)) = xs.length := by
    rw [List.length_append]
    show HT.sIx (xs.length + 1) (xs.length + 1) (some (-1)) = xs.length
    unfold HT.sIx
    simp
    omega
  rw [e, HT.sIx_none, List.drop_zero, Nat.sub_zero, List.take_left]
theorem atI_last {α : Type} (xs : List α) (x : α) : atI (xs ++ [x]) (-1) = some x := by
  unfold atI ixN
  rw [List.length_append, if_neg (by omega), if_pos (by show -((xs.length + 1 : Nat) : Int) ≤ -1; omega), show ((-1 : Int) + ((xs.length + [x].length : Nat) : Int)).toNat = xs.length from by show ((-1 : Int) + ((xs.length + 1 : Nat) : Int)).toNat = _; omega]
  show (xs ++ [x])[xs.length]? = some x
  simp
theorem rv_isNL {b : Bx} {xs : List Dt} : Rv b (fun x y H Q => y = .non ∧ Q (.bl (decide (x = .non))) H) (.lst xs) .non (· = .bl false) := rv_val fun v w G H s d1 d2 Q q => by
  cases d2
  cases d1 with
  | lst a1 a2 => exact ⟨rfl, q _ (by rw [decide_eq_false (fun z => nomatch z)]; exact .bl _)⟩
theorem foldl_max : ∀ (ms : List Int) (n : Int), ms.foldl max n ∈ n :: ms ∧ ∀ y ∈ n :: ms, y ≤ ms.foldl max n
  | [], n => ⟨List.mem_cons_self, fun y hy => by
    rcases List.mem_cons.mp hy with e | h
    · rw [e]; exact Int.le_refl _
    · cases h⟩
  | m :: ms, n => by
    obtain ⟨h1, h2⟩ := foldl_max ms (max n m)
    rw [List.foldl_cons]
    refine ⟨?_, fun y hy => ?_⟩
    · rcases List.mem_cons.mp h1 with h | h
      · rw [h]
        by_cases k : n ≤ m
        · rw [Int.max_eq_right k]; simp
        · rw [Int.max_eq_left (by omega)]; simp
      · exact List.mem_cons_of_mem _ (List.mem_cons_of_mem _ h)
    · have hm := h2 (max n m) List.mem_cons_self
      rcases List.mem_cons.mp hy with rfl | hy
      · have := Int.le_max_left y m; omega
      · rcases List.mem_cons.mp hy with rfl | hy
        · have := Int.le_max_right n y; omega
        · exact h2 y (List.mem_cons_of_mem _ hy)
theorem max_is {ns : List Int} (h0 : ∀ n ∈ ns, 0 ≤ n) {m : Int} (hm : m ∈ -1 :: ns) (hle : ∀ y ∈ -1 :: ns, y ≤ m) : m = maxO (-1) ns := by
  cases ns with
  | nil =>
    rcases List.mem_cons.mp hm with h | h
    · exact h
    · cases h
  | cons n ms =>
    obtain ⟨h1, h2⟩ := foldl_max ms n
    have k1 : ms.foldl max n ≤ m := hle _ (List.mem_cons_of_mem _ h1)
    have k2 : m ≤ ms.foldl max n := by
      rcases List.mem_cons.mp hm with rfl | h
      · have := h0 _ h1; omega
      · exact h2 m h
    show m = ms.foldl max n
    omega
end Zd

set_option Elab.async false
set_option maxRecDepth 100000
set_option maxHeartbeats 4000000
/-! Zd30: list(d.items()), d a dict whose keys are tuples. -/
namespace Zd
open PySem PySem.W PySem.Calls PySem.Spec PyProof.Rows L2
section
variable {prog : Program} {w : World} {A : Around} {E : Value → Shared → Prop} {s : Shared} {r d : Addr} {es : Array DictEntry} {ep : Nat}
theorem init_items {R : Result → Shared → Prop} (hh : A.handled = none) (hv : s.heap.IsItemsView r d) (hm : DT.Raw s.heap d es ep) (S : Addr) (hSr : S ≠ r) (hSd : d ≠ S) (hS : s.heap.get? S = some { cls := .type "list", data := .seq #[] })
    (hR : ∀ h' tk acc c as, (∀ b o, b ≠ S → s.heap.get? b = some o → h'.get? b = some o) → h'.get? S = some { cls := .type "list", dict := none, data := .seq acc c, slots := #[] } → as.length = es.size → DT.Made es s.heap.objs.size h' as →
      acc.toList = as.map Value.ref → R (.ok (.ret .none)) { s with heap := h', toks := tk }) (hn : es.size ≤ sizeLine) :
    wpAny (model prog w) A.in1 (Builtin.«list.__init__» ⟨[.ref S, .ref r], []⟩)
      (fun fin s' => match fin with | .done f => R (.ok f) s' | .again c' => c'.quiet = true ∧ codeAny (model prog w) A c' R s') (fun e s' => R (.error e) s') s := by
  show wpAny _ _ (do let old ← Builtin.List.listItems (.ref S); Builtin.List.listUpdate (.ref S) (fun _ => #[]); letGo old.toList.reverse; Builtin.List.listExtendWith (.ref S) (.ref r) .none) _ _ s
  refine wpAny_bind ?_
  unfold Builtin.List.listItems
  refine wpAny_bind (wpAny_seqItems hS rfl (wpAny_pure ?_))
  show wpAny _ _ (updateSeq S (fun _ => #[]) >>= fun _ => letGo (#[] : Array Value).toList.reverse >>= fun _ => Builtin.List.listExtendWith (.ref S) (.ref r) .none) _ _ s
  refine wpAny_bind (wpAny_updateSeq hS rfl ?_)
  have hS₂ := Heap.get?_update_self (Obj.mapSeq (fun _ => (#[] : Array Value))) hS rfl
  have oth : ∀ b o, b ≠ S → s.heap.get? b = some o → (s.heap.update S (Obj.mapSeq (fun _ => (#[] : Array Value)))).get? b = some o :=
    fun b o hb e => (Heap.get?_update_other _ _ (Ne.symm hb)).trans e
  have sz : (s.heap.update S (Obj.mapSeq (fun _ => (#[] : Array Value)))).objs.size = s.heap.objs.size := by simp
  refine wpAny_bind (wpAny_letGo ?_)
  refine DT.extI (s := { s with heap := s.heap.update S (Obj.mapSeq (fun _ => (#[] : Array Value))) }) (es := es) (ep := ep) hh (let ⟨o, ho, x⟩ := hv; ⟨o, oth _ _ (Ne.symm hSr) ho, x⟩) (hm.at' fun o e => oth _ _ hSd e) S hSr hSd .none _ hS₂ (fun h' tk acc c as hk hS' hl hG hacc => ?_) hn
  exact hR h' tk acc c as (fun b o hb e => hk b o hb (oth b o hb e)) hS' hl (hG.low (by show s.heap.objs.size ≤ (s.heap.update S _).objs.size; rw [sz]; exact Nat.le_refl _)) hacc
theorem list_items {Q : Value → Shared → Prop} (hh : A.handled = none) (hv : s.heap.IsItemsView r d) (hm : DT.Raw s.heap d es ep) (hn : es.size ≤ sizeLine)
    (q : ∀ h' tk acc c as, (∀ b o, s.heap.get? b = some o → h'.get? b = some o) → h'.get? s.heap.objs.size = some { cls := .type "list", dict := none, data := .seq acc c, slots := #[] } → as.length = es.size → DT.Made es s.heap.objs.size h' as →
      acc.toList = as.map Value.ref → Q (.ref s.heap.objs.size) { s with heap := h', toks := tk }) :
    wpAny (model prog w) A (call (.type "list") [.ref r]) Q E s := by
  refine callType_codes (Q₁ := fun obj s₁ => obj = .ref s.heap.objs.size ∧ s₁ = { s with heap := s.heap.push { cls := .type "list", data := .seq #[] } }) PySem.F.called_list (PySem.F.typeCall_list_1 _) PySem.F.entry_list_init
    (code_list_new _ ⟨rfl, rfl⟩) fun obj s₁ h₁ => ?_
  obtain ⟨rfl, rfl⟩ := h₁
  have hS : (s.heap.push { cls := .type "list", data := .seq #[] }).get? s.heap.objs.size = some { cls := .type "list", data := .seq #[] } := Heap.get?_push_size _ rfl
  have hr : r < s.heap.objs.size := let ⟨_, ho, _⟩ := hv; Heap.lt_size ho
  refine ⟨⟨_, hS, rfl⟩, PySem.F.args_list_init_2 _ _, init_items (A := A.in1) (s := { s with heap := s.heap.push { cls := .type "list", data := .seq #[] } }) (es := es) (ep := ep) hh (let ⟨o, ho, x⟩ := hv; ⟨o, Heap.get?_push_of_some _ ho, x⟩) (hm.push _) _ (Nat.ne_of_gt hr) (Nat.ne_of_lt hm.lt) hS (fun h' tk acc c as hk hS' hl hG hacc => ?_) hn⟩
  exact ⟨rfl, q h' tk acc c as (fun b o e => hk b o (Nat.ne_of_lt (Heap.lt_size e)) (Heap.get?_push_of_some _ e)) hS' hl (hG.low (by show s.heap.objs.size ≤ (s.heap.push _).objs.size; rw [Heap.size_push]; exact Nat.le_succ _)) hacc⟩
end
/-- what list(d.items()) gives -/
def tListItems (td : TE) : TE := fun σ H Q => td σ H fun x H1 => ∃ a kvs, x = .ref a ∧ H1 a = some (.dT kvs) ∧
  ∀ (p : Addr) (as bs : List Addr), H1 p = none → (∀ t ∈ as, H1 t = none) → p ∉ as → as.Nodup → as.length = kvs.length → bs.length = kvs.length →
    (∀ (j : Nat) (b : Addr) (k : List Key), bs[j]? = some b → (kvs.map (·.1))[j]? = some k → H1 b = some (.tup (k.map kV))) →
    Q (.ref p) (layT (upd H1 p (.lst (as.map V.ref))) as ((bs.map V.ref).zip (kvs.map (·.2))))
section
variable {X : Cx} {o : Expr} {p pos apos mpos : Pos} {td : TE}
theorem keys_of_pairs {H : Hp} : ∀ {kvs : List (List Key × V)} {xs : List (List Key × Addr × Value)}, Paired (fun (p : List Key × V) (q : List Key × Addr × Value) => p.1 = q.1 ∧ H q.2.1 = some (.tup (p.1.map kV)) ∧ RelV p.2 q.2.2) kvs xs →
    ∀ (j : Nat) (b : Addr) (k : List Key), (xs.map (·.2.1))[j]? = some b → (kvs.map (·.1))[j]? = some k → H b = some (.tup (k.map kV))
  | _, _, .nil, j, b, k, h, _ => by cases j <;> cases h
  | _, _, .cons r t, 0, b, k, h1, h2 => by cases h1; cases h2; exact r.2.1
  | _, _, .cons r t, j + 1, b, k, h1, h2 => keys_of_pairs t j b k h1 h2
theorem pe_listItems (hc : X.calm = true) (hg : Gl X "list") (hm : X.mg "list" = none) (hd : PE X o td) (hbase : attributeBase o "items" X.env (eval o X.env) = eval o X.env := by rfl) (hline : (apos.endLine == mpos.line) = true := by rfl)
    (hs0 : starEach [Expr.Call (.Attribute o "items" apos) [] [] mpos] X.env = (false, eval (Expr.Call (.Attribute o "items" apos) [] [] mpos) X.env) :: starEach [] X.env := by rfl) :
    PE X (.Call (.Name "list" p) [.Call (.Attribute o "items" apos) [] [] mpos] [] pos) (tListItems td) := by
  refine ⟨fun pins s σ H Q I h => wpAny_Call_Name_kw (ld_blt I hg hm PyProof.Rows.boot_list (PyProof.Rows.callWith_type1 ?_ hs0 rfl))⟩
  rw [hs0]
  show wpAny _ _ (spliced ((false, eval (Expr.Call (.Attribute o "items" apos) [] [] mpos) X.env) :: backTo pos (starEach [] X.env))) _ _ s
  refine Calls.spliced_cons (wpAny_Call_method0_late hbase hline (thn (hd.run pins s σ H _ I h) fun v s1 ⟨x, H1, I1, r1, a, kvs, ex, ha, q⟩ => ?_))
  subst ex
  cases r1
  have ⟨hz, hsys, xs, rel, ob, es, ep, ho, exd, hdat, hes, _⟩ := I1.hok a _ ha
  have raw : DT.Raw s1.heap a es ep := ⟨ob, ho, exd, hdat⟩
  refine ⟨"dict", "dict.items", F.plainAttrs_dict, F.slot_dict_items, F.type_dict_items, ⟨ob, ho, exd.1⟩, fun b e => by cases e; exact ⟨ob, ho, exd.2.1⟩, Calls.callWith_builtin rfl (PySem.evalArgs_none ?_)⟩
  refine DT.callItems (es := es) (ep := ep) hsys raw (Calls.spliced_nil ?_)
  have esz : es.size = kvs.length := by rw [← Array.length_toList, hes, List.length_map, ← Paired.length rel]
  have kp1 : ∀ b u, s1.heap.get? b = some u → (s1.heap.push { cls := .type "dict_items", data := .fields #[.ref a] }).get? b = some u := fun b u e => Heap.get?_push_of_some _ e
  refine list_items (s := { s1 with heap := s1.heap.push { cls := .type "dict_items", data := .fields #[.ref a] } }) (es := es) (ep := ep) (I1.ok.hd hc) ⟨_, Heap.get?_push_size _ rfl, rfl, rfl⟩ (raw.push _) (by rw [esz]; exact hz) fun h' tk acc c as kp hS hal hG hacc => ?_
  have le0 : s1.heap.objs.size ≤ (s1.heap.push { cls := .type "dict_items", data := .fields #[.ref a] }).objs.size := by rw [Heap.size_push]; exact Nat.le_succ _
  have xl : xs.length = kvs.length := (Paired.length rel).symm
  have zl : (((xs.map (·.2.1)).map V.ref).zip (kvs.map (·.2))).length = kvs.length := by rw [List.length_zip, List.length_map, List.length_map, List.length_map, xl, Nat.min_self]
  have vals := vals_of_pairs rel
  have J := pairs_laid (tk := tk) (ps := ((xs.map (·.2.1)).map V.ref).zip (kvs.map (·.2))) I1 le0 (fun b u e => kp b u (kp1 b u e)) hS hacc (by rw [hal, zl, esz]) hG.rise hG.above (by rw [zl]; exact hz) fun j t hj => by
    obtain ⟨en, e1, e2⟩ := hG.pairs j t hj
    have hjl : j < kvs.length := by rw [← esz, ← hal]; exact (List.getElem?_eq_some_iff.mp hj).1
    have h4 : es.toList[j]? = some en := by rw [Array.getElem?_toList]; exact e1
    rw [hes, List.getElem?_map] at h4
    obtain ⟨x, hx, rfl⟩ := Option.map_eq_some_iff.mp h4
    obtain ⟨v', hv', rvv⟩ := vals.get (List.getElem?_eq_getElem (show j < (kvs.map (·.2)).length by rw [List.length_map]; exact hjl))
    rw [List.getElem?_map, hx] at hv'
    have ev := Option.some.inj hv'
    subst ev
    refine ⟨(V.ref x.2.1, (kvs.map (·.2))[j]'(by rw [List.length_map]; exact hjl)), .ref x.2.1, x.2.2, ?_, rfl, rvv, e2⟩
    rw [List.getElem?_zip_eq_some]
    exact ⟨by rw [List.getElem?_map, List.getElem?_map, hx]; rfl, List.getElem?_eq_getElem (by rw [List.length_map]; exact hjl)⟩
  have fr : ∀ t, s1.heap.objs.size ≤ t → H1 t = none := fun t ht => I1.hok.fresh ht
  refine ⟨.ref (s1.heap.push { cls := .type "dict_items", data := .fields #[.ref a] }).objs.size, _, J, rfl, q _ as (xs.map (·.2.1)) (fr _ le0) (fun t ht => fr t (Nat.le_trans le0 (Nat.le_of_lt (hG.above t ht)))) (fun z => Nat.lt_irrefl _ (hG.above _ z)) (hG.rise.imp fun h => Nat.ne_of_lt h) (by rw [hal, esz]) (by rw [List.length_map, xl]) (keys_of_pairs rel)⟩
end
section
variable {c : Bs} {δ : Fe} {td : TE}
/-- the keys' tuples become data where they aren't yet -/
theorem take_keys {b : Bx} {G H G1 H1 : Hp} (j : b.J H) (g : Gx b G H G1 H1) : ∀ {bs : List Addr} {ks : List (List Key)}, bs.length = ks.length → (∀ (j : Nat) (b : Addr) (k : List Key), bs[j]? = some b → ks[j]? = some k → H1 b = some (.tup (k.map kV))) →
    ∃ G2, Same G1 G2 ∧ Gx b G H G2 H1 ∧ Dqs G2 (bs.map V.ref) (ks.map tupK)
  | [], [], _, _ => ⟨G1, Same.refl _, g, .nil⟩
  | b0 :: bs, k0 :: ks, hl, h => by
    obtain ⟨G2, s2, g2, q2⟩ := take_keys j g (bs := bs) (ks := ks) (by simpa using hl) fun i b k e1 e2 => h (i + 1) b k e1 e2
    have hb := h 0 b0 k0 rfl rfl
    have key : ∀ (k : List Key) (G : Hp), Dqs G (k.map kV) (k.map keyD) := fun k G => by
      induction k with
      | nil => exact .nil
      | cons x r ih =>
        refine .cons ?_ ih
        cases x with
        | inl i => exact .int i
        | inr z => exact .str z
    cases e : G2 b0 with
    | some u =>
      have := g2.gh b0 u e
      rw [hb] at this
      cases this
      exact ⟨G2, s2, g2, .cons (.tup e (key k0 _)) q2⟩
    | none =>
      have sU : Same G2 (upd G2 b0 (.tup (k0.map kV))) := fun a u z => by rw [upd_ne (ne_of_none z e)]; exact z
      refine ⟨upd G2 b0 (.tup (k0.map kV)), s2.trans sU, ⟨g2.gg.trans sU, g2.hh, fun a u z => ?_, fun a z => ?_, g2.jj⟩, .cons (.tup upd_same (key k0 _)) (q2.up sU)⟩
      · by_cases ha : a = b0
        · subst ha; rw [upd_same] at z; rw [hb, z]
        · rw [upd_ne ha] at z; exact g2.gh a u z
      · by_cases ha : a = b0
        · subst ha
          cases eH : H a with
          | none => exact .inr (.inl rfl)
          | some o =>
            by_cases s : b.S a
            · exact absurd hb (b.ht _ _ _ g2.jj s)
            · have := g2.hh a o s eH
              rw [hb] at this
              exact .inr (.inr ⟨_, this.symm⟩)
        · rw [upd_ne ha] at z; exact g2.nw a z
theorem dl_listItems {ks : List (List Key)} {ds : List Dt} (hd : De c td δ (.dct ks ds)) : Dl c (tListItems td) δ (· = zipD (ks.map tupK) ds) := fun σ G H e Q q =>
  hd σ G H e _ fun v x G1 H1 g1 d1 p1 => by
    subst p1
    cases d1 with
    | dct a1 a2 a3 =>
      rename_i a kvs
      refine ⟨a, kvs, rfl, g1.gh _ _ a1, fun p as bs hp ht np nd hal hbl hk => ?_⟩
      have hkl : ks.length = kvs.length := by rw [← a2, List.length_map]
      obtain ⟨G2, s2, g2, q2⟩ := take_keys e.jj g1 (bs := bs) (ks := ks) (by rw [hbl, hkl]) fun j b k e1 e2 => hk j b k e1 (by rw [a2]; exact e2)
      have fr : ∀ t, H1 t = none → G2 t = none := fun t h => by
        cases k : G2 t with
        | none => rfl
        | some o => rw [g2.gh t o k] at h; cases h
      have a3' := a3.up s2
      have l1 := q2.length
      have l2 := a3'.length
      rw [List.length_map] at l1 l2
      have sub : Same G2 (layT G2 as ((bs.map V.ref).zip (kvs.map (·.2)))) := fun b o k => by
        rw [layT_off as _ (fun z => by rw [fr b (ht b z)] at k; cases k)]
        exact k
      have big : Same (layT G2 as ((bs.map V.ref).zip (kvs.map (·.2)))) (layT (upd H1 p (.lst (as.map V.ref))) as ((bs.map V.ref).zip (kvs.map (·.2)))) := layT_same (fun b o k => by
        rw [upd_ne (ne_of_none (g2.gh b o k) hp)]
        exact g2.gh b o k) as _
      have at' : ∀ (j : Nat) (a : Addr) (w : V × V), as[j]? = some a → ((bs.map V.ref).zip (kvs.map (·.2)))[j]? = some w → layT G2 as ((bs.map V.ref).zip (kvs.map (·.2))) a = some (.tup [w.1, w.2]) := fun j a w e1 e2 => layT_at as _ nd j a w e1 e2
      refine q p (as.map V.ref) _ (layT G2 as ((bs.map V.ref).zip (kvs.map (·.2)))) _ ⟨g2.gg.trans sub, fun b o ns k => layT_sub hp ht b o (g2.hh b o ns k), big, fun b k => ?_, c.b.st _ _ g2.jj fun b sb => ?_⟩ (g2.fresh e.jj hp) ?_ ?_ (dqs_zip (q2.up sub) (a3'.up sub) (by rw [List.length_map]; omega) (by rw [List.length_map, List.length_map]; omega) at') rfl
      · rcases layT_only as _ k with z | z
        · exact g2.nw b z
        · exact .inr (.inl (g2.fresh e.jj (ht b z)))
      · have hb2 := c.b.hs _ _ g2.jj sb
        rw [layT_off as _ (fun z => hb2 (ht b z)), upd_ne (fun z => hb2 (by rw [z]; exact hp))]
      · rw [layT_off as _ np]; exact fr p hp
      · rw [layT_off as _ np, upd_same]
end
end Zd

set_option Elab.async false
set_option maxRecDepth 100000
set_option maxHeartbeats 4000000
/-! Zd31: weaker promises by data; tuple(x) of any kind; t[::-1]; a dict of the body's own from a comprehension; == of instances whose class has its own; isinstance of them. -/
namespace Zd
open PySem PySem.Spec PyProof.Rows L2
/-! ### weaker promises -/
theorem spT_imp {α β : Type} {A : α → List Dt} {A' : β → List Dt} {pre : α → Prop} {pre' : β → Prop} {post : α → Dt → Prop} {post' : β → Dt → Prop} (f : β → α) (hA : ∀ b, A (f b) = A' b) (hp : ∀ b, pre' b → pre (f b)) (hq : ∀ b d, pre' b → post (f b) d → post' b d)
    (vs : List V) (H : Hp) (Q : VK) (E : XK) (h : spT A' pre' post' vs H Q E) : spT A pre post vs H Q E := by
  obtain ⟨G, b, s, d, p, q⟩ := h
  exact ⟨G, f b, s, by rw [hA]; exact d, hp b p, fun v d G' H' g dq po => q v d G' H' g dq (hq b d p po)⟩
theorem spP_imp {α β : Type} {C : Addr} {F : α → List (Str × Dt)} {F' : β → List (Str × Dt)} {A : α → List Dt} {A' : β → List Dt} {pre : α → Prop} {pre' : β → Prop} {post : α → Dt → Prop} {post' : β → Dt → Prop} (f : β → α) (hF : ∀ b, F (f b) = F' b) (hA : ∀ b, A (f b) = A' b) (hp : ∀ b, pre' b → pre (f b)) (hq : ∀ b d, pre' b → post (f b) d → post' b d)
    (vs : List V) (H : Hp) (Q : VK) (E : XK) (h : spP C F' A' pre' post' vs H Q E) : spP C F A pre post vs H Q E := by
  obtain ⟨G, x, dx, fs, us, b, e, s, hx, hf, d, p, q⟩ := h
  exact ⟨G, x, dx, fs, us, f b, e, s, hx, by rw [hF]; exact hf, by rw [hA]; exact d, hp b p, fun v d G' H' g dq po => q v d G' H' g dq (hq b d p po)⟩
theorem spI_imp {α β : Type} {C : Addr} {A : α → List Dt} {A' : β → List Dt} {pre : α → Prop} {pre' : β → Prop} {ks : List Str} {ds : α → List Dt} {ds' : β → List Dt} (f : β → α) (hA : ∀ b, A (f b) = A' b) (hp : ∀ b, pre' b → pre (f b)) (hd : ∀ b, ds (f b) = ds' b)
    (vs : List V) (H : Hp) (Q : VK) (E : XK) (h : spI C A' pre' ks ds' vs H Q E) : spI C A pre ks ds vs H Q E := by
  obtain ⟨G, x, dx, us, b, e, s, hx, d, p, q⟩ := h
  exact ⟨G, x, dx, us, f b, e, s, hx, by rw [hA]; exact d, hp b p, fun G' H' dx' fs g n hx' k dq => q G' H' dx' fs g n hx' k (by rw [← hd]; exact dq)⟩
section
variable {K : PySem.W.Frag} {c : Bs} {δ : Fe} {te ta tb tk tv : TE}
/-- what tuple(x) makes of x's kind -/
def tK : Sk → Sk
  | .lst => .tup
  | k => k
theorem de_tupleQ {k : Sk} {xs : List Dt} (hk : k = .lst ∨ k = .tup ∨ k = .ftup) (h : De c te δ (sqD k xs)) : De c (tCB (rTupOf K) (tCons te tNil)) δ (sqD (tK k) xs) := by
  rcases hk with rfl | rfl | rfl
  · exact de_tupleOfLK h
  · exact de_tupleOfTK h
  · exact de_tupleOfFK h
theorem okSq {k : Sk} {xs : List Dt} (hk : k = .lst ∨ k = .tup ∨ k = .ftup) : SkOk K k xs := by
  rcases hk with rfl | rfl | rfl
  · exact skOk_lst
  · exact skOk_tup
  · exact skOk_ftup
/-! ### a dict of the body's own -/
theorem ds_letDTc {wi : TI} {g : TG} {vs : List Nat} {S : List Dt → Prop} {T : List (List Key × Dt) → Prop} {i : Nat} {ts : TS} {p : Po} (hw : Di c wi δ S)
    (h : ∀ xs, S xs → ∃ I : Nat → List (List Key × Dt) → Prop, I 0 [] ∧ (∀ i d acc, xs[i]? = some d → I i acc →
        Dg c g d (wipeF δ vs) vs (fun δ2 => ∃ k x, De c tk δ2 (tupK k) ∧ De c tv δ2 x ∧ k ∉ acc.map (·.1) ∧ I (i + 1) (acc ++ [(k, x)]))) ∧
      (∀ acc, I xs.length acc → T acc) ∧ xs.length ≤ 10000000 ∧ ∀ i acc, I i acc → acc.length ≤ i)
    (k : ∀ acc, T acc → Ds c ts (δ.set i (.obj (DTo acc))) p) : Ds c (tSeq (tAsg (tDcT wi g tYes tk tv vs) (gName i)) ts) δ p := by
  refine ds_seq (M := fun δ' => ∃ acc, T acc ∧ δ' = δ.set i (.obj (DTo acc))) (fun D σ G H e n r b q => ?_) fun δ' ⟨acc, ht, e⟩ => by rw [e]; exact k acc ht
  show tDcT wi g tYes tk tv vs σ H fun v H1 => D.nx (σ.set i (some v)) H1
  refine hw σ G H e _ fun J xs G1 H1 g1 s1 ok => ?_
  obtain ⟨I, i0, turn, fin, hlen, hsz⟩ := h xs s1
  intro Dd hD
  have hD0 : H Dd = none := g1.fresh e.jj hD
  have gD1 : G1 Dd = none := by
    cases k : G1 Dd with
    | none => rfl
    | some u => rw [g1.gh Dd u k] at hD; cases hD
  have notS : ¬ c.b.S Dd := fun s => c.b.hs _ _ g1.jj s hD
  have keepD : ∀ {Ga Ha Gb Hb : Hp} {ws : List (List Key × V)}, Gx c.b Ga Ha Gb Hb → Ha Dd = some (.dT ws) → Ga Dd = none → Hb Dd = some (.dT ws) ∧ Gb Dd = none := fun {Ga Ha Gb Hb ws} gg hh nn => ⟨gg.hh Dd _ notS hh, by
    cases k : Gb Dd with
    | none => rfl
    | some u =>
      rcases gg.nw Dd (by rw [k]; simp) with z | z | ⟨_, z⟩
      · exact absurd nn z
      · rw [hh] at z; cases z
      · rw [hh] at z; cases z⟩
  refine ⟨xs.length, fun i Hi => ∃ Gi acc kvs, Gx c.b G H Gi Hi ∧ Same G1 Gi ∧ Hi Dd = some (.dT kvs) ∧ Gi Dd = none ∧ kvs.map (·.1) = acc.map (·.1) ∧ Dqs Gi (kvs.map (·.2)) (acc.map (·.2)) ∧ I i acc, ⟨G1, [], [], g1.trans e.jj (Gx.put g1.gh g1.jj hD), Same.refl _, upd_same, gD1, rfl, .nil, i0⟩, ?_⟩
  rintro j Hi hi ⟨Gi, acc, kvs, gi, si, hDi, gDi, hka, hdq, ia⟩
  obtain ⟨okgo, okstop⟩ := ok j Gi Hi si gi.gh gi.jj
  by_cases hlt : j < xs.length
  · obtain ⟨go, step⟩ := okgo hlt
    refine .inr ⟨hlt, go, fun x H' hy => ?_⟩
    obtain ⟨d, G2, hd, g2, dx⟩ := step x H' hy
    have gi2 := gi.trans e.jj g2
    obtain ⟨hD2, gD2⟩ := keepD g2 hDi gDi
    refine turn j d acc hd ia (L2.wipe σ vs) G2 H' x ((e.up gi2).wipe vs) dx _ fun δ3 σ3 G3 H3 e3 g3 w3 k3 => ?_
    obtain ⟨hD3, gD3⟩ := keepD g3 hD2 gD2
    obtain ⟨key, y, hk, hv, hnew, hI⟩ := k3
    refine ⟨by rw [w3, wipe_wipe], ?_⟩
    show tk σ3 H3 _
    refine hk σ3 G3 H3 e3 _ fun u du G4 H4 g4 dq4 p4 => hv σ3 G4 H4 (e3.up g4) _ fun z dz G5 H5 g5 dq5 p5 => ?_
    subst p4 p5
    obtain ⟨b, rfl, eb⟩ := tupK_ref dq4
    obtain ⟨hD4, gD4⟩ := keepD g4 hD3 gD3
    obtain ⟨hD5, gD5⟩ := keepD g5 hD4 gD4
    have gx5 := ((gi2.trans e.jj g3).trans e.jj g4).trans e.jj g5
    have kl : kvs.length = acc.length := by simpa using congrArg List.length hka
    have no : valV kvs key = none := by
      unfold valV
      rw [Option.map_eq_none_iff, List.find?_eq_none]
      intro p hp hdec
      have e4 : p.1 = key := of_decide_eq_true hdec
      exact hnew (by rw [← hka, ← e4]; exact List.mem_map.mpr ⟨p, hp, rfl⟩)
    refine ⟨kvs, key, b, rfl, g5.gh _ _ (g5.gg _ _ eb), hD5, sz_lt' (by have := hsz j acc ia; omega), G5, acc ++ [(key, dz)], kvs ++ [(key, z)], ?_, (((si.trans g2.gg).trans g3.gg).trans g4.gg).trans g5.gg, ?_, gD5, by rw [List.map_append, List.map_append, hka]; rfl, ?_, hI⟩
    · rw [putK_new z no]
      exact Gx.poke e.jj gx5 hD0 gD5
    · rw [putK_new z no]
      exact upd_same
    · rw [List.map_append, List.map_append]
      exact (hdq.up (((g2.gg.trans g3.gg).trans g4.gg).trans g5.gg)).append (.cons dq5 .nil)
  · have ei : j = xs.length := by omega
    subst ei
    refine .inl ⟨okstop (Nat.le_refl _), ?_⟩
    exact n _ _ Gi Hi gi.gg ((e.up gi).setOwn i (.obj (DTo acc)) (fun k y hk oy sk => e.noSlot hD0 k y hk oy sk) fun hlt => ⟨Dd, _, List.getElem?_set_self (by rw [e.len]; exact hlt), hDi, gDi, e.gx.fresh e.j0 hD0, (fun G' s' => ⟨kvs, rfl, hka, hdq.up s'⟩), fun _ z => nomatch z⟩) ⟨acc, fin acc ia, rfl⟩
end
/-! ### t[::-1] -/
section
variable {prog : PySem.Program} {w : World} {A : Around} {E : Value → Shared → Prop} {s : Shared}
theorem pick_back (xs : Array Value) : ((List.range xs.size).filterMap fun (m : Nat) => xs[(((xs.size : Int) - 1) + (m : Int) * -1).toNat]?).toArray = xs.toList.reverse.toArray := by
  rw [← PySem.W.krv_pick xs]
  unfold slicePick
  rw [PySem.W.krv_bounds]
  show _ = ((sliceRange ((xs.size : Int) - 1) (-1) (-1)).filterMap (xs[·]?)).toArray
  rw [PySem.W.krv_sliceRange, List.filterMap_map]
  have key : ∀ (l : List Nat) (f g : Nat → Option Value), (∀ k ∈ l, f k = g k) → l.filterMap f = l.filterMap g := by
    intro l f g
    induction l with
    | nil => intro _; rfl
    | cons a r ih =>
      intro h
      rw [List.filterMap_cons, List.filterMap_cons, h a List.mem_cons_self, ih fun k hk => h k (List.mem_cons_of_mem _ hk)]
  rw [key _ _ ((xs[·]?) ∘ fun k => xs.size - 1 - k) fun k hk => ?_]
  have := List.mem_range.mp hk
  show xs[(((xs.size : Int) - 1) + (k : Int) * -1).toNat]? = xs[xs.size - 1 - k]?
  congr 1
  omega
theorem getItem_tuple_rev {t sl : Addr} {items : Array Value} {vs : Value} {Q : Value → Shared → Prop} (ht : IsTup s.heap t items) (hs : s.heap.IsSliceOf sl .none .none vs) (ps : IsPart vs (some (-1)))
    (h : Q (.ref s.heap.objs.size) { s with heap := s.heap.push { cls := .type "tuple", data := .seq items.toList.reverse.toArray } })
    (hsz : items.size ≤ sizeLine) : wpAny (model prog w) A (getItem (.ref t) (.ref sl)) Q E s := by
  have htake : sizeOk (.seq items.toList.reverse.toArray) := by
    show items.toList.reverse.toArray.size ≤ sizeLine
    rw [List.size_toArray, List.length_reverse, Array.length_toList]
    exact hsz
  obtain ⟨os, hos, hcs, hds⟩ := id hs
  have hTs : s.TypeIs (.ref sl) "slice" := ⟨os, hos, hcs⟩
  unfold getItem
  try with_reducible refine wpAny_holding ?_
  first | refine wpAny_bind (wpAny_pure ?_) | skip
  refine wpAny_bind (wpAny_sequenceKey ht.typeIs (by decide) ?_)
  refine wpAny_bind (wpAny_callSpecial?_slot (name := Str.ofString "__getitem__") ht.typeIs PyProof.Rows.slot_tuple_getitem
    (wpAny_call_entry PyProof.Rows.slot_tuple_getitem ht.typeIs PyProof.Rows.entry_tuple_getitem ?_ (PyProof.Rows.args_tuple_getitem _ _)))
  show wpAny _ _ (Builtin.Tuple.tupleItemsOf (.ref t) >>= _) _ _ s
  refine wpAny_bind (PyProof.Rows.tupleItemsOf_ ht ?_)
  refine wpAny_bind (wpAny_typeOf hTs ?_)
  rw [if_pos (by decide)]
  have app : ∀ {Q : Int × Int × Nat → Shared → Prop}, Q ((items.size : Int) - 1, -1, items.size) s → wpAny (model prog w) A.in1 (Builtin.Slice.sliceApplied (.ref sl) (pure (items.size : Int))) Q (fun e s' => E e s') s := fun {Q} hq => by
    unfold Builtin.Slice.sliceApplied Builtin.Slice.sliceFields
    refine wpAny_bind (wpAny_bind (wpAny_field hos hds (x := .none) rfl (wpAny_bind (wpAny_field hos hds (x := .none) rfl (wpAny_bind (wpAny_field hos hds (x := vs) rfl (wpAny_pure ?_)))))))
    refine wpAny_bind (HT.slicePart_ ps ?_)
    show wpAny _ _ (if ((-1 : Int) == 0) = true then _ else _) _ _ s
    rw [if_neg (by decide)]
    refine wpAny_bind (PyProof.Rows.slicePart_none (wpAny_bind (PyProof.Rows.slicePart_none (wpAny_bind (wpAny_pure ?_)))))
    show wpAny _ _ (match Builtin.Slice.sliceAdjust none none (-1) (items.size : Int) with | (lo, hi) => pure (lo, (-1 : Int), Builtin.Slice.slicePlaces lo hi (-1))) _ _ s
    have e1 : Builtin.Slice.sliceAdjust none none (-1) (items.size : Int) = ((items.size : Int) - 1, -1) := by
      first | rfl | (unfold Builtin.Slice.sliceAdjust; simp)
    rw [e1]
    have e2 : Builtin.Slice.slicePlaces ((items.size : Int) - 1) (-1) (-1) = items.size := by
      unfold Builtin.Slice.slicePlaces
      simp
      omega
    show wpAny _ _ (pure ((items.size : Int) - 1, (-1 : Int), Builtin.Slice.slicePlaces ((items.size : Int) - 1) (-1) (-1))) _ _ s
    rw [e2]
    exact wpAny_pure hq
  refine wpAny_bind (app ?_)
  have hno : ¬ ((((items.size : Int) - 1) == 0 && (-1 : Int) == 1 && items.size == items.size) = true) := by
    intro q
    rw [Bool.and_eq_true, Bool.and_eq_true] at q
    exact absurd q.1.2 (by decide)
  show wpAny _ _ (if (((items.size : Int) - 1) == 0 && (-1 : Int) == 1 && items.size == items.size) = true then _ else _) _ _ s
  rw [if_neg hno, pick_back]
  first
    | exact wpAny_bind (m := Builtin.Tuple.tupleExact _) (wpAny_newObj_type (wpAny_pure ⟨_, rfl, wpAny_pure h⟩) htake)
    | exact wpAny_bind (m := Builtin.Tuple.tupleExact _) (wpAny_newObj_type (wpAny_bind (wpAny_pure (wpAny_pure ⟨_, rfl, wpAny_pure h⟩))) htake)
    | exact wpAny_bind (wpAny_bind (m := Builtin.Tuple.tupleExact _) (wpAny_newObj_type (wpAny_pure (wpAny_pure ⟨_, rfl, wpAny_pure h⟩)) htake))
    | exact wpAny_bind (wpAny_bind (m := Builtin.Tuple.tupleExact _) (wpAny_newObj_type (wpAny_pure ⟨_, rfl, wpAny_pure h⟩) htake))
end
end Zd

set_option Elab.async false
set_option maxRecDepth 100000
set_option maxHeartbeats 4000000
/-! Zd32: t[::-1]; == of instances whose class has its own; isinstance. -/
namespace Zd
open PySem PySem.Spec PyProof.Rows L2
def tRevT (K : PySem.W.Frag) (te : TE) : TE := fun σ H Q => te σ H fun x H1 => ∃ a xs, x = .ref a ∧ SqT K H1 a xs ∧ ∀ p, H1 p = none → Q (.ref p) (upd H1 p (.tup xs.reverse))
section
variable {X : Cx}
theorem pe_revTK {K : PySem.W.Frag} (hK : X.K = K) {e : Expr} {te : TE} {k : Nat} {p1 p2 p3 pos : Pos} (he : PE X e te) : PE X (.Subscript e (.Slice none none (some (.UnaryOp .USub (.Constant (.int 1) k p1) p2)) p3) pos) (tRevT K te) := by
  subst hK
  refine ⟨fun pins s σ H Q I h => ?_⟩
  refine Subscript_ (thn (he.run pins s σ H _ I h) fun v s1 ⟨x, H1, I1, r1, q1⟩ => ?_)
  obtain ⟨a, xs, ex, hx, q⟩ := q1
  subst ex
  cases r1
  have hst : PO X (some (.UnaryOp .USub (.Constant (.int 1) k p1) p2)) (tPart (tUn (rU fun i => .int (-i)) (tC (.int 1)))) := po_some (pe_un un_neg pe_int)
  refine wpAny_Slice (thn (po_none.run pins s1 σ H1 (fun o H2 => o = none ∧ H2 = H1) I1 ⟨rfl, rfl⟩) fun vl s2 ⟨l, H2, I2, pl, el, e2⟩ => ?_)
  subst el e2
  refine thn (po_none.run pins s2 σ H2 (fun o H3 => o = none ∧ H3 = H2) I2 ⟨rfl, rfl⟩) fun vu s3 ⟨u, H3, I3, pu, eu, e3⟩ => ?_
  subst eu e3
  refine thn (hst.run pins s3 σ H3 (fun o H4 => o = some (-1) ∧ H4 = H3) I3 ⟨1, rfl, -1, rfl, rfl, rfl⟩) fun vs s4 ⟨o, H4, I4, ps, eo, e4⟩ => ?_
  subst eo e4
  have I5 : Inv X pins σ H4 { s4 with heap := s4.heap.push { cls := .type "slice", data := .fields #[vl, vu, vs] } } := I4.kept (t' := s4.toks) fun b ob q => Heap.get?_push_of_some _ q
  obtain ⟨its, r, ht, hz⟩ := I5.tuple hx
  have hlen := r.length
  show wpAny (model X.prog X.w) X.A (subscriptTail e (.Slice none none (some (.UnaryOp .USub (.Constant (.int 1) k p1) p2)) p3) (.ref a) (.ref s4.heap.objs.size)) (EP X pins σ Q) X.xe { s4 with heap := s4.heap.push { cls := .type "slice", data := .fields #[vl, vu, vs] } }
  have evl : vl = .none := by cases pl; rfl
  have evu : vu = .none := by cases pu; rfl
  subst evl evu
  refine tail_any (ops := [.ref a, .ref s4.heap.objs.size]) ht.typeIs (PyProof.Rows.slot_tuple_getitem.lookup) ?_ (by with_unfolding_all rfl)
  refine getItem_tuple_rev ht (Heap.IsSliceOf.new _ .none .none vs) ps ?_ (by rw [List.size_toArray]; omega)
  refine ⟨.ref _, _, I5.laid (t' := s4.toks) (o := .tup xs.reverse) (fun b ob q => Heap.get?_push_of_some _ q) (Nat.le_refl _) ?_, rfl, q _ (I5.hok.fresh (Nat.le_refl _))⟩
  exact ⟨by rw [List.length_reverse]; exact hz, _, r.reverse, PyProof.Rows.IsTup.new _ _⟩
/-- what may be compared with an instance of C by C's own == -/
def OthOk (C : Addr) (H : Hp) (y : V) : Prop := y = .non ∨ ∃ b, y = .ref b ∧ ((∃ dx fs, H b = some (.ins C dx fs)) ∨ ∃ xs, H b = some (.lst xs))
def rOwnEq (C : Addr) (sp : Sp) (E : XK) : R2 := fun x y H Q => (∃ a dx fs, x = .ref a ∧ H a = some (.ins C dx fs)) ∧ OthOk C H y ∧ sp [x, y] H (fun v H' => ∃ k, v = .bl k ∧ Q (.bl k) H') E
theorem mro_l : PySem.W.subIn X.K (.type "list") (.ref C) = some false := by
  have e : fastBuiltinMro "list" = some [.type "list", .type "object"] := by kernel_rfl
  show (fastBuiltinMro "list").map _ = _
  rw [e]
  rfl
theorem mro_n : PySem.W.subIn X.K (.type "NoneType") (.ref C) = some false := by
  have e : fastBuiltinMro "NoneType" = some [.type "NoneType", .type "object"] := by kernel_rfl
  show (fastBuiltinMro "NoneType").map _ = _
  rw [e]
  rfl
theorem op_ownEq {CX : CXT} {C f : Addr} {fd : FuncData} {ps : List Str} {n : Nat} {sp : Sp} {E : XK} (F : FnOk X.prog X.w X.K X.mg X.base CX n f fd ps sp) (hr : Room n X.A)
    (hs : PySem.W.findIn X.K (.ref C) "__eq__" = some (some (.ref f))) (hf : PySem.W.isFn X.K (.ref f) = true) (hb : Binds X.K fd ps []) (hx : Passes CX X E) : OpR X (compareOp .Eq) (rOwnEq C sp E) := by
  intro pins s σ H x y v u Q I rx ry hq
  obtain ⟨⟨a, dx, fs, rfl, ha⟩, ho, hsp⟩ := hq
  cases rx
  show wpAny (model X.prog X.w) X.A (richCompare .Eq (.ref a) u) (EP X pins σ Q) X.xe s
  obtain ⟨mA, J, _⟩ := ins_get I.hok ha
  obtain ⟨od, J, _⟩ := J.look
  obtain ⟨m, hF⟩ := I.fr
  have hl := F.len _ _ _ _ hsp
  have r2 : Vals [V.ref a, y] [Value.ref a, u] := .cons rfl (.cons ry .nil)
  have body : wpAny (model X.prog X.w) X.A (call (.ref f) [.ref a, u]) (PySem.W.CmpBack (EP X pins σ Q)) X.xe s := by
    refine wpAny_call (codeAny_mono (F.run X.A X.stack s H ⟨[.ref a, u], []⟩ [.ref a, u] [.ref a, y] _ E hr I.env0 (by
      have := hb s [.ref a, u] I.kIn (by simpa using hl)
      simpa using this) r2 hsp) fun r s' hq => ?_)
    cases r with
    | error e => exact hx pins σ H s e s' I hq
    | ok fl =>
      cases fl with
      | ret w =>
        obtain ⟨z, H', I', rz, k, ez, q⟩ := I.after hq
        subst ez
        cases rz
        exact ⟨.bl k, H', I', rfl, q⟩
      | next => exact False.elim hq
      | brk => exact False.elim hq
      | cont => exact False.elim hq
  rcases ho with rfl | ⟨b, rfl, ⟨dy, gs, hb'⟩ | ⟨xs, hb'⟩⟩
  · cases ry
    exact PySem.W.cmp_K (op := .Eq) (tb := .type "NoneType") hr.units0 hF I.ok.mod.kin J (PySem.W.Looks.of_pure rfl) (by unfold PySem.W.notFirst; rw [mro_n]; rfl) hs hf body
  · cases ry
    obtain ⟨mB, J', _⟩ := ins_get I.hok hb'
    obtain ⟨od', J', _⟩ := J'.look
    exact PySem.W.cmp_K (op := .Eq) (tb := .ref C) hr.units0 hF I.ok.mod.kin J J'.type (by simp [PySem.W.notFirst]) hs hf body
  · cases ry
    obtain ⟨_, _, n, _, h1⟩ := (show ObjOk X.prog X.w H s.heap b (.lst xs) from I.hok b _ hb')
    exact PySem.W.cmp_K (op := .Eq) (tb := .type "list") hr.units0 hF I.ok.mod.kin J ((PySem.W.Looks.ld (part := none) h1).andThen .now) (by unfold PySem.W.notFirst; rw [mro_l]; rfl) hs hf body
end
end Zd

set_option Elab.async false
set_option maxRecDepth 100000
set_option maxHeartbeats 4000000
/-! Zd33: the same by data. -/
namespace Zd
open PySem PySem.Spec PyProof.Rows L2
/-- what the class C is known by, for isinstance -/
structure IsC (K : PySem.W.Frag) (C : Addr) : Prop where
  cl : Cls K C
  ha : PySem.W.findIn K (.ref C) "__class__" = some (some (.builtin "object.__class__"))
  hn : PySem.W.specialIn K (.builtin "object.__class__") "__get__" = some (some (.builtin "getset_descriptor.__get__"))
  ht : PySem.W.takesIn K (.builtin "object.__class__") = some true
  hm : PySem.W.mroIn K C (.type "object") = some true
  ci : ((PySem.W.clsIn K C).isSome && PySem.W.typeIn K (.ref C) == some (.type "type")) = true
section
variable {K : PySem.W.Frag} {c : Bs} {δ : Fe} {te ta tb : TE} {C : Addr}
theorem de_revT {k : Sk} {xs : List Dt} (hk : k = .tup ∨ k = .ftup) (h : De c te δ (sqD k xs)) : De c (tRevT K te) δ (.tup xs.reverse) := fun σ G H e Q q =>
  h σ G H e _ fun v x G1 H1 g1 d1 p1 => by
    subst p1
    have rev : ∀ {vs : List V} {ds : List Dt}, Dqs G1 vs ds → Dqs G1 vs.reverse ds.reverse := fun {vs ds} => by
      intro hd
      induction vs generalizing ds with
      | nil => cases hd; exact .nil
      | cons a r ih =>
        cases hd with
        | cons h1 h2 =>
          rw [List.reverse_cons, List.reverse_cons]
          exact (ih h2).append (.cons h1 .nil)
    rcases hk with rfl | rfl
    · cases d1 with
      | tup a1 a2 =>
        exact ⟨_, _, rfl, .inl (.inl (g1.gh _ _ a1)), fun p hp => q (.ref p) _ _ _ (g1.newDat e.jj hp _) (.tup upd_same ((rev a2).up fun a u k => by rw [upd_ne (ne_of_none (g1.gh a u k) hp)]; exact k)) rfl⟩
    · cases d1 with
      | ftup a1 b1 b2 a2 =>
        exact ⟨_, _, rfl, SqT.frz (g1.gh _ _ a1), fun p hp => q (.ref p) _ _ _ (g1.newDat e.jj hp _) (.tup upd_same ((rev a2).up fun a u k => by rw [upd_ne (ne_of_none (g1.gh a u k) hp)]; exact k)) rfl⟩
/-- x == y by x's class's own == -/
theorem rv_ownEq {b : Bx} {α : Type} {A : α → List Dt} {pre : α → Prop} {f : α → Bool} {E : XK} {ks : List Str} {ds : List Dt} {y : Dt} (a : α) (hA : A a = [.ins C ks ds, y]) (hy : (∃ ks ds, y = .ins C ks ds) ∨ (∃ xs, y = .lst xs) ∨ y = .non) (hp : pre a) :
    Rv b (rOwnEq C (spT A pre fun a d => d = .bl (f a)) E) (.ins C ks ds) y (· = .bl (f a)) := fun v w G H s j d1 d2 Q q => by
  have d1' := d1
  cases d1 with
  | ins a1 a2 a3 =>
    rename_i x dx fs
    refine ⟨⟨x, dx, fs, rfl, s _ _ a1⟩, ?_, G, a, s, by rw [hA]; exact .cons d1' (.cons d2 .nil), hp, fun v d G' H' g dq pd => ?_⟩
    · rcases hy with ⟨ks2, ds2, rfl⟩ | ⟨xs, rfl⟩ | rfl
      · cases d2 with
        | ins b1 b2 b3 => exact .inr ⟨_, rfl, .inl ⟨_, _, s _ _ b1⟩⟩
      · cases d2 with
        | lst b1 b2 => exact .inr ⟨_, rfl, .inr ⟨_, s _ _ b1⟩⟩
      · cases d2
        exact .inl rfl
    · subst pd
      cases dq
      exact ⟨_, rfl, q _ _ G' H' (g.of_pure j) (.bl _) rfl⟩
/-- isinstance(x, C) -/
theorem de_isC {y : Dt} {bb : Bool} (ic : IsC K C) (h : De c te δ y) (hy : (bb = true ∧ ∃ ks ds, y = .ins C ks ds) ∨ (bb = false ∧ ((∃ xs, y = .lst xs) ∨ y = .non))) : De c (tCB (rIsi K) (tCons te (tCons (tC (.ref C)) tNil))) δ (.bl bb) := fun σ G H e Q q =>
  h σ G H e _ fun v d G1 H1 g1 d1 p1 => by
    subst p1
    have cls : ∀ t : Value, (t == Value.ref C) = false → PySem.W.subIn K t (.ref C) = some false → PySem.W.kitOne K t (.ref C) = some false := fun t h1 h2 => by
      unfold PySem.W.kitOne
      rw [h1]
      show PySem.W.kitCls K t (.ref C) = _
      show (if ((PySem.W.clsIn K C).isSome && PySem.W.typeIn K (.ref C) == some (.type "type")) = true then PySem.W.subIn K t (.ref C) else none) = _
      rw [if_pos ic.ci]
      exact h2
    rcases hy with ⟨rfl, ks, ds, rfl⟩ | ⟨rfl, ⟨xs, rfl⟩ | rfl⟩
    · cases d1 with
      | ins a1 a2 a3 =>
        exact ⟨_, .ref C, .ref C, .ref C, true, rfl, .own C, .base (.ins (g1.gh _ _ a1) ic.cl ic.ha ic.hn ic.ht ic.hm), by unfold PySem.W.kitOne; rw [if_pos (by simp)], q _ _ G1 H1 g1 (.bl _) rfl⟩
    · cases d1 with
      | lst a1 a2 =>
        refine ⟨_, .ref C, .type "list", .ref C, false, rfl, .own C, .base (.lst (g1.gh _ _ a1)), cls _ (by rfl) ?_, q _ _ G1 H1 g1 (.bl _) rfl⟩
        have e : fastBuiltinMro "list" = some [.type "list", .type "object"] := by kernel_rfl
        show (fastBuiltinMro "list").map _ = _
        rw [e]
        rfl
    · cases d1
      refine ⟨_, .ref C, .type "NoneType", .ref C, false, rfl, .own C, .base .non, cls _ (by rfl) ?_, q _ _ G1 H1 g1 (.bl _) rfl⟩
      have e : fastBuiltinMro "NoneType" = some [.type "NoneType", .type "object"] := by kernel_rfl
      show (fastBuiltinMro "NoneType").map _ = _
      rw [e]
      rfl
end
end Zd

set_option Elab.async false
set_option maxRecDepth 100000
set_option maxHeartbeats 4000000
namespace K30
open PySem L2 StX Zd
def idleK (cnt p : Nat) : List Nat := if p % 2 = 1 then List.range cnt else (List.range (cnt + 1)).filter fun k => decide (k ≠ p / 2)
def idleR (modes : List Mode) (x : Cell) : Row := (x.1, idleK (cntOf modes x.1) x.2.2, [])
theorem filter_rng {n : Nat} {p : Dt → Bool} {q : Nat → Bool} (h : ∀ k, p (nD k) = q k) : (rngD 0 n).filter p = ((List.range n).filter q).map nD := by
  rw [rng_eq, List.filter_map]
  congr 1
  exact List.filter_congr fun k _ => h k
section
variable {P : Program} {w : World} {K : PySem.W.Frag} {mg : Str → Option Value} {base : Heap}
/-! ### the law's idle rows -/
abbrev spIdleL : Sp := spT (fun a : Plan × Cell => [planD a.1, cellD a.2]) (fun a => a.2.1 < a.1.modes.length ∧ cntOf a.1.modes a.2.1 ≤ 100) fun a d => d = rowD (idleR a.1.modes a.2)
theorem ok__law_idle {f : Addr} {fd : FuncData} (F : Fun K "_law_idle" "_law_idle" s__law_idle f fd) (m_range : mg "range" = none) (m_tuple : mg "tuple" = none) : FnOk P w K mg base CX0 1 f fd ["plan", "cell"] spIdleL := by
  have nd := sc__law_idle.nd
  refine F.ok sc__law_idle (fun vs H Q E h => spT_len (fun _ => rfl) h) (fun cdv A outer s H vs Q E hr h => ⟨_, (pss_cons (ps_asg (pv 1) (pg_tupK (K := K) (n := 3) rfl rfl (pgs_cons (pg_name (i := 2) nd rfl (by first | exact Or.inl rfl | exact Or.inr rfl)) (pgs_cons (pg_name (i := 3) nd rfl (by first | exact Or.inl rfl | exact Or.inr rfl)) (pgs_cons (pg_name (i := 4) nd rfl (by first | exact Or.inl rfl | exact Or.inr rfl)) pgs_nil)))))
      (pss_cons (ps_set (i := 5) nd rfl (by first | exact Or.inl rfl | exact Or.inr rfl) (pe_ix (ix_tupK (K := K) rfl) (pe_ix (ix_tupK (K := K) rfl) (pe_ix (ix_listK (K := K) rfl) (pv 0) pe_int (fun _ _ => rfl)) (pv 2) (fun _ _ => rfl)) pe_int (fun _ _ => rfl)))
      (pss_cons (ps_if (pt_cmpR op_eq (pe_op op_mod (pv 4) pe_int) pe_int (nomark _)) (pss_one (ps_ret (pe_tup (pa_cons (pv 2) (pa_cons (pe_callTy (call_tuple_ofK (K := K) rfl) (by rfl) m_tuple (by decide +kernel) (pa_cons (pe_lc (own := [("k", 6)]) (g := gName 6) rfl nd (pi_range1 rfl m_range (pa_cons (pv 5) pa_nil)) (by refine blkOk_by ?_; show blkC N__law_idle (defScope s__law_idle) _ _ = true; decide +kernel) (fun _ _ _ _ _ => (pg_name (i := 6) nd rfl (by first | exact Or.inl rfl | exact Or.inr rfl))) (fun _ _ _ _ _ => pts_nil) (fun _ _ _ _ _ => (pv 6))) pa_nil)) (pa_cons (pe_tup pa_nil) pa_nil)))))) pss_nil)
      (pss_one (ps_ret (pe_tup (pa_cons (pv 2) (pa_cons (pe_callTy (call_tuple_ofK (K := K) rfl) (by rfl) m_tuple (by decide +kernel) (pa_cons (pe_lc (own := [("k", 6)]) (g := gName 6) rfl nd (pi_range1 rfl m_range (pa_cons (pe_op op_add (pv 5) pe_int) pa_nil)) (by refine blkOk_by ?_; show blkC N__law_idle (defScope s__law_idle) _ _ = true; decide +kernel) (fun _ _ _ _ _ => (pg_name (i := 6) nd rfl (by first | exact Or.inl rfl | exact Or.inr rfl))) (fun _ _ _ _ _ => pts_one (pt_cmpR op_ne (pv 6) (pe_op op_fdiv (pv 4) pe_int) (nomark _))) (fun _ _ _ _ _ => (pv 6))) pa_nil)) (pa_cons (pe_tup pa_nil) pa_nil))))))))) , ?_⟩)
  refine ok_bodyT (fun a => [.dat (planD a.1), .dat (cellD a.2), .un, .un, .un, .un, .un]) h (fun _ => by show 2 ≤ 7; decide) (fun _ => rfl) fun c a hc hp => ?_
  obtain ⟨pl, m, n, q⟩ := a
  obtain ⟨hm, hk⟩ : m < pl.modes.length ∧ cntOf pl.modes m ≤ 100 := hp
  refine ds_asgS (vs := [2, 3, 4]) (d := cellD (m, n, q)) (M := (· = [.dat (planD pl), .dat (cellD (m, n, q)), .dat (nD m), .dat (nD n), .dat (nD q), .un, .un])) (de_var rfl) (dg_tup rfl (dgs_name (by decide) (dgs_name (by decide) (dgs_name (by decide) (dgs_nil rfl))))) fun δ' e => ?_
  subst e
  refine ds_letE (de_cnt (m := m) (de_modes (de_var rfl)) (de_var rfl) hm) ?_
  refine ds_seq (M := fun δ' => q % 2 ≠ 1 ∧ δ' = [.dat (planD pl), .dat (cellD (m, n, q)), .dat (nD m), .dat (nD n), .dat (nD q), .dat (nD (cntOf pl.modes m)), .un]) (ds_ifE (k := decide (q % 2 = 1)) (dt_testE (De.eq (de_op (de_mod (de_var rfl) de_int (by decide)) de_int rv_eqI) ?_)) (fun ht => ?_) (fun ht => ds_next ⟨of_decide_eq_false ht, rfl⟩)) ?_
  · congr 1
    by_cases z : q % 2 = 1
    · rw [decide_eq_true z]; exact decide_eq_true (by omega)
    · rw [decide_eq_false z]; exact decide_eq_false (by omega)
  · have ht := of_decide_eq_true ht
    refine ds_retE (d := rowD (m, List.range (cntOf pl.modes m), [])) (de_tup (da_consE (de_var rfl) (da_consE (de_tupleOfLK (Dl.de (dl_lcMap (fun d => d) (di_rng1E (n := (cntOf pl.modes m : Int)) (de_var rfl) (by omega) (by omega)) (by rw [rngD_len]; omega) fun d hd => dg_name (by decide) (de_var rfl)))) (da_consE (de_tup da_nil) da_nil))) |>.eq ?_) ?_
    · rw [List.map_id', Int.toNat_natCast, rng_eq]; rfl
    · show rowD _ = rowD (idleR pl.modes (m, n, q))
      unfold idleR idleK
      rw [if_pos ht]
  · rintro δ' ⟨hq, rfl⟩
    refine ds_retE (d := rowD (idleR pl.modes (m, n, q))) (de_tup (da_consE (de_var rfl) (da_consE (de_tupleOfLK (Dl.de (dl_lcFilter (fun d => match d with
      | .int k => decide (k.toNat ≠ q / 2)
      | _ => false) (fun d => d) (di_rng1E (n := (cntOf pl.modes m : Int) + 1) (de_add (de_var rfl) de_int) (by omega) (by omega)) (by rw [rngD_len]; omega) fun d hd => ?_))) (da_consE (de_tup da_nil) da_nil))) |>.eq ?_) rfl
    · obtain ⟨k, hk⟩ := List.mem_iff_getElem?.mp hd
      obtain ⟨hk, rfl⟩ := rng_get hk
      refine dg_name (by decide) ⟨dt_testE (De.eq (de_op (de_var rfl) (de_div (de_var rfl) de_int ⟨by decide, by decide⟩) rv_neI) ?_), fun _ => de_var rfl⟩
      show Dt.bl _ = Dt.bl (decide (((k : Int)).toNat ≠ q / 2))
      congr 1
      rw [Int.toNat_natCast]
      by_cases z : k = q / 2
      · rw [decide_eq_true (show (k : Int) = (q : Int) / 2 by omega)]; simp [z]
      · rw [decide_eq_false (show ¬ (k : Int) = (q : Int) / 2 by omega)]; simp [z]
    · rw [List.map_id', show ((cntOf pl.modes m : Int) + 1).toNat = cntOf pl.modes m + 1 by omega, filter_rng (q := fun k => decide (k ≠ q / 2)) fun k => ?_]
      · unfold idleR idleK
        rw [if_neg hq]
        rfl
      · show decide (((k : Int)).toNat ≠ q / 2) = _
        rw [Int.toNat_natCast]
/-! ### the first place of a word -/
def idxOf (ws : List Str) (x : Str) (i : Nat) : Option Nat := match ws with
  | [] => none
  | y :: r => if y = x then some i else idxOf r x (i + 1)
theorem idxOf_get {x : Str} : ∀ {ws : List Str} {i j : Nat}, idxOf ws x i = some j → i ≤ j ∧ ws[j - i]? = some x
  | [], _, _, h => by cases h
  | y :: r, i, j, h => by
    unfold idxOf at h
    split at h
    · rename_i e
      have := Option.some.inj h
      subst this
      exact ⟨Nat.le_refl _, by rw [Nat.sub_self, e]; rfl⟩
    · obtain ⟨h1, h2⟩ := idxOf_get h
      refine ⟨by omega, ?_⟩
      rw [show j - i = (j - (i + 1)) + 1 by omega]
      exact h2
def idxD : Option Nat → Dt
  | some k => nD k
  | none => .non
abbrev spIndex : Sp := spT (fun a : List Str × Str => [strsF a.1, .str a.2]) (fun a => a.1.length ≤ 1000) fun a d => d = idxD (idxOf a.1 a.2 0)
theorem ok__law_index {f : Addr} {fd : FuncData} (F : Fun K "_law_index" "_law_index" s__law_index f fd) (m_range : mg "range" = none) (m_len : mg "len" = none) : FnOk P w K mg base CX0 1 f fd ["words", "word"] spIndex := by
  have nd := sc__law_index.nd
  refine F.ok sc__law_index (fun vs H Q E h => spT_len (fun _ => rfl) h) (fun cdv A outer s H vs Q E hr h => ⟨_, (pss_cons (ps_for PassesOwn.never rfl (pi_range1 rfl m_range (pa_cons (pe_callB (call_lenK (K := K) rfl) (by rfl) m_len PySem.boot_len (pa_cons (pv 0) pa_nil)) pa_nil)) (pg_name (i := 2) nd rfl (by first | exact Or.inl rfl | exact Or.inr rfl)) (pss_one (ps_if (pt_cmpR op_eq (pe_ix (ix_tupK (K := K) rfl) (pv 0) (pv 2) (fun _ _ => rfl)) (pv 1) (nomark _)) (pss_one (ps_ret (pv 2))) pss_nil)))
      (pss_one (ps_ret pe_non))) , ?_⟩)
  refine ok_bodyT (fun a => [.dat (strsF a.1), .dat (.str a.2), .un]) h (fun _ => by show 2 ≤ 3; decide) (fun _ => rfl) fun c a hc hp => ?_
  obtain ⟨ws, x⟩ := a
  have hp : ws.length ≤ 1000 := hp
  refine ds_seq (M := fun δ' => ∃ x2, idxOf ws x 0 = none ∧ δ' = [.dat (strsF ws), .dat (.str x), x2]) (ds_for (vs := [2]) (di_rng1E (n := (ws.length : Int)) (De.eq (de_lenF (de_var rfl)) (by rw [List.length_map])) (by omega) (by omega)) fun xs e => ?_) ?_
  · subst e
    refine ⟨fun i δ' => ∃ x2, idxOf ws x 0 = idxOf (ws.drop i) x i ∧ δ' = [.dat (strsF ws), .dat (.str x), x2], ⟨.un, rfl, rfl⟩, ?_, ?_⟩
    · rintro i d δ' hd ⟨x2, hI, rfl⟩
      obtain ⟨hi, rfl⟩ := rng_get hd
      have hi : i < ws.length := by omega
      have hdrop : ws.drop i = ws[i] :: ws.drop (i + 1) := List.drop_eq_getElem_cons hi
      refine dg_name (by decide) ?_
      refine ds_ifE (k := decide (ws[i] = x)) (dt_testE (de_op (de_ixF (i := (i : Int)) (d := .str ws[i]) (de_var rfl) (de_var rfl) (atI_nat <| by rw [List.getElem?_map, List.getElem?_eq_getElem hi]; rfl)) (de_var rfl) rv_eqS)) (fun ht => ?_) (fun ht => ?_)
      · refine ds_retE (d := nD i) (de_var rfl) ?_
        show _ = idxD (idxOf ws x 0)
        rw [hI, hdrop, idxOf, if_pos (of_decide_eq_true ht)]
        rfl
      · refine ds_next ⟨.dat (nD i), ?_, rfl⟩
        rw [hI, hdrop, idxOf, if_neg (of_decide_eq_false ht)]
    · rintro δ' ⟨x2, hI, rfl⟩
      refine ⟨x2, ?_, rfl⟩
      rw [hI, rngD_len, Int.toNat_natCast, List.drop_length]
      rfl
  · rintro δ' ⟨x2, hI, rfl⟩
    refine ds_retE de_non ?_
    show _ = idxD (idxOf ws x 0)
    rw [hI]; rfl
/-! ### the program's rows, in tuples or in lists -/
abbrev KLT (k : Sk) : Prop := k = .lst ∨ k = .tup
theorem KLT.ok {k : Sk} (h : KLT k) {zs : List Dt} : SkOk K k zs := okSq (h.imp id .inl)
theorem KLT.all {k : Sk} (h : KLT k) : k = .lst ∨ k = .tup ∨ k = .ftup := h.imp id .inl
theorem KLT.tk {k : Sk} (h : KLT k) (xs : List Dt) : sqD (tK k) xs = .tup xs := by rcases h with rfl | rfl <;> rfl
def wrQ (k : Sk) (w : Wr) : Dt := sqD k [nD w.1, .str w.2.1, nD w.2.2]
def rowQ (k : Sk) (r : Row) : Dt := sqD k [nD r.1, sqD k (r.2.1.map nD), sqD k (r.2.2.map (wrQ k))]
def cellQ (k : Sk) (x : Cell) : Dt := sqD k [nD x.1, nD x.2.1, nD x.2.2]
abbrev spCopyQ : Sp := spT (fun a : Sk × Row => [rowQ a.1 a.2]) (fun a => KLT a.1 ∧ a.2.2.2.length ≤ 1000) fun a d => d = rowD a.2
theorem ok_copyQ {f : Addr} {fd : FuncData} (F : Fun K "copy_of_row" "copy_of_row" s_copy_of_row f fd) (m_tuple : mg "tuple" = none) : FnOk P w K mg base CX0 1 f fd ["row"] spCopyQ := by
  have nd := sc_copy_of_row.nd
  refine F.ok sc_copy_of_row (fun vs H Q E h => spT_len (fun _ => rfl) h) (fun cdv A outer s H vs Q E hr h => ⟨_, (pss_cons (ps_asg (pv 0) (pg_sqK (K := K) (n := 3) rfl rfl (pgs_cons (pg_name (i := 1) nd rfl (by first | exact Or.inl rfl | exact Or.inr rfl)) (pgs_cons (pg_name (i := 2) nd rfl (by first | exact Or.inl rfl | exact Or.inr rfl)) (pgs_cons (pg_name (i := 3) nd rfl (by first | exact Or.inl rfl | exact Or.inr rfl)) pgs_nil)))))
      (pss_one (ps_ret (pe_tup (pa_cons (pv 1) (pa_cons (pe_callTy (call_tuple_ofK (K := K) rfl) (by rfl) m_tuple (by decide +kernel) (pa_cons (pv 2) pa_nil)) (pa_cons (pe_callTy (call_tuple_ofK (K := K) rfl) (by rfl) m_tuple (by decide +kernel) (pa_cons (pe_lc (own := [("write", 4)]) (g := gName 4) rfl nd (pi_seqK (K := K) rfl (pv 3)) (by refine blkOk_by ?_; show blkC N_copy_of_row (defScope s_copy_of_row) _ _ = true; decide +kernel) (fun _ _ _ _ _ => (pg_name (i := 4) nd rfl (by first | exact Or.inl rfl | exact Or.inr rfl))) (fun _ _ _ _ _ => pts_nil) (fun _ _ _ _ _ => (pe_callTy (call_tuple_ofK (K := K) rfl) (by rfl) m_tuple (by decide +kernel) (pa_cons (pv 4) pa_nil)))) pa_nil)) pa_nil))))))) , ?_⟩)
  refine ok_bodyT (fun a => [.dat (rowQ a.1 a.2), .un, .un, .un, .un]) h (fun _ => by show 1 ≤ 5; decide) (fun _ => rfl) fun c a hc hp => ?_
  obtain ⟨k, t, ks, ws⟩ := a
  obtain ⟨hk, hp⟩ : KLT k ∧ ws.length ≤ 1000 := hp
  refine ds_asgS (vs := [1, 2, 3]) (d := rowQ k (t, ks, ws)) (M := (· = [.dat (rowQ k (t, ks, ws)), .dat (nD t), .dat (sqD k (ks.map nD)), .dat (sqD k (ws.map (wrQ k))), .un])) (de_var rfl) (dg_sq hk.ok rfl (dgs_name (by decide) (dgs_name (by decide) (dgs_name (by decide) (dgs_nil rfl))))) fun δ' e => ?_
  subst e
  refine ds_retE (d := rowD (t, ks, ws)) (de_tup (da_consE (de_var rfl) (da_consE (De.eq (de_tupleQ hk.all (de_var rfl)) (hk.tk _)) (da_consE (de_tupleOfLK (Dl.de (dl_lcOf (xs := ws) (b := wrQ k) wrD (di_sq hk.ok (de_var rfl)) (by omega) fun x hx => dg_name (by decide) (De.eq (de_tupleQ (xs := [nD x.1, .str x.2.1, nD x.2.2]) hk.all (de_var rfl)) (hk.tk _))))) da_nil)))) rfl
abbrev spCopy : Sp := spT (fun r : Row => [rowD r]) (fun r => r.2.2.length ≤ 1000) fun r d => d = rowD r
theorem ok_copy_of_row {f : Addr} {fd : FuncData} (F : Fun K "copy_of_row" "copy_of_row" s_copy_of_row f fd) (m_tuple : mg "tuple" = none) : FnOk P w K mg base CX0 1 f fd ["row"] spCopy :=
  (ok_copyQ F m_tuple).imp (spT_imp (fun r : Row => (Sk.tup, r)) (fun _ => rfl) (fun _ h => ⟨.inr rfl, h⟩) fun _ _ _ h => h)
def candC (k p : Nat) : Nat := if p % 2 = 1 then k else k + 1
abbrev spCand : Sp := spT (fun a : Nat × Nat => [nD a.1, nD a.2]) (fun _ => True) fun a d => d = nD (candC a.1 a.2)
theorem ok_candidate_count {f : Addr} {fd : FuncData} (F : Fun K "candidate_count" "candidate_count" s_candidate_count f fd) : FnOk P w K mg base CX0 1 f fd ["count", "position"] spCand := by
  have nd := sc_candidate_count.nd
  refine F.ok sc_candidate_count (fun vs H Q E h => spT_len (fun _ => rfl) h) (fun cdv A outer s H vs Q E hr h => ⟨_, (pss_cons (ps_if (pt_cmpR op_eq (pe_op op_mod (pv 1) pe_int) pe_int (nomark _)) (pss_one (ps_ret (pv 0))) pss_nil)
      (pss_one (ps_ret (pe_op op_add (pv 0) pe_int)))) , ?_⟩)
  refine ok_bodyT (fun a => [.dat (nD a.1), .dat (nD a.2)]) h (fun _ => by show 2 ≤ 2; decide) (fun _ => rfl) fun c a hc hp => ?_
  obtain ⟨k, q⟩ := a
  refine ds_seq (M := fun δ' => q % 2 ≠ 1 ∧ δ' = [.dat (nD k), .dat (nD q)]) (ds_ifE (k := decide (q % 2 = 1)) (dt_testE (De.eq (de_op (de_mod (de_var rfl) de_int (by decide)) de_int rv_eqI) ?_)) (fun ht => ?_) (fun ht => ds_next ⟨of_decide_eq_false ht, rfl⟩)) ?_
  · congr 1
    by_cases z : q % 2 = 1
    · rw [decide_eq_true z]; exact decide_eq_true (by omega)
    · rw [decide_eq_false z]; exact decide_eq_false (by omega)
  · refine ds_retE (d := nD k) (de_var rfl) ?_
    show nD k = nD (candC k q)
    rw [candC, if_pos (of_decide_eq_true ht)]
  · rintro δ' ⟨hq, rfl⟩
    refine ds_retE (d := nD (k + 1)) (De.eq (de_add (i := (k : Int)) (j := 1) (de_var rfl) de_int) (by rfl)) ?_
    show nD (k + 1) = nD (candC k q)
    rw [candC, if_neg hq]
/-! ### positions -/
def posOf (n : Int) : List Int → Nat → Nat
  | [], p => p
  | v :: r, p => if n < v then p else if n = v then p + 1 else posOf n r (p + 2)
abbrev spPos (K : PySem.W.Frag) : Sp := spT (fun a : Int × Sk × List Int => [.int a.1, sqD a.2.1 (a.2.2.map Dt.int)]) (fun a => SkOk K a.2.1 (a.2.2.map Dt.int)) fun a d => d = nD (posOf a.1 a.2.2 0)
theorem ok_position_of {f : Addr} {fd : FuncData} (F : Fun K "position_of" "position_of" s_position_of f fd) : FnOk P w K mg base CX0 1 f fd ["number", "held"] (spPos K) := by
  have nd := sc_position_of.nd
  refine F.ok sc_position_of (fun vs H Q E h => spT_len (fun _ => rfl) h) (fun cdv A outer s H vs Q E hr h => ⟨_, (pss_cons (ps_set (i := 2) nd rfl (by first | exact Or.inl rfl | exact Or.inr rfl) pe_int)
      (pss_cons (ps_for PassesOwn.never rfl (pi_seqK (K := K) rfl (pv 1)) (pg_name (i := 3) nd rfl (by first | exact Or.inl rfl | exact Or.inr rfl)) (pss_cons (ps_if (pt_cmpR op_lt (pv 0) (pv 3) (nomark _)) (pss_one (ps_ret (pv 2))) pss_nil)
      (pss_cons (ps_if (pt_cmpR op_eq (pv 0) (pv 3) (nomark _)) (pss_one (ps_ret (pe_op op_add (pv 2) pe_int))) pss_nil)
      (pss_one (ps_aug (i := 2) nd rfl (by first | exact Or.inl rfl | exact Or.inr rfl) pe_int ip_add)))))
      (pss_one (ps_ret (pv 2))))) , ?_⟩)
  refine ok_bodyT (fun a => [.dat (.int a.1), .dat (sqD a.2.1 (a.2.2.map Dt.int)), .un, .un]) h (fun _ => by show 2 ≤ 4; decide) (fun _ => rfl) fun c a hc hp => ?_
  obtain ⟨n, t, hs⟩ := a
  have hp : SkOk K t (hs.map Dt.int) := hp
  refine ds_letE (d := nD 0) de_int ?_
  refine ds_seq (M := fun δ' => ∃ x3, δ' = [.dat (.int n), .dat (sqD t (hs.map Dt.int)), .dat (nD (posOf n hs 0)), x3]) (ds_for (vs := [3]) (di_sq hp (de_var rfl)) fun xs e => ?_) ?_
  · subst e
    refine ⟨fun i δ' => ∃ p x3, posOf n hs 0 = posOf n (hs.drop i) p ∧ δ' = [.dat (.int n), .dat (sqD t (hs.map Dt.int)), .dat (nD p), x3], ⟨0, .un, rfl, rfl⟩, ?_, ?_⟩
    · rintro i d δ' hd ⟨p, x3, hI, rfl⟩
      obtain ⟨v, hv, rfl⟩ : ∃ v, hs[i]? = some v ∧ d = .int v := by
        rw [List.getElem?_map] at hd
        cases e : hs[i]? with
        | none => rw [e] at hd; cases hd
        | some x => rw [e] at hd; exact ⟨x, rfl, (Option.some.inj hd).symm⟩
      have hi := (List.getElem?_eq_some_iff.mp hv).1
      have hdrop : hs.drop i = v :: hs.drop (i + 1) := by
        rw [List.drop_eq_getElem_cons hi]
        congr 1
        exact Option.some.inj ((List.getElem?_eq_getElem hi).symm.trans hv)
      refine dg_name (by decide) ?_
      refine ds_seq (M := fun δ' => ¬ n < v ∧ δ' = [.dat (.int n), .dat (sqD t (hs.map Dt.int)), .dat (nD p), .dat (.int v)]) (ds_ifE (k := decide (n < v)) (dt_testE (de_cmp (f := fun i j => decide (i < j)) (de_var rfl) (de_var rfl))) (fun ht => ?_) (fun ht => ds_next ⟨of_decide_eq_false ht, rfl⟩)) ?_
      · refine ds_retE (d := nD p) (de_var rfl) ?_
        show nD p = nD (posOf n hs 0)
        rw [hI, hdrop, posOf, if_pos (of_decide_eq_true ht)]
      rintro δ' ⟨h1, rfl⟩
      refine ds_seq (M := fun δ' => ¬ n = v ∧ δ' = [.dat (.int n), .dat (sqD t (hs.map Dt.int)), .dat (nD p), .dat (.int v)]) (ds_ifE (k := decide (n = v)) (dt_testE (de_op (de_var rfl) (de_var rfl) rv_eqI)) (fun ht => ?_) (fun ht => ds_next ⟨of_decide_eq_false ht, rfl⟩)) ?_
      · refine ds_retE (d := nD (p + 1)) (De.eq (de_add (i := (p : Int)) (j := 1) (de_var rfl) de_int) (by rfl)) ?_
        show nD (p + 1) = nD (posOf n hs 0)
        rw [hI, hdrop, posOf, if_neg h1, if_pos (of_decide_eq_true ht)]
      rintro δ' ⟨h2, rfl⟩
      refine ds_addTo (i := 2) (a := (p : Int)) (b := 2) rfl de_int ⟨p + 2, .dat (.int v), ?_, rfl⟩
      rw [hI, hdrop, posOf, if_neg h1, if_neg h2]
    · rintro δ' ⟨p, x3, hI, rfl⟩
      refine ⟨x3, ?_⟩
      rw [hI, List.drop_of_length_le (by simp)]
      rfl
  · rintro δ' ⟨x3, rfl⟩
    exact ds_retE (d := nD (posOf n hs 0)) (de_var rfl) rfl
end
end K30

set_option Elab.async false
set_option maxRecDepth 100000
set_option maxHeartbeats 4000000
namespace K30
open PySem L2 StX Zd
section
variable {P : Program} {w : World} {K : PySem.W.Frag} {mg : Str → Option Value} {base : Heap} {C : Addr}
abbrev spIdleQ (C : Addr) : Sp := spP C (fun a : Sk × List Mode × Cell => [("modes", .tup (a.2.1.map modeD))]) (fun a => [cellQ a.1 a.2.2]) (fun a => KLT a.1 ∧ a.2.2.1 < a.2.1.length ∧ cntOf a.2.1 a.2.2.1 ≤ 100) fun a d => d = rowD (idleR a.2.1 a.2.2)
theorem ok_idle_rowQ {f f2 : Addr} {fd fd2 : FuncData} (F : Fun K "idle_row" "idle_row" s_idle_row f fd) (k_candidate_count : Kn K mg "candidate_count" s_candidate_count ["count", "position"] f2 fd2) (hC : Cls K C) (hn : NoAttr K C "modes") (m_range : mg "range" = none) (m_tuple : mg "tuple" = none) : FnOk P w K mg base CX0 2 f fd ["program", "cell"] (spIdleQ C) := by
  have nd := sc_idle_row.nd
  have G_candidate_count : FnOk P w K mg base CX0 1 f2 fd2 ["count", "position"] spCand := ok_candidate_count k_candidate_count.F
  refine F.ok sc_idle_row (fun vs H Q E h => spP_len (fun _ => rfl) h) (fun cdv A outer s H vs Q E hr h => ⟨_, (pss_cons (ps_asg (pv 1) (pg_sqK (K := K) (n := 3) rfl rfl (pgs_cons (pg_name (i := 2) nd rfl (by first | exact Or.inl rfl | exact Or.inr rfl)) (pgs_cons (pg_name (i := 3) nd rfl (by first | exact Or.inl rfl | exact Or.inr rfl)) (pgs_cons (pg_name (i := 4) nd rfl (by first | exact Or.inl rfl | exact Or.inr rfl)) pgs_nil)))))
      (pss_cons (ps_set (i := 5) nd rfl (by first | exact Or.inl rfl | exact Or.inr rfl) (pe_ix (ix_tupK (K := K) rfl) (pe_ix (ix_tupK (K := K) rfl) (pe_fldK (K := K) rfl (pv 0) (by rfl)) (pv 2) (fun _ _ => rfl)) pe_int (fun _ _ => rfl)))
      (pss_cons (ps_set (i := 6) nd rfl (by first | exact Or.inl rfl | exact Or.inr rfl) (pe_call G_candidate_count (hr.mono (by decide)) (by rfl) k_candidate_count.g k_candidate_count.F.kp k_candidate_count.b .nil pass0 (pa_cons (pv 5) (pa_cons (pv 4) pa_nil))))
      (pss_cons (ps_setLc (i := 7) (own := [("at", 8)]) (g := gName 8) rfl nd rfl rfl (sw_true rfl rfl rfl (by decide +kernel)) (pi_range1 rfl m_range (pa_cons (pv 6) pa_nil)) (by refine blkOk_by ?_; show blkC N_idle_row (defScope s_idle_row) _ _ = true; decide +kernel) (fun _ _ _ _ _ => (pg_name (i := 8) nd rfl (by first | exact Or.inl rfl | exact Or.inr rfl))) (fun _ _ _ _ _ => pts_one (PW.pt (pw_or (pt_cmpR op_eq (pv 6) (pv 5) (nomark _)) (pw_or1 (pt_cmpR op_ne (pv 8) (pe_op op_fdiv (pv 4) pe_int) (nomark _)))))) (fun _ _ _ _ _ => (pv 8)))
      (pss_one (ps_ret (pe_tup (pa_cons (pv 2) (pa_cons (pe_callTy (call_tuple_ofK (K := K) rfl) (by rfl) m_tuple (by decide +kernel) (pa_cons (pv 7) pa_nil)) (pa_cons (pe_tup pa_nil) pa_nil)))))))))) , ?_⟩)
  refine ok_bodyP (fun x a => [.raw (.ref x), .dat (cellQ a.1 a.2.2), .un, .un, .un, .un, .un, .un, .un]) h (fun _ => by show 2 ≤ 9; decide) (fun _ _ => rfl) fun c x a R hp => ?_
  obtain ⟨kc, modes, m, n, q⟩ := a
  obtain ⟨hkc, hm, hk⟩ : KLT kc ∧ m < modes.length ∧ cntOf modes m ≤ 100 := hp
  refine ds_asgS (vs := [2, 3, 4]) (d := cellQ kc (m, n, q)) (M := (· = [.raw (.ref x), .dat (cellQ kc (m, n, q)), .dat (nD m), .dat (nD n), .dat (nD q), .un, .un, .un, .un])) (de_var rfl) (dg_sq hkc.ok rfl (dgs_name (by decide) (dgs_name (by decide) (dgs_name (by decide) (dgs_nil rfl))))) fun δ' e => ?_
  subst e
  refine ds_letE (de_cnt (modes := modes) (m := m) (de_fldR R rfl List.mem_cons_self hC hn) (de_var rfl) hm) ?_
  refine ds_letE (d := nD (candC (cntOf modes m) q)) (de_callT (A := fun a : Nat × Nat => [nD a.1, nD a.2]) (f := fun a => nD (candC a.1 a.2)) (cntOf modes m, q) (da_consE (de_var rfl) (da_consE (de_var rfl) da_nil)) trivial) ?_
  have hcc : candC (cntOf modes m) q ≤ 101 := by unfold candC; split <;> omega
  refine ds_letE (d := .lst ((idleK (cntOf modes m) q).map nD)) (De.eq (Dl.de (dl_lcFilter (fun d => match d with
    | .int k => decide (candC (cntOf modes m) q = cntOf modes m) || decide (k.toNat ≠ q / 2)
    | _ => false) (fun d => d) (di_rng1E (n := (candC (cntOf modes m) q : Int)) (de_var rfl) (by omega) (by omega)) (by rw [rngD_len]; omega) fun d hd => ?_)) ?_) ?_
  · obtain ⟨k, hk⟩ := List.mem_iff_getElem?.mp hd
    obtain ⟨hk, rfl⟩ := rng_get hk
    refine dg_name (by decide) ⟨(dt_or (a := decide (candC (cntOf modes m) q = cntOf modes m)) (b := decide (k ≠ q / 2)) (dt_testE (De.eq (de_op (de_var rfl) (de_var rfl) rv_eqI) ?_)) fun _ => dt_testE (De.eq (de_op (de_var rfl) (de_div (de_var rfl) de_int ⟨by decide, by decide⟩) rv_neI) ?_)).imp fun b e => by rw [e]; rfl, fun _ => de_var rfl⟩
    · congr 1
      by_cases z : candC (cntOf modes m) q = cntOf modes m
      · rw [decide_eq_true z]; exact decide_eq_true (by omega)
      · rw [decide_eq_false z]; exact decide_eq_false (by omega)
    · congr 1
      by_cases z : k = q / 2
      · rw [decide_eq_true (show (k : Int) = (q : Int) / 2 by omega)]; simp [z]
      · rw [decide_eq_false (show ¬ (k : Int) = (q : Int) / 2 by omega)]; simp [z]
  · rw [List.map_id', Int.toNat_natCast, filter_rng (q := fun k => decide (candC (cntOf modes m) q = cntOf modes m) || decide (k ≠ q / 2)) fun k => rfl]
    unfold idleK candC
    by_cases z : q % 2 = 1
    · rw [if_pos z, if_pos z, List.filter_eq_self.mpr fun k _ => by simp]
    · rw [if_neg z, if_neg z]
      congr 2
      refine List.filter_congr fun k _ => ?_
      rw [decide_eq_false (by omega), Bool.false_or]
  · exact ds_retE (d := rowD (idleR modes (m, n, q))) (de_tup (da_consE (de_var rfl) (da_consE (de_tupleOfLK (de_var rfl)) (da_consE (de_tup (ds := []) da_nil) da_nil)))) rfl
abbrev spIdle (C : Addr) : Sp := spP C (fun a : List Mode × Cell => [("modes", .tup (a.1.map modeD))]) (fun a => [cellD a.2]) (fun a => a.2.1 < a.1.length ∧ cntOf a.1 a.2.1 ≤ 100) fun a d => d = rowD (idleR a.1 a.2)
theorem ok_idle_row {f f2 : Addr} {fd fd2 : FuncData} (F : Fun K "idle_row" "idle_row" s_idle_row f fd) (k_candidate_count : Kn K mg "candidate_count" s_candidate_count ["count", "position"] f2 fd2) (hC : Cls K C) (hn : NoAttr K C "modes") (m_range : mg "range" = none) (m_tuple : mg "tuple" = none) : FnOk P w K mg base CX0 2 f fd ["program", "cell"] (spIdle C) :=
  (ok_idle_rowQ F k_candidate_count hC hn m_range m_tuple).imp (spP_imp (fun a : List Mode × Cell => (Sk.tup, a)) (fun _ => rfl) (fun _ => rfl) (fun _ h => ⟨.inr rfl, h⟩) fun _ _ _ h => h)
/-! ### the row of a cell -/
def cellK (x : Cell) : List Key := [.inl (x.1 : Int), .inl (x.2.1 : Int), .inl (x.2.2 : Int)]
theorem cellK_inj {a b : Cell} (h : cellK a = cellK b) : a = b := by
  obtain ⟨a1, a2, a3⟩ := a
  obtain ⟨b1, b2, b3⟩ := b
  unfold cellK at h
  simp at h
  obtain ⟨h1, h2, h3⟩ := h
  rw [show a1 = b1 by omega, show a2 = b2 by omega, show a3 = b3 by omega]
structure RowAt where
  ks : List (List Key)
  ds : List Dt
  cell : Cell
  d : Dt
abbrev spRowAtQ (C : Addr) : Sp := spP C (fun a : Sk × RowAt => [("row_of", .dct a.2.ks a.2.ds)]) (fun a => [cellQ a.1 a.2.cell]) (fun a => KLT a.1 ∧ dctAt a.2.ks a.2.ds (cellK a.2.cell) = some a.2.d) fun a d => d = a.2.d
theorem ok_row_atQ {f : Addr} {fd : FuncData} (F : Fun K "row_at" "row_at" s_row_at f fd) (hC : Cls K C) (hn : NoAttr K C "row_of") (m_tuple : mg "tuple" = none) : FnOk P w K mg base CX0 1 f fd ["program", "cell"] (spRowAtQ C) := by
  have nd := sc_row_at.nd
  refine F.ok sc_row_at (fun vs H Q E h => spP_len (fun _ => rfl) h) (fun cdv A outer s H vs Q E hr h => ⟨_, (pss_one (ps_ret (pe_dget (hu_of hr) (pe_fldK (K := K) rfl (pv 0) (by rfl)) (pe_callTy (call_tuple_ofK (K := K) rfl) (by rfl) m_tuple (by decide +kernel) (pa_cons (pv 1) pa_nil)) (fun _ _ => rfl)))) , ?_⟩)
  refine ok_bodyP (fun x a => [.raw (.ref x), .dat (cellQ a.1 a.2.cell)]) h (fun _ => by show 2 ≤ 2; decide) (fun _ _ => rfl) fun c x a R hp => ?_
  exact ds_retE (de_getT (k := cellK a.2.cell) (de_fldR R rfl List.mem_cons_self hC hn) (De.eq (de_tupleQ (xs := [nD a.2.cell.1, nD a.2.cell.2.1, nD a.2.cell.2.2]) hp.1.all (de_var rfl)) (hp.1.tk _)) hp.2) rfl
abbrev spRowAt (C : Addr) : Sp := spP C (fun a : RowAt => [("row_of", .dct a.ks a.ds)]) (fun a => [cellD a.cell]) (fun a => dctAt a.ks a.ds (cellK a.cell) = some a.d) fun a d => d = a.d
theorem ok_row_at {f : Addr} {fd : FuncData} (F : Fun K "row_at" "row_at" s_row_at f fd) (hC : Cls K C) (hn : NoAttr K C "row_of") (m_tuple : mg "tuple" = none) : FnOk P w K mg base CX0 1 f fd ["program", "cell"] (spRowAt C) :=
  (ok_row_atQ F hC hn m_tuple).imp (spP_imp (fun a : RowAt => (Sk.tup, a)) (fun _ => rfl) (fun _ => rfl) (fun _ h => ⟨.inr rfl, h⟩) fun _ _ _ h => h)
/-! ### the candidates -/
abbrev spCands (K : PySem.W.Frag) : Sp := spT (fun a : Sk × List Int × Int => [sqD a.1 (a.2.1.map Dt.int), .int a.2.2]) (fun a => SkOk K a.1 (a.2.1.map Dt.int) ∧ a.2.1.length ≤ 50) fun a d => ∃ ms : List Int, d = .lst (ms.map Dt.int) ∧ ms.Pairwise (· < ·) ∧ ∀ k, k ∈ ms ↔ k ∈ a.2.1 ∨ k = a.2.2
theorem ok_candidates {f : Addr} {fd : FuncData} (F : Fun K "candidates" "candidates" s_candidates f fd) (m_set : mg "set" = none) (m_sorted : mg "sorted" = none) : FnOk P w K mg base CX0 1 f fd ["held", "number"] (spCands K) := by
  have nd := sc_candidates.nd
  refine F.ok sc_candidates (fun vs H Q E h => spT_len (fun _ => rfl) h) (fun cdv A outer s H vs Q E hr h => ⟨_, (pss_one (ps_ret (pe_callB (cr_sortedSetW (w := w) rfl rfl) (by rfl) m_sorted (by decide +kernel) (pa_cons (pe_callTy (cr_setL (K := K) (w := w) rfl rfl rfl) (by rfl) m_set (by decide +kernel) (pa_cons (pe_lst (pa_starK (K := K) rfl (pv 0) (pa_cons (pv 1) pa_nil))) pa_nil)) pa_nil)))) , ?_⟩)
  refine ok_bodyT (fun a => [.dat (sqD a.1 (a.2.1.map Dt.int)), .dat (.int a.2.2)]) h (fun _ => by show 2 ≤ 2; decide) (fun _ => rfl) fun c a hc hp => ?_
  obtain ⟨t, hs, n⟩ := a
  obtain ⟨hok, hp⟩ : SkOk K t (hs.map Dt.int) ∧ hs.length ≤ 50 := hp
  refine ds_ret (Dl.dn (T := fun d => ∃ ms : List Int, d = .lst (ms.map Dt.int) ∧ ms.Pairwise (· < ·) ∧ ∀ k, k ∈ ms ↔ k ∈ hs ∨ k = n) (dl_sortedSet (ns := hs ++ [n]) (De.eq (Dl.de (dl_lst (da_starQ hok (de_var rfl) (da_consE (de_var rfl) da_nil)) fun ds e => by rw [e, List.length_append, List.length_map]; show hs.length + 1 ≤ _; omega)) ?_) (by rw [List.length_append]; show hs.length + 1 ≤ 1000; omega)) fun ds hd => ?_) fun d h => h
  · rw [List.map_append]; rfl
  · obtain ⟨ms, rfl, h1, h2⟩ := hd
    exact ⟨ms, rfl, h1, fun k => by rw [h2 k]; simp⟩
end
end K30

set_option Elab.async false
set_option maxRecDepth 100000
set_option maxHeartbeats 4000000
namespace K30
open PySem L2 StX Zd
theorem nodup_fm {α β : Type} {f : α → List β} : ∀ {l : List α}, l.Nodup → (∀ a ∈ l, (f a).Nodup) → (∀ a ∈ l, ∀ b ∈ l, ∀ x, x ∈ f a → x ∈ f b → a = b) → (l.flatMap f).Nodup
  | [], _, _, _ => by simp
  | a :: r, nd, h1, h2 => by
    obtain ⟨n1, n2⟩ := List.nodup_cons.mp nd
    rw [List.flatMap_cons, List.nodup_append]
    refine ⟨h1 a List.mem_cons_self, nodup_fm n2 (fun b hb => h1 b (List.mem_cons_of_mem _ hb)) fun b hb c hc => h2 b (List.mem_cons_of_mem _ hb) c (List.mem_cons_of_mem _ hc), fun x hx y hy e => ?_⟩
    obtain ⟨b, hb, hy⟩ := List.mem_flatMap.mp hy
    have := h2 a List.mem_cons_self b (List.mem_cons_of_mem _ hb) x hx (by rw [e]; exact hy)
    exact n1 (this ▸ hb)
theorem nodup_mapI {α β : Type} {f : α → β} (hf : ∀ a b, f a = f b → a = b) {l : List α} (h : l.Nodup) : (l.map f).Nodup := by
  rw [List.nodup_iff_pairwise_ne, List.pairwise_map]
  rw [List.nodup_iff_pairwise_ne] at h
  exact h.imp fun hne e => hne (hf _ _ e)
theorem cells_nodup (ns : Nat) (modes : List Mode) : (cellsL ns modes).Nodup := by
  refine nodup_fm List.nodup_range (fun m _ => ?_) fun a _ b _ x hx hy => ?_
  · refine nodup_fm List.nodup_range (fun n _ => nodup_mapI (fun a b e => by simpa using e) List.nodup_range) fun a _ b _ x hx hy => ?_
    obtain ⟨p, _, rfl⟩ := List.mem_map.mp hx
    obtain ⟨q, _, e⟩ := List.mem_map.mp hy
    simp at e
    exact e.1.symm
  · obtain ⟨n, _, hx⟩ := List.mem_flatMap.mp hx
    obtain ⟨p, _, rfl⟩ := List.mem_map.mp hx
    obtain ⟨n', _, hy⟩ := List.mem_flatMap.mp hy
    obtain ⟨q, _, e⟩ := List.mem_map.mp hy
    simp at e
    exact e.1.symm
/-- the row of a cell, by rows that are put in one after the other -/
def rowIn (modes : List Mode) (rs : List (Cell × Row)) (x : Cell) : Row := rs.foldl (fun r y => if y.1 = x then y.2 else r) (idleR modes x)
theorem rowIn_step (modes : List Mode) {rs : List (Cell × Row)} {i : Nat} {y : Cell × Row} (h : rs[i]? = some y) (x : Cell) : rowIn modes (rs.take (i + 1)) x = if y.1 = x then y.2 else rowIn modes (rs.take i) x := by
  unfold rowIn
  rw [List.take_add_one, h, List.foldl_append]
  rfl
def tabA (cs : List Cell) (f : Cell → Row) : List (List Key × Dt) := cs.map fun x => (cellK x, rowD (f x))
theorem tabA_keys (cs : List Cell) (f : Cell → Row) : (tabA cs f).map (·.1) = cs.map cellK := by unfold tabA; rw [List.map_map]; rfl
theorem tabA_any {cs : List Cell} {f : Cell → Row} {x : Cell} : ((tabA cs f).any fun kv => decide (kv.1 = cellK x)) = decide (x ∈ cs) := by
  unfold tabA
  induction cs with
  | nil => simp
  | cons a r ih =>
    rw [List.map_cons, List.any_cons, ih]
    by_cases h : a = x
    · subst h; simp
    · have h1 : ¬ cellK a = cellK x := fun e => h (cellK_inj e)
      have h2 : ¬ x = a := fun e => h e.symm
      simp [h1, h2]
theorem tabA_new {cs : List Cell} {f : Cell → Row} {x : Cell} (h : x ∉ cs) : putA (tabA cs f) (cellK x) (rowD (f x)) = tabA (cs ++ [x]) f := by
  unfold putA
  rw [tabA_any, if_neg (by simpa using h)]
  unfold tabA
  rw [List.map_append]
  rfl
theorem tabA_old {cs : List Cell} {f : Cell → Row} {x : Cell} {r : Row} (h : x ∈ cs) : putA (tabA cs f) (cellK x) (rowD r) = tabA cs fun y => if x = y then r else f y := by
  unfold putA
  rw [tabA_any, if_pos (by simpa using h)]
  unfold tabA
  rw [List.map_map]
  refine List.map_congr_left fun y _ => ?_
  show (if cellK y = cellK x then (cellK y, rowD r) else (cellK y, rowD (f y))) = (cellK y, rowD (if x = y then r else f y))
  by_cases e : x = y
  · subst e; rw [if_pos rfl, if_pos rfl]
  · rw [if_neg e, if_neg fun q => e (cellK_inj q).symm]
def tableD (cs : List Cell) (f : Cell → Row) : Dt := .dct (cs.map cellK) (cs.map fun x => rowD (f x))
section
variable {P : Program} {w : World} {K : PySem.W.Frag} {mg : Str → Option Value} {base : Heap}
structure TabOk (pl : Plan) : Prop where
  base : PlanB pl
  mem : ∀ x ∈ pl.rows, x.1 ∈ cellsL pl.names.length pl.modes
  len : pl.rows.length ≤ 1000000
theorem PlanB.cells_le {pl : Plan} (h : PlanB pl) : (cellsL pl.names.length pl.modes).length ≤ 17 * 20100 :=
  Nat.le_trans (cells_part_le (b := 0) (by have := h.n4; omega) (fun m => by have := cnt_le h m; omega) pl.modes.length) (Nat.mul_le_mul h.m16 (Nat.le_refl _))
abbrev spTable : Sp := spT (fun pl : Plan => [planD pl]) TabOk fun pl d => d = tableD (cellsL pl.names.length pl.modes) (rowIn pl.modes pl.rows)
theorem ok__law_table {f f2 f3 : Addr} {fd fd2 fd3 : FuncData} (F : Fun K "_law_table" "_law_table" s__law_table f fd) (k__law_cells : Kn K mg "_law_cells" s__law_cells ["plan"] f2 fd2) (k__law_idle : Kn K mg "_law_idle" s__law_idle ["plan", "cell"] f3 fd3) (m_len : mg "len" = none) (m_range : mg "range" = none) (m_tuple : mg "tuple" = none) : FnOk P w K mg base CX0 2 f fd ["plan"] spTable := by
  have nd := sc__law_table.nd
  have G__law_cells : FnOk P w K mg base CX0 1 f2 fd2 ["plan"] spCells := ok__law_cells k__law_cells.F m_len m_range
  have G__law_idle : FnOk P w K mg base CX0 1 f3 fd3 ["plan", "cell"] spIdleL := ok__law_idle k__law_idle.F m_range m_tuple
  refine F.ok sc__law_table (fun vs H Q E h => spT_len (fun _ => rfl) h) (fun cdv A outer s H vs Q E hr h => ⟨_, (pss_cons (ps_set (i := 1) nd rfl (by first | exact Or.inl rfl | exact Or.inr rfl) pe_dnewT)
      (pss_cons (ps_for PassesOwn.never rfl (pi_listK (K := K) rfl (pe_call G__law_cells (hr.mono (by decide)) (by rfl) k__law_cells.g k__law_cells.F.kp k__law_cells.b .nil pass0 (pa_cons (pv 0) pa_nil))) (pg_name (i := 2) nd rfl (by first | exact Or.inl rfl | exact Or.inr rfl)) (pss_one (ps_dput (hu_of hr) (pv 1) (pv 2) (pe_call G__law_idle (hr.mono (by decide)) (by rfl) k__law_idle.g k__law_idle.F.kp k__law_idle.b .nil pass0 (pa_cons (pv 0) (pa_cons (pv 2) pa_nil))) rfl)))
      (pss_cons (ps_for PassesOwn.never rfl (pi_listK (K := K) rfl (pe_ix (ix_listK (K := K) rfl) (pv 0) pe_int (fun _ _ => rfl))) (pg_tupK (K := K) (n := 2) rfl rfl (pgs_cons (pg_name (i := 2) nd rfl (by first | exact Or.inl rfl | exact Or.inr rfl)) (pgs_cons (pg_name (i := 3) nd rfl (by first | exact Or.inl rfl | exact Or.inr rfl)) pgs_nil))) (pss_one (ps_dput (hu_of hr) (pv 1) (pv 2) (pv 3) rfl)))
      (pss_one (ps_ret (pv 1)))))) , ?_⟩)
  refine ok_bodyT (fun pl => [.dat (planD pl), .un, .un, .un]) h (fun _ => by show 1 ≤ 4; decide) (fun _ => rfl) fun c pl hc hp => ?_
  have hcl := hp.base.cells_le
  have hnd := cells_nodup pl.names.length pl.modes
  have hcn := cnt_le hp.base
  refine ds_letDT ?_
  refine ds_seq (M := fun δ' => ∃ x2, δ' = [.dat (planD pl), .obj (DTo (tabA (cellsL pl.names.length pl.modes) (idleR pl.modes))), x2, .un]) (ds_for (vs := [2]) (di_list (de_callT (A := fun pl : Plan => [planD pl]) (f := fun pl => .lst ((cellsL pl.names.length pl.modes).map cellD)) pl (da_consE (de_var rfl) da_nil) ⟨by have := hp.base.n4; omega, by have := hp.base.m16; omega, fun m => by have := hcn m; omega⟩)) fun xs e => ?_) ?_
  · subst e
    refine ⟨fun i δ' => ∃ x2, δ' = [.dat (planD pl), .obj (DTo (tabA ((cellsL pl.names.length pl.modes).take i) (idleR pl.modes))), x2, .un], ⟨.un, by rw [List.take_zero]; rfl⟩, ?_, ?_⟩
    · rintro i d δ' hd ⟨x2, rfl⟩
      obtain ⟨x, hx, rfl⟩ : ∃ x, (cellsL pl.names.length pl.modes)[i]? = some x ∧ d = cellD x := by
        have hd : ((cellsL pl.names.length pl.modes).map cellD)[i]? = some d := hd
        rw [List.getElem?_map] at hd
        cases e : (cellsL pl.names.length pl.modes)[i]? with
        | none => rw [e] at hd; cases hd
        | some x => rw [e] at hd; exact ⟨x, rfl, (Option.some.inj hd).symm⟩
      have hi := (List.getElem?_eq_some_iff.mp hx).1
      obtain ⟨m, n, q⟩ := x
      obtain ⟨hm, _, _⟩ := mem_cellsL.mp (List.mem_of_getElem? hx)
      have hnew : (m, n, q) ∉ (cellsL pl.names.length pl.modes).take i := fun hin => by
        obtain ⟨j, hj, e⟩ := List.getElem_of_mem hin
        rw [List.length_take] at hj
        rw [List.getElem_take] at e
        have e2 := e.trans (Option.some.inj ((List.getElem?_eq_getElem hi).symm.trans hx)).symm
        have := (List.getElem_inj hnd).mp e2
        omega
      refine dg_name (by decide) ?_
      refine ds_putDT (i := 1) (k := cellK (m, n, q)) rfl (de_callT (A := fun a : Plan × Cell => [planD a.1, cellD a.2]) (f := fun a => rowD (idleR a.1.modes a.2)) (pl, (m, n, q)) (da_consE (de_var rfl) (da_consE (de_var rfl) da_nil)) ⟨hm, by show cntOf pl.modes m ≤ 100; have := hcn m; omega⟩) (de_var rfl) (by unfold tabA; rw [List.length_map, List.length_take]; omega) ⟨.dat (cellD (m, n, q)), ?_⟩
      have e1 := tabA_new (f := idleR pl.modes) hnew
      have e2 : (cellsL pl.names.length pl.modes).take (i + 1) = (cellsL pl.names.length pl.modes).take i ++ [(m, n, q)] := by rw [List.take_add_one, hx]; rfl
      rw [e2, ← e1]
      rfl
    · rintro δ' ⟨x2, rfl⟩
      refine ⟨x2, ?_⟩
      show [Sl.dat (planD pl), .obj (DTo (tabA ((cellsL pl.names.length pl.modes).take ((cellsL pl.names.length pl.modes).map cellD).length) (idleR pl.modes))), x2, .un] = _
      rw [List.length_map, List.take_length]
  rintro δ' ⟨x2, rfl⟩
  refine ds_seq (M := fun δ' => ∃ x2 x3, δ' = [.dat (planD pl), .obj (DTo (tabA (cellsL pl.names.length pl.modes) (rowIn pl.modes pl.rows))), x2, x3]) (ds_for (vs := [2, 3]) (di_list (de_rows (de_var rfl))) fun xs e => ?_) ?_
  · subst e
    refine ⟨fun i δ' => ∃ x2 x3, δ' = [.dat (planD pl), .obj (DTo (tabA (cellsL pl.names.length pl.modes) (rowIn pl.modes (pl.rows.take i)))), x2, x3], ⟨x2, .un, by rw [List.take_zero]; rfl⟩, ?_, ?_⟩
    · rintro i d δ' hd ⟨x2, x3, rfl⟩
      obtain ⟨y, hy, rfl⟩ : ∃ y, pl.rows[i]? = some y ∧ d = crD y := by
        rw [List.getElem?_map] at hd
        cases e : pl.rows[i]? with
        | none => rw [e] at hd; cases hd
        | some x => rw [e] at hd; exact ⟨x, rfl, (Option.some.inj hd).symm⟩
      have hin := hp.mem y (List.mem_of_getElem? hy)
      refine dg_tup rfl (dgs_name (by decide) (dgs_name (by decide) (dgs_nil ?_)))
      refine ds_putDT (i := 1) (k := cellK y.1) rfl (de_var rfl) (de_var rfl) (by unfold tabA; rw [List.length_map]; omega) ⟨.dat (cellD y.1), .dat (rowD y.2), ?_⟩
      have e1 := tabA_old (f := rowIn pl.modes (pl.rows.take i)) (r := y.2) hin
      have e2 : (fun z => if y.1 = z then y.2 else rowIn pl.modes (pl.rows.take i) z) = rowIn pl.modes (pl.rows.take (i + 1)) := funext fun z => (rowIn_step pl.modes hy z).symm
      rw [e2] at e1
      rw [← e1]
      rfl
    · rintro δ' ⟨x2, x3, rfl⟩
      refine ⟨x2, x3, ?_⟩
      rw [List.length_map, List.take_length]
  rintro δ' ⟨x2, x3, rfl⟩
  refine ds_freezeDT (i := 1) rfl (ds_retE (d := tableD (cellsL pl.names.length pl.modes) (rowIn pl.modes pl.rows)) (De.eq (de_var rfl) ?_) rfl)
  rw [tabA_keys]
  unfold tableD tabA
  rw [List.map_map]
  rfl
end
end K30

set_option Elab.async false
set_option maxRecDepth 100000
set_option maxHeartbeats 4000000
namespace K30
open PySem L2 StX Zd
def lposOf (n : Int) (hs : List Int) : Nat := 2 * (hs.filter fun v => decide (v < n)).length + (hs.filter fun v => decide (v = n)).length
/-- on ascending rows of ints, both ways to find the position say the same -/
theorem pos_same {n : Int} : ∀ {hs : List Int} {p : Nat}, hs.Pairwise (· < ·) → posOf n hs p = p + lposOf n hs
  | [], p, _ => rfl
  | v :: r, p, h => by
    obtain ⟨h1, h2⟩ := List.pairwise_cons.mp h
    unfold posOf
    by_cases a : n < v
    · rw [if_pos a]
      have e1 : ((v :: r).filter fun v => decide (v < n)) = [] := List.filter_eq_nil_iff.mpr fun x hx => by
        rcases List.mem_cons.mp hx with rfl | hx
        · simp; omega
        · have := h1 x hx; simp; omega
      have e2 : ((v :: r).filter fun v => decide (v = n)) = [] := List.filter_eq_nil_iff.mpr fun x hx => by
        rcases List.mem_cons.mp hx with rfl | hx
        · simp; omega
        · have := h1 x hx; simp; omega
      unfold lposOf
      rw [e1, e2]; rfl
    · rw [if_neg a]
      by_cases b : n = v
      · rw [if_pos b]
        subst b
        have e1 : ((n :: r).filter fun v => decide (v < n)) = [] := List.filter_eq_nil_iff.mpr fun x hx => by
          rcases List.mem_cons.mp hx with rfl | hx
          · simp
          · have := h1 x hx; simp; omega
        have e2 : (r.filter fun v => decide (v = n)) = [] := List.filter_eq_nil_iff.mpr fun x hx => by
          have := h1 x hx; simp; omega
        unfold lposOf
        rw [e1, List.filter_cons, if_pos (by simp), e2]
        rfl
      · rw [if_neg b, pos_same h2]
        unfold lposOf
        rw [List.filter_cons, if_pos (by simp; omega), List.filter_cons, if_neg (by simp; omega), List.length_cons]
        omega
section
variable {P : Program} {w : World} {K : PySem.W.Frag} {mg : Str → Option Value} {base : Heap}
abbrev spLPos : Sp := spT (fun a : Int × Bool × List Int => [.int a.1, seqD a.2.1 (a.2.2.map Dt.int)]) (fun a => a.2.2.length ≤ 1000) fun a d => d = nD (lposOf a.1 a.2.2)
theorem ok__law_position {f : Addr} {fd : FuncData} (F : Fun K "_law_position" "_law_position" s__law_position f fd) (m_len : mg "len" = none) : FnOk P w K mg base CX0 1 f fd ["number", "held"] spLPos := by
  have nd := sc__law_position.nd
  refine F.ok sc__law_position (fun vs H Q E h => spT_len (fun _ => rfl) h) (fun cdv A outer s H vs Q E hr h => ⟨_, (pss_cons (ps_set (i := 2) nd rfl (by first | exact Or.inl rfl | exact Or.inr rfl) (pe_callB (call_lenK (K := K) rfl) (by rfl) m_len PySem.boot_len (pa_cons (pe_lc (own := [("value", 3)]) (g := gName 3) rfl nd (pi_seqK (K := K) rfl (pv 1)) (by refine blkOk_by ?_; show blkC N__law_position (defScope s__law_position) _ _ = true; decide +kernel) (fun _ _ _ _ _ => (pg_name (i := 3) nd rfl (by first | exact Or.inl rfl | exact Or.inr rfl))) (fun _ _ _ _ _ => pts_one (pt_cmpR op_lt (pv 3) (pv 0) (nomark _))) (fun _ _ _ _ _ => (pv 3))) pa_nil)))
      (pss_one (ps_ret (pe_op op_add (pe_op op_mul pe_int (pv 2)) (pe_callB (call_lenK (K := K) rfl) (by rfl) m_len PySem.boot_len (pa_cons (pe_lc (own := [("value", 3)]) (g := gName 3) rfl nd (pi_seqK (K := K) rfl (pv 1)) (by refine blkOk_by ?_; show blkC N__law_position (defScope s__law_position) _ _ = true; decide +kernel) (fun _ _ _ _ _ => (pg_name (i := 3) nd rfl (by first | exact Or.inl rfl | exact Or.inr rfl))) (fun _ _ _ _ _ => pts_one (pt_cmpR op_eq (pv 3) (pv 0) (nomark _))) (fun _ _ _ _ _ => (pv 3))) pa_nil)))))) , ?_⟩)
  refine ok_bodyT (fun a => [.dat (.int a.1), .dat (seqD a.2.1 (a.2.2.map Dt.int)), .un, .un]) h (fun _ => by show 2 ≤ 4; decide) (fun _ => rfl) fun c a hc hp => ?_
  obtain ⟨n, t, hs⟩ := a
  have hp : hs.length ≤ 1000 := hp
  refine ds_letE (d := .int ((hs.filter fun v => decide (v < n)).length : Nat)) (De.eq (de_lenLK (Dl.de (dl_lcFilter (fun d => match d with
    | .int v => decide (v < n)
    | _ => false) (fun d => d) (di_seq (de_var rfl)) (by rw [List.length_map]; omega) fun d hd => ?_))) ?_) ?_
  · obtain ⟨v, hv, rfl⟩ := List.mem_map.mp hd
    exact dg_name (by decide) ⟨dt_testE (de_cmp (f := fun i j => decide (i < j)) (de_var rfl) (de_var rfl)), fun _ => de_var rfl⟩
  · rw [List.map_id', List.filter_map, List.length_map]; rfl
  refine ds_retE (d := nD (lposOf n hs)) (De.eq (de_add (i := 2 * ((hs.filter fun v => decide (v < n)).length : Nat)) (j := ((hs.filter fun v => decide (v = n)).length : Nat)) (de_mulL de_int (de_var rfl) (by decide)) (De.eq (de_lenLK (Dl.de (dl_lcFilter (fun d => match d with
    | .int v => decide (v = n)
    | _ => false) (fun d => d) (di_seq (t := t) (xs := hs.map Dt.int) (de_var rfl)) (by rw [List.length_map]; omega) fun d hd => ?_))) ?_)) ?_) rfl
  · obtain ⟨v, hv, rfl⟩ := List.mem_map.mp hd
    exact dg_name (by decide) ⟨dt_testE (de_op (de_var rfl) (de_var rfl) rv_eqI), fun _ => de_var rfl⟩
  · rw [List.map_id', List.filter_map, List.length_map]; rfl
  · show Dt.int _ = Dt.int _
    congr 1
/-! ### a drawn input -/
abbrev spInput : Sp := spS (fun a : Plan × Nat => [planD a.1, nD a.2]) (fun a => PlanB a.1 ∧ a.2 ≤ 100) fun a d => ∃ es : List (Str × Int), d = .lst (es.map pairD) ∧ es.length = a.2 ∧ ∀ e ∈ es, e.1 ∈ a.1.names ∧ -4294967296 < e.2 ∧ e.2 < 4294967296
theorem ok__law_input {f f2 f3 : Addr} {fd fd2 fd3 : FuncData} (F : Fun K "_law_input" "_law_input" s__law_input f fd) (k__law_pick : Kn K mg "_law_pick" s__law_pick ["source", "many"] f2 fd2) (k__law_worded : Kn K mg "_law_worded" s__law_worded ["source", "words"] f3 fd3) (m_int : mg "int" = none) (m_len : mg "len" = none) (m_range : mg "range" = none) : FnOk P w K mg base CX0 3 f fd ["source", "plan", "size"] spInput := by
  have nd := sc__law_input.nd
  have G__law_pick : FnOk P w K mg base CX0 1 f2 fd2 ["source", "many"] spPickS := (ok__law_pick k__law_pick.F m_int).imp pick_S
  have G__law_worded : FnOk P w K mg base CX0 2 f3 fd3 ["source", "words"] (spWorded K) := ok__law_worded k__law_worded.F k__law_pick m_int m_len
  refine F.ok sc__law_input (fun vs H Q E h => spS_len (fun _ => rfl) h) (fun cdv A outer s H vs Q E hr h => ⟨_, (pss_cons (ps_set (i := 3) nd rfl (by first | exact Or.inl rfl | exact Or.inr rfl) (pe_lst pa_nil))
      (pss_cons (ps_set (i := 4) nd rfl (by first | exact Or.inl rfl | exact Or.inr rfl) (pe_cmpR op_eq (pe_call G__law_pick (hr.mono (by decide)) (by rfl) k__law_pick.g k__law_pick.F.kp k__law_pick.b .nil pass0 (pa_cons (pv 0) (pa_cons pe_int pa_nil))) pe_int (nomark _)))
      (pss_cons (ps_for PassesOwn.never rfl (pi_range1 rfl m_range (pa_cons (pv 2) pa_nil)) (pg_name (i := 5) nd rfl (by first | exact Or.inl rfl | exact Or.inr rfl)) (pss_cons (ps_set (i := 6) nd rfl (by first | exact Or.inl rfl | exact Or.inr rfl) (pe_op op_sub (pe_call G__law_pick (hr.mono (by decide)) (by rfl) k__law_pick.g k__law_pick.F.kp k__law_pick.b .nil pass0 (pa_cons (pv 0) (pa_cons pe_int pa_nil))) pe_int))
      (pss_cons (ps_if (pt_val (pv 4)) (pss_one (ps_set (i := 6) nd rfl (by first | exact Or.inl rfl | exact Or.inr rfl) (pe_op op_add (pe_op op_mul (pv 6) pe_int) pe_int))) pss_nil)
      (pss_one (ps_expr (pe_bm PySem.F.plainAttrs_list PySem.F.slot_list_append PySem.F.type_list_append mt_append (pv 3) (pa_cons (pe_tup (pa_cons (pe_call G__law_worded (hr.mono (by decide)) (by rfl) k__law_worded.g k__law_worded.F.kp k__law_worded.b .nil pass0 (pa_cons (pv 0) (pa_cons (pe_ix (ix_listK (K := K) rfl) (pv 1) pe_int (fun _ _ => rfl)) pa_nil))) (pa_cons (pv 6) pa_nil))) pa_nil)))))))
      (pss_one (ps_ret (pv 3)))))) , ?_⟩)
  refine ok_bodyS (fun p a => [.raw (.ref p), .dat (planD a.1), .dat (nD a.2), .un, .un, .un, .un]) h (fun _ => by show 3 ≤ 7; decide) (fun _ _ => rfl) fun c p a S hp => ?_
  obtain ⟨pl, size⟩ := a
  obtain ⟨hB, hsz⟩ : PlanB pl ∧ size ≤ 100 := hp
  have hn4 := hB.n4
  refine ds_letOwnE (dl_lst da_nil fun _ e => by rw [e]; exact Nat.zero_le _) ?_
  refine ds_let (T := IsB fun _ => True) ((dn_eqI (dn_pick S rfl de_int (by decide) (by decide)) de_int).imp fun d ⟨b, e, _⟩ => ⟨b, e, trivial⟩) fun d hd => ?_
  obtain ⟨far, rfl, _⟩ := hd
  refine ds_seq (M := fun δ' => ∃ (es : List (Str × Int)) (x5 x6 : Sl), (es.length = size ∧ ∀ e ∈ es, e.1 ∈ pl.names ∧ -4294967296 < e.2 ∧ e.2 < 4294967296) ∧ δ' = [.raw (.ref p), .dat (planD pl), .dat (nD size), .own (es.map pairD), .dat (.bl far), x5, x6]) (ds_for (vs := [5]) (di_rng1E (n := (size : Int)) (de_var rfl) (by omega) (by omega)) fun xs e => ?_) ?_
  · subst e
    refine ⟨fun i δ' => ∃ (es : List (Str × Int)) (x5 x6 : Sl), (es.length = i ∧ ∀ e ∈ es, e.1 ∈ pl.names ∧ -4294967296 < e.2 ∧ e.2 < 4294967296) ∧ δ' = [.raw (.ref p), .dat (planD pl), .dat (nD size), .own (es.map pairD), .dat (.bl far), x5, x6], ⟨[], .un, .un, ⟨rfl, fun e he => by cases he⟩, rfl⟩, ?_, ?_⟩
    · rintro i d δ' hd ⟨es, x5, x6, ⟨h1, h2⟩, rfl⟩
      obtain ⟨hi, rfl⟩ := rng_get hd
      refine dg_name (by decide) ?_
      refine ds_let (T := IsI fun r => -2 ≤ r ∧ r < 4) (dn_subI (A := fun r => 0 ≤ r ∧ r < 6) (B := (· = 2)) (dn_pick S rfl de_int (by decide) (by decide)) (de_int.isI rfl) fun _ _ _ _ => by omega) fun d hd => ?_
      obtain ⟨r, rfl, hr1, hr2⟩ := hd
      refine ds_seq (M := fun δ' => ∃ r : Int, (-4294967296 < r ∧ r < 4294967296) ∧ δ' = [.raw (.ref p), .dat (planD pl), .dat (nD size), .own (es.map pairD), .dat (.bl far), .dat (nD i), .dat (.int r)]) (ds_ifE (k := far) (dt_BE (de_var rfl)) (fun _ => ?_) (fun _ => ds_next ⟨r, by omega, rfl⟩)) ?_
      · refine ds_set (de_add (de_mulR (de_var rfl) de_int (by decide)) de_int) fun d e => ?_
        subst e
        exact ⟨_, by omega, rfl⟩
      rintro δ' ⟨r2, hr2, rfl⟩
      refine ds_append (i := 3) rfl (T := fun d => ∃ nm, d = pairD (nm, r2) ∧ nm ∈ pl.names) (dn_tup (S := fun ds => ∃ nm, ds = [.str nm, .int r2] ∧ nm ∈ pl.names) (da_cons (P := IsS (· ∈ pl.names)) (S := (· = [.int r2])) (dn_callS S rfl (da_consE (de_names (de_var rfl)) da_nil) fun xs e => ⟨(.ftup, pl.names.map Dt.str), e, ⟨skOk_ftup, by simpa using hB.n0, by simp; omega⟩, fun d hd => ?_⟩) (da_consE (de_var rfl) da_nil) fun d ds hd hds => ?_) (fun ds hd => ?_) fun ds hd => ?_) (by rw [List.length_map]; omega) fun d hd => ?_
      · obtain ⟨nm, hm, rfl⟩ := List.mem_map.mp hd
        exact ⟨nm, rfl, hm⟩
      · obtain ⟨nm, rfl, hm⟩ := hd
        exact ⟨nm, by rw [hds], hm⟩
      · obtain ⟨nm, rfl, hm⟩ := hd
        show 2 ≤ 10000000
        decide
      · obtain ⟨nm, rfl, hm⟩ := hd
        exact ⟨nm, rfl, hm⟩
      · obtain ⟨nm, rfl, hm⟩ := hd
        refine ⟨es ++ [(nm, r2)], _, _, ⟨by rw [List.length_append, h1]; rfl, fun e he => ?_⟩, by rw [List.map_append]; rfl⟩
        rcases List.mem_append.mp he with he | he
        · exact h2 e he
        · rw [List.mem_singleton.mp he]; exact ⟨hm, hr2⟩
    · rintro δ' ⟨es, x5, x6, ⟨h1, h2⟩, rfl⟩
      rw [rngD_len, Int.toNat_natCast] at h1
      exact ⟨es, x5, x6, ⟨h1, h2⟩, rfl⟩
  · rintro δ' ⟨es, x5, x6, ⟨h1, h2⟩, rfl⟩
    exact ds_freeze (i := 3) rfl (ds_retE (de_var rfl) ⟨es, rfl, h1, h2⟩)
end
end K30

set_option Elab.async false
set_option maxRecDepth 100000
set_option maxHeartbeats 4000000
namespace K30
open PySem L2 StX Zd
/-- what a program is made of -/
structure Parts where
  names : List Str
  ports : List Port
  modes : List Mode
  rows : List (Cell × Row)
structure PartsOk (a : Parts) : Prop where
  n : a.names.length ≤ 100
  p : a.ports.length ≤ 1000
  m : a.modes.length ≤ 100
  k : ∀ m, cntOf a.modes m ≤ 100
  r : a.rows.length ≤ 1000000
  nd : (a.rows.map (·.1)).Nodup
  w : ∀ x ∈ a.rows, x.2.2.2.length ≤ 1000
abbrev prgKs : List Str := ["names", "ports", "modes", "row_of", "table"]
def prgDs (a : Parts) : List Dt := [strsF a.names, .tup (a.ports.map portD), .tup (a.modes.map modeD), tableD (cellsL a.names.length a.modes) (rowIn a.modes a.rows), .tup ((cellsL a.names.length a.modes).map fun x => rowD (rowIn a.modes a.rows x))]
theorem rowIn_dct {x : Cell} : ∀ {rs : List (Cell × Row)} {r0 : Row}, (rs.map (·.1)).Nodup → (dctAt (rs.map fun y => cellK y.1) (rs.map fun y => rowD y.2) (cellK x)).getD (rowD r0) = rowD (rs.foldl (fun r y => if y.1 = x then y.2 else r) r0)
  | [], r0, _ => rfl
  | y :: rs, r0, nd => by
    obtain ⟨n1, n2⟩ := List.nodup_cons.mp (show (y.1 :: rs.map (·.1)).Nodup from nd)
    show (if cellK y.1 = cellK x then some (rowD y.2) else dctAt (rs.map fun y => cellK y.1) (rs.map fun y => rowD y.2) (cellK x)).getD (rowD r0) = rowD (rs.foldl (fun r y => if y.1 = x then y.2 else r) (if y.1 = x then y.2 else r0))
    by_cases e : y.1 = x
    · rw [if_pos (by rw [e]), if_pos e]
      have stay : ∀ (l : List (Cell × Row)) (r : Row), x ∉ l.map (·.1) → l.foldl (fun r y => if y.1 = x then y.2 else r) r = r := by
        intro l
        induction l with
        | nil => intro r _; rfl
        | cons z l ih =>
          intro r h
          rw [List.map_cons, List.mem_cons, not_or] at h
          rw [List.foldl_cons, if_neg (fun q => h.1 q.symm), ih r h.2]
      rw [stay rs y.2 (by rw [← e]; exact n1)]
      rfl
    · rw [if_neg (fun q => e (cellK_inj q)), if_neg e]
      exact rowIn_dct n2
/-- what a program is made of, in tuples or in lists -/
structure PartsQ where
  kn : Sk
  kp : Sk
  km : Sk
  names : List Str
  ports : List Port
  modes : List Mode
  rows : List (Cell × Sk × Row)
abbrev PartsQ.parts (a : PartsQ) : Parts := ⟨a.names, a.ports, a.modes, a.rows.map fun x => (x.1, x.2.2)⟩
structure PartsQOk (a : PartsQ) : Prop where
  kn : a.kn = .lst ∨ a.kn = .tup ∨ a.kn = .ftup
  kp : KLT a.kp
  km : KLT a.km
  n : a.names.length ≤ 100
  p : a.ports.length ≤ 1000
  m : a.modes.length ≤ 100
  k : ∀ m, cntOf a.modes m ≤ 100
  r : a.rows.length ≤ 1000000
  nd : (a.rows.map (·.1)).Nodup
  w : ∀ x ∈ a.rows, KLT x.2.1 ∧ x.2.2.2.2.length ≤ 1000
def crQ (x : Cell × Sk × Row) : Dt := .tup [cellD x.1, rowQ x.2.1 x.2.2]
def prgDsK (k : Sk) (a : Parts) : List Dt := [sqD k (a.names.map Dt.str), .tup (a.ports.map portD), .tup (a.modes.map modeD), tableD (cellsL a.names.length a.modes) (rowIn a.modes a.rows), .tup ((cellsL a.names.length a.modes).map fun x => rowD (rowIn a.modes a.rows x))]
theorem de_tupOfL {K : PySem.W.Frag} {c : Bs} {δ : Fe} {te : TE} {xs : List Dt} (h : De c te δ (.tup xs)) : De c (tCB (rTupOf K) (tCons te tNil)) δ (.tup xs) := de_tupleOfTK h
section
variable {P : Program} {w : World} {K : PySem.W.Frag} {mg : Str → Option Value} {base : Heap} {C : Addr}
abbrev spCellsP (C : Addr) : Sp := spP C (fun a : List Str × List Mode => [("names", strsF a.1), ("modes", .tup (a.2.map modeD))]) (fun _ => []) (fun a => a.1.length ≤ 100 ∧ a.2.length ≤ 100 ∧ ∀ m, cntOf a.2 m ≤ 100) fun a d => d = .lst ((cellsL a.1.length a.2).map cellD)
abbrev spCellsQ (C : Addr) : Sp := spP C (fun a : Sk × List Str × List Mode => [("names", sqD a.1 (a.2.1.map Dt.str)), ("modes", .tup (a.2.2.map modeD))]) (fun _ => []) (fun a => (a.1 = .lst ∨ a.1 = .tup ∨ a.1 = .ftup) ∧ a.2.1.length ≤ 100 ∧ a.2.2.length ≤ 100 ∧ ∀ m, cntOf a.2.2 m ≤ 100) fun a d => d = .lst ((cellsL a.2.1.length a.2.2).map cellD)
abbrev spInitQ (C : Addr) : Sp := spI C (fun a : PartsQ => [sqD a.kn (a.names.map Dt.str), sqD a.kp (a.ports.map portD), sqD a.km (a.modes.map modeD), .lst (a.rows.map crQ)]) PartsQOk prgKs fun a => prgDsK (tK a.kn) a.parts
theorem ok_initQ {f f2 f3 f4 f5 : Addr} {fd fd2 fd3 fd4 fd5 : FuncData} (F : Fun K "__init__" "Program.__init__" s_Program___init__ f fd) (k_copy_of_row : Kn K mg "copy_of_row" s_copy_of_row ["row"] f2 fd2) (k_idle_row : Kn K mg "idle_row" s_idle_row ["program", "cell"] f3 fd3) (k_cells : Kn K mg "cells" s_cells ["program"] f4 fd4) (k_candidate_count : Kn K mg "candidate_count" s_candidate_count ["count", "position"] f5 fd5)
    (G_cells : FnOk P w K mg base CX0 1 f4 fd4 ["program"] (spCellsQ C)) (hC : Cls K C) (h1 : NoAttr K C "names") (h2 : NoAttr K C "ports") (h3 : NoAttr K C "modes") (h4 : NoAttr K C "row_of") (h5 : NoAttr K C "table") (m_range : mg "range" = none) (m_tuple : mg "tuple" = none) : FnOk P w K mg base CX0 3 f fd ["self", "names", "ports", "modes", "rows"] (spInitQ C) := by
  have nd := sc_Program___init__.nd
  have G_copy_of_row : FnOk P w K mg base CX0 1 f2 fd2 ["row"] spCopyQ := ok_copyQ k_copy_of_row.F m_tuple
  have G_idle_row : FnOk P w K mg base CX0 2 f3 fd3 ["program", "cell"] (spIdle C) := ok_idle_row k_idle_row.F k_candidate_count hC h3 m_range m_tuple
  refine F.ok sc_Program___init__ (fun vs H Q E h => spI_len (fun _ => rfl) h) (fun cdv A outer s H vs Q E hr h => ⟨_, (pss_cons (ps_fld (pv 0) (pe_callTy (call_tuple_ofK (K := K) rfl) (by rfl) m_tuple (by decide +kernel) (pa_cons (pv 1) pa_nil)) rfl)
      (pss_cons (ps_fld (pv 0) (pe_callTy (call_tuple_ofK (K := K) rfl) (by rfl) m_tuple (by decide +kernel) (pa_cons (pe_lc (own := [("name", 5), ("labels", 6)]) (g := _) rfl nd (pi_seqK (K := K) rfl (pv 2)) (by refine blkOk_by ?_; show blkC N_Program___init__ (defScope s_Program___init__) _ _ = true; decide +kernel) (fun _ _ _ _ _ => (pg_tupK (K := K) (n := 2) rfl rfl (pgs_cons (pg_name (i := 5) nd rfl (by first | exact Or.inl rfl | exact Or.inr rfl)) (pgs_cons (pg_name (i := 6) nd rfl (by first | exact Or.inl rfl | exact Or.inr rfl)) pgs_nil)))) (fun _ _ _ _ _ => pts_nil) (fun _ _ _ _ _ => (pe_tup (pa_cons (pv 5) (pa_cons (pe_callTy (call_tuple_ofK (K := K) rfl) (by rfl) m_tuple (by decide +kernel) (pa_cons (pv 6) pa_nil)) pa_nil))))) pa_nil)) rfl)
      (pss_cons (ps_fld (pv 0) (pe_callTy (call_tuple_ofK (K := K) rfl) (by rfl) m_tuple (by decide +kernel) (pa_cons (pe_lc (own := [("name", 5), ("count", 7)]) (g := _) rfl nd (pi_seqK (K := K) rfl (pv 3)) (by refine blkOk_by ?_; show blkC N_Program___init__ (defScope s_Program___init__) _ _ = true; decide +kernel) (fun _ _ _ _ _ => (pg_tupK (K := K) (n := 2) rfl rfl (pgs_cons (pg_name (i := 5) nd rfl (by first | exact Or.inl rfl | exact Or.inr rfl)) (pgs_cons (pg_name (i := 7) nd rfl (by first | exact Or.inl rfl | exact Or.inr rfl)) pgs_nil)))) (fun _ _ _ _ _ => pts_nil) (fun _ _ _ _ _ => (pe_tup (pa_cons (pv 5) (pa_cons (pv 7) pa_nil))))) pa_nil)) rfl)
      (pss_cons (ps_set (i := 8) nd rfl (by first | exact Or.inl rfl | exact Or.inr rfl) (pe_dcT (own := [("cell", 9), ("row", 10)]) (g := _) (tt := _) rfl nd (Nat.lt_of_le_of_lt (Nat.le_add_right _ _) hr.units) (pi_listK (K := K) rfl (pv 4)) (by refine blkOk_by ?_; show blkC N_Program___init__ (defScope s_Program___init__) _ _ = true; decide +kernel) (fun _ _ _ _ _ => (pg_tupK (K := K) (n := 2) rfl rfl (pgs_cons (pg_name (i := 9) nd rfl (by first | exact Or.inl rfl | exact Or.inr rfl)) (pgs_cons (pg_name (i := 10) nd rfl (by first | exact Or.inl rfl | exact Or.inr rfl)) pgs_nil)))) (fun _ _ _ _ _ => pts_nil) (fun _ _ _ _ _ => (pe_callTy (call_tuple_ofK (K := K) rfl) (by rfl) m_tuple (by decide +kernel) (pa_cons (pv 9) pa_nil))) (fun _ _ _ _ _ => (pe_call G_copy_of_row (hr.mono (by decide)) (by rfl) k_copy_of_row.g k_copy_of_row.F.kp k_copy_of_row.b .nil pass0 (pa_cons (pv 10) pa_nil)))))
      (pss_cons (ps_fld (pv 0) (pe_dcT (own := [("cell", 9)]) (g := gName 9) (tt := _) rfl nd (Nat.lt_of_le_of_lt (Nat.le_add_right _ _) hr.units) (pi_listK (K := K) rfl (pe_call G_cells (hr.mono (by decide)) (by rfl) k_cells.g k_cells.F.kp k_cells.b .nil pass0 (pa_cons (pv 0) pa_nil))) (by refine blkOk_by ?_; show blkC N_Program___init__ (defScope s_Program___init__) _ _ = true; decide +kernel) (fun _ _ _ _ _ => (pg_name (i := 9) nd rfl (by first | exact Or.inl rfl | exact Or.inr rfl))) (fun _ _ _ _ _ => pts_nil) (fun _ _ _ _ _ => (pv 9)) (fun _ _ _ _ _ => (pe_dget2 (hu_of hr) (pv 8) (pv 9) (pe_call G_idle_row (hr.mono (by decide)) (by rfl) k_idle_row.g k_idle_row.F.kp k_idle_row.b .nil pass0 (pa_cons (pv 0) (pa_cons (pv 9) pa_nil))) ⟨by rfl, by rfl, by rfl, by rfl⟩))) rfl)
      (pss_one (ps_fld (pv 0) (pe_tupVals rfl (by rfl) m_tuple (pe_fldK (K := K) rfl (pv 0) (by rfl))) rfl))))))) , ?_⟩)
  refine ok_bodyI (fun x0 a => [.obj (InsO x0 C [] []), .dat (sqD a.kn (a.names.map Dt.str)), .dat (sqD a.kp (a.ports.map portD)), .dat (sqD a.km (a.modes.map modeD)), .dat (.lst (a.rows.map crQ)), .un, .un, .un, .un, .un, .un]) h (fun _ => by show 5 ≤ 11; decide) (fun _ _ => rfl) fun c x0 a hp => ?_
  refine ds_seq (M := (· = [.obj (InsO x0 C ["names"] [sqD (tK a.kn) (a.names.map Dt.str)]), .dat (sqD a.kn (a.names.map Dt.str)), .dat (sqD a.kp (a.ports.map portD)), .dat (sqD a.km (a.modes.map modeD)), .dat (.lst (a.rows.map crQ)), .un, .un, .un, .un, .un, .un])) (ds_setFld (i := 0) rfl hC h1 (de_tupleQ hp.kn (de_var rfl)) (by decide) (by decide) rfl) ?_
  rintro δ' rfl
  refine ds_seq (M := (· = [.obj (InsO x0 C ["names", "ports"] [sqD (tK a.kn) (a.names.map Dt.str), .tup (a.ports.map portD)]), .dat (sqD a.kn (a.names.map Dt.str)), .dat (sqD a.kp (a.ports.map portD)), .dat (sqD a.km (a.modes.map modeD)), .dat (.lst (a.rows.map crQ)), .un, .un, .un, .un, .un, .un])) (ds_setFld (i := 0) (x := .tup (a.ports.map portD)) rfl hC h2 (De.eq (de_tupleOfLK (Dl.de (dl_lcMap (fun d => d) (di_sq hp.kp.ok (de_var rfl)) (by rw [List.length_map]; have := hp.p; omega) fun d hd => ?_))) (by rw [List.map_id'])) (by decide +kernel) (by decide) rfl) ?_
  · obtain ⟨q, hq, rfl⟩ := List.mem_map.mp hd
    exact dg_tup rfl (dgs_name (by decide) (dgs_name (by decide) (dgs_nil (de_tup (da_consE (de_var rfl) (da_consE (de_tupOfL (de_var rfl)) da_nil))))))
  rintro δ' rfl
  refine ds_seq (M := (· = [.obj (InsO x0 C ["names", "ports", "modes"] [sqD (tK a.kn) (a.names.map Dt.str), .tup (a.ports.map portD), .tup (a.modes.map modeD)]), .dat (sqD a.kn (a.names.map Dt.str)), .dat (sqD a.kp (a.ports.map portD)), .dat (sqD a.km (a.modes.map modeD)), .dat (.lst (a.rows.map crQ)), .un, .un, .un, .un, .un, .un])) (ds_setFld (i := 0) (x := .tup (a.modes.map modeD)) rfl hC h3 (De.eq (de_tupleOfLK (Dl.de (dl_lcMap (fun d => d) (di_sq hp.km.ok (de_var rfl)) (by rw [List.length_map]; have := hp.m; omega) fun d hd => ?_))) (by rw [List.map_id'])) (by decide +kernel) (by decide) rfl) ?_
  · obtain ⟨q, hq, rfl⟩ := List.mem_map.mp hd
    exact dg_tup rfl (dgs_name (by decide) (dgs_name (by decide) (dgs_nil (de_tup (da_consE (de_var rfl) (da_consE (de_var rfl) da_nil))))))
  rintro δ' rfl
  -- given
  refine ds_letE (d := .dct (a.parts.rows.map fun y => cellK y.1) (a.parts.rows.map fun y => rowD y.2)) ((dn_dcT (T := fun acc => acc = a.rows.map fun y => (cellK y.1, rowD y.2.2)) (di_list (de_var rfl)) fun xs e => ?_).imp fun d ⟨acc, e1, e2⟩ => by rw [e2, e1, List.map_map, List.map_map]; show Dt.dct _ _ = Dt.dct ((a.rows.map _).map _) ((a.rows.map _).map _); rw [List.map_map, List.map_map]; rfl) ?_
  · subst e
    refine ⟨fun i acc => acc = (a.rows.take i).map fun y => (cellK y.1, rowD y.2.2), by simp, ?_, fun acc e => by rw [e, List.length_map, List.take_length], by rw [List.length_map]; have := hp.r; omega, fun i acc e => by rw [e, List.length_map, List.length_take]; omega⟩
    rintro i d acc hd rfl
    obtain ⟨y, hy, rfl⟩ : ∃ y, a.rows[i]? = some y ∧ d = crQ y := by
      rw [List.getElem?_map] at hd
      cases e : a.rows[i]? with
      | none => rw [e] at hd; cases hd
      | some x => rw [e] at hd; exact ⟨x, rfl, (Option.some.inj hd).symm⟩
    have hi := (List.getElem?_eq_some_iff.mp hy).1
    refine dg_tup rfl (dgs_name (by decide) (dgs_name (by decide) (dgs_nil ⟨cellK y.1, rowD y.2.2, de_tupleOfTK (de_var rfl), de_callT (A := fun a : Sk × Row => [rowQ a.1 a.2]) (f := fun a => rowD a.2) y.2 (da_consE (de_var rfl) da_nil) (hp.w y (List.mem_of_getElem? hy)), fun hm => ?_, by show _ ++ _ = (a.rows.take (i + 1)).map _; rw [List.take_add_one, hy, List.map_append]; rfl⟩)))
    rw [List.map_map] at hm
    obtain ⟨z, hz, e⟩ := List.mem_map.mp hm
    have e : z.1 = y.1 := cellK_inj e
    obtain ⟨j, hj, ej⟩ := List.getElem_of_mem hz
    rw [List.length_take] at hj
    rw [List.getElem_take] at ej
    have e2 : a.rows[i] = y := Option.some.inj ((List.getElem?_eq_getElem hi).symm.trans hy)
    have e3 : (a.rows.map (·.1))[j]'(by rw [List.length_map]; omega) = (a.rows.map (·.1))[i]'(by rw [List.length_map]; omega) := by
      rw [List.getElem_map, List.getElem_map, ej, e2, e]
    have := (List.getElem_inj hp.nd).mp e3
    omega
  -- row_of
  have hkn' : tK a.kn = .lst ∨ tK a.kn = .tup ∨ tK a.kn = .ftup := by rcases hp.kn with h | h | h <;> rw [h] <;> simp [tK]
  have hndp : (a.parts.rows.map (·.1)).Nodup := by
    show ((a.rows.map _).map _).Nodup
    rw [List.map_map]
    exact hp.nd
  have hcl : (cellsL a.names.length a.modes).length ≤ 100 * 20100 := Nat.le_trans (cells_part_le (b := 0) hp.n hp.k a.modes.length) (Nat.mul_le_mul hp.m (Nat.le_refl _))
  refine ds_seq (M := fun δ' => ∃ x9 x8, δ' = [.obj (InsO x0 C ["names", "ports", "modes", "row_of"] [sqD (tK a.kn) (a.names.map Dt.str), .tup (a.ports.map portD), .tup (a.modes.map modeD), tableD (cellsL a.names.length a.modes) (rowIn a.modes a.parts.rows)]), .dat (sqD a.kn (a.names.map Dt.str)), .dat (sqD a.kp (a.ports.map portD)), .dat (sqD a.km (a.modes.map modeD)), .dat (.lst (a.rows.map crQ)), .un, .un, .un, x8, x9, .un]) (ds_setFld (i := 0) (x := tableD (cellsL a.names.length a.modes) (rowIn a.modes a.parts.rows)) rfl hC h4 ((dn_dcT (T := fun acc => acc = (cellsL a.names.length a.modes).map fun x => (cellK x, rowD (rowIn a.modes a.parts.rows x))) (di_list (de_callPO (A := fun _ : Sk × List Str × List Mode => []) (f := fun a => .lst ((cellsL a.2.1.length a.2.2).map cellD)) (tK a.kn, a.names, a.modes) rfl da_nil (fun g d hm => ?_) ⟨hkn', hp.n, hp.m, hp.k⟩)) fun xs e => ?_).imp fun d ⟨acc, e1, e2⟩ => by rw [e2, e1, List.map_map, List.map_map]; rfl) (by decide +kernel) (by decide) ⟨_, _, rfl⟩) ?_
  · simp only [List.mem_cons, Prod.mk.injEq, List.not_mem_nil, or_false] at hm
    rcases hm with ⟨rfl, rfl⟩ | ⟨rfl, rfl⟩ <;> rfl
  · subst e
    have hnd := cells_nodup a.names.length a.modes
    refine ⟨fun i acc => acc = ((cellsL a.names.length a.modes).take i).map fun x => (cellK x, rowD (rowIn a.modes a.parts.rows x)), by simp, ?_, fun acc e => by rw [e]; show ((cellsL a.names.length a.modes).take ((cellsL a.names.length a.modes).map cellD).length).map _ = _; rw [List.length_map, List.take_length], by show ((cellsL a.names.length a.modes).map cellD).length ≤ _; rw [List.length_map]; omega, fun i acc e => by rw [e, List.length_map, List.length_take]; omega⟩
    rintro i d acc hd rfl
    obtain ⟨y, hy, rfl⟩ : ∃ y, (cellsL a.names.length a.modes)[i]? = some y ∧ d = cellD y := by
      have hd : ((cellsL a.names.length a.modes).map cellD)[i]? = some d := hd
      rw [List.getElem?_map] at hd
      cases e : (cellsL a.names.length a.modes)[i]? with
      | none => rw [e] at hd; cases hd
      | some x => rw [e] at hd; exact ⟨x, rfl, (Option.some.inj hd).symm⟩
    have hi := (List.getElem?_eq_some_iff.mp hy).1
    obtain ⟨m, n, q⟩ := y
    obtain ⟨hm, _, _⟩ := mem_cellsL.mp (List.mem_of_getElem? hy)
    refine dg_name (by decide) ⟨cellK (m, n, q), rowD (rowIn a.modes a.parts.rows (m, n, q)), de_var rfl, De.eq (de_get2T (k := cellK (m, n, q)) (x := rowD (idleR a.modes (m, n, q))) (de_var rfl) (de_var rfl) (de_callPO (A := fun a : List Mode × Cell => [cellD a.2]) (f := fun a => rowD (idleR a.1 a.2)) (a.modes, (m, n, q)) rfl (da_consE (de_var rfl) da_nil) (fun g d hm => ?_) ⟨hm, hp.k m⟩)) (rowIn_dct hndp), fun hin => ?_, by show _ ++ _ = ((cellsL a.names.length a.modes).take (i + 1)).map _; rw [List.take_add_one, hy, List.map_append]; rfl⟩
    · simp only [List.mem_cons, Prod.mk.injEq, List.not_mem_nil, or_false] at hm
      obtain ⟨rfl, rfl⟩ := hm
      rfl
    · rw [List.map_map] at hin
      obtain ⟨z, hz, e⟩ := List.mem_map.mp hin
      have e : z = (m, n, q) := cellK_inj e
      obtain ⟨j, hj, ej⟩ := List.getElem_of_mem hz
      rw [List.length_take] at hj
      rw [List.getElem_take] at ej
      have e2 := (ej.trans e).trans (Option.some.inj ((List.getElem?_eq_getElem hi).symm.trans hy)).symm
      have := (List.getElem_inj hnd).mp e2
      omega
  rintro δ' ⟨x9, x8, rfl⟩
  exact ds_setFld (i := 0) rfl hC h5 (de_tupVals (ks := (cellsL a.names.length a.modes).map cellK) (de_fldO (i := 0) rfl hC h4 rfl)) (by decide +kernel) (by decide) rfl
abbrev spInit (C : Addr) : Sp := spI C (fun a : Parts => [strsF a.names, .tup (a.ports.map portD), .tup (a.modes.map modeD), .lst (a.rows.map crD)]) PartsOk prgKs prgDs
def PartsQ.of (a : Parts) : PartsQ := ⟨.ftup, .tup, .tup, a.names, a.ports, a.modes, a.rows.map fun x => (x.1, .tup, x.2)⟩
theorem PartsQ.of_parts (a : Parts) : (PartsQ.of a).parts = a := by
  show (⟨a.names, a.ports, a.modes, (a.rows.map _).map _⟩ : Parts) = a
  rw [List.map_map, show ((fun x : Cell × Sk × Row => (x.1, x.2.2)) ∘ fun x : Cell × Row => (x.1, Sk.tup, x.2)) = id from rfl, List.map_id]
theorem ok_init {f f2 f3 f4 f5 : Addr} {fd fd2 fd3 fd4 fd5 : FuncData} (F : Fun K "__init__" "Program.__init__" s_Program___init__ f fd) (k_copy_of_row : Kn K mg "copy_of_row" s_copy_of_row ["row"] f2 fd2) (k_idle_row : Kn K mg "idle_row" s_idle_row ["program", "cell"] f3 fd3) (k_cells : Kn K mg "cells" s_cells ["program"] f4 fd4) (k_candidate_count : Kn K mg "candidate_count" s_candidate_count ["count", "position"] f5 fd5)
    (G_cells : FnOk P w K mg base CX0 1 f4 fd4 ["program"] (spCellsQ C)) (hC : Cls K C) (h1 : NoAttr K C "names") (h2 : NoAttr K C "ports") (h3 : NoAttr K C "modes") (h4 : NoAttr K C "row_of") (h5 : NoAttr K C "table") (m_range : mg "range" = none) (m_tuple : mg "tuple" = none) : FnOk P w K mg base CX0 3 f fd ["self", "names", "ports", "modes", "rows"] (spInit C) :=
  (ok_initQ F k_copy_of_row k_idle_row k_cells k_candidate_count G_cells hC h1 h2 h3 h4 h5 m_range m_tuple).imp (spI_imp PartsQ.of (fun a => by show [_, _, _, Dt.lst ((a.rows.map _).map crQ)] = _; rw [List.map_map]; rfl) (fun a h => ⟨.inr (.inr rfl), .inr rfl, .inr rfl, h.n, h.p, h.m, h.k, by show (a.rows.map _).length ≤ _; rw [List.length_map]; exact h.r, by show ((a.rows.map _).map _).Nodup; rw [List.map_map]; exact h.nd, fun x hx => by
    obtain ⟨y, hy, rfl⟩ := List.mem_map.mp hx
    exact ⟨.inr rfl, h.w y hy⟩⟩) fun a => by show prgDsK .ftup (PartsQ.of a).parts = _; rw [PartsQ.of_parts]; rfl)
end
end K30

set_option Elab.async false
set_option maxRecDepth 100000
set_option maxHeartbeats 4000000
namespace K30
open PySem L2 StX Zd
theorem fm_rng {α : Type} (f : Dt → List α) (n : Nat) : (rngD 0 n).flatMap f = (List.range n).flatMap fun k => f (nD k) := by
  rw [rng_eq, List.flatMap_map]
  rfl
section
variable {P : Program} {w : World} {K : PySem.W.Frag} {mg : Str → Option Value} {base : Heap} {C : Addr}
theorem ok_cellsQ {f : Addr} {fd : FuncData} (F : Fun K "cells" "cells" s_cells f fd) (hC : Cls K C) (h1 : NoAttr K C "names") (h3 : NoAttr K C "modes") (m_len : mg "len" = none) (m_range : mg "range" = none) : FnOk P w K mg base CX0 1 f fd ["program"] (spCellsQ C) := by
  have nd := sc_cells.nd
  refine F.ok sc_cells (fun vs H Q E h => spP_len (fun _ => rfl) h) (fun cdv A outer s H vs Q E hr h => ⟨_, (pss_one (ps_ret (pe_lc3W (own := [("mode", 1), ("name", 2), ("position", 3)]) rfl nd (pi_range1 rfl m_range (pa_cons (pe_callB (call_lenK (K := K) rfl) (by rfl) m_len PySem.boot_len (pa_cons (pe_fldK (K := K) rfl (pv 0) (by rfl)) pa_nil)) pa_nil)) (by refine blkOk_by ?_; show blkC N_cells (defScope s_cells) _ _ = true; decide +kernel) (fun _ _ _ _ _ => (pg_name (i := 1) nd rfl (by first | exact Or.inl rfl | exact Or.inr rfl))) (fun _ _ _ _ _ => (pi_range1 rfl m_range (pa_cons (pe_callB (call_lenK (K := K) rfl) (by rfl) m_len PySem.boot_len (pa_cons (pe_fldK (K := K) rfl (pv 0) (by rfl)) pa_nil)) pa_nil))) (fun _ _ _ _ _ => (pg_name (i := 2) nd rfl (by first | exact Or.inl rfl | exact Or.inr rfl))) (fun _ _ _ _ _ => (pi_range1 rfl m_range (pa_cons (pe_op op_add (pe_op op_mul pe_int (pe_ix (ix_tupK (K := K) rfl) (pe_ix (ix_tupK (K := K) rfl) (pe_fldK (K := K) rfl (pv 0) (by rfl)) (pv 1) (fun _ _ => rfl)) pe_int (fun _ _ => rfl))) pe_int) pa_nil))) (fun _ _ _ _ _ => (pg_name (i := 3) nd rfl (by first | exact Or.inl rfl | exact Or.inr rfl))) (fun _ _ _ _ _ => (pe_tup (pa_cons (pv 1) (pa_cons (pv 2) (pa_cons (pv 3) pa_nil)))))))) , ?_⟩)
  refine ok_bodyP (fun x a => [.raw (.ref x), .un, .un, .un]) h (fun _ => by show 1 ≤ 4; decide) (fun _ _ => rfl) fun c x a R hp => ?_
  obtain ⟨kn, names, modes⟩ := a
  obtain ⟨hkn, hn, hm, hk⟩ : (kn = .lst ∨ kn = .tup ∨ kn = .ftup) ∧ names.length ≤ 100 ∧ modes.length ≤ 100 ∧ ∀ m, cntOf modes m ≤ 100 := hp
  have hall : (cellsL names.length modes).length ≤ 100 * 20100 := Nat.le_trans (cells_part_le (b := 0) hn hk modes.length) (Nat.mul_le_mul hm (Nat.le_refl _))
  have e0 : ((rngD 0 modes.length).flatMap fun d => match d with
      | .int m => (cellsN names.length (cntOf modes m.toNat) m.toNat).map cellD
      | _ => []) = (cellsL names.length modes).map cellD := by
    rw [fm_rng]
    unfold cellsL
    rw [List.map_flatMap]
    rfl
  refine ds_retE (Dl.de ((dl_lc3 (vs1 := [2, 3]) (xs := rngD 0 modes.length) (f := fun d => match d with
      | .int m => (cellsN names.length (cntOf modes m.toNat) m.toNat).map cellD
      | _ => []) (by
        have := di_rng1E (c := c) (δ := [.raw (.ref x), .un, .un, .un]) (n := (modes.length : Int)) (De.eq (de_lenTK (K := K) (de_fldR (i := 0) R rfl (List.mem_cons_of_mem _ List.mem_cons_self) hC h3)) (by rw [List.length_map])) (by omega) (by omega)
        rwa [Int.toNat_natCast] at this) (by rw [e0, List.length_map]; omega) (by decide) fun d hd => ?_).imp fun ys e => by rw [e, e0])) rfl
  obtain ⟨m, hm'⟩ := List.mem_iff_getElem?.mp hd
  obtain ⟨hml, rfl⟩ := rng_get hm'
  refine dg_name (by decide) ?_
  have e1 : ((rngD 0 names.length).flatMap fun d => match d with
      | .int n => (List.range (2 * cntOf modes m + 1)).map fun p => cellD (m, n.toNat, p)
      | _ => []) = (cellsN names.length (cntOf modes m) m).map cellD := by
    rw [fm_rng]
    unfold cellsN
    rw [List.map_flatMap]
    refine congrArg (fun g => (List.range names.length).flatMap g) (funext fun n => ?_)
    rw [List.map_map]
    rfl
  show Db c _ [2, 3] _ ((cellsN names.length (cntOf modes m) m).map cellD)
  rw [← e1]
  refine db_loop (vs1 := [2, 3]) (vs2 := [3]) (by
    have := di_rng1E (c := c) (δ := [.raw (.ref x), .dat (nD m), .un, .un]) (n := (names.length : Int)) (De.eq (de_lenQ (K := K) (okSq hkn) (de_fldR (i := 0) R rfl List.mem_cons_self hC h1)) (by rw [List.length_map])) (by omega) (by omega)
    rwa [Int.toNat_natCast] at this) (by rfl) (vs := [1, 2, 3]) (by decide) (by decide) fun d hd => ?_
  obtain ⟨n, hn'⟩ := List.mem_iff_getElem?.mp hd
  obtain ⟨hnl, rfl⟩ := rng_get hn'
  refine dg_name (by decide) ?_
  have hkm := hk m
  have e2 : ((rngD 0 (2 * cntOf modes m + 1)).flatMap fun d => [Dt.tup [nD m, nD n, d]]) = (List.range (2 * cntOf modes m + 1)).map fun p => cellD (m, n, p) := by
    rw [fm_rng]
    induction (List.range (2 * cntOf modes m + 1)) with
    | nil => rfl
    | cons a r ih => rw [List.flatMap_cons, ih]; rfl
  show Db c _ [3] _ ((List.range (2 * cntOf modes m + 1)).map fun p => cellD (m, n, p))
  rw [← e2]
  refine db_loop (vs1 := [3]) (vs2 := []) (by
    have := di_rng1E (c := c) (δ := [.raw (.ref x), .dat (nD m), .dat (nD n), .un]) (n := 2 * (cntOf modes m : Int) + 1) (de_add (de_mulL de_int (de_cnt (K := K) (m := m) (de_fldR (i := 0) R rfl (List.mem_cons_of_mem _ List.mem_cons_self) hC h3) (de_var (i := 1) rfl) hml) (by decide)) de_int) (by omega) (by omega)
    rwa [show (2 * (cntOf modes m : Int) + 1).toNat = 2 * cntOf modes m + 1 by omega] at this) (by rfl) (vs := [1, 2, 3]) (by decide) (by decide) fun d hd => ?_
  exact dg_name (by decide) (db_last (de_tup (da_consE (de_var rfl) (da_consE (de_var rfl) (da_consE (de_var rfl) da_nil)))))
theorem ok_cells {f : Addr} {fd : FuncData} (F : Fun K "cells" "cells" s_cells f fd) (hC : Cls K C) (h1 : NoAttr K C "names") (h3 : NoAttr K C "modes") (m_len : mg "len" = none) (m_range : mg "range" = none) : FnOk P w K mg base CX0 1 f fd ["program"] (spCellsP C) :=
  (ok_cellsQ F hC h1 h3 m_len m_range).imp (spP_imp (fun a : List Str × List Mode => (Sk.ftup, a)) (fun _ => rfl) (fun _ => rfl) (fun _ h => ⟨.inr (.inr rfl), h⟩) fun _ _ _ h => h)
end
end K30

set_option Elab.async false
set_option maxRecDepth 100000
set_option maxHeartbeats 4000000
namespace K30
open PySem L2 StX Zd
/-- a program as data -/
def progD (C : Addr) (a : Parts) : Dt := .ins C prgKs (prgDs a)
/-- a plan whose program can be made -/
structure PlanP (pl : Plan) : Prop where
  tab : TabOk pl
  nd : (pl.rows.map (·.1)).Nodup
  w : ∀ x ∈ pl.rows, x.2.2.2.length ≤ 1000
theorem PlanOk.p {pl : Plan} (h : PlanOk pl) : PlanP pl where
  tab := ⟨h.base, fun x hx => h.rc.subset (List.mem_map.mpr ⟨x, hx, rfl⟩), by
    have h1 := h.rc.length_le
    have h2 := h.base.cells_le
    rw [List.length_map] at h1
    omega⟩
  nd := (cells_nodup _ _).sublist h.rc
  w := fun x hx => Nat.le_trans (h.ro x hx).wl (by decide)
theorem PlanP.parts {pl : Plan} (h : PlanP pl) (rs : List (Cell × Row)) (hr : rs.Perm pl.rows) : PartsOk ⟨pl.names, pl.ports, pl.modes, rs⟩ where
  n := by have := h.tab.base.n4; show pl.names.length ≤ 100; omega
  p := by have := h.tab.base.p3; show pl.ports.length ≤ 1000; omega
  m := by have := h.tab.base.m16; show pl.modes.length ≤ 100; omega
  k := fun m => by have := cnt_le h.tab.base m; show cntOf pl.modes m ≤ 100; omega
  r := by show rs.length ≤ 1000000; rw [hr.length_eq]; exact h.tab.len
  nd := (hr.map _).nodup_iff.mpr h.nd
  w := fun x hx => h.w x (hr.subset hx)
section
variable {P : Program} {w : World} {K : PySem.W.Frag} {mg : Str → Option Value} {base : Heap} {C fI : Addr} {fdI : FuncData}
abbrev spProgL (C : Addr) : Sp := spT (fun pl : Plan => [planD pl]) PlanP fun pl d => d = progD C ⟨pl.names, pl.ports, pl.modes, pl.rows.reverse⟩
theorem ok__law_program {f : Addr} {fd : FuncData} (F : Fun K "_law_program" "_law_program" s__law_program f fd) (mk_Program : Mk K C fI) (G_Program : FnOk P w K mg base CX0 3 fI fdI ["self", "names", "ports", "modes", "rows"] (spInit C)) (g_Program : mg "Program" = some (.ref C)) (b_Program : Binds K fdI ["self", "names", "ports", "modes", "rows"] []) : FnOk P w K mg base CX0 5 f fd ["plan"] (spProgL C) := by
  have nd := sc__law_program.nd
  refine F.ok sc__law_program (fun vs H Q E h => spT_len (fun _ => rfl) h) (fun cdv A outer s H vs Q E hr h => ⟨_, (pss_one (ps_ret (pe_make mk_Program G_Program (hr.mono (by decide)) (by rfl) g_Program b_Program .nil pass0 (pa_cons (pe_ix (ix_listK (K := K) rfl) (pv 0) pe_int (fun _ _ => rfl)) (pa_cons (pe_ix (ix_listK (K := K) rfl) (pv 0) pe_int (fun _ _ => rfl)) (pa_cons (pe_ix (ix_listK (K := K) rfl) (pv 0) pe_int (fun _ _ => rfl)) (pa_cons (pe_revL (pe_ix (ix_listK (K := K) rfl) (pv 0) pe_int (fun _ _ => rfl))) pa_nil))))))) , ?_⟩)
  refine ok_bodyT (fun pl => [.dat (planD pl)]) h (fun _ => Nat.le_refl 1) (fun _ => rfl) fun c pl hc hp => ?_
  refine ds_retE (de_make (A := fun a : Parts => [strsF a.names, .tup (a.ports.map portD), .tup (a.modes.map modeD), .lst (a.rows.map crD)]) (ds := prgDs) ⟨pl.names, pl.ports, pl.modes, pl.rows.reverse⟩ (da_consE (de_names (de_var rfl)) (da_consE (de_ports (de_var rfl)) (da_consE (de_modes (de_var rfl)) (da_consE (De.eq (Dl.de (dl_rev (de_rows (de_var rfl)))) ?_) da_nil)))) (hp.parts _ (List.reverse_perm _))) rfl
  rw [List.map_reverse]
end
end K30

set_option Elab.async false
set_option maxRecDepth 100000
set_option maxHeartbeats 4000000
namespace K30
open PySem L2 StX Zd
section
variable {P : Program} {w : World} {K : PySem.W.Frag} {mg : Str → Option Value} {base : Heap}
theorem di_rng2E {c : Bs} {δ : Fe} {ta tb : TE} {i j : Int} (ha : De c ta δ (.int i)) (hb : De c tb δ (.int j)) (h1 : -(2 ^ 62) ≤ i ∧ i < 2 ^ 62 ∧ -(2 ^ 62) ≤ j ∧ j < 2 ^ 62) : Di c (iRng2 (tCons ta (tCons tb tNil))) δ (· = rngD i (j - i).toNat) := fun σ G H e R q =>
  ha σ G H e _ fun v d G1 H1 g1 d1 p1 => hb σ G1 H1 (e.up g1) _ fun v2 d2 G2 H2 g2 dd2 p2 => by
    subst p1 p2
    cases d1; cases dd2
    exact ⟨i, j, rfl, h1, q _ _ G2 H2 (g1.trans e.jj g2) rfl (itOk_rng i _)⟩
theorem de_neg {c : Bs} {δ : Fe} {te : TE} {i : Int} (h : De c te δ (.int i)) : De c (tUn (rU fun i => .int (-i)) te) δ (.int (-i)) := fun σ G H e Q q => h σ G H e _ fun v d G1 H1 g1 d1 p1 => by
  subst p1
  cases d1
  exact ⟨i, rfl, q _ _ G1 H1 g1 (.int _) rfl⟩
end
end K30

set_option Elab.async false
set_option maxRecDepth 100000
set_option maxHeartbeats 4000000
namespace K30
open PySem L2 StX Zd
/-! ### a step -/
theorem idxOf_first {x : Str} : ∀ {ws : List Str} {i j : Nat}, idxOf ws x i = some j → ∀ m, i ≤ m → m < j → ws[m - i]? ≠ some x
  | [], _, _, h, _, _, _ => by cases h
  | y :: r, i, j, h, m, h1, h2 => by
    unfold idxOf at h
    split at h
    · have := Option.some.inj h
      omega
    · rename_i hne
      by_cases e : m = i
      · subst e
        rw [Nat.sub_self]
        exact fun q => hne (Option.some.inj q)
      · rw [show m - i = (m - (i + 1)) + 1 by omega]
        exact idxOf_first h m (by omega) h2
theorem idxOf_some {x : Str} : ∀ {ws : List Str} {i : Nat}, x ∈ ws → ∃ j, idxOf ws x i = some j
  | y :: r, i, h => by
    unfold idxOf
    split
    · exact ⟨i, rfl⟩
    · rename_i hne
      exact idxOf_some ((List.mem_cons.mp h).resolve_left fun e => hne e.symm)
theorem candL_len {n : Int} : ∀ {hs : List Int} {p : Nat}, p % 2 = 0 → (candL n hs).length + posOf n hs p % 2 = hs.length + 1
  | [], p, h => by show 1 + p % 2 = 0 + 1; omega
  | v :: r, p, h => by
    unfold candL posOf
    split
    · show r.length + 1 + 1 + p % 2 = r.length + 1 + 1; omega
    · split
      · show r.length + 1 + (p + 1) % 2 = r.length + 1 + 1; omega
      · have := candL_len (n := n) (hs := r) (p := p + 2) (by omega)
        show (candL n r).length + 1 + _ = r.length + 1 + 1
        omega
theorem posOf_le {n : Int} : ∀ {hs : List Int} {p : Nat}, posOf n hs p ≤ p + 2 * hs.length
  | [], p => by show p ≤ p + 0; omega
  | v :: r, p => by
    unfold posOf
    have := posOf_le (n := n) (hs := r) (p := p + 2)
    rw [List.length_cons]
    split
    · omega
    · split <;> omega
/-- an output: a port's name, a label, an integer -/
abbrev Out := Str × Str × Int
def o3D (o : Out) : Dt := .tup [.str o.1, .str o.2.1, .int o.2.2]
def outsD (os : List Out) : Dt := .tup (os.map o3D)
abbrev Pla := Nat × List Int
def placeT (p : Pla) : Dt := .tup [nD p.1, .tup (p.2.map Dt.int)]
def outOf (ports : List Port) (ms : List Int) (w : Wr) : Out := (((ports[w.1]?).map (·.1)).getD w.2.1, w.2.1, (ms[w.2.2]?).getD 0)
structure StR where
  pl : Pla
  os : List Out
  x : Cell
def stepD (r : StR) : Dt := .tup [placeT r.pl, outsD r.os, cellD r.x]
/-- what a step comes to: the rows by cells f, the name's index j -/
def stepR (ports : List Port) (f : Cell → Row) (j : Nat) (p : Pla) (n : Int) : StR :=
  ⟨((f (p.1, j, posOf n p.2 0)).1, (f (p.1, j, posOf n p.2 0)).2.1.map fun k => ((candL n p.2)[k]?).getD 0), (f (p.1, j, posOf n p.2 0)).2.2.map (outOf ports (candL n p.2)), (p.1, j, posOf n p.2 0)⟩
/-- a row that fits so many candidates -/
structure RowF (ports : List Port) (known : Nat) (r : Row) : Prop where
  hl : r.2.1.length ≤ 1000
  hk : ∀ k ∈ r.2.1, k < known
  wl : r.2.2.length ≤ 1000
  ww : ∀ x ∈ r.2.2, x.1 < ports.length ∧ x.2.2 < known
structure StA where
  names : List Str
  ports : List Port
  cs : List Cell
  f : Cell → Row
  k1 : Sk
  k2 : Sk
  k3 : Sk
  p : Pla
  nm : Str
  n : Int
  j : Nat
structure StOk (K : PySem.W.Frag) (a : StA) : Prop where
  k1 : SkOk K a.k1 [nD a.p.1, sqD a.k2 (a.p.2.map Dt.int)]
  k2 : SkOk K a.k2 (a.p.2.map Dt.int)
  k3 : SkOk K a.k3 [.str a.nm, .int a.n]
  j : idxOf a.names a.nm 0 = some a.j
  x : (a.p.1, a.j, posOf a.n a.p.2 0) ∈ a.cs
  hl : a.p.2.length ≤ 50
  ha : a.p.2.Pairwise (· < ·)
  r : RowF a.ports (candL a.n a.p.2).length (a.f (a.p.1, a.j, posOf a.n a.p.2 0))
theorem dct_tab {f : Cell → Row} {x : Cell} : ∀ {cs : List Cell}, x ∈ cs → dctAt (cs.map cellK) (cs.map fun x => rowD (f x)) (cellK x) = some (rowD (f x))
  | y :: r, h => by
    show (if cellK y = cellK x then some (rowD (f y)) else dctAt (r.map cellK) (r.map fun x => rowD (f x)) (cellK x)) = _
    by_cases e : y = x
    · subst e; rw [if_pos rfl]
    · rw [if_neg fun q => e (cellK_inj q)]
      exact dct_tab ((List.mem_cons.mp h).resolve_left fun q => e q.symm)
section
variable {P : Program} {w : World} {K : PySem.W.Frag} {mg : Str → Option Value} {base : Heap} {C : Addr}
abbrev spStep (K : PySem.W.Frag) (C : Addr) : Sp := spP C (fun a : StA => [("names", strsF a.names), ("ports", .tup (a.ports.map portD)), ("row_of", tableD a.cs a.f)]) (fun a => [sqD a.k1 [nD a.p.1, sqD a.k2 (a.p.2.map Dt.int)], sqD a.k3 [.str a.nm, .int a.n]]) (StOk K) fun a d => d = stepD (stepR a.ports a.f a.j a.p a.n)
theorem ok_step {f f2 f3 f4 : Addr} {fd fd2 fd3 fd4 : FuncData} (F : Fun K "step" "step" s_step f fd) (k_position_of : Kn K mg "position_of" s_position_of ["number", "held"] f2 fd2) (k_row_at : Kn K mg "row_at" s_row_at ["program", "cell"] f3 fd3) (k_candidates : Kn K mg "candidates" s_candidates ["held", "number"] f4 fd4)
    (hC : Cls K C) (h1 : NoAttr K C "names") (h2 : NoAttr K C "ports") (h4 : NoAttr K C "row_of") (m_tuple : mg "tuple" = none) (m_set : mg "set" = none) (m_sorted : mg "sorted" = none) : FnOk P w K mg base CX0 2 f fd ["program", "place", "event"] (spStep K C) := by
  have nd := sc_step.nd
  have G_position_of : FnOk P w K mg base CX0 1 f2 fd2 ["number", "held"] (spPos K) := ok_position_of k_position_of.F
  have G_row_at : FnOk P w K mg base CX0 1 f3 fd3 ["program", "cell"] (spRowAt C) := ok_row_at k_row_at.F hC h4 m_tuple
  have G_candidates : FnOk P w K mg base CX0 1 f4 fd4 ["held", "number"] (spCands K) := ok_candidates k_candidates.F m_set m_sorted
  refine F.ok sc_step (fun vs H Q E h => spP_len (fun _ => rfl) h) (fun cdv A outer s H vs Q E hr h => ⟨_, (pss_cons (ps_asg (pv 1) (pg_sqK (K := K) (n := 2) rfl rfl (pgs_cons (pg_name (i := 3) nd rfl (by first | exact Or.inl rfl | exact Or.inr rfl)) (pgs_cons (pg_name (i := 4) nd rfl (by first | exact Or.inl rfl | exact Or.inr rfl)) pgs_nil))))
      (pss_cons (ps_asg (pv 2) (pg_sqK (K := K) (n := 2) rfl rfl (pgs_cons (pg_name (i := 5) nd rfl (by first | exact Or.inl rfl | exact Or.inr rfl)) (pgs_cons (pg_name (i := 6) nd rfl (by first | exact Or.inl rfl | exact Or.inr rfl)) pgs_nil))))
      (pss_cons (ps_set (i := 7) nd rfl (by first | exact Or.inl rfl | exact Or.inr rfl) (pe_tup (pa_cons (pv 3) (pa_cons (pe_tIdxK (K := K) rfl (pe_fldK (K := K) rfl (pv 0) (by rfl)) (pa_cons (pv 5) pa_nil)) (pa_cons (pe_call G_position_of (hr.mono (by decide)) (by rfl) k_position_of.g k_position_of.F.kp k_position_of.b .nil pass0 (pa_cons (pv 6) (pa_cons (pv 4) pa_nil))) pa_nil)))))
      (pss_cons (ps_asg (pe_call G_row_at (hr.mono (by decide)) (by rfl) k_row_at.g k_row_at.F.kp k_row_at.b .nil pass0 (pa_cons (pv 0) (pa_cons (pv 7) pa_nil))) (pg_tupK (K := K) (n := 3) rfl rfl (pgs_cons (pg_name (i := 8) nd rfl (by first | exact Or.inl rfl | exact Or.inr rfl)) (pgs_cons (pg_name (i := 9) nd rfl (by first | exact Or.inl rfl | exact Or.inr rfl)) (pgs_cons (pg_name (i := 10) nd rfl (by first | exact Or.inl rfl | exact Or.inr rfl)) pgs_nil)))))
      (pss_cons (ps_set (i := 11) nd rfl (by first | exact Or.inl rfl | exact Or.inr rfl) (pe_call G_candidates (hr.mono (by decide)) (by rfl) k_candidates.g k_candidates.F.kp k_candidates.b .nil pass0 (pa_cons (pv 4) (pa_cons (pv 6) pa_nil))))
      (pss_cons (ps_setLc (i := 12) (own := [("port", 13), ("label", 14), ("at", 15)]) (g := _) rfl nd rfl rfl (sw_true rfl rfl rfl (by decide +kernel)) (pi_tupK (K := K) rfl (pv 10)) (by refine blkOk_by ?_; show blkC N_step (defScope s_step) _ _ = true; decide +kernel) (fun _ _ _ _ _ => (pg_tupK (K := K) (n := 3) rfl rfl (pgs_cons (pg_name (i := 13) nd rfl (by first | exact Or.inl rfl | exact Or.inr rfl)) (pgs_cons (pg_name (i := 14) nd rfl (by first | exact Or.inl rfl | exact Or.inr rfl)) (pgs_cons (pg_name (i := 15) nd rfl (by first | exact Or.inl rfl | exact Or.inr rfl)) pgs_nil))))) (fun _ _ _ _ _ => pts_nil) (fun _ _ _ _ _ => (pe_tup (pa_cons (pe_ix (ix_tupK (K := K) rfl) (pe_ix (ix_tupK (K := K) rfl) (pe_fldK (K := K) rfl (pv 0) (by rfl)) (pv 13) (fun _ _ => rfl)) pe_int (fun _ _ => rfl)) (pa_cons (pv 14) (pa_cons (pe_ix (ix_listK (K := K) rfl) (pv 11) (pv 15) (fun _ _ => rfl)) pa_nil))))))
      (pss_cons (ps_set (i := 16) nd rfl (by first | exact Or.inl rfl | exact Or.inr rfl) (pe_tup (pa_cons (pv 8) (pa_cons (pe_callTy (call_tuple_ofK (K := K) rfl) (by rfl) m_tuple (by decide +kernel) (pa_cons (pe_lc (own := [("at", 15)]) (g := gName 15) rfl nd (pi_tupK (K := K) rfl (pv 9)) (by refine blkOk_by ?_; show blkC N_step (defScope s_step) _ _ = true; decide +kernel) (fun _ _ _ _ _ => (pg_name (i := 15) nd rfl (by first | exact Or.inl rfl | exact Or.inr rfl))) (fun _ _ _ _ _ => pts_nil) (fun _ _ _ _ _ => (pe_ix (ix_listK (K := K) rfl) (pv 11) (pv 15) (fun _ _ => rfl)))) pa_nil)) pa_nil))))
      (pss_one (ps_ret (pe_tup (pa_cons (pv 16) (pa_cons (pe_callTy (call_tuple_ofK (K := K) rfl) (by rfl) m_tuple (by decide +kernel) (pa_cons (pv 12) pa_nil)) (pa_cons (pv 7) pa_nil))))))))))))) , ?_⟩)
  refine ok_bodyP (fun x a => [.raw (.ref x), .dat (sqD a.k1 [nD a.p.1, sqD a.k2 (a.p.2.map Dt.int)]), .dat (sqD a.k3 [.str a.nm, .int a.n]), .un, .un, .un, .un, .un, .un, .un, .un, .un, .un, .un, .un, .un, .un]) h (fun _ => by show 3 ≤ 17; decide) (fun _ _ => rfl) fun c x a R hp => ?_
  obtain ⟨names, ports, cs, f, k1, k2, k3, ⟨m, hs⟩, nm, n, j⟩ := a
  obtain ⟨e1, e2, e3, hj, hx, hl, ha, hr1, hr2, hr3, hr4⟩ := hp
  simp only at e1 e2 e3 hj hx hl ha hr1 hr2 hr3 hr4
  refine ds_asgS (vs := [3, 4]) (de_var rfl) (dg_sq (ds := [nD m, sqD k2 (hs.map Dt.int)]) (M := (· = [.raw (.ref x), .dat (sqD k1 [nD m, sqD k2 (hs.map Dt.int)]), .dat (sqD k3 [.str nm, .int n]), .dat (nD m), .dat (sqD k2 (hs.map Dt.int)), .un, .un, .un, .un, .un, .un, .un, .un, .un, .un, .un, .un])) e1 rfl (dgs_name (by decide) (dgs_name (by decide) (dgs_nil rfl)))) fun δ' e => ?_
  subst e
  refine ds_asgS (vs := [5, 6]) (de_var rfl) (dg_sq (ds := [.str nm, .int n]) (M := (· = [.raw (.ref x), .dat (sqD k1 [nD m, sqD k2 (hs.map Dt.int)]), .dat (sqD k3 [.str nm, .int n]), .dat (nD m), .dat (sqD k2 (hs.map Dt.int)), .dat (.str nm), .dat (.int n), .un, .un, .un, .un, .un, .un, .un, .un, .un, .un])) e3 rfl (dgs_name (by decide) (dgs_name (by decide) (dgs_nil rfl)))) fun δ' e => ?_
  subst e
  have hjj := idxOf_get hj
  rw [Nat.sub_zero] at hjj
  have hno : ∀ i, i < j → names[i]? ≠ some nm := fun i hi => by
    have := idxOf_first hj i (Nat.zero_le _) hi
    rwa [Nat.sub_zero] at this
  refine ds_letE (d := cellD (m, j, posOf n hs 0)) (de_tup (da_consE (de_var rfl) (da_consE (de_tIdx (de_fldR R rfl List.mem_cons_self hC h1) (de_var rfl) hjj.2 hno) (da_consE (de_callT (A := fun a : Int × Sk × List Int => [.int a.1, sqD a.2.1 (a.2.2.map Dt.int)]) (f := fun a => nD (posOf a.1 a.2.2 0)) (n, k2, hs) (da_consE (de_var rfl) (da_consE (de_var rfl) da_nil)) e2) da_nil)))) ?_
  generalize hrow : f (m, j, posOf n hs 0) = row at *
  obtain ⟨t, ks, ws⟩ := row
  simp only at hr1 hr2 hr3 hr4
  refine ds_asgS (vs := [8, 9, 10]) (d := rowD (t, ks, ws)) (M := (· = [.raw (.ref x), .dat (sqD k1 [nD m, sqD k2 (hs.map Dt.int)]), .dat (sqD k3 [.str nm, .int n]), .dat (nD m), .dat (sqD k2 (hs.map Dt.int)), .dat (.str nm), .dat (.int n), .dat (cellD (m, j, posOf n hs 0)), .dat (nD t), .dat (.tup (ks.map nD)), .dat (.tup (ws.map wrD)), .un, .un, .un, .un, .un, .un])) (de_callPR (A := fun a : RowAt => [cellD a.cell]) (f := fun a => a.d) ⟨cs.map cellK, cs.map fun x => rowD (f x), (m, j, posOf n hs 0), rowD (t, ks, ws)⟩ R rfl (da_consE (de_var rfl) da_nil) (fun g d hm => ?_) ?_) (dg_tup rfl (dgs_name (by decide) (dgs_name (by decide) (dgs_name (by decide) (dgs_nil rfl))))) fun δ' e => ?_
  · have hm := List.mem_singleton.mp hm
    rw [hm]
    exact List.mem_cons_of_mem _ (List.mem_cons_of_mem _ List.mem_cons_self)
  · show dctAt (cs.map cellK) (cs.map fun x => rowD (f x)) (cellK (m, j, posOf n hs 0)) = some (rowD (t, ks, ws))
    rw [dct_tab hx, hrow]
  subst e
  refine ds_let (T := fun d => d = .lst ((candL n hs).map Dt.int)) ((dn_callT (A := fun a : Sk × List Int × Int => [sqD a.1 (a.2.1.map Dt.int), .int a.2.2]) (k2, hs, n) (da_consE (de_var rfl) (da_consE (de_var rfl) da_nil)) ⟨e2, hl⟩).imp fun d ⟨ms, e, h1, h2⟩ => by rw [e, asc_eq h1 (candL_asc ha) fun k => by rw [h2 k, candL_mem]]) fun d e => ?_
  subst e
  refine ds_letE (d := .lst ((ws.map (outOf ports (candL n hs))).map o3D)) (De.eq (Dl.de (dl_lcMap (fun d => match d with
    | .tup [.int p, .str l, .int k] => o3D (outOf ports (candL n hs) (p.toNat, l, k.toNat))
    | d => d) (di_tup (de_var rfl)) (by rw [List.length_map]; omega) fun d hd => ?_)) ?_) ?_
  · obtain ⟨⟨p, l, k⟩, hw, rfl⟩ := List.mem_map.mp hd
    obtain ⟨w1, w2⟩ := hr4 _ hw
    simp only at w1 w2
    have hport : ports[p]? = some ports[p] := List.getElem?_eq_getElem w1
    have hk : (candL n hs)[k]? = some (candL n hs)[k] := List.getElem?_eq_getElem w2
    refine dg_tup rfl (dgs_name (by decide) (dgs_name (by decide) (dgs_name (by decide) (dgs_nil ?_))))
    refine De.eq (de_tup (da_consE (de_ixT (d := .str ports[p].1) (de_ixTn (i := p) (d := portD ports[p]) (de_fldR R rfl (List.mem_cons_of_mem _ List.mem_cons_self) hC h2) (de_var rfl) (by rw [List.getElem?_map, hport]; rfl)) de_int rfl) (da_consE (de_var rfl) (da_consE (de_ixLn (i := k) (d := .int (candL n hs)[k]) (de_var rfl) (de_var rfl) (by rw [List.getElem?_map, hk]; rfl)) da_nil)))) ?_
    show Dt.tup [.str ports[p].1, .str l, .int (candL n hs)[k]] = o3D (outOf ports (candL n hs) (((p : Int)).toNat, l, ((k : Int)).toNat))
    rw [Int.toNat_natCast, Int.toNat_natCast]
    unfold outOf o3D
    simp only [hport, hk, Option.map_some, Option.getD_some]
  · rw [List.map_map, List.map_map]
    congr 1
  refine ds_letE (d := placeT (t, ks.map fun k => ((candL n hs)[k]?).getD 0)) (De.eq (de_tup (da_consE (de_var rfl) (da_consE (de_tupleOfLK (Dl.de (dl_lcMap (fun d => match d with
    | .int k => .int (((candL n hs)[k.toNat]?).getD 0)
    | d => d) (di_tup (de_var rfl)) (by rw [List.length_map]; omega) fun d hd => ?_))) da_nil))) ?_) ?_
  · obtain ⟨k, hk, rfl⟩ := List.mem_map.mp hd
    obtain ⟨v, hk⟩ : ∃ v, (candL n hs)[k]? = some v := ⟨_, List.getElem?_eq_getElem (hr2 k hk)⟩
    refine dg_name (by decide) (De.eq (de_ixLn (i := k) (d := .int v) (de_var rfl) (de_var rfl) (by rw [List.getElem?_map, hk]; rfl)) ?_)
    show Dt.int _ = Dt.int (((candL n hs)[((k : Int)).toNat]?).getD 0)
    rw [Int.toNat_natCast, hk]
    rfl
  · unfold placeT
    rw [List.map_map, List.map_map]
    congr 4
  refine ds_retE (d := stepD (stepR ports f j (m, hs) n)) (De.eq (de_tup (da_consE (de_var rfl) (da_consE (de_tupleOfLK (de_var rfl)) (da_consE (de_var rfl) da_nil)))) ?_) rfl
  unfold stepR stepD
  simp only [hrow]
  rfl
end
end K30

set_option Elab.async false
set_option maxRecDepth 100000
set_option maxHeartbeats 4000000
namespace K30
open PySem L2 StX Zd
/-! ### a run -/
abbrev Evt := Str × Int
structure Mach where
  names : List Str
  ports : List Port
  modes : List Mode
  f : Cell → Row
structure MachOk (M : Mach) : Prop where
  m0 : 0 < M.modes.length
  c0 : cntOf M.modes 0 = 0
  c3 : ∀ m, cntOf M.modes m ≤ 3
  row : ∀ x ∈ cellsL M.names.length M.modes, RowOk ⟨M.names, M.ports, M.modes, []⟩ (knownOf M.modes x) (M.f x)
structure PlaOk (M : Mach) (p : Pla) : Prop where
  m : p.1 < M.modes.length
  l : p.2.length = cntOf M.modes p.1
  a : p.2.Pairwise (· < ·)
def stepM (M : Mach) (p : Pla) (e : Evt) : StR := stepR M.ports M.f ((idxOf M.names e.1 0).getD 0) p e.2
theorem pick_asc {ms : List Int} (h : ms.Pairwise (· < ·)) {ks : List Nat} (hk : ks.Pairwise (· < ·)) (hl : ∀ k ∈ ks, k < ms.length) : (ks.map fun k => (ms[k]?).getD 0).Pairwise (· < ·) := by
  rw [List.pairwise_map]
  refine List.Pairwise.imp_of_mem (fun {a b} ha hb hab => ?_) hk
  have h1 := hl a ha
  have h2 := hl b hb
  rw [List.getElem?_eq_getElem h1, List.getElem?_eq_getElem h2]
  exact List.pairwise_iff_getElem.mp h a b h1 h2 hab
structure Fits (M : Mach) (p : Pla) (e : Evt) (j : Nat) : Prop where
  ix : idxOf M.names e.1 0 = some j
  x : (p.1, j, posOf e.2 p.2 0) ∈ cellsL M.names.length M.modes
  r : RowF M.ports (candL e.2 p.2).length (M.f (p.1, j, posOf e.2 p.2 0))
  n : PlaOk M (stepR M.ports M.f j p e.2).pl
  w : (M.f (p.1, j, posOf e.2 p.2 0)).2.2.length ≤ 4
  o : ∀ x ∈ (M.f (p.1, j, posOf e.2 p.2 0)).2.2, ∃ port, M.ports[x.1]? = some port ∧ x.2.1 ∈ port.2
theorem fits {M : Mach} (h : MachOk M) {p : Pla} (hp : PlaOk M p) {e : Evt} (he : e.1 ∈ M.names) : ∃ j, Fits M p e j := by
  obtain ⟨j, hj⟩ := idxOf_some (i := 0) he
  have hjj := idxOf_get hj
  have hjl : j < M.names.length := by
    have := (List.getElem?_eq_some_iff.mp hjj.2).1
    omega
  have hpos := posOf_le (n := e.2) (hs := p.2) (p := 0)
  rw [hp.l] at hpos
  have hx : (p.1, j, posOf e.2 p.2 0) ∈ cellsL M.names.length M.modes := mem_cellsL.mpr ⟨hp.m, hjl, by omega⟩
  have hr := h.row _ hx
  have hc := candL_len (n := e.2) (hs := p.2) (p := 0) rfl
  have hkn : knownOf M.modes (p.1, j, posOf e.2 p.2 0) = (candL e.2 p.2).length := by
    show cntOf M.modes p.1 + 1 - posOf e.2 p.2 0 % 2 = _
    rw [hp.l] at hc
    omega
  rw [hkn] at hr
  have h4 := h.c3 (M.f (p.1, j, posOf e.2 p.2 0)).1
  refine ⟨j, hj, hx, ⟨by rw [hr.hl]; show cntOf M.modes _ ≤ 1000; omega, hr.hk, Nat.le_trans hr.wl (by decide), fun x hx => ?_⟩, ⟨hr.t, ?_, pick_asc (candL_asc hp.a) hr.ha hr.hk⟩, hr.wl, fun x hx => ?_⟩
  · obtain ⟨port, h1, h2, h3⟩ := hr.ww x hx
    exact ⟨(List.getElem?_eq_some_iff.mp h1).1, h3⟩
  · show (List.map _ _).length = _
    rw [List.length_map]
    exact hr.hl
  · obtain ⟨port, h1, h2, h3⟩ := hr.ww x hx
    exact ⟨port, h1, h2⟩
theorem Fits.eq {M : Mach} {p : Pla} {e : Evt} {j : Nat} (h : Fits M p e j) : stepM M p e = stepR M.ports M.f j p e.2 := by
  unfold stepM
  rw [h.ix]
  rfl
structure Trc where
  pl : Pla
  outs : List (List Out)
  cells : List Cell
def Trc.go (M : Mach) (t : Trc) (e : Evt) : Trc := ⟨(stepM M t.pl e).pl, t.outs ++ [(stepM M t.pl e).os], t.cells ++ [(stepM M t.pl e).x]⟩
def trc (M : Mach) (es : List Evt) : Trc := es.foldl (Trc.go M) ⟨(0, []), [], []⟩
theorem trc_snoc (M : Mach) {es : List Evt} {i : Nat} {e : Evt} (h : es[i]? = some e) : trc M (es.take (i + 1)) = (trc M (es.take i)).go M e := by
  unfold trc
  rw [List.take_add_one, h, List.foldl_append]
  rfl
theorem trc_ok {M : Mach} (h : MachOk M) {es : List Evt} (he : ∀ e ∈ es, e.1 ∈ M.names) : ∀ i : Nat, PlaOk M (trc M (es.take i)).pl ∧ (trc M (es.take i)).outs.length ≤ i ∧ (trc M (es.take i)).cells.length ≤ i
  | 0 => by
    rw [List.take_zero]
    exact ⟨⟨h.m0, h.c0.symm, .nil⟩, Nat.le_refl _, Nat.le_refl _⟩
  | i + 1 => by
    obtain ⟨h1, h2, h3⟩ := trc_ok h he i
    cases hi : es[i]? with
    | none =>
      have e1 : es.take (i + 1) = es.take i := by rw [List.take_add_one, hi]; simp
      rw [e1]
      exact ⟨h1, Nat.le_succ_of_le h2, Nat.le_succ_of_le h3⟩
    | some e =>
      rw [trc_snoc M hi]
      obtain ⟨j, F⟩ := fits h h1 (he e (List.mem_of_getElem? hi))
      refine ⟨?_, ?_, ?_⟩
      · show PlaOk M (stepM M _ e).pl
        rw [F.eq]
        exact F.n
      · show (_ ++ [_]).length ≤ i + 1
        rw [List.length_append]
        exact Nat.succ_le_succ h2
      · show (_ ++ [_]).length ≤ i + 1
        rw [List.length_append]
        exact Nat.succ_le_succ h3
def machF (M : Mach) : List (Str × Dt) := [("names", strsF M.names), ("ports", .tup (M.ports.map portD)), ("row_of", tableD (cellsL M.names.length M.modes) M.f)]
def evQ (k : Sk) (e : Evt) : Dt := sqD k [.str e.1, .int e.2]
/-- the place, and where it is the module's own -/
def plaQ (aS aE : Addr) (i : Nat) (p : Pla) : Dt := if i = 0 then .con aS else placeT p
structure RunA where
  M : Mach
  ke : Sk
  k3 : Sk
  es : List Evt
structure RunOk (K : PySem.W.Frag) (a : RunA) : Prop where
  M : MachOk a.M
  ke : SkOk K a.ke (a.es.map (evQ a.k3))
  k3 : ∀ e ∈ a.es, SkOk K a.k3 [.str e.1, .int e.2]
  nm : ∀ e ∈ a.es, e.1 ∈ a.M.names
  l : a.es.length ≤ 1000
section
variable {P : Program} {w : World} {K : PySem.W.Frag} {mg : Str → Option Value} {base : Heap} {C aS aE : Addr}
def spRun (K : PySem.W.Frag) (C aS aE : Addr) : Sp := fun vs H Q _ => ∃ G x dx fs us a, vs = .ref x :: us ∧ Same G H ∧ H x = some (.ins C dx fs) ∧ (∀ f d, (f, d) ∈ machF a.M → ∃ v, fs.lookup f = some v ∧ Dq G v d) ∧ Dqs G us [sqD a.ke (a.es.map (evQ a.k3))] ∧ RunOk K a ∧
  ∀ (t p1 p2 : Addr) (G' H' : Hp) (pv : V) (l1 l2 : List V), Gx Bx.pure G H G' H' → New H G' H' t (.tup [pv, .ref p1, .ref p2]) → New H G' H' p1 (.lst l1) → New H G' H' p2 (.lst l2) → t ≠ p1 → t ≠ p2 → p1 ≠ p2 →
    Dq G' pv (plaQ aS aE a.es.length (trc a.M a.es).pl) → Dqs G' l1 ((trc a.M a.es).outs.map outsD) → Dqs G' l2 ((trc a.M a.es).cells.map cellD) → Q (.ref t) H'
theorem ok_run {f f2 f3 f4 f5 : Addr} {fd fd2 fd3 fd4 fd5 : FuncData} (F : Fun K "run" "run" s_run f fd) (k_position_of : Kn K mg "position_of" s_position_of ["number", "held"] f2 fd2) (k_row_at : Kn K mg "row_at" s_row_at ["program", "cell"] f3 fd3) (k_candidates : Kn K mg "candidates" s_candidates ["held", "number"] f4 fd4) (k_step : Kn K mg "step" s_step ["program", "place", "event"] f5 fd5)
    (hC : Cls K C) (h1 : NoAttr K C "names") (h2 : NoAttr K C "ports") (h4 : NoAttr K C "row_of") (m_tuple : mg "tuple" = none) (m_set : mg "set" = none) (m_sorted : mg "sorted" = none) (c_START : mg "START" = some (.ref aS)) (hS : CstT K aS [nD 0, .con aE]) (hE : CstT K aE []) : FnOk P w K mg base CX0 3 f fd ["program", "events"] (spRun K C aS aE) := by
  have nd := sc_run.nd
  have G_step : FnOk P w K mg base CX0 2 f5 fd5 ["program", "place", "event"] (spStep K C) := ok_step k_step.F k_position_of k_row_at k_candidates hC h1 h2 h4 m_tuple m_set m_sorted
  let a_START := aS
  refine F.ok sc_run (fun vs H Q E h => ?_) (fun cdv A outer s H vs Q E hr h => ⟨_, (pss_cons (ps_set (i := 2) nd rfl (by first | exact Or.inl rfl | exact Or.inr rfl) (pe_glob (v := .ref a_START) rfl c_START rfl))
      (pss_cons (ps_set (i := 3) nd rfl (by first | exact Or.inl rfl | exact Or.inr rfl) (pe_lst pa_nil))
      (pss_cons (ps_set (i := 4) nd rfl (by first | exact Or.inl rfl | exact Or.inr rfl) (pe_lst pa_nil))
      (pss_cons (ps_for PassesOwn.never rfl (pi_seqK (K := K) rfl (pv 1)) (pg_name (i := 5) nd rfl (by first | exact Or.inl rfl | exact Or.inr rfl)) (pss_cons (ps_asg (pe_call G_step (hr.mono (by decide)) (by rfl) k_step.g k_step.F.kp k_step.b .nil pass0 (pa_cons (pv 0) (pa_cons (pv 2) (pa_cons (pv 5) pa_nil)))) (pg_tupK (K := K) (n := 3) rfl rfl (pgs_cons (pg_name (i := 2) nd rfl (by first | exact Or.inl rfl | exact Or.inr rfl)) (pgs_cons (pg_name (i := 6) nd rfl (by first | exact Or.inl rfl | exact Or.inr rfl)) (pgs_cons (pg_name (i := 7) nd rfl (by first | exact Or.inl rfl | exact Or.inr rfl)) pgs_nil)))))
      (pss_cons (ps_expr (pe_bm PySem.F.plainAttrs_list PySem.F.slot_list_append PySem.F.type_list_append mt_append (pv 3) (pa_cons (pv 6) pa_nil)))
      (pss_one (ps_expr (pe_bm PySem.F.plainAttrs_list PySem.F.slot_list_append PySem.F.type_list_append mt_append (pv 4) (pa_cons (pv 7) pa_nil)))))))
      (pss_one (ps_ret (pe_tup (pa_cons (pv 2) (pa_cons (pv 3) (pa_cons (pv 4) pa_nil)))))))))) , ?_⟩)
  · obtain ⟨G, x, dx, fs, us, a, rfl, s, hx, hf, d, pr, q⟩ := h
    rw [List.length_cons, d.length]
    rfl
  obtain ⟨G, x, dx, fs, us, a, rfl, s, hx, hf, d, hok, q⟩ := h
  obtain ⟨M, ke, k3, es⟩ := a
  obtain ⟨hM, hke, hk3, hnm, hl⟩ := hok
  simp only at hf d hM hke hk3 hnm hl q
  have R : PrgC ⟨Bx.pure, G, H⟩ x C (machF M) := ⟨rfl, dx, fs, hx, hf⟩
  have e := d.startR s (v := .ref x) N_run (by rw [d.length]; show 2 ≤ 8; decide)
  have e : Ec ⟨Bx.pure, G, H⟩ G H (L2.start N_run (.ref x :: us)) [.raw (.ref x), .dat (sqD ke (es.map (evQ k3))), .un, .un, .un, .un, .un, .un] := e
  refine ds_then (M := (· = [.raw (.ref x), .dat (sqD ke (es.map (evQ k3))), .dat (.con aS), .un, .un, .un, .un, .un])) (ds_set (T := (· = .con aS)) (de_c fun _ => .con _) fun d e => by rw [e]; rfl) e ?_
  rintro δ' σ1 G1 H1 s1 e1 rfl
  refine ds_then (M := (· = [.raw (.ref x), .dat (sqD ke (es.map (evQ k3))), .dat (.con aS), .own [], .un, .un, .un, .un])) (ds_setOwn (dl_lst da_nil fun _ e => by rw [e]; exact Nat.zero_le _) fun d e => by rw [e]; rfl) e1 ?_
  rintro δ' σ2 G2 H2 s2 e2 rfl
  refine ds_then (M := (· = [.raw (.ref x), .dat (sqD ke (es.map (evQ k3))), .dat (.con aS), .own [], .own [], .un, .un, .un])) (ds_setOwn (dl_lst da_nil fun _ e => by rw [e]; exact Nat.zero_le _) fun d e => by rw [e]; rfl) e2 ?_
  rintro δ' σ3 G3 H3 s3 e3 rfl
  refine ds_then (M := fun δ' => ∃ x5 x6 x7, δ' = [.raw (.ref x), .dat (sqD ke (es.map (evQ k3))), .dat (plaQ aS aE es.length (trc M es).pl), .own ((trc M es).outs.map outsD), .own ((trc M es).cells.map cellD), x5, x6, x7]) (ds_for (vs := [5]) (di_sq hke (de_var rfl)) fun xs e => ?_) e3 ?_
  · subst e
    refine ⟨fun i δ' => ∃ x5 x6 x7, δ' = [.raw (.ref x), .dat (sqD ke (es.map (evQ k3))), .dat (plaQ aS aE i (trc M (es.take i)).pl), .own ((trc M (es.take i)).outs.map outsD), .own ((trc M (es.take i)).cells.map cellD), x5, x6, x7], ⟨.un, .un, .un, by rw [List.take_zero]; rfl⟩, ?_, ?_⟩
    · rintro i d δ' hd ⟨x5, x6, x7, rfl⟩
      obtain ⟨ev, hev, rfl⟩ : ∃ ev, es[i]? = some ev ∧ d = evQ k3 ev := by
        rw [List.getElem?_map] at hd
        cases e : es[i]? with
        | none => rw [e] at hd; cases hd
        | some x => rw [e] at hd; exact ⟨x, rfl, (Option.some.inj hd).symm⟩
      have hi := (List.getElem?_eq_some_iff.mp hev).1
      have hmem := List.mem_of_getElem? hev
      obtain ⟨t1, t2, t3⟩ := trc_ok hM hnm i
      obtain ⟨j, Fi⟩ := fits hM t1 (hnm ev hmem)
      have hsn := trc_snoc M hev
      generalize htr : trc M (es.take i) = tr at *
      obtain ⟨⟨m, hs⟩, outs, cells⟩ := tr
      have hkk : ∃ k1 k2 : Sk, plaQ aS aE i (m, hs) = sqD k1 [nD m, sqD k2 (hs.map Dt.int)] ∧ SkOk K k1 [nD m, sqD k2 (hs.map Dt.int)] ∧ SkOk K k2 (hs.map Dt.int) := by
        by_cases h0 : i = 0
        · subst h0
          rw [List.take_zero] at htr
          have e1 : (m, hs) = ((0, []) : Pla) := (congrArg Trc.pl htr).symm
          cases e1
          exact ⟨.con aS, .con aE, rfl, skOk_con hS, skOk_con hE⟩
        · refine ⟨.tup, .tup, ?_, skOk_tup, skOk_tup⟩
          unfold plaQ
          rw [if_neg h0]
          rfl
      obtain ⟨k1, k2, ek, ok1, ok2⟩ := hkk
      have hl3 : hs.length ≤ 50 := by
        have := hM.c3 m
        have h5 : hs.length = cntOf M.modes m := t1.l
        omega
      refine dg_name (by decide) ?_
      refine ds_asgS (vs := [2, 6, 7]) (d := stepD (stepM M (m, hs) ev)) (M := (· = [.raw (.ref x), .dat (sqD ke (es.map (evQ k3))), .dat (placeT (stepM M (m, hs) ev).pl), .own (outs.map outsD), .own (cells.map cellD), .dat (evQ k3 ev), .dat (outsD (stepM M (m, hs) ev).os), .dat (cellD (stepM M (m, hs) ev).x)])) (De.eq (de_callPR (A := fun a : StA => [sqD a.k1 [nD a.p.1, sqD a.k2 (a.p.2.map Dt.int)], sqD a.k3 [.str a.nm, .int a.n]]) (f := fun a => stepD (stepR a.ports a.f a.j a.p a.n)) ⟨M.names, M.ports, cellsL M.names.length M.modes, M.f, k1, k2, k3, (m, hs), ev.1, ev.2, j⟩ R rfl (da_consE (De.eq (de_var rfl) ek) (da_consE (de_var rfl) da_nil)) (fun g d hm => hm) ⟨ok1, ok2, hk3 ev hmem, Fi.ix, Fi.x, hl3, t1.a, Fi.r⟩) (by rw [Fi.eq])) (dg_tup rfl (dgs_name (by decide) (dgs_name (by decide) (dgs_name (by decide) (dgs_nil rfl))))) fun δ' e => ?_
      subst e
      refine ds_seq (M := (· = [.raw (.ref x), .dat (sqD ke (es.map (evQ k3))), .dat (placeT (stepM M (m, hs) ev).pl), .own ((outs ++ [(stepM M (m, hs) ev).os]).map outsD), .own (cells.map cellD), .dat (evQ k3 ev), .dat (outsD (stepM M (m, hs) ev).os), .dat (cellD (stepM M (m, hs) ev).x)])) (ds_append (i := 3) rfl (de_var rfl) (by rw [List.length_map]; have : outs.length ≤ i := t2; omega) fun d e => by rw [e, List.map_append]; rfl) ?_
      rintro δ' rfl
      refine ds_append (i := 4) rfl (de_var rfl) (by rw [List.length_map]; have : cells.length ≤ i := t3; omega) fun d e => ?_
      subst e
      refine ⟨.dat (evQ k3 ev), .dat (outsD (stepM M (m, hs) ev).os), .dat (cellD (stepM M (m, hs) ev).x), ?_⟩
      rw [hsn]
      show [Sl.raw (.ref x), _, .dat (placeT (stepM M (m, hs) ev).pl), .own ((outs ++ [(stepM M (m, hs) ev).os]).map outsD), .own (cells.map cellD ++ [cellD (stepM M (m, hs) ev).x]), _, _, _] = [Sl.raw (.ref x), _, .dat (placeT (stepM M (m, hs) ev).pl), .own ((outs ++ [(stepM M (m, hs) ev).os]).map outsD), .own ((cells ++ [(stepM M (m, hs) ev).x]).map cellD), _, _, _]
      rw [List.map_append (l₁ := cells)]
      rfl
    · rintro δ' ⟨x5, x6, x7, rfl⟩
      refine ⟨x5, x6, x7, ?_⟩
      rw [List.length_map, List.take_length]
  rintro δ' σ4 G4 H4 s4 e4 ⟨x5, x6, x7, rfl⟩
  obtain ⟨pv, z1, z2⟩ := e4.sl 2 _ rfl
  obtain ⟨p1, l1, y1, y2, y3, y4, y5⟩ := e4.sl 3 _ rfl
  obtain ⟨p2, l2, w1, w2, w3, w4, w5⟩ := e4.sl 4 _ rfl
  have hne : p1 ≠ p2 := fun h => by
    have := e4.apart 3 4 _ _ p1 rfl rfl rfl rfl y1 (by rw [w1, h])
    omega
  refine ⟨pv, z1, .ref p1, y1, .ref p2, w1, sz_ok (by show 3 ≤ 10000000; decide), fun t ht => ?_⟩
  have t0 : H t = none := e4.gx.fresh e4.j0 ht
  have tG : G4 t = none := by
    cases k : G4 t with
    | none => rfl
    | some u => rw [e4.same t u k] at ht; cases ht
  have n1 : t ≠ p1 := fun h => by rw [h, y2] at ht; cases ht
  have n2 : t ≠ p2 := fun h => by rw [h, w2] at ht; cases ht
  exact q t p1 p2 G4 _ pv l1 l2 (e4.gx.trans e4.j0 (Gx.put e4.same e4.jj ht)) ⟨t0, tG, upd_same⟩ ⟨y4, y3, by rw [upd_ne (fun h => n1 h.symm)]; exact y2⟩ ⟨w4, w3, by rw [upd_ne (fun h => n2 h.symm)]; exact w2⟩ n1 n2 hne z2 y5 w5
end
end K30

set_option Elab.async false
set_option maxRecDepth 100000
set_option maxHeartbeats 4000000
namespace K30
open PySem L2 StX Zd
/-! ### the law's own step and run -/
theorem posOf_odd {n : Int} : ∀ {hs : List Int} {p : Nat}, hs.Pairwise (· < ·) → p % 2 = 0 → (posOf n hs p % 2 = 1 ↔ n ∈ hs)
  | [], p, _, hp => by
    show p % 2 = 1 ↔ _
    simp only [List.not_mem_nil, iff_false]
    omega
  | v :: r, p, h, hp => by
    obtain ⟨h1, h2⟩ := List.pairwise_cons.mp h
    unfold posOf
    split
    · rename_i hn
      constructor
      · intro h; omega
      · intro h
        rcases List.mem_cons.mp h with rfl | h
        · omega
        · have := h1 n h; omega
    · split
      · rename_i e
        subst e
        exact ⟨fun _ => List.mem_cons_self, fun _ => by omega⟩
      · rename_i _ hne
        rw [posOf_odd h2 (by omega), List.mem_cons]
        exact ⟨.inr, fun h => h.resolve_left hne⟩
def machL (pl : Plan) : Mach := ⟨pl.names, pl.ports, pl.modes, rowIn pl.modes pl.rows⟩
structure LStA where
  pl : Plan
  f : Cell → Row
  p : Pla
  e : Evt
def LStA.M (a : LStA) : Mach := ⟨a.pl.names, a.pl.ports, a.pl.modes, a.f⟩
structure LStOk (a : LStA) : Prop where
  ok : ∃ j, Fits a.M a.p a.e j
  pla : PlaOk a.M a.p
  n : a.pl.names.length ≤ 1000
  c3 : ∀ m, cntOf a.pl.modes m ≤ 3
def lstepD (r : StR) : Dt := .lst [placeT r.pl, outsD r.os, cellD r.x]
section
variable {P : Program} {w : World} {K : PySem.W.Frag} {mg : Str → Option Value} {base : Heap} {C aS aE : Addr}
abbrev spLStep : Sp := spT (fun a : LStA => [planD a.pl, tableD (cellsL a.pl.names.length a.pl.modes) a.f, placeT a.p, pairD a.e]) LStOk fun a d => d = lstepD (stepM a.M a.p a.e)
theorem ok__law_step {f f2 f3 : Addr} {fd fd2 fd3 : FuncData} (F : Fun K "_law_step" "_law_step" s__law_step f fd) (k__law_position : Kn K mg "_law_position" s__law_position ["number", "held"] f2 fd2) (k__law_index : Kn K mg "_law_index" s__law_index ["words", "word"] f3 fd3)
    (m_len : mg "len" = none) (m_range : mg "range" = none) (m_list : mg "list" = none) (m_tuple : mg "tuple" = none) (m_sorted : mg "sorted" = none) : FnOk P w K mg base CX0 2 f fd ["plan", "table", "place", "event"] spLStep := by
  have nd := sc__law_step.nd
  have G__law_position : FnOk P w K mg base CX0 1 f2 fd2 ["number", "held"] spLPos := ok__law_position k__law_position.F m_len
  have G__law_index : FnOk P w K mg base CX0 1 f3 fd3 ["words", "word"] spIndex := ok__law_index k__law_index.F m_range m_len
  refine F.ok sc__law_step (fun vs H Q E h => spT_len (fun _ => rfl) h) (fun cdv A outer s H vs Q E hr h => ⟨_, (pss_cons (ps_set (i := 4) nd rfl (by first | exact Or.inl rfl | exact Or.inr rfl) (pe_call G__law_position (hr.mono (by decide)) (by rfl) k__law_position.g k__law_position.F.kp k__law_position.b .nil pass0 (pa_cons (pe_ix (ix_tupK (K := K) rfl) (pv 3) pe_int (fun _ _ => rfl)) (pa_cons (pe_ix (ix_tupK (K := K) rfl) (pv 2) pe_int (fun _ _ => rfl)) pa_nil))))
      (pss_cons (ps_set (i := 5) nd rfl (by first | exact Or.inl rfl | exact Or.inr rfl) (pe_tup (pa_cons (pe_ix (ix_tupK (K := K) rfl) (pv 2) pe_int (fun _ _ => rfl)) (pa_cons (pe_call G__law_index (hr.mono (by decide)) (by rfl) k__law_index.g k__law_index.F.kp k__law_index.b .nil pass0 (pa_cons (pe_ix (ix_listK (K := K) rfl) (pv 0) pe_int (fun _ _ => rfl)) (pa_cons (pe_ix (ix_tupK (K := K) rfl) (pv 3) pe_int (fun _ _ => rfl)) pa_nil))) (pa_cons (pv 4) pa_nil)))))
      (pss_cons (ps_set (i := 6) nd rfl (by first | exact Or.inl rfl | exact Or.inr rfl) (pe_callB (cr_sortedIK (K := K) rfl) (by rfl) m_sorted (by decide +kernel) (pa_cons (pe_op op_cat (pe_callTy (call_list_ofK (K := K) rfl) (by rfl) m_list (by decide +kernel) (pa_cons (pe_ix (ix_tupK (K := K) rfl) (pv 2) pe_int (fun _ _ => rfl)) pa_nil)) (pe_slice (sl_listK (K := K) rfl) (pe_lst (pa_cons (pe_ix (ix_tupK (K := K) rfl) (pv 3) pe_int (fun _ _ => rfl)) pa_nil)) po_none (po_some (pe_op op_sub pe_int (pe_op op_mod (pv 4) pe_int))))) pa_nil)))
      (pss_cons (ps_asg (pe_dget (hu_of hr) (pv 1) (pv 5) (fun _ _ => rfl)) (pg_tupK (K := K) (n := 3) rfl rfl (pgs_cons (pg_name (i := 7) nd rfl (by first | exact Or.inl rfl | exact Or.inr rfl)) (pgs_cons (pg_name (i := 8) nd rfl (by first | exact Or.inl rfl | exact Or.inr rfl)) (pgs_cons (pg_name (i := 9) nd rfl (by first | exact Or.inl rfl | exact Or.inr rfl)) pgs_nil)))))
      (pss_cons (ps_set (i := 10) nd rfl (by first | exact Or.inl rfl | exact Or.inr rfl) (pe_callTy (call_tuple_ofK (K := K) rfl) (by rfl) m_tuple (by decide +kernel) (pa_cons (pe_lc (own := [("write", 11)]) (g := gName 11) rfl nd (pi_tupK (K := K) rfl (pv 9)) (by refine blkOk_by ?_; show blkC N__law_step (defScope s__law_step) _ _ = true; decide +kernel) (fun _ _ _ _ _ => (pg_name (i := 11) nd rfl (by first | exact Or.inl rfl | exact Or.inr rfl))) (fun _ _ _ _ _ => pts_nil) (fun _ _ _ _ _ => (pe_tup (pa_cons (pe_ix (ix_tupK (K := K) rfl) (pe_ix (ix_tupK (K := K) rfl) (pe_ix (ix_listK (K := K) rfl) (pv 0) pe_int (fun _ _ => rfl)) (pe_ix (ix_tupK (K := K) rfl) (pv 11) pe_int (fun _ _ => rfl)) (fun _ _ => rfl)) pe_int (fun _ _ => rfl)) (pa_cons (pe_ix (ix_tupK (K := K) rfl) (pv 11) pe_int (fun _ _ => rfl)) (pa_cons (pe_ix (ix_listK (K := K) rfl) (pv 6) (pe_ix (ix_tupK (K := K) rfl) (pv 11) pe_int (fun _ _ => rfl)) (fun _ _ => rfl)) pa_nil)))))) pa_nil)))
      (pss_one (ps_ret (pe_lst (pa_cons (pe_tup (pa_cons (pv 7) (pa_cons (pe_callTy (call_tuple_ofK (K := K) rfl) (by rfl) m_tuple (by decide +kernel) (pa_cons (pe_lc (own := [("k", 12)]) (g := gName 12) rfl nd (pi_tupK (K := K) rfl (pv 8)) (by refine blkOk_by ?_; show blkC N__law_step (defScope s__law_step) _ _ = true; decide +kernel) (fun _ _ _ _ _ => (pg_name (i := 12) nd rfl (by first | exact Or.inl rfl | exact Or.inr rfl))) (fun _ _ _ _ _ => pts_nil) (fun _ _ _ _ _ => (pe_ix (ix_listK (K := K) rfl) (pv 6) (pv 12) (fun _ _ => rfl)))) pa_nil)) pa_nil))) (pa_cons (pv 10) (pa_cons (pv 5) pa_nil))))))))))) , ?_⟩)
  refine ok_bodyT (fun a => [.dat (planD a.pl), .dat (tableD (cellsL a.pl.names.length a.pl.modes) a.f), .dat (placeT a.p), .dat (pairD a.e), .un, .un, .un, .un, .un, .un, .un, .un, .un]) h (fun _ => by show 4 ≤ 13; decide) (fun _ => rfl) fun c a hc hp => ?_
  obtain ⟨pl, f, ⟨m, hs⟩, ⟨nm, n⟩⟩ := a
  obtain ⟨⟨j, Fi⟩, ⟨t1, t2, t3⟩, hn1, hc3⟩ := hp
  have ha : hs.Pairwise (· < ·) := t3
  have hl : hs.length ≤ 50 := by
    have h1 : cntOf pl.modes m ≤ 3 := hc3 m
    have h2 : hs.length = cntOf pl.modes m := t2
    omega
  have hix : idxOf pl.names nm 0 = some j := Fi.ix
  have hx : (m, j, posOf n hs 0) ∈ cellsL pl.names.length pl.modes := Fi.x
  obtain ⟨hr1, hr2, hr3, hr4⟩ : RowF pl.ports (candL n hs).length (f (m, j, posOf n hs 0)) := Fi.r
  have heq := Fi.eq
  refine ds_letE (d := nD (posOf n hs 0)) (De.eq (de_callT (A := fun a : Int × Bool × List Int => [.int a.1, seqD a.2.1 (a.2.2.map Dt.int)]) (f := fun a => nD (lposOf a.1 a.2.2)) (n, true, hs) (da_consE (de_ixT (d := .int n) (de_var rfl) de_int rfl) (da_consE (de_ixT (d := .tup (hs.map Dt.int)) (de_var rfl) de_int rfl) da_nil)) (by show hs.length ≤ 1000; omega)) (by rw [pos_same ha, Nat.zero_add])) ?_
  refine ds_letE (d := cellD (m, j, posOf n hs 0)) (de_tup (da_consE (de_ixT (d := nD m) (de_var rfl) de_int rfl) (da_consE (De.eq (de_callT (A := fun a : List Str × Str => [strsF a.1, .str a.2]) (f := fun a => idxD (idxOf a.1 a.2 0)) (pl.names, nm) (da_consE (de_names (de_var rfl)) (da_consE (de_ixT (d := .str nm) (de_var rfl) de_int rfl) da_nil)) hn1) (by rw [hix]; rfl)) (da_consE (de_var rfl) da_nil)))) ?_
  refine ds_let (T := fun d => d = .lst ((candL n hs).map Dt.int)) (Dl.dn (dl_sortedI (ns := hs ++ [n].take (1 - posOf n hs 0 % 2)) (De.eq (Dl.de (dl_cat (xs := hs.map Dt.int) (ys := [Dt.int n].take (1 - posOf n hs 0 % 2)) (Dl.de (dl_listOfT (de_ixT (d := .tup (hs.map Dt.int)) (de_var rfl) de_int rfl))) (De.eq (Dl.de (dl_slE (lo := none) (hi := some (((1 - posOf n hs 0 % 2 : Nat)) : Int)) (de_lst (da_consE (de_ixT (d := .int n) (de_var rfl) de_int rfl) da_nil)) dp_none (dp_someE (De.eq (de_sub de_int (de_mod (de_var rfl) de_int (by decide))) ?_)))) (by rw [cutD_take])) ?_)) ?_)) fun ds ⟨ms, e, pm, pw⟩ => ?_) fun d e => ?_
  · show Dt.int (1 - ((posOf n hs 0 : Nat) : Int) % 2) = Dt.int _
    congr 1
    omega
  · rw [List.length_map, List.length_take]
    show hs.length + min _ 1 ≤ _
    omega
  · rw [List.map_append, List.map_take]
    rfl
  · have hodd := posOf_odd (n := n) ha (p := 0) rfl
    have hnd : (hs ++ [n].take (1 - posOf n hs 0 % 2)).Nodup ∧ ∀ k, k ∈ hs ++ [n].take (1 - posOf n hs 0 % 2) ↔ k ∈ hs ∨ k = n := by
      have hsn : hs.Nodup := by
        rw [List.nodup_iff_pairwise_ne]
        exact ha.imp fun h => by omega
      by_cases ho : posOf n hs 0 % 2 = 1
      · rw [ho]
        show (hs ++ []).Nodup ∧ ∀ k, k ∈ hs ++ [] ↔ _
        rw [List.append_nil]
        exact ⟨hsn, fun k => ⟨.inl, fun h => h.elim id fun e => by rw [e]; exact hodd.mp ho⟩⟩
      · have h0 : posOf n hs 0 % 2 = 0 := by omega
        rw [h0]
        show (hs ++ [n]).Nodup ∧ ∀ k, k ∈ hs ++ [n] ↔ _
        refine ⟨List.nodup_append.mpr ⟨hsn, by simp, fun a h b hb e => ?_⟩, fun k => by simp⟩
        rw [List.mem_singleton.mp hb] at e
        exact ho (hodd.mpr (e ▸ h))
    rw [e, asc_eq (le_asc pw (pm.nodup_iff.mpr hnd.1)) (candL_asc ha) fun k => by rw [pm.mem_iff, hnd.2 k, candL_mem]]
  subst e
  generalize hrow : f (m, j, posOf n hs 0) = row at *
  obtain ⟨t, ks, ws⟩ := row
  simp only at hr1 hr2 hr3 hr4
  refine ds_asgS (vs := [7, 8, 9]) (d := rowD (t, ks, ws)) (M := (· = [.dat (planD pl), .dat (tableD (cellsL pl.names.length pl.modes) f), .dat (placeT (m, hs)), .dat (pairD (nm, n)), .dat (nD (posOf n hs 0)), .dat (cellD (m, j, posOf n hs 0)), .dat (.lst ((candL n hs).map Dt.int)), .dat (nD t), .dat (.tup (ks.map nD)), .dat (.tup (ws.map wrD)), .un, .un, .un])) (de_getT (k := cellK (m, j, posOf n hs 0)) (de_var rfl) (de_var rfl) (by have := dct_tab (f := f) hx; rw [hrow] at this; exact this)) (dg_tup rfl (dgs_name (by decide) (dgs_name (by decide) (dgs_name (by decide) (dgs_nil rfl))))) fun δ' e => ?_
  subst e
  refine ds_letE (d := outsD (ws.map (outOf pl.ports (candL n hs)))) (De.eq (de_tupleOfLK (Dl.de (dl_lcMap (fun d => match d with
    | .tup [.int p, .str l, .int k] => o3D (outOf pl.ports (candL n hs) (p.toNat, l, k.toNat))
    | d => d) (di_tup (de_var rfl)) (by rw [List.length_map]; omega) fun d hd => ?_))) ?_) ?_
  · obtain ⟨⟨p, l, k⟩, hw, rfl⟩ := List.mem_map.mp hd
    obtain ⟨w1, w2⟩ := hr4 _ hw
    simp only at w1 w2
    obtain ⟨port, hport⟩ : ∃ port, pl.ports[p]? = some port := ⟨_, List.getElem?_eq_getElem w1⟩
    obtain ⟨v, hk⟩ : ∃ v, (candL n hs)[k]? = some v := ⟨_, List.getElem?_eq_getElem w2⟩
    refine dg_name (by decide) (De.eq (de_tup (da_consE (de_ixT (d := .str port.1) (de_ixTn (i := p) (d := portD port) (de_ports (de_var rfl)) (de_ixT (d := nD p) (de_var rfl) de_int rfl) (by rw [List.getElem?_map, hport]; rfl)) de_int rfl) (da_consE (de_ixT (d := .str l) (de_var rfl) de_int rfl) (da_consE (de_ixLn (i := k) (d := .int v) (de_var rfl) (de_ixT (d := nD k) (de_var rfl) de_int rfl) (by rw [List.getElem?_map, hk]; rfl)) da_nil)))) ?_)
    show Dt.tup [.str port.1, .str l, .int v] = o3D (outOf pl.ports (candL n hs) (((p : Int)).toNat, l, ((k : Int)).toNat))
    rw [Int.toNat_natCast, Int.toNat_natCast]
    unfold outOf o3D
    simp only [hport, hk, Option.map_some, Option.getD_some]
  · unfold outsD
    rw [List.map_map, List.map_map]
    congr 1
  refine ds_retE (d := lstepD (stepM ⟨pl.names, pl.ports, pl.modes, f⟩ (m, hs) (nm, n))) (De.eq (de_lst (da_consE (de_tup (da_consE (de_var rfl) (da_consE (de_tupleOfLK (Dl.de (dl_lcMap (fun d => match d with
    | .int k => .int (((candL n hs)[k.toNat]?).getD 0)
    | d => d) (di_tup (de_var rfl)) (by rw [List.length_map]; omega) fun d hd => ?_))) da_nil))) (da_consE (de_var rfl) (da_consE (de_var rfl) da_nil)))) ?_) rfl
  · obtain ⟨k, hk, rfl⟩ := List.mem_map.mp hd
    obtain ⟨v, hk⟩ : ∃ v, (candL n hs)[k]? = some v := ⟨_, List.getElem?_eq_getElem (hr2 k hk)⟩
    refine dg_name (by decide) (De.eq (de_ixLn (i := k) (d := .int v) (de_var rfl) (de_var rfl) (by rw [List.getElem?_map, hk]; rfl)) ?_)
    show Dt.int _ = Dt.int (((candL n hs)[((k : Int)).toNat]?).getD 0)
    rw [Int.toNat_natCast, hk]
    rfl
  · have heq2 : stepM ⟨pl.names, pl.ports, pl.modes, f⟩ (m, hs) (nm, n) = stepR pl.ports f j (m, hs) n := heq
    rw [heq2]
    unfold stepR lstepD placeT
    simp only [hrow]
    rw [List.map_map, List.map_map]
    rfl
def lrunD (t : Trc) : Dt := .lst [placeT t.pl, .lst (t.outs.map outsD), .lst (t.cells.map cellD)]
structure LRunOk (a : Plan × List Evt) : Prop where
  t : TabOk a.1
  M : MachOk (machL a.1)
  nm : ∀ e ∈ a.2, e.1 ∈ a.1.names
  l : a.2.length ≤ 1000
abbrev spLRun : Sp := spT (fun a : Plan × List Evt => [planD a.1, .lst (a.2.map pairD)]) LRunOk fun a d => d = lrunD (trc (machL a.1) a.2)
theorem ok__law_run {f f2 f3 f4 f5 f6 f7 : Addr} {fd fd2 fd3 fd4 fd5 fd6 fd7 : FuncData} (F : Fun K "_law_run" "_law_run" s__law_run f fd) (k__law_position : Kn K mg "_law_position" s__law_position ["number", "held"] f2 fd2) (k__law_index : Kn K mg "_law_index" s__law_index ["words", "word"] f3 fd3)
    (k__law_step : Kn K mg "_law_step" s__law_step ["plan", "table", "place", "event"] f4 fd4) (k__law_table : Kn K mg "_law_table" s__law_table ["plan"] f5 fd5) (k__law_cells : Kn K mg "_law_cells" s__law_cells ["plan"] f6 fd6) (k__law_idle : Kn K mg "_law_idle" s__law_idle ["plan", "cell"] f7 fd7)
    (m_len : mg "len" = none) (m_range : mg "range" = none) (m_list : mg "list" = none) (m_tuple : mg "tuple" = none) (m_sorted : mg "sorted" = none) : FnOk P w K mg base CX0 3 f fd ["plan", "events"] spLRun := by
  have nd := sc__law_run.nd
  have G__law_step : FnOk P w K mg base CX0 2 f4 fd4 ["plan", "table", "place", "event"] spLStep := ok__law_step k__law_step.F k__law_position k__law_index m_len m_range m_list m_tuple m_sorted
  have G__law_table : FnOk P w K mg base CX0 2 f5 fd5 ["plan"] spTable := ok__law_table k__law_table.F k__law_cells k__law_idle m_len m_range m_tuple
  refine F.ok sc__law_run (fun vs H Q E h => spT_len (fun _ => rfl) h) (fun cdv A outer s H vs Q E hr h => ⟨_, (pss_cons (ps_set (i := 2) nd rfl (by first | exact Or.inl rfl | exact Or.inr rfl) (pe_call G__law_table (hr.mono (by decide)) (by rfl) k__law_table.g k__law_table.F.kp k__law_table.b .nil pass0 (pa_cons (pv 0) pa_nil)))
      (pss_cons (ps_set (i := 3) nd rfl (by first | exact Or.inl rfl | exact Or.inr rfl) (pe_tup (pa_cons pe_int (pa_cons (pe_tup pa_nil) pa_nil))))
      (pss_cons (ps_set (i := 4) nd rfl (by first | exact Or.inl rfl | exact Or.inr rfl) (pe_lst pa_nil))
      (pss_cons (ps_set (i := 5) nd rfl (by first | exact Or.inl rfl | exact Or.inr rfl) (pe_lst pa_nil))
      (pss_cons (ps_for PassesOwn.never rfl (pi_listK (K := K) rfl (pv 1)) (pg_name (i := 6) nd rfl (by first | exact Or.inl rfl | exact Or.inr rfl)) (pss_cons (ps_asg (pe_call G__law_step (hr.mono (by decide)) (by rfl) k__law_step.g k__law_step.F.kp k__law_step.b .nil pass0 (pa_cons (pv 0) (pa_cons (pv 2) (pa_cons (pv 3) (pa_cons (pv 6) pa_nil))))) (pg_unlK (K := K) (n := 3) rfl rfl (pgs_cons (pg_name (i := 3) nd rfl (by first | exact Or.inl rfl | exact Or.inr rfl)) (pgs_cons (pg_name (i := 7) nd rfl (by first | exact Or.inl rfl | exact Or.inr rfl)) (pgs_cons (pg_name (i := 8) nd rfl (by first | exact Or.inl rfl | exact Or.inr rfl)) pgs_nil)))))
      (pss_cons (ps_expr (pe_bm PySem.F.plainAttrs_list PySem.F.slot_list_append PySem.F.type_list_append mt_append (pv 4) (pa_cons (pv 7) pa_nil)))
      (pss_one (ps_expr (pe_bm PySem.F.plainAttrs_list PySem.F.slot_list_append PySem.F.type_list_append mt_append (pv 5) (pa_cons (pv 8) pa_nil)))))))
      (pss_one (ps_ret (pe_lst (pa_cons (pv 3) (pa_cons (pv 4) (pa_cons (pv 5) pa_nil))))))))))) , ?_⟩)
  refine ok_bodyT (fun a => [.dat (planD a.1), .dat (.lst (a.2.map pairD)), .un, .un, .un, .un, .un, .un, .un]) h (fun _ => by show 2 ≤ 9; decide) (fun _ => rfl) fun c a hc hp => ?_
  obtain ⟨pl, es⟩ := a
  obtain ⟨hT, hM, hnm, hl⟩ := hp
  simp only at hT hM hnm hl
  refine ds_letE (d := tableD (cellsL pl.names.length pl.modes) (rowIn pl.modes pl.rows)) (de_callT (A := fun pl : Plan => [planD pl]) (f := fun pl => tableD (cellsL pl.names.length pl.modes) (rowIn pl.modes pl.rows)) pl (da_consE (de_var rfl) da_nil) hT) ?_
  refine ds_letE (d := placeT (0, [])) (de_tup (da_consE de_int (da_consE (de_tup da_nil) da_nil))) ?_
  refine ds_letOwnE (dl_lst da_nil fun _ e => by rw [e]; exact Nat.zero_le _) ?_
  refine ds_letOwnE (dl_lst da_nil fun _ e => by rw [e]; exact Nat.zero_le _) ?_
  refine ds_seq (M := fun δ' => ∃ x6 x7 x8, δ' = [.dat (planD pl), .dat (.lst (es.map pairD)), .dat (tableD (cellsL pl.names.length pl.modes) (rowIn pl.modes pl.rows)), .dat (placeT (trc (machL pl) es).pl), .own ((trc (machL pl) es).outs.map outsD), .own ((trc (machL pl) es).cells.map cellD), x6, x7, x8]) (ds_for (vs := [6]) (di_list (de_var rfl)) fun xs e => ?_) ?_
  · subst e
    refine ⟨fun i δ' => ∃ x6 x7 x8, δ' = [.dat (planD pl), .dat (.lst (es.map pairD)), .dat (tableD (cellsL pl.names.length pl.modes) (rowIn pl.modes pl.rows)), .dat (placeT (trc (machL pl) (es.take i)).pl), .own ((trc (machL pl) (es.take i)).outs.map outsD), .own ((trc (machL pl) (es.take i)).cells.map cellD), x6, x7, x8], ⟨.un, .un, .un, by rw [List.take_zero]; rfl⟩, ?_, ?_⟩
    · rintro i d δ' hd ⟨x6, x7, x8, rfl⟩
      obtain ⟨ev, hev, rfl⟩ : ∃ ev, es[i]? = some ev ∧ d = pairD ev := by
        rw [List.getElem?_map] at hd
        cases e : es[i]? with
        | none => rw [e] at hd; cases hd
        | some x => rw [e] at hd; exact ⟨x, rfl, (Option.some.inj hd).symm⟩
      have hi := (List.getElem?_eq_some_iff.mp hev).1
      have hmem := List.mem_of_getElem? hev
      obtain ⟨t1, t2, t3⟩ := trc_ok hM hnm i
      have Fi := fits hM t1 (hnm ev hmem)
      have hsn := trc_snoc (machL pl) hev
      generalize htr : trc (machL pl) (es.take i) = tr at *
      obtain ⟨pla, outs, cells⟩ := tr
      refine dg_name (by decide) ?_
      generalize hst : stepM (machL pl) pla ev = st
      refine ds_asgS (vs := [3, 7, 8]) (d := lstepD st) (M := (· = [.dat (planD pl), .dat (.lst (es.map pairD)), .dat (tableD (cellsL pl.names.length pl.modes) (rowIn pl.modes pl.rows)), .dat (placeT st.pl), .own (outs.map outsD), .own (cells.map cellD), .dat (pairD ev), .dat (outsD st.os), .dat (cellD st.x)])) (De.eq (de_callT (A := fun a : LStA => [planD a.pl, tableD (cellsL a.pl.names.length a.pl.modes) a.f, placeT a.p, pairD a.e]) (f := fun a => lstepD (stepM a.M a.p a.e)) ⟨pl, rowIn pl.modes pl.rows, pla, ev⟩ (da_consE (de_var rfl) (da_consE (de_var rfl) (da_consE (de_var rfl) (da_consE (de_var rfl) da_nil)))) ⟨Fi, t1, by show pl.names.length ≤ 1000; have := hT.base.n4; omega, hM.c3⟩) (by rw [← hst]; rfl)) (dg_unl rfl (dgs_name (by decide) (dgs_name (by decide) (dgs_name (by decide) (dgs_nil rfl))))) fun δ' e => ?_
      subst e
      refine ds_seq (M := (· = [.dat (planD pl), .dat (.lst (es.map pairD)), .dat (tableD (cellsL pl.names.length pl.modes) (rowIn pl.modes pl.rows)), .dat (placeT st.pl), .own ((outs ++ [st.os]).map outsD), .own (cells.map cellD), .dat (pairD ev), .dat (outsD st.os), .dat (cellD st.x)])) (ds_append (i := 4) rfl (de_var rfl) (by rw [List.length_map]; have : outs.length ≤ i := t2; omega) fun d e => by rw [e, List.map_append]; rfl) ?_
      rintro δ' rfl
      refine ds_append (i := 5) rfl (de_var rfl) (by rw [List.length_map]; have : cells.length ≤ i := t3; omega) fun d e => ?_
      subst e
      refine ⟨.dat (pairD ev), .dat (outsD st.os), .dat (cellD st.x), ?_⟩
      have e2 : Trc.go (machL pl) ⟨pla, outs, cells⟩ ev = ⟨st.pl, outs ++ [st.os], cells ++ [st.x]⟩ := by unfold Trc.go; rw [hst]
      rw [hsn, e2]
      show _ = [_, _, _, Sl.dat (placeT st.pl), .own ((outs ++ [st.os]).map outsD), .own ((cells ++ [st.x]).map cellD), _, _, _]
      rw [List.map_append (l₁ := cells)]
      rfl
    · rintro δ' ⟨x6, x7, x8, rfl⟩
      refine ⟨x6, x7, x8, ?_⟩
      rw [List.length_map, List.take_length]
  rintro δ' ⟨x6, x7, x8, rfl⟩
  refine ds_freeze (i := 4) rfl ?_
  refine ds_freeze (i := 5) rfl ?_
  exact ds_retE (d := lrunD (trc (machL pl) es)) (de_lst (da_consE (de_var rfl) (da_consE (de_var rfl) (da_consE (de_var rfl) da_nil)))) rfl
/-! ### a run by data -/
def runD (aS aE : Addr) (n : Nat) (t : Trc) : Dt := .tup [plaQ aS aE n t.pl, .lst (t.outs.map outsD), .lst (t.cells.map cellD)]
theorem de_callRun {c : Bs} {δ : Fe} {te ta : TE} {E : XK} {ks : List Str} {ds : List Dt} (a : RunA) (hd : De c te δ (.ins C ks ds)) (hF : ∀ g d, (g, d) ∈ machF a.M → fldAt ks ds g = some d) (ha : De c ta δ (sqD a.ke (a.es.map (evQ a.k3)))) (ok : RunOk K a) :
    De c (tCall (spRun K C aS aE) [] E (tCons te (tCons ta tNil))) δ (runD aS aE a.es.length (trc a.M a.es)) := fun σ G H e Q q =>
  hd σ G H e _ fun v d G1 H1 g1 d1 p1 => ha σ G1 H1 (e.up g1) _ fun v2 es G2 H2 g2 d2 p2 => by
    subst p1 p2
    cases d1 with
    | ins a1 a2 a3 =>
      subst a2
      refine ⟨G2, _, _, _, [v2], a, rfl, g2.gh, g2.gh _ _ (g2.gg _ _ a1), fun g d hm => lookup_fld (a3.up g2.gg) (hF g d hm), .cons d2 .nil, ok, fun t p1 p2 G' H' pv l1 l2 g n0 n1 n2 h1 h2 h3 e1 e2 e3 => ?_⟩
      have b1 := n1
      have b2 := n2.next (u := .lst l1) (q := p1) h3.symm
      have b0 := (n0.next (u := .lst l1) (q := p1) h1).next (u := .lst l2) (q := p2) h2
      have u1 := same_upd (o := HO.lst l1) b1.g
      have u2 := same_upd (o := HO.lst l2) b2.g
      have u0 := same_upd (o := HO.tup [pv, .ref p1, .ref p2]) b0.g
      refine q (.ref t) _ _ H' ((g1.trans e.jj g2).trans e.jj ((((g.take b1).take b2).take b0).of_pure g2.jj)) (.tup upd_same (.cons (e1.up ((u1.trans u2).trans u0)) (.cons (.lst (u0 _ _ (u2 _ _ upd_same)) (e2.up ((u1.trans u2).trans u0))) (.cons (.lst (u0 _ _ upd_same) (e3.up ((u1.trans u2).trans u0))) .nil)))) rfl
end
end K30

set_option Elab.async false
set_option maxRecDepth 100000
set_option maxHeartbeats 4000000
namespace K30
open PySem L2 StX Zd
/-! ### the machine of a plan -/
theorem fold_in (x : Cell) : ∀ {rs : List (Cell × Row)} {r0 : Row}, (rs.map (·.1)).Nodup → (∀ y ∈ rs, y.1 = x → rs.foldl (fun r y => if y.1 = x then y.2 else r) r0 = y.2) ∧ (x ∉ rs.map (·.1) → rs.foldl (fun r y => if y.1 = x then y.2 else r) r0 = r0)
  | [], r0, _ => ⟨(fun y h => nomatch h), fun _ => rfl⟩
  | z :: rs, r0, nd => by
    obtain ⟨n1, n2⟩ := List.nodup_cons.mp (show (z.1 :: rs.map (·.1)).Nodup from nd)
    rw [List.foldl_cons]
    by_cases e : z.1 = x
    · rw [if_pos e]
      obtain ⟨i1, i2⟩ := fold_in x (r0 := z.2) n2
      have hx : x ∉ rs.map (·.1) := by rw [← e]; exact n1
      refine ⟨fun y hy ey => ?_, fun h => ?_⟩
      · rcases List.mem_cons.mp hy with rfl | hy
        · exact i2 hx
        · exact absurd (List.mem_map.mpr ⟨y, hy, ey⟩) hx
      · exact absurd (by rw [List.map_cons, ← e]; exact List.mem_cons_self) h
    · rw [if_neg e]
      obtain ⟨i1, i2⟩ := fold_in x (r0 := r0) n2
      refine ⟨fun y hy ey => ?_, fun h => ?_⟩
      · rcases List.mem_cons.mp hy with rfl | hy
        · exact absurd ey e
        · exact i1 y hy ey
      · rw [List.map_cons, List.mem_cons, not_or] at h
        exact i2 h.2
theorem rowIn_at {modes : List Mode} {rs : List (Cell × Row)} (nd : (rs.map (·.1)).Nodup) {y : Cell × Row} (h : y ∈ rs) : rowIn modes rs y.1 = y.2 := (fold_in y.1 nd).1 y h rfl
theorem rowIn_no {modes : List Mode} {rs : List (Cell × Row)} (nd : (rs.map (·.1)).Nodup) {x : Cell} (h : x ∉ rs.map (·.1)) : rowIn modes rs x = idleR modes x := (fold_in x nd).2 h
/-- the order in which rows are told is of no account -/
theorem rowIn_perm {modes : List Mode} {rs ss : List (Cell × Row)} (nd : (rs.map (·.1)).Nodup) (p : ss.Perm rs) : rowIn modes ss = rowIn modes rs := by
  have nd2 : (ss.map (·.1)).Nodup := (p.map _).nodup_iff.mpr nd
  funext x
  by_cases h : x ∈ rs.map (·.1)
  · obtain ⟨y, hy, rfl⟩ := List.mem_map.mp h
    rw [rowIn_at nd hy, rowIn_at nd2 (p.mem_iff.mpr hy)]
  · rw [rowIn_no nd h, rowIn_no nd2 fun q => h ((p.map _).mem_iff.mp q)]
theorem idleK_len {cnt p : Nat} (hp : p < 2 * cnt + 1) : (idleK cnt p).length = cnt := by
  unfold idleK
  split
  · exact List.length_range
  · have e : (List.range (cnt + 1)).filter (fun k => decide (k ≠ p / 2)) = (List.range (cnt + 1)).erase (p / 2) := by
      rw [List.Nodup.erase_eq_filter List.nodup_range]
      exact List.filter_congr fun k _ => by
        by_cases e : k = p / 2
        · subst e; simp
        · simp [e]
    rw [e, List.length_erase_of_mem (List.mem_range.mpr (by omega)), List.length_range]
    rfl
theorem idle_ok {pl : Plan} {x : Cell} (hx : x ∈ cellsL pl.names.length pl.modes) : RowOk pl (knownOf pl.modes x) (idleR pl.modes x) := by
  obtain ⟨m, n, p⟩ := x
  obtain ⟨h1, h2, h3⟩ := mem_cellsL.mp hx
  refine ⟨h1, ?_, idleK_len h3, ?_, fun k hk => ?_, Nat.zero_le _, fun y hy => by cases hy⟩
  · show cntOf pl.modes m ≤ cntOf pl.modes m + 1 - p % 2
    omega
  · show (idleK (cntOf pl.modes m) p).Pairwise (· < ·)
    unfold idleK
    split
    · exact List.pairwise_lt_range
    · exact List.pairwise_lt_range.sublist List.filter_sublist
  · have hk : k ∈ idleK (cntOf pl.modes m) p := hk
    show k < cntOf pl.modes m + 1 - p % 2
    unfold idleK at hk
    split at hk
    · have := List.mem_range.mp hk; omega
    · have := List.mem_range.mp (List.mem_filter.mp hk).1; omega
theorem PlanOk.nd {pl : Plan} (h : PlanOk pl) : (pl.rows.map (·.1)).Nodup := (cells_nodup _ _).sublist h.rc
/-- a plan whose rows stand in any order -/
structure PlanW (pl : Plan) : Prop where
  base : PlanB pl
  nd : (pl.rows.map (·.1)).Nodup
  mem : ∀ x ∈ pl.rows, x.1 ∈ cellsL pl.names.length pl.modes
  ro : ∀ x ∈ pl.rows, RowOk pl (knownOf pl.modes x.1) x.2
theorem PlanOk.w {pl : Plan} (h : PlanOk pl) : PlanW pl := ⟨h.base, h.nd, fun x hx => h.rc.subset (List.mem_map.mpr ⟨x, hx, rfl⟩), h.ro⟩
theorem PlanW.rows_le {pl : Plan} (h : PlanW pl) : pl.rows.length ≤ 1000000 := by
  have h2 := List.Nodup.length_le_of_subset h.nd (l₂ := cellsL pl.names.length pl.modes) fun x hx => by
    obtain ⟨y, hy, rfl⟩ := List.mem_map.mp hx
    exact h.mem y hy
  have h3 := h.base.cells_le
  rw [List.length_map] at h2
  omega
theorem PlanW.p {pl : Plan} (h : PlanW pl) : PlanP pl where
  tab := ⟨h.base, fun x hx => h.mem x hx, h.rows_le⟩
  nd := h.nd
  w := fun x hx => by have := (h.ro x hx).wl; omega
theorem PlanW.mach {pl : Plan} (h : PlanW pl) : MachOk (machL pl) where
  m0 := h.base.m0
  c0 := h.base.mF
  c3 := cnt_le h.base
  row := fun x hx => by
    show RowOk ⟨pl.names, pl.ports, pl.modes, []⟩ (knownOf pl.modes x) (rowIn pl.modes pl.rows x)
    by_cases hin : x ∈ pl.rows.map (·.1)
    · obtain ⟨y, hy, rfl⟩ := List.mem_map.mp hin
      rw [rowIn_at h.nd hy]
      have r := h.ro y hy
      exact ⟨r.t, r.tk, r.hl, r.ha, r.hk, r.wl, r.ww⟩
    · rw [rowIn_no h.nd hin]
      have r := idle_ok (pl := pl) hx
      exact ⟨r.t, r.tk, r.hl, r.ha, r.hk, r.wl, r.ww⟩
theorem PlanOk.mach {pl : Plan} (h : PlanOk pl) : MachOk (machL pl) := h.w.mach
/-- the fields of the program that is made of a plan -/
theorem PlanW.fld {pl : Plan} (h : PlanW pl) : ∀ g d, (g, d) ∈ machF (machL pl) → fldAt prgKs (prgDs ⟨pl.names, pl.ports, pl.modes, pl.rows.reverse⟩) g = some d := fun g d hm => by
  unfold machF at hm
  simp only [List.mem_cons, Prod.mk.injEq, List.not_mem_nil, or_false] at hm
  rcases hm with ⟨rfl, rfl⟩ | ⟨rfl, rfl⟩ | ⟨rfl, rfl⟩
  · rfl
  · rfl
  · show some (tableD (cellsL pl.names.length pl.modes) (rowIn pl.modes pl.rows.reverse)) = some (tableD (cellsL pl.names.length pl.modes) (rowIn pl.modes pl.rows))
    rw [rowIn_perm h.nd (List.reverse_perm _)]
theorem prog_fld {pl : Plan} (h : PlanOk pl) : ∀ g d, (g, d) ∈ machF (machL pl) → fldAt prgKs (prgDs ⟨pl.names, pl.ports, pl.modes, pl.rows.reverse⟩) g = some d := h.w.fld
/-! ### the beginnings of runs -/
theorem trc_pre (M : Mach) (es : List Evt) : ∀ {i k : Nat}, i ≤ k → (trc M (es.take i)).outs <+: (trc M (es.take k)).outs ∧ (trc M (es.take i)).cells <+: (trc M (es.take k)).cells := by
  intro i k h
  induction k with
  | zero =>
    have : i = 0 := by omega
    subst this
    exact ⟨List.prefix_refl _, List.prefix_refl _⟩
  | succ k ih =>
    by_cases e : i = k + 1
    · subst e
      exact ⟨List.prefix_refl _, List.prefix_refl _⟩
    · obtain ⟨h1, h2⟩ := ih (by omega)
      cases hk : es[k]? with
      | none =>
        have e1 : es.take (k + 1) = es.take k := by rw [List.take_add_one, hk]; simp
        rw [e1]
        exact ⟨h1, h2⟩
      | some ev =>
        rw [trc_snoc M hk]
        exact ⟨h1.trans (List.prefix_append _ _), h2.trans (List.prefix_append _ _)⟩
/-! ### what is written may be compared -/
structure OutOk (o : Out) : Prop where
  p : PyData.strOk o.1 = true
  l : PyData.strOk o.2.1 = true
def oP (o : Out) : PyData := .tuple [.str o.1, .str o.2.1, .int o.2.2]
def osP (os : List Out) : PyData := .tuple (os.map oP)
def cP (x : Cell) : PyData := .tuple [.int x.1, .int x.2.1, .int x.2.2]
def plP (p : Pla) : PyData := .tuple [.int p.1, .tuple (p.2.map PyData.int)]
def stP (r : StR) : PyData := .list [plP r.pl, osP r.os, cP r.x]
def trP (t : Trc) : PyData := .list [plP t.pl, .list (t.outs.map osP), .list (t.cells.map cP)]
section
variable {K : PySem.W.Frag} {aS aE : Addr}
theorem pd_o (o : Out) : Pd K (o3D o) (oP o) := .tup (.cons (.str _) (.cons (.str _) (.cons (.int _) .nil)))
theorem pd_os (os : List Out) : Pd K (outsD os) (osP os) := .tup (Pds.map fun o _ => pd_o o)
theorem pd_c (x : Cell) : Pd K (cellD x) (cP x) := .tup (.cons (.int _) (.cons (.int _) (.cons (.int _) .nil)))
theorem pds_ints (ns : List Int) : Pds K (ns.map Dt.int) (ns.map PyData.int) := Pds.map fun n _ => .int n
theorem pd_pl (p : Pla) : Pd K (placeT p) (plP p) := .tup (.cons (.int _) (.cons (.tup (pds_ints _)) .nil))
theorem pd_plQ (hS : CstT K aS [nD 0, .con aE]) (hE : CstT K aE []) {n : Nat} {p : Pla} (h : n = 0 → p = (0, [])) : Pd K (plaQ aS aE n p) (plP p) := by
  unfold plaQ
  by_cases e : n = 0
  · rw [if_pos e, h e]
    exact .con hS (.cons (.int 0) (.cons (.con hE .nil) .nil))
  · rw [if_neg e]
    exact pd_pl p
theorem lay_o {n : Nat} {o : Out} (h : OutOk o) : Lay (n + 1) (oP o) := lay_tuple (lays_cons (lay_str h.p) (lays_cons (lay_str h.l) (lays_cons lay_int lays_nil)))
theorem lay_os {n : Nat} {os : List Out} (h : ∀ o ∈ os, OutOk o) : Lay (n + 2) (osP os) := lay_tuple (lays_map fun o ho => lay_o (h o ho))
theorem lay_c {n : Nat} {x : Cell} : Lay (n + 1) (cP x) := lay_tuple (lays_cons lay_int (lays_cons lay_int (lays_cons lay_int lays_nil)))
theorem lay_pl {n : Nat} {p : Pla} : Lay (n + 2) (plP p) := lay_tuple (lays_cons lay_int (lays_cons (lay_tuple (lays_map fun _ _ => lay_int)) lays_nil))
theorem lay_st {r : StR} (h : ∀ o ∈ r.os, OutOk o) : Lay 3 (stP r) := lay_list (lays_cons lay_pl (lays_cons (lay_os h) (lays_cons lay_c lays_nil)))
theorem lay_tr {t : Trc} (h : ∀ os ∈ t.outs, ∀ o ∈ os, OutOk o) : Lay 4 (trP t) := lay_list (lays_cons lay_pl (lays_cons (lay_list (lays_map fun os ho => lay_os (h os ho))) (lays_cons (lay_list (lays_map fun _ _ => lay_c)) lays_nil)))
theorem pd_st (r : StR) : Pd K (lstepD r) (stP r) := .lst (.cons (pd_pl _) (.cons (pd_os _) (.cons (pd_c _) .nil)))
theorem pd_tr (t : Trc) : Pd K (lrunD t) (trP t) := .lst (.cons (pd_pl _) (.cons (.lst (Pds.map fun os _ => pd_os os)) (.cons (.lst (Pds.map fun x _ => pd_c x)) .nil)))
end
theorem PlanW.outs {pl : Plan} (h : PlanW pl) {p : Pla} (hp : PlaOk (machL pl) p) {e : Evt} (he : e.1 ∈ pl.names) : ∀ o ∈ (stepM (machL pl) p e).os, OutOk o := fun o ho => by
  obtain ⟨j, F⟩ := fits h.mach hp he
  rw [F.eq] at ho
  obtain ⟨w, hw, rfl⟩ := List.mem_map.mp ho
  obtain ⟨port, h1, h2⟩ := F.o w hw
  have h1 : pl.ports[w.1]? = some port := h1
  obtain ⟨q1, q2, q3, q4, q5⟩ := h.base.pW port (List.mem_of_getElem? h1)
  refine ⟨?_, (q5 _ h2).ok⟩
  show PyData.strOk (((pl.ports[w.1]?).map (·.1)).getD w.2.1) = true
  rw [h1]
  exact q1.ok
theorem outs_ok {pl : Plan} (h : PlanOk pl) {p : Pla} (hp : PlaOk (machL pl) p) {e : Evt} (he : e.1 ∈ pl.names) : ∀ o ∈ (stepM (machL pl) p e).os, OutOk o := h.w.outs hp he
theorem PlanW.trc_outs {pl : Plan} (h : PlanW pl) {es : List Evt} (he : ∀ e ∈ es, e.1 ∈ pl.names) : ∀ i : Nat, ∀ os ∈ (trc (machL pl) (es.take i)).outs, ∀ o ∈ os, OutOk o
  | 0, os, ho => by rw [List.take_zero] at ho; cases ho
  | i + 1, os, ho => by
    cases hi : es[i]? with
    | none =>
      have e1 : es.take (i + 1) = es.take i := by rw [List.take_add_one, hi]; simp
      rw [e1] at ho
      exact PlanW.trc_outs h he i os ho
    | some ev =>
      rw [trc_snoc _ hi] at ho
      rcases List.mem_append.mp ho with ho | ho
      · exact PlanW.trc_outs h he i os ho
      · rw [List.mem_singleton.mp ho]
        exact h.outs (trc_ok h.mach he i).1 (he ev (List.mem_of_getElem? hi))
theorem trc_outs {pl : Plan} (h : PlanOk pl) {es : List Evt} (he : ∀ e ∈ es, e.1 ∈ pl.names) : ∀ i : Nat, ∀ os ∈ (trc (machL pl) (es.take i)).outs, ∀ o ∈ os, OutOk o := h.w.trc_outs he
theorem PlanW.trc_outs' {pl : Plan} (h : PlanW pl) {es : List Evt} (he : ∀ e ∈ es, e.1 ∈ pl.names) : ∀ os ∈ (trc (machL pl) es).outs, ∀ o ∈ os, OutOk o := by
  have := h.trc_outs he es.length
  rwa [List.take_length] at this
theorem trc_outs' {pl : Plan} (h : PlanOk pl) {es : List Evt} (he : ∀ e ∈ es, e.1 ∈ pl.names) : ∀ os ∈ (trc (machL pl) es).outs, ∀ o ∈ os, OutOk o := h.w.trc_outs' he
end K30

set_option Elab.async false
set_option maxRecDepth 100000
set_option maxHeartbeats 4000000
/-! Zd34: x = {k: v for ..} as a statement, the keys tuples. -/
namespace Zd
open PySem PySem.W PySem.Calls PySem.Spec PyProof.Rows L2
section
variable {X : Cx} {kx vx tg iter : Expr} {ifs : List Expr} {scope : Scope} {own : List (Str × Nat)} {pos : Pos} {wi : TI} {g : TG} {tt : TT} {tk tv : TE}
theorem dcT_core {pins : List (Addr × Obj)} {s : Shared} {σ : L2.St} {H : Hp} {Q : VK} {pos' : Pos} {use : Option (Value → Sem Unit)} {Qf : Value → Shared → Prop} (hc : X.calm = true) (hN : X.N.Nodup) (hu : X.A.units < cLine) (hi : PI X tg iter wi) (ok : BlkOk X.N X.env.scope scope own) (hg : Blks X scope fun Y => PG Y tg g) (ht : Blks X scope fun Y => PTs Y ifs tt) (hk : Blks X scope fun Y => PE Y kx tk) (he : Blks X scope fun Y => PE Y vx tv)
    (hs : ∀ x, foldedSetIterable iter X.env x = pure x) (I : Inv X pins σ H s) (h : tDcT wi g tt tk tv (own.map (·.2)) σ H Q)
    (hRR : ∀ D C s' m H', Inv X pins σ H' s' → Q (.ref D) H' → s'.heap.Ns C m → FpOk X pins H' C → compPost (model X.prog X.w) X.A X.xe use Qf (.ref D) C (.ok .next) s') :
    wpAny (model X.prog X.w) X.A (comprehension (.DictComp kx vx [⟨tg, iter, ifs, 0⟩] scope pos) scope X.env pos' newDict false (eval iter X.env) use) Qf X.xe s := by
  have cl := closure_ok (env := X.env) (scope := scope) fun y hy e => (ok.free y hy e).elim (fun k => I.ok.has _ (.inl k)) fun k => I.ok.has _ (.inr k)
  refine wpAny_comprehension_free (use := use) rfl hs cl ok.kind (fun y hy e => (ok.uniq y hy).trans (by rw [e])) (thn (hi.run pins s σ H _ I h) fun xv s1 h1 => thn h1 fun itv s2 ⟨it, fp, tn, J, H2, ei, I2, T, st2, f2, q⟩ => ?_)
  subst ei
  have nD : H2 s2.heap.objs.size = none := I2.hok.fresh (Nat.le_refl _)
  obtain ⟨M, W, w0, turn⟩ := q _ nD
  have keep3 : ∀ b o, s2.heap.get? b = some o → (s2.heap.push { cls := .type "dict", data := .dict #[] }).get? b = some o := fun _ _ e => Heap.get?_push_of_some _ e
  have I3 := I2.laid (t' := s2.toks) keep3 (Nat.le_refl _) (dt_empty (P := X.prog) (w := X.w) (H := upd H2 s2.heap.objs.size (.dT [])) s2.heap I2.big)
  refine wpAny_newObj_type (newEnv_comp ?_)
  -- the iterator's own objects: below the new dict
  have low : ∀ b ∈ fp, b < s2.heap.objs.size := fun b hb => (T.obj 0 _ st2 b hb).elim fun o z => Heap.lt_size z.1
  have f3 : ∀ b ∈ fp, FpOk X pins (upd H2 s2.heap.objs.size (.dT [])) b ∧ b < (s2.heap.push { cls := .type "dict", data := .dict #[] }).objs.size := fun b hb =>
    ⟨⟨(upd_ne (Nat.ne_of_lt (low b hb))).trans (f2 b hb).1, (f2 b hb).2⟩, Nat.lt_of_lt_of_le (low b hb) (by rw [Heap.size_push]; exact Nat.le_succ _)⟩
  generalize hH3 : upd H2 s2.heap.objs.size (.dT []) = H3 at I3 f3 w0
  generalize hs3 : ({ s2 with heap := s2.heap.push { cls := .type "dict", data := .dict #[] }, toks := s2.toks } : Shared) = s3 at I3
  have hh3 : s3.heap = s2.heap.push { cls := .type "dict", data := .dict #[] } := by rw [← hs3]
  have f4 : ∀ b ∈ fp, FpOk X pins H3 b ∧ b < s3.heap.objs.size := fun b hb => by rw [hh3]; exact f3 b hb
  have st3 : tn 0 s3.heap := T.keep _ _ _ st2 fun b _ o e => hh3 ▸ keep3 b o e
  have B := block_start I3 ok hN f4
  have rg := hg s3 H3 s3.heap.objs.size (cellsFrom (s3.heap.objs.size + 1) scope.names (cloFrom X.env.cells scope.names [])) fp
  have rt := ht s3 H3 s3.heap.objs.size (cellsFrom (s3.heap.objs.size + 1) scope.names (cloFrom X.env.cells scope.names [])) fp
  have rk := hk s3 H3 s3.heap.objs.size (cellsFrom (s3.heap.objs.size + 1) scope.names (cloFrom X.env.cells scope.names [])) fp
  have rv := he s3 H3 s3.heap.objs.size (cellsFrom (s3.heap.objs.size + 1) scope.names (cloFrom X.env.cells scope.names [])) fp
  have hloc : (compEnvC scope (cellsFrom (s3.heap.objs.size + 1) scope.names (cloFrom X.env.cells scope.names [])) s3.heap.objs.size X.env).locals = s3.heap.objs.size := rfl
  have goal2 : codeAny (model X.prog X.w) X.A (.compStart (.DictComp kx vx [⟨tg, iter, ifs, 0⟩] scope pos) 0 (.ref it) (.ref s2.heap.objs.size) (compEnvC scope (cellsFrom (s3.heap.objs.size + 1) scope.names (cloFrom X.env.cells scope.names [])) s3.heap.objs.size X.env)) (compPost (model X.prog X.w) X.A X.xe use Qf (.ref s2.heap.objs.size) s3.heap.objs.size) { s3 with heap := pushCells (s3.heap.push { cls := .type "dict", data := .dict #[] }) scope.names } := by
    generalize hY : compEnvC scope (cellsFrom (s3.heap.objs.size + 1) scope.names (cloFrom X.env.cells scope.names [])) s3.heap.objs.size X.env = ce at B rg rt rk rv hloc ⊢
    generalize hs4 : ({ s3 with heap := pushCells (s3.heap.push { cls := .type "dict", data := .dict #[] }) scope.names } : Shared) = s4 at B ⊢
    have st4 : tn 0 s4.heap := T.keep _ _ _ st3 fun b _ o e => hs4 ▸ pushCells_keeps _ _ _ _ (Heap.get?_push_of_some _ e)
    have own' : ∀ {σ' : L2.St} {H' : Hp} {s' : Shared}, Inv (X.blk s3 H3 scope ce fp) [] σ' H' s' → (∀ b ∈ fp, H' b = none) → ∀ b ∈ fp, FpOk (X.blk s3 H3 scope ce fp) [] H' b := fun J' n b hb => ⟨n b hb, (J'.ok.exf b hb).1, J'.ok.exfs b hb, .inl hb, fun x c z => (J'.ok.exf b hb).2 x c z, fun p hp => by cases (show p ∈ ([] : List (Addr × Obj)) from by simpa using hp)⟩
    have walk : codeAny (model X.prog X.w) X.A (.compLoop (.DictComp kx vx [⟨tg, iter, ifs, 0⟩] scope pos) 0 (.ref it) (.ref s2.heap.objs.size) ce) (compPost (model X.prog X.w) X.A X.xe use Qf (.ref s2.heap.objs.size) s3.heap.objs.size) s4 := by
      refine compLoop_anyD (fun n s' => ∃ i H', n = M - i ∧ i ≤ M ∧ Inv (X.blk s3 H3 scope ce fp) [] (wipe σ (own.map (·.2))) H' s' ∧ tn i s'.heap ∧ (∀ b ∈ fp, H' b = none) ∧ W i H') ?_ M ⟨0, H3, rfl, Nat.zero_le _, B, st4, fun b hb => (f4 b hb).1.1, w0⟩
      rintro n s5 ⟨i, H5, rfl, iM, I5, st5, n5, w5⟩
      rcases turn i H5 iM w5 with ⟨stop, qq⟩ | ⟨lt, go, step⟩
      · refine thnF (T.done (X.blk s3 H3 scope ce fp) rfl rfl rfl hc i [] s5 _ H5 (fun _ _ => False) I5 (own' I5 n5) st5 stop) fun r s6 ⟨hr, I6⟩ => ?_
        subst hr
        have fr : H5 s3.heap.objs.size = none := hloc ▸ I6.free
        obtain ⟨m, hn, _⟩ := I6.loc
        have I7 : Inv X pins σ H5 s6 := I3.call' (ch := fp) I6.os I6.base I6.hok I6.bare fun b hb => let z := (f4 b hb).1.2; ⟨z.2.2.1, z.1, z.2.2.2.1, z.2.2.2.2⟩
        exact hRR s2.heap.objs.size s3.heap.objs.size s6 m H5 I7 qq (by rw [← hloc]; exact hn) (I3.fpOk (H' := H5) (Nat.le_refl _) fr)
      · refine thnF (T.item (X.blk s3 H3 scope ce fp) rfl rfl rfl hc i [] s5 _ H5 (fun _ _ => False) I5 (own' I5 n5) st5 go) fun r s6 ⟨u, hr, h6⟩ => ?_
        subst hr
        refine thnF h6 fun _ s7 ⟨x, H7, I7, r7, y7, st7, n7⟩ => ?_
        refine thnF (rg.run _ s7 _ H7 x u _ (I7.pinned (own' I7 n7) (T.obj _ _ st7)) r7 (step x H7 y7)) fun _ s8 ⟨σ8, H8, I8, w8, q8⟩ => thnF (rt.run _ s8 σ8 H8 _ I8 q8) fun b s9 ⟨H9, I9, q9⟩ => ?_
        have close : ∀ {s' : Shared} {H' : Hp}, Inv (X.blk s3 H3 scope ce fp) ([] ++ pinsAt fp s7.heap) σ8 H' s' → W (i + 1) H' → ∃ m, m < M - i ∧ ∃ i H', m = M - i ∧ i ≤ M ∧ Inv (X.blk s3 H3 scope ce fp) [] (wipe σ (own.map (·.2))) H' s' ∧ tn i s'.heap ∧ (∀ b ∈ fp, H' b = none) ∧ W i H' := fun {s' H'} I' w' => by
          have pin := fun b (hb : b ∈ fp) o (e : s7.heap.get? b = some o) => I'.pin (b, o) (List.mem_append_right _ (List.mem_append_right _ (mem_pinsAt hb e)))
          refine ⟨M - (i + 1), by omega, i + 1, H', rfl, lt, (I'.unpinned (pins := [])).weak (by rw [← w8, wipe_length]) fun j v e => (wipe_some (by rw [w8]; exact e)).1, T.keep _ _ _ st7 fun b hb o e => (pin b hb o e).1, fun b hb => (T.obj _ _ st7 b hb).elim fun o z => (pin b hb o z.1).2.1, w'⟩
        cases b with
        | false => exact close I9 (by simpa using q9)
        | true =>
          have q9 := (if_pos (rfl : (true : Bool) = true)).mp q9
          show wpAny _ _ _ _ _ _
          refine thnF (rk.run _ s9 σ8 H9 _ I9 q9) fun z s10 ⟨yk, H10, I10, r10, q10⟩ => thnF (rv.run _ s10 σ8 H10 _ I10 q10) fun z2 s11 ⟨yv, H11, I11, r11, kvs, ks, a, ek, ea, eD, hl, nx⟩ => ?_
          subst ek
          cases r10
          exact dT_store (X := X.blk s3 H3 scope ce fp) I11 hu eD ea hl r11 fun s12 I12 => close I12 nx
    exact codeAny_compStart_dict walk (T.self X.A 0 _ _ _ st4 walk)
  exact goal2
theorem sw_trueD {kx vx : Expr} {gs : List Comprehension} {scope : Scope} {pos py : Pos} {y : Str} {l : Nat} {env : Env} (hk : env.scope.kind = .function) (hy : env.scope.names.lookup y = some .local) (hl : (py.line == pos.line) = true)
    (ha : (scope.names.any fun (n, k) => n == y && (k == .local || k == .cell)) = false) : swapsWith (.DictComp kx vx gs scope pos) (some (.Name y py)) l env = pure true := by
  have ky : env.kindOf y = some .local := hy
  have hb : env.blockKind = .function := by unfold Env.blockKind; rw [hk]; rfl
  unfold swapsWith
  simp only [hb, ky, ha, Expr.pos, hl]
  rfl
theorem ps_setDcT {i : Nat} {y : Str} {py spos : Pos} (hc : X.calm = true) (hN : X.N.Nodup) (hy : X.N[i]? = some y) (hyl : X.env.scope.names.lookup y = some .local) (hu : X.A.units < cLine)
    (hsw : swapsWith (.DictComp kx vx [⟨tg, iter, ifs, 0⟩] scope pos) (some (.Name y py)) spos.line X.env = pure true) (hi : PI X tg iter wi) (ok : BlkOk X.N X.env.scope scope own) (hg : Blks X scope fun Y => PG Y tg g) (ht : Blks X scope fun Y => PTs Y ifs tt) (hk : Blks X scope fun Y => PE Y kx tk) (he : Blks X scope fun Y => PE Y vx tv)
    (hs : ∀ x, foldedSetIterable iter X.env x = pure x := by intro _; rfl) : PS X (.Assign [.Name y py] (.DictComp kx vx [⟨tg, iter, ifs, 0⟩] scope pos) spos) (tAsg (tDcT wi g tt tk tv (own.map (·.2))) (gName i)) := by
  refine ⟨fun pins s σ H D I h => ?_⟩
  rw [exec_Assign_Name_used _ _ _ _ hsw]
  refine wpAny_bind (wpAny_standAt (wpAny_bind ?_))
  show wpAny _ X.A (do let _ ← comprehension (.DictComp kx vx [⟨tg, iter, ifs, 0⟩] scope pos) scope X.env (firstIterPos [⟨tg, iter, ifs, 0⟩] pos) newDict false (eval iter X.env) (some (assign (.Name y py) X.env))) _ _ s
  have h : tDcT wi g tt tk tv (own.map (·.2)) σ H (fun x H1 => gName i x σ H1 D.nx) := h
  refine wpAny_bind (thn (dcT_core (Qf := fun _ s' => SP X pins D .next s') hc hN hu hi ok hg ht hk he hs I h fun L C s' m H' I' q hn f => ?_) fun _ s' hq => wpAny_pure (wpAny_pure hq))
  show wpAny _ _ (assign (.Name y py) X.env (.ref L)) _ _ _
  refine wpAny_assign_Name (store_ok2 (v := V.ref L) I' hN hy (.inl hyl) rfl (fun s2 I2 ⟨a, sb, ha⟩ => ?_) (.inr hyl))
  obtain ⟨f0, f1, f2, f3, f4, f5⟩ := f
  have haC : C ≠ a := by
    rcases ha with z | z
    · rw [z]; exact f1
    · exact fun e => f4 y a z e.symm
  refine ⟨m, hn.sameBut sb haC, fun h3 sb3 => ?_⟩
  exact ⟨_, H', I2.turned (t' := s2.toks) (fun b o hb e => (sb3.2 b hb).trans e) f0 f1 f3 f4 f5, q⟩
end
end Zd

set_option Elab.async false
set_option maxRecDepth 100000
set_option maxHeartbeats 4000000
/-! Zd35: isinstance(x, (tuple, list)); tuple + tuple; a promise that asks for nothing. -/
namespace Zd
open PySem PySem.Spec PyProof.Rows L2
section
variable {K : PySem.W.Frag} {c : Bs} {δ : Fe} {te ta tb : TE}
theorem call_isiTK {X : Cx} (hK : X.K = K) : CallR X (.builtin "isinstance") (rIsiT K) := by subst hK; exact call_isiT
theorem kit_tl_int : PySem.W.kitAny K (.type "int") [.type "tuple", .type "list"] = some false := by kernel_rfl
theorem kit_tl_str : PySem.W.kitAny K (.type "str") [.type "tuple", .type "list"] = some false := by kernel_rfl
theorem kit_tl_tup : PySem.W.kitAny K (.type "tuple") [.type "tuple", .type "list"] = some true := by kernel_rfl
theorem kit_tl_lst : PySem.W.kitAny K (.type "list") [.type "tuple", .type "list"] = some true := by kernel_rfl
/-- isinstance(x, (tuple, list)) -/
theorem de_isTL {y : Dt} {bb : Bool} (h : De c te δ y) (hy : (bb = true ∧ ((∃ xs, y = .lst xs) ∨ ∃ xs, y = .tup xs)) ∨ (bb = false ∧ ((∃ i, y = .int i) ∨ ∃ s, y = .str s))) :
    De c (tCB (rIsiT K) (tCons te (tCons (tTup (tCons (tC (.ty "tuple")) (tCons (tC (.ty "list")) tNil))) tNil))) δ (.bl bb) := fun σ G H e Q q =>
  h σ G H e _ fun v d G1 H1 g1 d1 p1 => by
    subst p1
    refine ⟨sz_ok (by show 2 ≤ 10000000; decide), fun p hp => ?_⟩
    have gx := g1.trans e.jj (Gx.put (o := .tup [V.ty "tuple", V.ty "list"]) g1.gh g1.jj hp)
    have hc : Paired ClsV [V.ty "tuple", V.ty "list"] [Value.type "tuple", Value.type "list"] := .cons (.ty _) (.cons (.ty _) .nil)
    rcases hy with ⟨rfl, ⟨xs, rfl⟩ | ⟨xs, rfl⟩⟩ | ⟨rfl, ⟨i, rfl⟩ | ⟨s, rfl⟩⟩
    · cases d1 with
      | lst a1 a2 => exact ⟨_, p, _, _, _, true, rfl, upd_same, hc, .base (.lst (by rw [upd_ne (ne_of_none (g1.gh _ _ a1) hp)]; exact g1.gh _ _ a1)), kit_tl_lst, q _ _ G1 _ gx (.bl _) rfl⟩
    · cases d1 with
      | tup a1 a2 => exact ⟨_, p, _, _, _, true, rfl, upd_same, hc, .base (.tup (by rw [upd_ne (ne_of_none (g1.gh _ _ a1) hp)]; exact g1.gh _ _ a1)), kit_tl_tup, q _ _ G1 _ gx (.bl _) rfl⟩
    · cases d1
      exact ⟨_, p, _, _, _, false, rfl, upd_same, hc, .base (.int _), kit_tl_int, q _ _ G1 _ gx (.bl _) rfl⟩
    · cases d1
      exact ⟨_, p, _, _, _, false, rfl, upd_same, hc, .base (.str _), kit_tl_str, q _ _ G1 _ gx (.bl _) rfl⟩
/-- t + u, tuples, the first not empty -/
theorem de_catA {k : Sk} {xs ys : List Dt} (hx : xs ≠ []) (hk : k = .tup ∨ k = .ftup) (ha : De c ta δ (.tup xs)) (hb : De c tb δ (sqD k ys)) (hl : xs.length + ys.length ≤ 10000000) : De c (tOp (rCatA K) ta tb) δ (.tup (xs ++ ys)) := fun σ G H e Q q =>
  ha σ G H e _ fun v x G1 H1 g1 d1 p1 => hb σ G1 H1 (e.up g1) _ fun w y G2 H2 g2 d2 p2 => by
    subst p1 p2
    have g12 := g1.trans e.jj g2
    cases d1 with
    | tup a1 a2 =>
      rename_i a vs
      have b1 := g2.gg _ _ a1
      have b2 := a2.up g2.gg
      have hne : vs ≠ [] := fun z => hx (List.length_eq_zero_iff.mp (by rw [← b2.length, z]; rfl))
      have go : ∀ {b : Addr} {ws : List V}, w = .ref b → SqT K H2 b ws → Dqs G2 ws ys → rCatA K (.ref a) w H2 Q := fun {b ws} ew hq dq => by
        subst ew
        refine ⟨a, b, vs, ws, rfl, rfl, SqT.of (g2.gh _ _ b1), hq, sz_ok (by rw [b2.length, dq.length]; exact hl), fun z => absurd z hne, fun _ z => ?_, fun _ _ p hp => ?_⟩
        · have ez : ys = [] := List.length_eq_zero_iff.mp (by rw [← dq.length, z]; rfl)
          exact q _ _ G2 H2 g12 (.tup b1 b2) (by rw [ez, List.append_nil])
        · exact q (.ref p) _ _ _ (g12.newDat e.jj hp (.tup (vs ++ ws))) (.tup upd_same ((b2.append dq).up fun b o z => by rw [upd_ne (ne_of_none (g2.gh b o z) hp)]; exact z)) rfl
      rcases hk with rfl | rfl
      · cases d2 with
        | tup e1 e2 => exact go rfl (SqT.of (g2.gh _ _ e1)) e2
      · cases d2 with
        | ftup e1 f1 f2 e2 => exact go rfl (SqT.frz (g2.gh _ _ e1)) e2
end
end Zd

set_option Elab.async false
set_option maxRecDepth 100000
set_option maxHeartbeats 4000000
/-! Zd36: x in a list of nested data. -/
namespace Zd
open PySem PySem.Spec PyProof.Rows L2
section
variable {K : PySem.W.Frag} {c : Bs} {δ : Fe} {te ta tb : TE}
theorem u65 {k : Nat} {A : Around} (r : Room k A) : A.units + 65 < cLine := by have := r.un; omega
theorem op_inDK {X : Cx} (hK : X.K = K) (hu : X.A.units + 65 < cLine) : OpR X (compareOp .In) (rInD K) := by subst hK; exact op_inD hu
theorem op_notInDK {X : Cx} (hK : X.K = K) (hu : X.A.units + 65 < cLine) : OpR X (compareOp .NotIn) (rNotInD K) := by subst hK; exact op_notInD hu
theorem rv_inD {b : Bx} {d : Dt} {es : List Dt} {p : PyData} {ps : List PyData} {n : Nat} (hd : Pd K d p) (he : Pds K es ps) (lp : Lay n p) (lq : Lay n (.list ps)) (hn : n ≤ 64 := by decide) : Rv b (rInD K) d (.lst es) (· = .bl (ps.any fun z => PyData.eqv z p)) := rv_val fun v w G H s d1 d2 Q k =>
  ⟨p, ps, hd.dp s d1, Pd.dp s (.lst he) d2, lp.shaped hn, lq.shaped hn, k _ (.bl _)⟩
theorem rv_notInD {b : Bx} {d : Dt} {es : List Dt} {p : PyData} {ps : List PyData} {n : Nat} (hd : Pd K d p) (he : Pds K es ps) (lp : Lay n p) (lq : Lay n (.list ps)) (hn : n ≤ 64 := by decide) : Rv b (rNotInD K) d (.lst es) (· = .bl (!ps.any fun z => PyData.eqv z p)) := rv_val fun v w G H s d1 d2 Q k =>
  ⟨p, ps, hd.dp s d1, Pd.dp s (.lst he) d2, lp.shaped hn, lq.shaped hn, k _ (.bl _)⟩
end
end Zd

set_option Elab.async false
set_option maxRecDepth 100000
set_option maxHeartbeats 4000000
/-! Zd37: a dict of the body's own with nested keys, whatever its values are. -/
namespace Zd
open PySem L2 StX PySem.Spec PyProof.Rows
mutual
theorem nest_reads {h : Heap} : ∀ (k : NestedKey) {u : Value} {as : List Addr}, Reads h u k.data as → NestedIs h k u
  | .none, _, _, r => by
    simp only [NestedKey.data] at r
    cases r; exact .none
  | .num i, _, _, r => by
    simp only [NestedKey.data] at r
    cases r; exact .int _ _
  | .text x, _, _, r => by
    simp only [NestedKey.data] at r
    cases r; exact .text _ _
  | .tup ks, _, _, r => by
    simp only [NestedKey.data] at r
    cases r with
    | tuple ho hc hd hr => exact .tup ho hc hd (nests_reads ks hr)
theorem nests_reads {h : Heap} : ∀ (ks : List NestedKey) {us : List Value} {as : List Addr}, ReadsAll h us (NestedKey.datas ks) as → NestedAll h ks us
  | [], _, _, r => by
    simp only [NestedKey.datas] at r
    cases r; exact .nil
  | k :: ks, _, _, r => by
    simp only [NestedKey.datas] at r
    cases r with
    | cons r1 r2 => exact .cons (nest_reads k r1) (nests_reads ks r2)
end
/-- a key, where it stands, the value -/
abbrev NE := NestedKey × Addr × V
inductive ER : List NE → List (NestedKey × Addr × Value) → Prop
  | nil : ER [] []
  | cons {k : NestedKey} {a : Addr} {v : V} {u : Value} {xs : List NE} {ys : List (NestedKey × Addr × Value)} : RelV v u → ER xs ys → ER ((k, a, v) :: xs) ((k, a, u) :: ys)
def atN (xs : List NE) (k : NestedKey) : Option V := (xs.find? fun x => decide (x.1 = k)).map (·.2.2)
def putN (xs : List NE) (k : NestedKey) (b : Addr) (v : V) : List NE := if (atN xs k).isSome then xs.map (fun x => if x.1 = k then (x.1, x.2.1, v) else x) else xs ++ [(k, b, v)]
theorem ER.keys : ∀ {xs : List NE} {ys : List (NestedKey × Addr × Value)}, ER xs ys → ys.map (·.1) = xs.map (·.1)
  | _, _, .nil => rfl
  | _, _, .cons _ h => by rw [List.map_cons, List.map_cons, ER.keys h]
theorem ER.len : ∀ {xs : List NE} {ys : List (NestedKey × Addr × Value)}, ER xs ys → ys.length = xs.length
  | _, _, .nil => rfl
  | _, _, .cons _ h => by rw [List.length_cons, List.length_cons, ER.len h]
theorem ER.mem : ∀ {xs : List NE} {ys : List (NestedKey × Addr × Value)}, ER xs ys → ∀ y ∈ ys, ∃ x ∈ xs, x.1 = y.1 ∧ x.2.1 = y.2.1
  | _, _, .nil, y, h => by cases h
  | _, _, .cons _ h, y, hy => by
    rcases List.mem_cons.mp hy with rfl | hy
    · exact ⟨_, List.mem_cons_self, rfl, rfl⟩
    · obtain ⟨x, hx, e⟩ := ER.mem h y hy
      exact ⟨x, List.mem_cons_of_mem _ hx, e⟩
theorem ER.at {k : NestedKey} : ∀ {xs : List NE} {ys : List (NestedKey × Addr × Value)}, ER xs ys → (atN xs k = none ∧ atKey ys k = none) ∨ ∃ v a u, atN xs k = some v ∧ atKey ys k = some (a, u) ∧ RelV v u
  | _, _, .nil => .inl ⟨rfl, rfl⟩
  | _, _, .cons (k := k') (a := a) (v := v) (u := u) (xs := xs) (ys := ys) r h => by
    by_cases e : k' = k
    · refine .inr ⟨v, a, u, ?_, ?_, r⟩
      · unfold atN; rw [List.find?_cons_of_pos (by simpa using e)]; rfl
      · unfold atKey; rw [List.find?_cons_of_pos (by simpa using e)]; rfl
    · have e1 : atN ((k', a, v) :: xs) k = atN xs k := by unfold atN; rw [List.find?_cons_of_neg (by simpa using e)]
      have e2 : atKey ((k', a, u) :: ys) k = atKey ys k := by unfold atKey; rw [List.find?_cons_of_neg (by simpa using e)]
      rw [e1, e2]
      exact ER.at h
theorem ER.app : ∀ {xs : List NE} {ys : List (NestedKey × Addr × Value)}, ER xs ys → ∀ {k : NestedKey} {a : Addr} {v : V} {u : Value}, RelV v u → ER (xs ++ [(k, a, v)]) (ys ++ [(k, a, u)])
  | _, _, .nil, _, _, _, _, r => .cons r .nil
  | _, _, .cons r' h, _, _, _, _, r => .cons r' (ER.app h r)
theorem ER.map : ∀ {xs : List NE} {ys : List (NestedKey × Addr × Value)}, ER xs ys → ∀ {k : NestedKey} {v : V} {u : Value}, RelV v u → ER (xs.map (fun x => if x.1 = k then (x.1, x.2.1, v) else x)) (ys.map (putAt k u))
  | _, _, .nil, _, _, _, _ => .nil
  | _, _, .cons (k := k') r' h, k, v, u, r => by
    rw [List.map_cons, List.map_cons]
    by_cases e : k' = k
    · subst e
      rw [if_pos rfl]
      unfold putAt
      rw [if_pos rfl]
      exact .cons r (ER.map h r)
    · rw [if_neg e]
      unfold putAt
      rw [if_neg e]
      exact .cons r' (ER.map h r)
theorem ER.put {xs : List NE} {ys : List (NestedKey × Addr × Value)} (h : ER xs ys) {k : NestedKey} {b : Addr} {v : V} {u : Value} (r : RelV v u) : ER (putN xs k b v) (storedH ys k b u) := by
  rcases h.at (k := k) with ⟨e1, e2⟩ | ⟨v', a, u', e1, e2, _⟩
  · unfold putN
    rw [e1, if_neg (by simp), storedH_new e2]
    exact h.app r
  · unfold putN
    rw [e1, if_pos (by simp), storedH_old e2]
    exact h.map r
/-- the dict, by its entries -/
def DNest (P : Program) (w : World) (a : Addr) (xs : List NE) : HO := .ext fun h => (a == sysModules) = false ∧ ∃ ys o es ep, ER xs ys ∧ h.get? a = some o ∧ o.ExactDict ∧ o.data = .dict es ep ∧ es.toList = ys.map (entryOfKey (nestedKind P w)) ∧ (ys.map (·.1)).Nodup
/-- every key stands where it should -/
def KeysAt (K : PySem.W.Frag) (H : Hp) (xs : List NE) : Prop := ∀ x ∈ xs, Dp K H (.ref x.2.1) x.1.data ∧ x.1.depth ≤ 8
section
variable {X : Cx} {pins : List (Addr × Obj)} {σ : L2.St} {H : Hp} {s : Shared} {h : Heap} {a : Addr} {xs : List NE}
theorem dNest_ok {P : Program} {w : World} {ys : List (NestedKey × Addr × Value)} (hd : (a == sysModules) = false) (r : ER xs ys) (m : h.DictOfH (nestedKind P w) a ys) : ObjOk P w H h a (DNest P w a xs) := by
  obtain ⟨o, es, ep, ho, h1, h2, h3, _, h4⟩ := m
  exact ⟨⟨hd, ys, o, es, ep, r, ho, h1, h2, h3, h4⟩, ⟨o, ho⟩, fun g1 g2 ⟨z, ys, o, es, ep, r, e, t⟩ k => ⟨z, ys, o, es, ep, r, k o e, t⟩⟩
theorem key_is (I : Inv X pins σ H s) {b : Addr} {k : NestedKey} (d : Dp X.K H (.ref b) k.data) (hk : k.depth ≤ 8) : (nestedKind X.prog X.w).is s.heap k b := by
  obtain ⟨as, r⟩ := Dp.reads I k.data (.ref b) (.ref b) d rfl
  exact ⟨nest_reads k r, hk⟩
theorem dNest_get (I : Inv X pins σ H s) (e : H a = some (DNest X.prog X.w a xs)) (hk : KeysAt X.K H xs) : (a == sysModules) = false ∧ ∃ ys, ER xs ys ∧ s.heap.DictOfH (nestedKind X.prog X.w) a ys := by
  obtain ⟨⟨z, ys, o, es, ep, r, ho, h1, h2, h3, h4⟩, _, _⟩ := I.hok a _ e
  refine ⟨z, ys, r, o, es, ep, ho, h1, h2, h3, fun y hy => ?_, h4⟩
  obtain ⟨x, hx, e1, e2⟩ := r.mem y hy
  rw [← e1, ← e2]
  exact key_is I (hk x hx).1 (hk x hx).2
end
/-! ### the rules -/
/-- {} -/
def tDNest (P : Program) (w : World) : TE := fun _ H Q => ∀ p, H p = none → Q (.ref p) (upd H p (DNest P w p []))
/-- {y: v} -/
def tDOne (P : Program) (w : World) (K : PySem.W.Frag) (ty tv : TE) : TE := fun σ H Q => ∀ p, H p = none → ty σ (upd H p (DNest P w p [])) fun y H1 => tv σ H1 fun v H2 => ∃ (b : Addr) (k : NestedKey), y = .ref b ∧ H2 p = some (DNest P w p []) ∧ Dp K H2 y k.data ∧ k.depth ≤ 8 ∧ Q (.ref p) (upd H2 p (DNest P w p [(k, b, v)]))
/-- d[y] = v -/
def sDPutM (P : Program) (w : World) (K : PySem.W.Frag) (td ty tv : TE) : TS := fun D σ H => tv σ H fun v H1 => td σ H1 fun x H2 => ty σ H2 fun y H3 => ∃ (a b : Addr) (k : NestedKey) (xs : List NE),
  x = .ref a ∧ y = .ref b ∧ H3 a = some (DNest P w a xs) ∧ KeysAt K H3 xs ∧ Dp K H3 y k.data ∧ k.depth ≤ 8 ∧ xs.length ≤ sizeLine ∧ D.nx σ (upd H3 a (DNest P w a (putN xs k b v)))
/-- d[y] -/
def rDGetM (P : Program) (w : World) (K : PySem.W.Frag) : R2 := fun x y H Q => ∃ (a b : Addr) (k : NestedKey) (xs : List NE) (v : V), x = .ref a ∧ y = .ref b ∧ H a = some (DNest P w a xs) ∧ KeysAt K H xs ∧ Dp K H y k.data ∧ k.depth ≤ 8 ∧ atN xs k = some v ∧ Q v H
/-- y in d, y not in d -/
def rInM (P : Program) (w : World) (K : PySem.W.Frag) (neg : Bool) : R2 := fun y x H Q => ∃ (a b : Addr) (k : NestedKey) (xs : List NE), x = .ref a ∧ y = .ref b ∧ H a = some (DNest P w a xs) ∧ KeysAt K H xs ∧ Dp K H y k.data ∧ k.depth ≤ 8 ∧ Q (.bl (if neg then !(atN xs k).isSome else (atN xs k).isSome)) H
section
variable {X : Cx} {P : Program} {w : World} {K : PySem.W.Frag} {o i value : Expr} {td ty tv : TE} {pos pos' : Pos}
theorem pe_dNest (hP : X.prog = P) (hw : X.w = w) : PE X (.Dict [] [] pos) (tDNest P w) := by
  subst hP hw
  refine ⟨fun pins s σ H Q I h => ?_⟩
  refine wpAny_Dict_empty ⟨.ref s.heap.objs.size, _, I.laid (a := s.heap.objs.size) (o := DNest X.prog X.w s.heap.objs.size []) (t' := s.toks) (fun _ _ q => Heap.get?_push_of_some _ q) (Nat.le_refl _) (dNest_ok (beq_eq_false_iff_ne.mpr (Ne.symm (Nat.ne_of_lt I.big))) .nil (Heap.DictOfH.new s.heap)), rfl, h _ (I.hok.fresh (Nat.le_refl _))⟩
theorem ps_dputM (hP : X.prog = P) (hw : X.w = w) (hK : X.K = K) (hu : X.A.units + 64 < cLine) (ho : PE X o td) (hi : PE X i ty) (hv : PE X value tv) (hs : swapsWith value (some (.Subscript o i pos')) pos.line X.env = pure false) :
    PS X (.Assign [.Subscript o i pos'] value pos) (sDPutM P w K td ty tv) := by
  subst hP hw hK
  refine ⟨fun pins s σ H D I h => ?_⟩
  refine wpAny_Assign_Subscript (thn (hv.run pins s σ H _ I h) fun r s1 ⟨v, H1, I1, rv, q1⟩ => thn (ho.run pins s1 σ H1 _ I1 q1) fun u s2 ⟨x, H2, I2, rx, q2⟩ => thn (hi.run pins s2 σ H2 _ I2 q2) fun iv s3 ⟨y, H3, I3, ry, a, b, k, xs, ex, ey, hd, hk, dk, hdp, hz, q3⟩ => ?_) hs
  subst ex ey
  cases rx
  cases ry
  obtain ⟨z, ys, er, m⟩ := dNest_get I3 hd hk
  refine wpAny_setItem_heap (hsz := by rw [er.len]; exact hz) (show X.A.in1.units + 8 < cLine from by rw [Around.in1_units]; omega) (key_is I3 dk hdp) m fun h' m' hs' => ?_
  have he : ∃ q, h'.get? a = some q := by
    obtain ⟨q, _, _, hq, _⟩ := m'
    exact ⟨q, hq⟩
  exact ⟨σ, _, I3.write (x := a) (e := a) (by rw [hd]; trivial) (.inl rfl) (fun b q hb e => (hs'.2 b hb).trans e) he (dNest_ok z (er.put rv) m'), q3⟩
theorem op_inM (hP : X.prog = P) (hw : X.w = w) (hK : X.K = K) (hu : X.A.units + 64 < cLine) : OpR X (compareOp .In) (rInM P w K false) := by
  subst hP hw hK
  intro pins s σ H y x v u Q I ry rx h
  obtain ⟨a, b, k, xs, rfl, rfl, hd, hk, dk, hdp, q⟩ := h
  cases rx
  cases ry
  obtain ⟨z, ys, er, m⟩ := dNest_get I hd hk
  refine wpAny_in_heap (show X.A.in1.units + 8 < cLine from by rw [Around.in1_units]; omega) (key_is I dk hdp) z m ?_
  refine ⟨.bl _, H, I.tok _, ?_, q⟩
  show Value.bool _ = Value.bool _
  rw [if_neg (by decide)]
  congr 1
  rcases er.at (k := k) with ⟨e1, e2⟩ | ⟨v, a, u, e1, e2, _⟩ <;> rw [e1, e2] <;> rfl
theorem op_notInM (hP : X.prog = P) (hw : X.w = w) (hK : X.K = K) (hu : X.A.units + 64 < cLine) : OpR X (compareOp .NotIn) (rInM P w K true) := by
  subst hP hw hK
  intro pins s σ H y x v u Q I ry rx h
  obtain ⟨a, b, k, xs, rfl, rfl, hd, hk, dk, hdp, q⟩ := h
  cases rx
  cases ry
  obtain ⟨z, ys, er, m⟩ := dNest_get I hd hk
  refine notIn_keyed (show X.A.in1.units + 8 < cLine from by rw [Around.in1_units]; omega) (key_is I dk hdp) z ⟨ys, m, rfl⟩ ?_
  refine ⟨.bl _, H, I.tok _, ?_, q⟩
  show Value.bool _ = Value.bool _
  rw [if_pos rfl, valueAt_pairsH, Option.isSome_map]
  congr 2
  rcases er.at (k := k) with ⟨e1, e2⟩ | ⟨v, a, u, e1, e2, _⟩ <;> rw [e1, e2] <;> rfl
/-- d[y] -/
def tDGetM (P : Program) (w : World) (K : PySem.W.Frag) (td ty : TE) : TE := fun σ H Q => td σ H fun x H1 => ty σ H1 fun y H2 => rDGetM P w K x y H2 Q
theorem pe_dgetM (hP : X.prog = P) (hw : X.w = w) (hK : X.K = K) (hu : X.A.units + 64 < cLine) (ho : PE X o td) (hi : PE X i ty) (hs : NoSl i) : PE X (.Subscript o i pos) (tDGetM P w K td ty) := by
  subst hP hw hK
  refine ⟨fun pins s σ H Q I h => ?_⟩
  refine subD_of PySem.F.slot_dict_getitem.lookup hs (thn (ho.run pins s σ H _ I h) fun u s1 ⟨x, H1, I1, rx, q1⟩ => thn (hi.run pins s1 σ H1 _ I1 q1) fun iv s2 ⟨y, H2, I2, ry, a, b, k, xs, v, ex, ey, hd, hk, dk, hdp, hv, q2⟩ => ?_)
  subst ex ey
  cases rx
  cases ry
  obtain ⟨z, ys, er, m⟩ := dNest_get I2 hd hk
  refine ⟨m.typeIs, ?_⟩
  rcases er.at (k := k) with ⟨e1, e2⟩ | ⟨v', a', u', e1, e2, r⟩
  · rw [hv] at e1; cases e1
  · rw [hv] at e1
    have := Option.some.inj e1
    subst this
    exact wpAny_getItem_heap (show X.A.in1.units + 8 < cLine from by rw [Around.in1_units]; omega) (key_is I2 dk hdp) m e2 ⟨v, H2, I2.tok _, r, q2⟩
theorem pe_dOne {ke ve : Expr} (hP : X.prog = P) (hw : X.w = w) (hK : X.K = K) (hu : X.A.units + 64 < cLine) (hk : PE X ke ty) (hv : PE X ve tv) : PE X (.Dict [some ke] [ve] pos) (tDOne P w K ty tv) := by
  subst hP hw hK
  refine ⟨fun pins s σ H Q I h => ?_⟩
  have hsh : ((evalEachOpt [some ke] X.env).zip ((evalEach [ve] X.env).map fun v => (do let x ← v; standAt pos; pure x : Sem Value))) = [(eval ke X.env, (do let x ← eval ve X.env; standAt pos; pure x : Sem Value))].map fun p => (some p.1, p.2) := rfl
  rw [arm_eval_Dict, hsh, dictDisplay_pairs _ (by simp) (by show 1 < 17; decide)]
  have hp := I.hok.fresh (Nat.le_refl s.heap.objs.size)
  have h := h s.heap.objs.size hp
  have bg : (s.heap.objs.size == sysModules) = false := beq_eq_false_iff_ne.mpr (Ne.symm (Nat.ne_of_lt I.big))
  have I0 : Inv X pins σ (upd H s.heap.objs.size (DNest X.prog X.w s.heap.objs.size [])) { s with heap := s.heap.push { cls := .type "dict", data := .dict #[] } } :=
    I.laid (a := s.heap.objs.size) (o := DNest X.prog X.w s.heap.objs.size []) (t' := s.toks) (fun _ _ q => Heap.get?_push_of_some _ q) (Nat.le_refl _) (dNest_ok bg .nil (Heap.DictOfH.new s.heap))
  refine wpAny_bind (wpAny_standAt (wpAny_bind (wpAny_subDictH (knd := nestedKind X.prog X.w) (show X.A.units + 8 < cLine from by omega) (by show 1 ≤ 15; decide) ?_)))
  refine evalPairs_cons (thn (hk.run pins _ σ _ _ I0 h) fun u1 s1 ⟨y, H1, I1, r1, q1⟩ => ?_)
  refine wpAny_bind (thn (hv.run pins s1 σ H1 _ I1 q1) fun u2 s2 ⟨v, H2, I2, r2, b, k, ey, hd, dk, hdp, q2⟩ => wpAny_bind (wpAny_standAt (wpAny_pure (evalPairs_nil ?_))))
  subst ey
  cases r1
  obtain ⟨z, ys, er, m⟩ := dNest_get I2 hd (fun x hx => by cases hx)
  cases er
  refine ⟨[(k, b, u2)], ⟨rfl, rfl, key_is I2 dk hdp, trivial⟩, m, fun h' tk m' hs' => wpAny_pure ?_⟩
  have m1 : h'.DictOfH (nestedKind X.prog X.w) s.heap.objs.size [(k, b, u2)] := m'
  have he : ∃ q, h'.get? s.heap.objs.size = some q := by
    obtain ⟨q, _, _, hq, _⟩ := m1
    exact ⟨q, hq⟩
  exact ⟨.ref s.heap.objs.size, _, I2.write (x := s.heap.objs.size) (e := s.heap.objs.size) (by rw [hd]; trivial) (.inl rfl) (fun b q hb e => (hs'.2 b hb).trans e) he (dNest_ok bg (.cons r2 .nil) m1), rfl, q2⟩
end
end Zd

set_option Elab.async false
set_option maxRecDepth 100000
set_option maxHeartbeats 4000000
/-! Zd38: list(reversed(xs)); while; what is None; dicts with nested keys, by data. -/
namespace Zd
open PySem PySem.W PySem.Calls PySem.Spec PyProof.Rows L2
section
variable {prog : Program} {w : World} {A : Around} {E : Value → Shared → Prop} {s : Shared} {r d : Addr} {xs : Array Value}
/-- a list takes what a reversed list yields -/
theorem extend_rev {R : Result → Shared → Prop} (hh : A.handled = none) (hv : s.heap.IsRevIter r d ((xs.size : Int) - 1)) (hl : s.heap.IsList d xs) (hdr : d ≠ r) (S : Addr) (hSr : S ≠ r) (hSd : S ≠ d) (res : Value) (c0 : Nat)
    (hS : s.heap.get? S = some { cls := .type "list", data := .seq #[] c0 }) (hR : ∀ h' tk acc c, (∀ b o, b ≠ S → b ≠ r → s.heap.get? b = some o → h'.get? b = some o) → h'.get? S = some { cls := .type "list", dict := none, data := .seq acc c, slots := #[] } →
      ItemsOf (fun i v => xs[xs.size - 1 - i]? = some v) acc xs.size → R (.ok (.ret res)) { s with heap := h', toks := tk }) (hn : xs.size ≤ sizeLine) :
    wpAny (model prog w) A.in1 (Builtin.List.listExtendWith (.ref S) (.ref r) res)
      (fun fin s' => match fin with | .done f => R (.ok f) s' | .again c' => c'.quiet = true ∧ codeAny (model prog w) A c' R s') (fun e s' => R (.error e) s') s := by
  have W := (Walks.listRev (prog := prog) (w := w) (A := A.in1) hh r d hdr xs).toS
  have notin : S ∉ [r, d] := by
    intro z
    rcases List.mem_cons.mp z with z | z
    · exact hSr z
    · exact hSd (List.mem_singleton.mp z)
  have ty : s.TypeIs (.ref r) "list_reverseiterator" := hv.typeIs
  have two : Builtin.List.listSameRef (.ref S) (.ref r) = false := by simp [Builtin.List.listSameRef, hSr]
  unfold Builtin.List.listExtendWith
  refine wpAny_bind (wpAny_typeOf ty ?_)
  rw [if_neg (by rw [two]; decide)]
  refine wpAny_bind (wpAny_pyIter_revIter (s := s) hv (wpAny_bind (wpAny_holding ?_)))
  unfold Builtin.List.listLengthHint
  refine wpAny_bind (wpAny_specialOf ty RT.nolen_lri ?_)
  show wpAny _ A.in1 (specialOf (Value.ref r) (Str.ofString "__length_hint__") >>= _) _ _ s
  refine wpAny_bind (wpAny_specialOf ty RT.hint_lri ?_)
  generalize hnm : ("list_reverseiterator.__length_hint__" : String) = nm
  wp_delta
  rw [show splitId nm = some ("list_reverseiterator", "__length_hint__") from by subst hnm; decide +kernel]
  subst hnm
  refine wpAny_bind (wpAny_isInstance (b := true) ty (by rw [isSubtype_type]; kernel_rfl) (wpAny_pure ?_))
  rw [if_neg (by decide)]
  have z0 : (xs.size : Int) - 1 = (xs.size : Int) - 1 - ((0 : Nat) : Int) := by omega
  refine wpAny_pure ⟨plainId_quiet PySem.F.plain_extend_loop _, codeAny_extend_loopS W hn _ notin _ xs.size 0 _ _ _ rfl (Nat.zero_le _) ⟨Nat.zero_le _, by rw [← z0]; exact hv, hl⟩ hS (ItemsOf.nil _) fun t acc c mv at' its => ?_⟩
  rw [Moved.eq_with mv]
  exact hR t.heap t.toks acc c (fun b o n1 n2 e => mv.heap b o (fun z => (List.mem_cons.mp z).elim n1 fun z => n2 (List.mem_singleton.mp z)) e) at' its
theorem list_rev {Q : Value → Shared → Prop} (hh : A.handled = none) (hv : s.heap.IsRevIter r d ((xs.size : Int) - 1)) (hl : s.heap.IsList d xs) (hdr : d ≠ r) (hn : xs.size ≤ sizeLine)
    (q : ∀ h' tk acc c, (∀ b o, b ≠ r → s.heap.get? b = some o → h'.get? b = some o) → h'.get? s.heap.objs.size = some { cls := .type "list", dict := none, data := .seq acc c, slots := #[] } →
      ItemsOf (fun i v => xs[xs.size - 1 - i]? = some v) acc xs.size → Q (.ref s.heap.objs.size) { s with heap := h', toks := tk }) :
    wpAny (model prog w) A (call (.type "list") [.ref r]) Q E s := by
  refine callType_codes (Q₁ := fun v t => v = .ref s.heap.objs.size ∧ t = { s with heap := s.heap.push { cls := .type "list", data := .seq #[] } }) PySem.F.called_list (PySem.F.typeCall_list_1 _) PySem.F.entry_list_init (code_list_new _ ⟨rfl, rfl⟩) fun v t hvt => ?_
  obtain ⟨rfl, rfl⟩ := hvt
  have at0 : (s.heap.push { cls := .type "list", data := .seq #[] }).get? s.heap.objs.size = some { cls := .type "list", data := .seq #[] } := Heap.get?_push_size _ rfl
  have lr : r < s.heap.objs.size := let ⟨_, ho, _⟩ := hv; Heap.lt_size ho
  have ld : d < s.heap.objs.size := let ⟨_, ho, _⟩ := id hl; Heap.lt_size ho
  refine ⟨⟨_, at0, rfl⟩, PySem.F.args_list_init_2 _ _, ?_⟩
  have hv1 : (s.heap.push { cls := .type "list", data := .seq #[] }).IsRevIter r d ((xs.size : Int) - 1) := hv.at fun o e => Heap.get?_push_of_some _ e
  have hl1 : (s.heap.push { cls := .type "list", data := .seq #[] }).IsList d xs := hl.push _
  generalize hH : s.heap.push { cls := .type "list", data := .seq #[] } = hp at *
  refine (?_ : wpAny _ A.in1.in1 (do let old ← Builtin.List.listItems (.ref s.heap.objs.size); Builtin.List.listUpdate (.ref s.heap.objs.size) (fun _ => #[]); letGo old.toList.reverse; Builtin.List.listExtendWith (.ref s.heap.objs.size) (.ref r) .none) _ _ _)
  refine wpAny_bind ?_
  unfold Builtin.List.listItems
  refine wpAny_bind (wpAny_seqItems (s := { s with heap := hp }) at0 rfl (wpAny_pure ?_))
  refine (?_ : wpAny _ A.in1.in1 (updateSeq s.heap.objs.size (fun _ => #[]) >>= fun _ => letGo (#[] : Array Value).toList.reverse >>= fun _ => Builtin.List.listExtendWith (.ref s.heap.objs.size) (.ref r) .none) _ _ _)
  refine wpAny_bind (wpAny_updateSeq (s := { s with heap := hp }) at0 rfl (wpAny_bind (wpAny_letGo ?_)))
  have at1 := Heap.get?_update_self (Obj.mapSeq (fun _ => (#[] : Array Value))) at0 rfl
  have keep : ∀ b o, b ≠ s.heap.objs.size → hp.get? b = some o → (hp.update s.heap.objs.size (Obj.mapSeq (fun _ => (#[] : Array Value)))).get? b = some o := fun b o hb e => (Heap.get?_update_other _ _ (Ne.symm hb)).trans e
  refine extend_rev (A := A.in1) (s := { s with heap := hp.update s.heap.objs.size (Obj.mapSeq (fun _ => (#[] : Array Value))) }) hh (hv1.at fun o e => keep _ _ (Nat.ne_of_lt lr) e) (hl1.at fun o e => keep _ _ (Nat.ne_of_lt ld) e) hdr s.heap.objs.size (Nat.ne_of_gt lr) (Nat.ne_of_gt ld) .none 0 at1 (fun h' tk acc c k a i => ?_) hn
  exact ⟨rfl, q h' tk acc c (fun b o n e => k b o (Nat.ne_of_lt (Heap.lt_size e)) n (keep b o (Nat.ne_of_lt (Heap.lt_size e)) (by rw [← hH]; exact Heap.get?_push_of_some _ e))) a i⟩
end
/-- list(reversed(xs)) -/
def tListRev (K : PySem.W.Frag) (te : TE) : TE := fun σ H Q => te σ H fun v H1 => ∃ (a : Addr) (xs : List V), v = .ref a ∧ SqL K H1 a xs ∧ ∀ q, H1 q = none → Q (.ref q) (upd H1 q (.lst xs.reverse))
theorem pe_listRev {X : Cx} {K : PySem.W.Frag} (hK : X.K = K) {e : Expr} {te : TE} {p p2 pos pos2 : Pos} (hc : X.calm = true) (hg : Gl X "list") (hm : X.mg "list" = none) (hg2 : Gl X "reversed") (hm2 : X.mg "reversed" = none) (he : PE X e te)
    (hs : starEach [e] X.env = (false, eval e X.env) :: starEach [] X.env := by rfl) (hs2 : starEach [.Call (.Name "reversed" p2) [e] [] pos2] X.env = (false, eval (.Call (.Name "reversed" p2) [e] [] pos2) X.env) :: starEach [] X.env := by rfl) :
    PE X (.Call (.Name "list" p) [.Call (.Name "reversed" p2) [e] [] pos2] [] pos) (tListRev K te) := by
  subst hK
  refine ⟨fun pins s σ H Q I h => Call_ (ld_blt I hg hm PyProof.Rows.boot_list (PyProof.Rows.callWith_type1 (args_cons (Call_ (ld_blt I hg2 hm2 PyProof.Rows.boot_reversed (PyProof.Rows.callWith_type1 (args_cons (thn (he.run pins s σ H _ I h) fun u t ⟨v, H1, I1, r1, q1⟩ => args_nil ?_) hs) hs rfl))) hs2) hs2 rfl))⟩
  obtain ⟨a, xs, rfl, hq, q⟩ := q1
  cases r1
  obtain ⟨its, rv, pl, hz⟩ := I1.list hq
  refine call_reversed_list pl.isList (args_nil ?_)
  have k0 : ∀ b o, t.heap.get? b = some o → (t.heap.push (revObj a ((its.toArray.size : Int) - 1))).get? b = some o := fun b o e => Heap.get?_push_of_some _ e
  have I2 : Inv X pins σ H1 { t with heap := t.heap.push (revObj a ((its.toArray.size : Int) - 1)) } := I1.kept (t' := t.toks) k0
  obtain ⟨f0, f1, f2, f3, f4, f5⟩ := I1.fpOk (H' := H1) (b := t.heap.objs.size) (Nat.le_refl _) (I1.hok.fresh (Nat.le_refl _))
  have la : a < t.heap.objs.size := let ⟨_, ho, _⟩ := pl.isList; Heap.lt_size ho
  have hn : its.toArray.size ≤ sizeLine := by rw [List.size_toArray, ← rv.length]; exact hz
  refine list_rev (s := { t with heap := t.heap.push (revObj a ((its.toArray.size : Int) - 1)) }) (xs := its.toArray) (I1.ok.hd hc) ⟨_, Heap.get?_push_size _ rfl, rfl, rfl⟩ (pl.isList.push _) (Nat.ne_of_lt la) hn fun h' tk acc c hk hat hi => ?_
  have sz : (t.heap.push (revObj a ((its.toArray.size : Int) - 1))).objs.size = t.heap.objs.size + 1 := Heap.size_push _ _
  have fr : H1 (t.heap.push (revObj a ((its.toArray.size : Int) - 1))).objs.size = none := I1.hok.fresh (by rw [sz]; exact Nat.le_succ _)
  have vr := RT.vals_rev rv hi
  have J : Inv X pins σ (upd H1 (t.heap.push (revObj a ((its.toArray.size : Int) - 1))).objs.size (.lst xs.reverse)) { t with heap := h', toks := tk } :=
    I2.turnedNew (t' := tk) (ch := [t.heap.objs.size]) (fun b o hb e => hk b o (fun z => hb (List.mem_singleton.mpr z)) e) (fun b hb => by rw [List.mem_singleton.mp hb]; exact ⟨f0, f1, f2, f3, f4, f5⟩) (Nat.le_refl _) ⟨by rw [List.length_reverse]; exact hz, acc.toList, c, vr, by rw [Array.toArray_toList]; exact hat⟩
  exact ⟨.ref _, _, J, rfl, q _ fr⟩
end Zd

set_option Elab.async false
set_option maxRecDepth 100000
set_option maxHeartbeats 4000000
/-! Zd39: while; list(reversed(xs)); is not None; dicts with nested keys: by data. -/
namespace Zd
open PySem L2 StX
section
variable {c : Bs} {δ : Fe} {te ta tb ty : TE} {tt : TT} {ts tv : TS} {p : Po} {P : Program} {w : World} {K : PySem.W.Frag}
/-- list(reversed(xs)) -/
theorem dl_listRev {xs : List Dt} (h : De c te δ (.lst xs)) : Dl c (tListRev K te) δ (· = xs.reverse) := fun σ G H e Q q =>
  h σ G H e _ fun v x G1 H1 g1 d1 p1 => by
    subst p1
    have rev : ∀ {vs : List V} {ds : List Dt}, Dqs G1 vs ds → Dqs G1 vs.reverse ds.reverse := fun {vs ds} hq => by
      induction vs generalizing ds with
      | nil => cases hq; exact .nil
      | cons v r ih => cases hq with
        | cons a b =>
          rw [List.reverse_cons, List.reverse_cons]
          exact (ih b).append (.cons a .nil)
    cases d1 with
    | lst a1 a2 =>
      refine ⟨_, _, rfl, SqL.of (g1.gh _ _ a1), fun l hl => ?_⟩
      refine q l _ _ G1 _ (g1.trans e.jj (Gx.put g1.gh g1.jj hl)) (g1.fresh e.jj hl) ?_ upd_same (rev a2) rfl
      cases k : G1 l with
      | none => rfl
      | some u => rw [g1.gh l u k] at hl; cases hl
/-- own[j] -/
theorem de_ownAt {i : Nat} {ds : List Dt} {j : Int} {d : Dt} (h : δ[i]? = some (.own ds)) (hb : De c tb δ (.int j)) (hj : atI ds j = some d) : De c (tOp (rIxL K) (tVar i) tb) δ d := fun σ G H e Q q => by
  obtain ⟨a, _, e1, _⟩ := e.sl i _ h
  refine ⟨.ref a, e1, hb σ G H e _ fun v dv G1 H1 g1 d1 p1 => ?_⟩
  subst p1
  cases d1
  obtain ⟨a', vs, e1', h1, h2, h3, h4⟩ := (e.up g1).sl i _ h
  rw [e1] at e1'
  have ea := V.ref.inj (Option.some.inj (Option.some.inj e1'))
  subst ea
  obtain ⟨u, hu, du⟩ := dqs_at h4 hj
  exact ⟨_, _, j, u, rfl, rfl, SqL.of h1, hu, q u _ G1 H1 g1 du rfl⟩
/-- while test: body -/
theorem ds_while (I : Nat → Fe → Prop) (h0 : ∃ m, I m δ) (turn : ∀ m δ', I m δ' → ∃ b, Dt' c tt δ' (· = b) ∧ (b = true → Ds c ts δ' { N := fun δ2 => ∃ m', m' < m ∧ I m' δ2, R := p.R, B := p.N, C := fun δ2 => ∃ m', m' < m ∧ I m' δ2 }) ∧ (b = false → p.N δ')) : Ds c (tWhile tt ts) δ p := fun D σ G H e n r bb kk => by
  obtain ⟨m0, i0⟩ := h0
  refine ⟨fun m σ' Hi => ∃ Gi δi, Ec c Gi Hi σ' δi ∧ Same G Gi ∧ I m δi, ⟨m0, G, δ, e, Same.refl _, i0⟩, ?_⟩
  rintro m σ' Hi ⟨Gi, δi, ei, si, ii⟩
  obtain ⟨b, ht, h1, h2⟩ := turn m δi ii
  refine ht σ' Gi Hi ei _ fun k G1 H1 g1 ek => ?_
  subst ek
  have s1 := si.trans g1.gg
  by_cases hb : k = true
  · rw [if_pos hb]
    refine ⟨fun σ2 H2 => ∃ G2 δ2, Ec c G2 H2 σ2 δ2 ∧ Same G G2 ∧ ∃ m', m' < m ∧ I m' δ2, fun σ2 H2 ⟨G2, δ2, e2, s2, m', hm, i2⟩ => ⟨m', hm, G2, δ2, e2, s2, i2⟩, ?_⟩
    exact h1 hb _ σ' G1 H1 (ei.up g1) (fun δ4 σ4 G4 H4 s4 e4 n4 => ⟨G4, δ4, e4, s1.trans s4, n4⟩) r (fun δ4 σ4 G4 H4 s4 e4 n4 => n δ4 σ4 G4 H4 (s1.trans s4) e4 n4) fun δ4 σ4 G4 H4 s4 e4 n4 => ⟨G4, δ4, e4, s1.trans s4, n4⟩
  · rw [if_neg hb]
    exact n δi σ' G1 H1 s1 (ei.up g1) (h2 (by simpa using hb))
theorem rv_neS {b : Bx} {i j : Str} : Rv b rNe (.str i) (.str j) (· = .bl (!decide (i = j))) := rv_val fun v w G H s d1 d2 Q q => by
  cases d1; cases d2
  exact ⟨rfl, by rw [show decide (V.str i = V.str j) = decide (i = j) by simp]; exact q _ (.bl _)⟩
/-- x is (not) None -/
theorem rv_notNo {b : Bx} {d : Dt} {k : Bool} (hk : ∀ G v, Dq G v d → decide (v = V.non) = k) : Rv b (fun x y H Q => y = .non ∧ Q (.bl (!decide (x = .non))) H) d .non (· = .bl (!k)) := rv_val fun v w G H s d1 d2 Q q => by
  cases d2
  refine ⟨rfl, ?_⟩
  rw [hk G v d1]
  exact q _ (.bl _)
theorem rv_isNo {b : Bx} {d : Dt} {k : Bool} (hk : ∀ G v, Dq G v d → decide (v = V.non) = k) : Rv b (fun x y H Q => y = .non ∧ Q (.bl (decide (x = .non))) H) d .non (· = .bl k) := rv_val fun v w G H s d1 d2 Q q => by
  cases d2
  refine ⟨rfl, ?_⟩
  rw [hk G v d1]
  exact q _ (.bl _)
theorem non_is (G : Hp) (v : V) (h : Dq G v .non) : decide (v = V.non) = true := by cases h; rfl
theorem tup_not {xs : List Dt} (G : Hp) (v : V) (h : Dq G v (.tup xs)) : decide (v = V.non) = false := by cases h; rfl
theorem lst_not {xs : List Dt} (G : Hp) (v : V) (h : Dq G v (.lst xs)) : decide (v = V.non) = false := by cases h; rfl
/-! ### dicts with nested keys -/
/-- in a slot: the dict with these keys and these values, in order -/
def DNst (P : Program) (w : World) (K : PySem.W.Frag) (ks : List NestedKey) (ds : List Dt) : Hp → Addr → HO → Prop := fun G a o => ∃ xs : List NE, o = DNest P w a xs ∧ xs.map (·.1) = ks ∧ (∀ x ∈ xs, x.1.depth ≤ 8 ∧ ∃ dk, Dq G (.ref x.2.1) dk ∧ Pd K dk x.1.data) ∧ Dqs G (xs.map (·.2.2)) ds
theorem DNst.up {ks : List NestedKey} {ds : List Dt} {G G' : Hp} {a : Addr} {o : HO} (s : Same G G') (h : DNst P w K ks ds G a o) : DNst P w K ks ds G' a o := by
  obtain ⟨xs, h1, h2, h3, h4⟩ := h
  exact ⟨xs, h1, h2, fun x hx => ⟨(h3 x hx).1, (h3 x hx).2.imp fun dk ⟨q1, q2⟩ => ⟨q1.up s, q2⟩⟩, h4.up s⟩
theorem keys_at {xs : List NE} {G H : Hp} (s : Same G H) (h : ∀ x ∈ xs, x.1.depth ≤ 8 ∧ ∃ dk, Dq G (.ref x.2.1) dk ∧ Pd K dk x.1.data) : KeysAt K H xs := fun x hx => by
  obtain ⟨h1, dk, q1, q2⟩ := h x hx
  exact ⟨q2.dp s q1, h1⟩
theorem atN_get {k : NestedKey} : ∀ {xs : List NE} {j : Nat}, (xs.map (·.1)).Nodup → (xs.map (·.1))[j]? = some k → ∃ x, xs[j]? = some x ∧ atN xs k = some x.2.2
  | [], j, _, h => by simp at h
  | x :: r, 0, nd, h => by
    have e : x.1 = k := Option.some.inj h
    refine ⟨x, rfl, ?_⟩
    unfold atN
    rw [List.find?_cons_of_pos (by simpa using e)]
    rfl
  | x :: r, j + 1, nd, h => by
    obtain ⟨n1, n2⟩ := List.nodup_cons.mp nd
    have h' : (r.map (·.1))[j]? = some k := h
    have ne : ¬ x.1 = k := fun e => n1 (by show x.1 ∈ _; rw [e]; exact List.mem_of_getElem? h')
    obtain ⟨y, hy, e⟩ := atN_get n2 h'
    refine ⟨y, hy, ?_⟩
    unfold atN
    rw [List.find?_cons_of_neg (by simpa using ne)]
    exact e
theorem atN_some {k : NestedKey} : ∀ (xs : List NE), (atN xs k).isSome = decide (k ∈ xs.map (·.1))
  | [] => rfl
  | x :: r => by
    by_cases e : x.1 = k
    · have : atN (x :: r) k = some x.2.2 := by unfold atN; rw [List.find?_cons_of_pos (by simpa using e)]; rfl
      rw [this, decide_eq_true (by rw [List.map_cons, e]; exact List.mem_cons_self)]
      rfl
    · have : atN (x :: r) k = atN r k := by unfold atN; rw [List.find?_cons_of_neg (by simpa using e)]
      rw [this, atN_some r]
      refine decide_eq_decide.mpr ⟨fun h => List.mem_cons_of_mem _ h, fun h => ?_⟩
      rcases List.mem_cons.mp h with z | z
      · exact absurd z.symm e
      · exact z
/-- the slot i holds such a dict -/
def NstAt (P : Program) (w : World) (K : PySem.W.Frag) (c : Bs) (δ : Fe) (i : Nat) (ks : List NestedKey) (ds : List Dt) : Prop := ∀ (σ : L2.St) (G H : Hp), Ec c G H σ δ → ∃ a o, σ[i]? = some (some (V.ref a)) ∧ H a = some o ∧ DNst P w K ks ds G a o
variable {ks : List NestedKey} {ds : List Dt} {i : Nat} {k : NestedKey} {d dk : Dt}
theorem nst_obj (h : δ[i]? = some (.obj (DNst P w K ks ds))) : NstAt P w K c δ i ks ds := fun σ G H e => by
  obtain ⟨a, o, e1, h1, h2, h3, h4⟩ := e.sl i _ h
  exact ⟨a, o, e1, h1, h4.1 G (Same.refl _)⟩
theorem nst_raw {a : Addr} {o : HO} (h : δ[i]? = some (.raw (.ref a))) (hH : c.H0 a = some o) (hS : ¬ c.b.S a) (hG : DNst P w K ks ds c.G0 a o) : NstAt P w K c δ i ks ds := fun σ G H e =>
  ⟨a, o, e.sl i _ h, e.gx.hh a o hS hH, hG.up e.gx.gg⟩
/-- what is a key: a tuple -/
structure NKey (K : PySem.W.Frag) (dk : Dt) (k : NestedKey) : Prop where
  p : Pd K dk k.data
  d : k.depth ≤ 8
  t : ∃ l, k = .tup l
theorem NKey.ref {G : Hp} {v : V} (h : NKey K dk k) (q : Dq G v dk) : ∃ b, v = .ref b := by
  obtain ⟨l, rfl⟩ := h.t
  have hp := h.p
  simp only [NestedKey.data] at hp
  cases hp with
  | tup _ => cases q with | tup _ _ => exact ⟨_, rfl⟩
  | ftup _ => cases q with | ftup _ _ _ _ => exact ⟨_, rfl⟩
  | con _ _ => cases q with | con b => exact ⟨_, rfl⟩
/-- d[y] -/
theorem de_getN (N : NstAt P w K c δ i ks ds) (hy : De c ty δ dk) (hk : NKey K dk k) {j : Nat} (nd : ks.Nodup) (h1 : ks[j]? = some k) (h2 : ds[j]? = some d) : De c (tDGetM P w K (tVar i) ty) δ d := fun σ G H e Q q => by
  obtain ⟨a, o, e1, _, _⟩ := N σ G H e
  refine ⟨.ref a, e1, hy σ G H e _ fun y dy G2 H2 g2 dq pd => ?_⟩
  subst pd
  obtain ⟨a', o', e1', hA, xs, rfl, hks, hx, hv⟩ := N σ G2 H2 (e.up g2)
  rw [e1] at e1'
  have ea := V.ref.inj (Option.some.inj (Option.some.inj e1'))
  subst ea
  obtain ⟨b, rfl⟩ := hk.ref dq
  subst hks
  obtain ⟨x, hj, hat⟩ := atN_get nd h1
  obtain ⟨v, hv1, hv2⟩ := hv.get h2
  have ev : v = x.2.2 := by
    rw [List.getElem?_map, hj] at hv1
    exact (Option.some.inj hv1).symm
  subst ev
  exact ⟨a, b, k, xs, x.2.2, rfl, rfl, hA, keys_at (e.up g2).same hx, hk.p.dp (e.up g2).same dq, hk.d, hat, q _ _ G2 H2 g2 hv2 rfl⟩
/-- y in d, y not in d -/
theorem de_inN {neg : Bool} (N : NstAt P w K c δ i ks ds) (hy : De c ty δ dk) (hk : NKey K dk k) : De c (tOp (rInM P w K neg) ty (tVar i)) δ (.bl (if neg then !decide (k ∈ ks) else decide (k ∈ ks))) := fun σ G H e Q q => by
  refine hy σ G H e _ fun y dy G2 H2 g2 dq pd => ?_
  subst pd
  obtain ⟨a, o, e1, hA, xs, rfl, hks, hx, hv⟩ := N σ G2 H2 (e.up g2)
  obtain ⟨b, rfl⟩ := hk.ref dq
  refine ⟨.ref a, e1, a, b, k, xs, rfl, rfl, hA, keys_at (e.up g2).same hx, hk.p.dp (e.up g2).same dq, hk.d, ?_⟩
  rw [atN_some, hks]
  exact q _ _ G2 H2 g2 (.bl _) rfl
/-- d[y] = v, y a new key -/
theorem ds_putN (h : δ[i]? = some (.obj (DNst P w K ks ds))) (hv : De c tb δ d) (hy : De c ty δ dk) (hk : NKey K dk k) (hn : k ∉ ks) (hl : ks.length ≤ 10000000) (q : p.N (δ.set i (.obj (DNst P w K (ks ++ [k]) (ds ++ [d]))))) : Ds c (sDPutM P w K (tVar i) ty tb) δ p := fun D σ G H e n r bb kk => by
  refine hv σ G H e _ fun v dv G1 H1 g1 d1 p1 => ?_
  subst p1
  obtain ⟨a, o, e1, _⟩ := (e.up g1).sl i _ h
  refine ⟨.ref a, e1, hy σ G1 H1 (e.up g1) _ fun y dy G2 H2 g2 d2 p2 => ?_⟩
  subst p2
  have e2 := (e.up g1).up g2
  obtain ⟨a', o', e1', h1', h2', h3', h4'⟩ := e2.sl i _ h
  rw [e1] at e1'
  have ea := V.ref.inj (Option.some.inj (Option.some.inj e1'))
  subst ea
  obtain ⟨xs, rfl, hks, hx, hxv⟩ := h4'.1 G2 (Same.refl _)
  obtain ⟨b, rfl⟩ := hk.ref d2
  have hlen : xs.length = ks.length := by
    have := congrArg List.length hks
    simpa using this
  have no : (atN xs k).isSome = false := by rw [atN_some, hks]; exact decide_eq_false hn
  have ep : putN xs k b v = xs ++ [(k, b, v)] := by unfold putN; rw [if_neg (by rw [no]; decide)]
  refine ⟨a, b, k, xs, rfl, rfl, h1', keys_at e2.same hx, hk.p.dp e2.same d2, hk.d, sz_ok (by omega), ?_⟩
  rw [ep]
  refine n _ _ G2 _ (g1.gg.trans g2.gg) (e2.pokeO h e1 fun G' s' => ⟨_, rfl, ?_, fun x hxx => ?_, ?_⟩) q
  · rw [List.map_append, hks]; rfl
  · rcases List.mem_append.mp hxx with hxx | hxx
    · exact ⟨(hx x hxx).1, (hx x hxx).2.imp fun dk ⟨q1, q2⟩ => ⟨q1.up s', q2⟩⟩
    · rw [List.mem_singleton.mp hxx]
      exact ⟨hk.d, _, d2.up s', hk.p⟩
  · rw [List.map_append]
    exact (hxv.up s').append (.cons ((d1.up g2.gg).up s') .nil)
/-- x = {} -/
theorem ds_letN0 (q : Ds c ts (δ.set i (.obj (DNst P w K [] []))) p) : Ds c (tSeq (tAsg (tDNest P w) (gName i)) ts) δ p :=
  ds_seq (M := (· = δ.set i (.obj (DNst P w K [] [])))) (fun D σ G H e n r b k => fun a ha =>
    n _ _ G _ (Same.refl G) ((e.up (Gx.put e.same e.jj ha)).setOwn i (.obj (DNst P w K [] [])) (fun k y hk oy sk => e.noSlot ha k y hk oy sk) fun hlt =>
      ⟨a, _, List.getElem?_set_self (by rw [e.len]; exact hlt), upd_same, (by
        cases k : G a with
        | none => rfl
        | some u => rw [e.same a u k] at ha; cases ha), e.gx.fresh e.j0 ha, (fun _ _ => ⟨[], rfl, rfl, (fun _ h => by cases h), Dqs.nil⟩), fun _ z => nomatch z⟩) rfl) fun δ' e => by rw [e]; exact q
/-- x = {y: v} -/
theorem ds_letN1 (hy : De c ty δ dk) (hk : NKey K dk k) (hv : De c tb δ d) (q : Ds c ts (δ.set i (.obj (DNst P w K [k] [d]))) p) : Ds c (tSeq (tAsg (tDOne P w K ty tb) (gName i)) ts) δ p :=
  ds_seq (M := (· = δ.set i (.obj (DNst P w K [k] [d])))) (fun D σ G H e n r bb kk => fun a ha => by
    have g0 : Gx c.b G H G (upd H a (DNest P w a [])) := Gx.put e.same e.jj ha
    have ga : G a = none := by
      cases z : G a with
      | none => rfl
      | some u => rw [e.same a u z] at ha; cases ha
    have e0 := e.up g0
    refine hy σ G _ e0 _ fun y dy G1 H1 g1 d1 p1 => hv σ G1 H1 (e0.up g1) _ fun v dv G2 H2 g2 d2 p2 => ?_
    subst p1 p2
    have g12 := g1.trans e0.jj g2
    have e2 := e0.up g12
    have nS : ¬ c.b.S a := fun s => c.b.hs _ _ e.jj s ha
    have h2 : H2 a = some (DNest P w a []) := g12.hh a _ nS upd_same
    have G2a : G2 a = none := by
      cases z : G2 a with
      | none => rfl
      | some u =>
        rcases g12.nw a (by rw [z]; simp) with h | h | ⟨xs, h⟩
        · exact absurd ga h
        · rw [upd_same] at h; cases h
        · rw [upd_same] at h; cases h
    obtain ⟨b, rfl⟩ := hk.ref d1
    have gg := g0.trans e.jj g12
    refine ⟨b, k, rfl, h2, hk.p.dp e2.same (d1.up g2.gg), hk.d, ?_⟩
    refine n _ _ G2 _ gg.gg ((e.up (Gx.poke (o := DNest P w a [(k, b, v)]) e.jj gg ha G2a)).setOwn i (.obj (DNst P w K [k] [dv])) (fun m u hm ou sk => e.noSlot ha m u hm ou sk) fun hlt => ?_) rfl
    exact ⟨a, _, List.getElem?_set_self (by rw [e.len]; exact hlt), upd_same, G2a, e.gx.fresh e.j0 ha, (fun G' s' => ⟨[(k, b, v)], rfl, rfl, fun x hx => by
      rw [List.mem_singleton.mp hx]
      exact ⟨hk.d, _, (d1.up g2.gg).up s', hk.p⟩, Dqs.cons (d2.up s') Dqs.nil⟩), fun _ z => nomatch z⟩) fun δ' e => by rw [e]; exact q
end
end Zd

set_option Elab.async false
set_option maxRecDepth 100000
set_option maxHeartbeats 4000000
/-! Zd48: a dict of the body's own whose keys are ints: {n: x}, d[n], d[n] = x, n not in d; and k not in d for a dict that is data. -/
namespace Zd
open PySem L2 StX
def DIo (ks : List Int) (ds : List Dt) : Hp → Addr → HO → Prop := fun G _ o => ∃ kvs : List (Key × V), o = .dK kvs ∧ kvs.map (·.1) = ks.map Sum.inl ∧ Dqs G (kvs.map (·.2)) ds
theorem valV_some {k : Int} : ∀ {kvs : List (Key × V)} {ks : List Int}, kvs.map (·.1) = ks.map Sum.inl → (valV kvs (Sum.inl k : Key)).isSome = decide (k ∈ ks)
  | [], [], _ => rfl
  | [], _ :: _, h => by cases h
  | _ :: _, [], h => by cases h
  | p :: r, j :: s, h => by
    have e := List.cons.inj h
    have e1 : p.1 = Sum.inl j := e.1
    by_cases z : j = k
    · subst z
      rw [valV_pos e1, decide_eq_true List.mem_cons_self]; rfl
    · have ne : ¬ p.1 = (Sum.inl k : Key) := fun q => z (Sum.inl.inj (e1.symm.trans q))
      rw [valV_neg ne, valV_some e.2]
      exact decide_eq_decide.mpr ⟨fun h => List.mem_cons_of_mem _ h, fun h => by
        rcases List.mem_cons.mp h with q | q
        · exact absurd q.symm z
        · exact q⟩
theorem valV_get {k : Int} {G : Hp} {d : Dt} : ∀ {kvs : List (Key × V)} {ks : List Int} {ds : List Dt} {j : Nat}, kvs.map (·.1) = ks.map Sum.inl → Dqs G (kvs.map (·.2)) ds → ks.Nodup → ks[j]? = some k → ds[j]? = some d → ∃ v, valV kvs (Sum.inl k : Key) = some v ∧ Dq G v d
  | [], [], _, _, _, _, _, h, _ => by simp at h
  | [], _ :: _, _, _, h, _, _, _, _ => by cases h
  | _ :: _, [], _, _, h, _, _, _, _ => by cases h
  | p :: r, i :: s, [], j, h, hq, _, _, _ => by cases hq
  | p :: r, i :: s, x :: ds, j, h, hq, nd, h1, h2 => by
    have e := List.cons.inj h
    have e1 : p.1 = Sum.inl i := e.1
    cases hq with
    | cons q1 q2 =>
      obtain ⟨n1, n2⟩ := List.nodup_cons.mp nd
      cases j with
      | zero =>
        have a1 : i = k := Option.some.inj h1
        have a2 : x = d := Option.some.inj h2
        subst a1 a2
        exact ⟨_, valV_pos e1, q1⟩
      | succ j =>
        have h1 : s[j]? = some k := h1
        have ne : ¬ p.1 = (Sum.inl k : Key) := fun q => n1 (by rw [Sum.inl.inj (e1.symm.trans q)]; exact List.mem_of_getElem? h1)
        obtain ⟨v, a, b⟩ := valV_get e.2 q2 n2 h1 h2
        exact ⟨v, by rw [valV_neg ne]; exact a, b⟩
section
variable {c : Bs} {δ : Fe} {ta tb te td ty tv : TE} {ts : TS} {p : Po} {ks : List Int} {ds : List Dt} {i : Nat} {n : Int} {d : Dt}
/-- x = {n: e} -/
theorem ds_letI1 (hv : De c tb δ d) (q : Ds c ts (δ.set i (.obj (DIo [n] [d]))) p) : Ds c (tSeq (tAsg (tDisp [(tC (.int n), tb)]) (gName i)) ts) δ p :=
  ds_seq (M := (· = δ.set i (.obj (DIo [n] [d])))) (fun D σ G H e nx r bb kk => fun a ha => by
    have g0 : Gx c.b G H G (upd H a (.dK [])) := Gx.put e.same e.jj ha
    have ga : G a = none := by
      cases z : G a with
      | none => rfl
      | some u => rw [e.same a u z] at ha; cases ha
    have e0 := e.up g0
    refine hv σ G _ e0 _ fun v dv G2 H2 g2 d2 p2 => ?_
    subst p2
    have nS : ¬ c.b.S a := fun s => c.b.hs _ _ e.jj s ha
    have h2 : H2 a = some (.dK []) := g2.hh a _ nS upd_same
    have G2a : G2 a = none := by
      cases z : G2 a with
      | none => rfl
      | some u =>
        rcases g2.nw a (by rw [z]; simp) with h | h | ⟨xs, h⟩
        · exact absurd ga h
        · rw [upd_same] at h; cases h
        · rw [upd_same] at h; cases h
    have gg := g0.trans e.jj g2
    refine ⟨h2, [(Sum.inl n, v)], rfl, (by show 1 ≤ 15; decide), ?_⟩
    refine nx _ _ G2 _ gg.gg ((e.up (Gx.poke (o := .dK [(Sum.inl n, v)]) e.jj gg ha G2a)).setOwn i (.obj (DIo [n] [dv])) (fun m u hm ou sk => e.noSlot ha m u hm ou sk) fun hlt => ?_) rfl
    exact ⟨a, _, List.getElem?_set_self (by rw [e.len]; exact hlt), upd_same, G2a, e.gx.fresh e.j0 ha, (fun G' s' => ⟨[(Sum.inl n, v)], rfl, rfl, Dqs.cons (d2.up s') Dqs.nil⟩), fun _ z => nomatch z⟩) fun δ' e => by rw [e]; exact q
/-- d[n] -/
theorem de_getI (h : δ[i]? = some (.obj (DIo ks ds))) (hy : De c ty δ (.int n)) {j : Nat} (nd : ks.Nodup) (h1 : ks[j]? = some n) (h2 : ds[j]? = some d) : De c (tDGet (tVar i) ty) δ d := fun σ G H e Q q => by
  obtain ⟨a, o, e1, _⟩ := e.sl i _ h
  refine ⟨.ref a, e1, hy σ G H e _ fun y dy G2 H2 g2 dq pd => ?_⟩
  subst pd
  cases dq
  obtain ⟨a', o', e1', hA, _, _, h4⟩ := (e.up g2).sl i _ h
  rw [e1] at e1'
  have ea := V.ref.inj (Option.some.inj (Option.some.inj e1'))
  subst ea
  obtain ⟨kvs, rfl, hk, hq⟩ := h4.1 G2 (Same.refl _)
  obtain ⟨v, hv1, hv2⟩ := valV_get hk hq nd h1 h2
  refine ⟨a, v, rfl, ?_, q _ _ G2 H2 g2 hv2 rfl⟩
  rw [← hv1]
  exact DGet.k (k := Sum.inl n) hA
/-- n not in d -/
theorem de_notinI (h : δ[i]? = some (.obj (DIo ks ds))) (hy : De c ty δ (.int n)) : De c (tDNotIn ty (tVar i)) δ (.bl (!decide (n ∈ ks))) := fun σ G H e Q q => by
  refine hy σ G H e _ fun y dy G2 H2 g2 dq pd => ?_
  subst pd
  cases dq
  obtain ⟨a, o, e1, hA, _, _, h4⟩ := (e.up g2).sl i _ h
  obtain ⟨kvs, rfl, hk, hq⟩ := h4.1 G2 (Same.refl _)
  refine ⟨.ref a, e1, a, valV kvs (Sum.inl n : Key), rfl, DGet.k (k := Sum.inl n) hA, ?_⟩
  rw [valV_some hk]
  exact q _ _ G2 H2 g2 (.bl _) rfl
/-- d[n] = e, n a new key -/
theorem ds_putI (h : δ[i]? = some (.obj (DIo ks ds))) (hv : De c tb δ d) (hy : De c ty δ (.int n)) (hn : n ∉ ks) (hl : ks.length < 10000000) (q : p.N (δ.set i (.obj (DIo (ks ++ [n]) (ds ++ [d]))))) : Ds c (sDPut (tVar i) ty tb) δ p := fun D σ G H e nx r bb kk => by
  refine hv σ G H e _ fun v dv G1 H1 g1 d1 p1 => ?_
  subst p1
  obtain ⟨a, o, e1, _⟩ := (e.up g1).sl i _ h
  refine ⟨.ref a, e1, hy σ G1 H1 (e.up g1) _ fun y dy G2 H2 g2 d2 p2 => ?_⟩
  subst p2
  cases d2
  have e2 := (e.up g1).up g2
  obtain ⟨a', o', e1', h1', h2', h3', h4'⟩ := e2.sl i _ h
  rw [e1] at e1'
  have ea := V.ref.inj (Option.some.inj (Option.some.inj e1'))
  subst ea
  obtain ⟨kvs, rfl, hks, hxv⟩ := h4'.1 G2 (Same.refl _)
  have hlen : kvs.length = ks.length := by simpa using congrArg List.length hks
  have no : valV kvs (Sum.inl n : Key) = none := by
    have := valV_some (k := n) hks
    rw [decide_eq_false hn] at this
    cases z : valV kvs (Sum.inl n : Key) with
    | none => rfl
    | some u => rw [z] at this; cases this
  refine ⟨a, _, rfl, DPut.k (k := Sum.inl n) h1' (sz_lt' (by omega)), ?_⟩
  rw [putK_new _ no]
  refine nx _ _ G2 _ (g1.gg.trans g2.gg) (e2.pokeO h e1 fun G' s' => ⟨_, rfl, ?_, ?_⟩) q
  · rw [List.map_append, List.map_append, hks]; rfl
  · rw [List.map_append]
    exact (hxv.up s').append (.cons ((d1.up g2.gg).up s') .nil)
/-- k not in d, a dict that is data -/
theorem de_notinT {ks : List (List Key)} {ds : List Dt} {k : List Key} (hy : De c ty δ (tupK k)) (hd : De c td δ (.dct ks ds)) : De c (tDNotIn ty td) δ (.bl (!(dctAt ks ds k).isSome)) := fun σ G H e Q q => by
  refine hy σ G H e _ fun y dy G1 H1 g1 d1 p1 => ?_
  subst p1
  refine hd σ G1 H1 (e.up g1) _ fun x dx G2 H2 g2 d2 p2 => ?_
  subst p2
  cases d2 with
  | dct a1 a2 a3 =>
    subst a2
    obtain ⟨b, rfl, eb⟩ := tupK_ref d1
    obtain ⟨i1, i2⟩ := valV_dct k a3
    have e2 := (e.up g1).up g2
    refine ⟨_, _, rfl, DGet.t (e2.same _ _ a1) (e2.same _ _ (g2.gg _ _ eb)), ?_⟩
    rename_i a0 kvs
    have es : (valV kvs k).isSome = (dctAt (kvs.map (·.1)) ds k).isSome := by
      cases h : dctAt (kvs.map (·.1)) ds k with
      | none => rw [i2 h]; rfl
      | some w =>
        obtain ⟨u, e1, _⟩ := i1 w h
        rw [e1]
        rfl
    rw [es]
    exact q _ _ G2 H2 (g1.trans e.jj g2) (.bl _) rfl
end
end Zd

set_option Elab.async false
set_option maxRecDepth 100000
set_option maxHeartbeats 4000000
/-! Zd49: int * tuple; dicts with nested keys: walked while they are locked, d[y] += n. -/
namespace Zd
open PySem PySem.Spec PyProof.Rows L2
/-! ### k * t -/
theorem no_repeat_int : seqRepeat? (.type "int") = pure none := by
  unfold seqRepeat? seqSlot?
  have h1 : typeLookup (.type "int") "__mul__" = pure (some (.builtin "int.__mul__")) := F.slot_int_mul.lookup
  have h2 : typeLookup (.type "int") "__rmul__" = pure (some (.builtin "int.__rmul__")) := F.slot_int_rmul.lookup
  have h3 : isSeqSlot (some (.builtin "int.__mul__")) = false := by decide +kernel
  have h4 : isSeqSlot (some (.builtin "int.__rmul__")) = false := by decide +kernel
  rw [h1, h2]
  simp only [pure_bind, h3, h4, Bool.not_false, if_true]
theorem left_declines {M : Model} {A : Around} {E : Value → Shared → Prop} {s : Shared} {a b : Value} {T U nm id : String} {Q : Option Value → Shared → Prop} (hTU : (Value.type T == Value.type U) = false) (ha : s.TypeIs a T) (hb : s.TypeIs b U)
    (hfT : fillsNumberSlot (.type T) nm = pure true) (hfU : fillsNumberSlot (.type U) nm = pure false) (h : Slot T (dunder nm) id)
    (hc : wpAny M A (call (.builtin id) [a, b]) (fun v s' => v = .notImplemented ∧ Q none s') E s) : wpAny M A (binaryOp1 nm a b) Q E s := by
  simp only [binaryOp1]
  refine wpAny_bind (wpAny_typeOf ha (wpAny_bind (wpAny_typeOf hb (wpAny_bind (wpAny_of_eq hfT ?_)))))
  simp only [hTU, Bool.false_eq_true, if_false]
  refine wpAny_bind (wpAny_of_eq hfU ?_)
  simp only [pure_bind, Bool.and_false, Bool.true_and, Bool.false_and, Bool.false_eq_true, if_false, Bool.not_false, if_true]
  refine wpAny_bind (wpAny_tryMethod_declines ha h (wpAny_mono hc (fun v s' h' => ⟨h'.1, ?_⟩) fun _ _ e => e))
  exact wpAny_pure h'.2
theorem int_mul_tuple (a : Int) (t : Tok) (l : Addr) (items : Array Value) (n : Nat) (dd : Option Addr) (sl : Array (Option Value)) :
    Meets (Builtin.«int.__mul__» ⟨[.int a t, .ref l], []⟩) (fun _ R s => s.heap.get? l = some { cls := .type "tuple", dict := dd, data := .seq items n, slots := sl } ∧ R (.ok (.ret Value.notImplemented)) s) :=
  .of_wp fun prog w A R s h => by obtain ⟨hp, g, d, tk, os⟩ := s; obtain ⟨hl, h⟩ := h; wp_walk using wpAny_loadPart' hl; exact ⟨_, rfl, h⟩
theorem tuple_mul1 (l : Addr) (items : Array Value) (n : Nat) (dd : Option Addr) (sl : Array (Option Value)) (u : Tok) :
    Meets (Builtin.«tuple.__mul__» ⟨[.ref l, .int 1 u], []⟩) (fun _ R s => s.heap.get? l = some { cls := .type "tuple", dict := dd, data := .seq items n, slots := sl } ∧
      R (.ok (.ret (Value.ref l))) s) :=
  .of_wp fun prog w A R s h => by
    obtain ⟨hp, g, d, tk, os⟩ := s
    obtain ⟨hl, h⟩ := h
    have f1 := AutoSeq1.idx_int
    have c1 : (items.isEmpty || (1 : Int) == 1) = true := by rw [Bool.or_eq_true]; exact .inr rfl
    wp_walk using wpAny_loadPart' hl
    repeat (first
      | (refine wpAny_ite_true (decide_eq_true (by rw [c1])) ?_; wp_walk using wpAny_loadPart' hl)
      | (refine wpAny_ite_false (decide_eq_false (by decide)) ?_; wp_walk using wpAny_loadPart' hl))
    exact ⟨_, rfl, h⟩
theorem tuple_mul0 (l : Addr) (items : Array Value) (n : Nat) (dd : Option Addr) (sl : Array (Option Value)) (u : Tok) (hne : items.isEmpty = false) :
    Meets (Builtin.«tuple.__mul__» ⟨[.ref l, .int 0 u], []⟩) (fun _ R s => s.heap.get? l = some { cls := .type "tuple", dict := dd, data := .seq items n, slots := sl } ∧
      R (.ok (.ret (Value.ref s.heap.objs.size))) { s with heap := s.heap.push { cls := Value.type "tuple", data := Data.seq #[] }, toks := s.toks }) :=
  .of_wp fun prog w A R s h => by
    obtain ⟨hp, g, d, tk, os⟩ := s
    obtain ⟨hl, h⟩ := h
    have f1 := AutoSeq1.idx_int
    have c1 : (items.isEmpty || (0 : Int) == 1) = false := by rw [hne]; rfl
    have c2 : (decide ((0 : Int) ≤ 0) || items.isEmpty) = true := by rw [Bool.or_eq_true]; exact .inl rfl
    wp_walk using wpAny_loadPart' hl
    repeat (first
      | (refine wpAny_ite_false (decide_eq_false (by rw [c1]; exact Bool.false_ne_true)) ?_; wp_walk using wpAny_loadPart' hl)
      | (refine wpAny_ite_true (decide_eq_true (by rw [c2])) ?_; wp_walk using wpAny_loadPart' hl)
      | (refine wpAny_ite_false (decide_eq_false (by decide)) ?_; wp_walk using wpAny_loadPart' hl))
    exact ⟨_, rfl, h⟩
theorem binop_rep_left {M : Model} {A : Around} {E : Value → Shared → Prop} {s : Shared} {k : Int} {t : Tok} {l : Addr} {Q : Value → Shared → Prop}
    (hb : ∀ s' : Shared, s'.heap = s.heap → s'.TypeIs (.ref l) "tuple")
    (hc : wpAny M A (call (.builtin "int.__mul__") [.int k t, .ref l]) (fun v s' => v = .notImplemented ∧ s'.TypeIs (.ref l) "tuple" ∧ wpAny M A (call (.builtin "tuple.__mul__") [.ref l, .int k t]) Q E s') E s) : wpAny M A (binaryOp .Mult (.int k t) (.ref l)) Q E s := by
  unfold binaryOp
  refine wpAny_holding ?_
  refine wpAny_bind (left_declines (nm := "mul") (T := "int") (U := "tuple") (by decide) (typeIs_int s k t) (hb s rfl) F.fills_int_mul noFill_tuple_mul F.slot_int_mul (wpAny_mono hc (fun v s' h' => ⟨h'.1, ?_⟩) fun _ _ e => e))
  refine wpAny_bind (wpAny_typeOf (typeIs_int s' k t) ?_)
  refine wpAny_bind (wpAny_of_eq no_repeat_int ?_)
  refine wpAny_bind (wpAny_typeOf h'.2.1 ?_)
  refine wpAny_bind (wpAny_of_eq repeat_tuple ?_)
  unfold sequenceRepeat
  refine wpAny_bind (wpAny_specialOf (typeIs_int s' k t) F.slot_int_index.lookup ?_)
  exact wpAny_bind (wpAny_rule h'.2.2)
/-- k * t -/
def rRepL (K : PySem.W.Frag) : R2 := fun x y H Q => ∃ l k xs, x = .int k ∧ y = .ref l ∧ SqT K H l xs ∧ xs ≠ [] ∧ 0 ≤ k ∧ k ≤ 1000 ∧ xs.length ≤ 1000 ∧ (k = 1 → Q (.ref l) H) ∧ (k ≠ 1 → ∀ p, H p = none → Q (.ref p) (upd H p (.tup (List.replicate k.toNat xs).flatten)))
section
variable {X : Cx}
theorem op_repL : OpR X (binaryOp .Mult) (rRepL X.K) := by
  intro pins s σ H x y v u Q I rx ry h
  obtain ⟨l, k, xs, rfl, rfl, hT, hne, h1, h2, hz, q1, q2⟩ := h
  cases ry
  obtain ⟨t, rfl⟩ := rx
  obtain ⟨its, r, ⟨⟨cls, dd, data, sl⟩, ho, hc, n, hd⟩, hs⟩ := I.tuple hT
  simp only at hc hd
  subst hc hd
  have hle : its.length = xs.length := r.length.symm
  have hn : its ≠ [] := fun e => hne (by
    rw [e] at hle
    exact List.eq_nil_of_length_eq_zero hle.symm)
  have hi : its.toArray.isEmpty = false := by
    cases its with
    | nil => exact absurd rfl hn
    | cons a b => rfl
  have hsz0 : its.toArray.size = xs.length := by rw [List.size_toArray, hle]
  have start : ∀ {Q' : Value → Shared → Prop}, wpAny (model X.prog X.w) X.A (call (.builtin "tuple.__mul__") [.ref l, .int k t]) Q' X.xe s → wpAny (model X.prog X.w) X.A (binaryOp .Mult (.int k t) (.ref l)) Q' X.xe s := fun hq =>
    binop_rep_left (fun s' es => ⟨_, by rw [es]; exact ho, rfl⟩) (call_meets F.slot_int_mul (typeIs_int s k t) F.entry_int_mul (F.args_int_mul_2 _ _) (int_mul_tuple k t l its.toArray n dd sl) ⟨ho, rfl, ⟨_, ho, rfl⟩, hq⟩)
  refine start ?_
  by_cases e1 : k = 1
  · subst e1
    exact call_meets F.slot_tuple_mul ⟨_, ho, rfl⟩ F.entry_tuple_mul (F.args_tuple_mul_2 _ _) (tuple_mul1 l its.toArray n dd sl t) ⟨ho, .ref l, H, I, rfl, q1 rfl⟩
  by_cases e0 : k = 0
  · subst e0
    refine call_meets F.slot_tuple_mul ⟨_, ho, rfl⟩ F.entry_tuple_mul (F.args_tuple_mul_2 _ _) (tuple_mul0 l its.toArray n dd sl t hi) ⟨ho, ?_⟩
    refine ⟨.ref s.heap.objs.size, _, I.laid (t' := s.toks) (o := .tup []) (fun b ob q => Heap.get?_push_of_some _ q) (Nat.le_refl _) ?_, rfl, q2 (by decide) _ (I.hok.fresh (Nat.le_refl _))⟩
    exact ⟨Nat.zero_le _, _, .nil, IsTup.new _ _⟩
  have hm : ((its.toArray.size : Nat) : Int) * k ≤ 1000000 := by
    rw [hsz0]
    have a1 : ((xs.length : Nat) : Int) * k ≤ 1000 * k := Int.mul_le_mul_of_nonneg_right (by omega) (by omega)
    omega
  have flen : (List.replicate k.toNat its).flatten.length ≤ sizeLine := by
    rw [PyProof.Rows.lm_len_rep_flat, hle, sizeLine_eq]
    have a1 : k.toNat * xs.length ≤ 1000 * 1000 := Nat.mul_le_mul (by omega) hz
    omega
  have c0 : (decide (k < -(2 ^ 63)) || decide (k ≥ 2 ^ 63)) = false := by
    rw [decide_eq_false (by omega), decide_eq_false (by omega)] <;> rfl
  have c1 : (its.toArray.isEmpty || k == 1) = false := by
    rw [hi, Bool.false_or]
    exact beq_eq_false_iff_ne.mpr e1
  have c2 : (decide (k ≤ 0) || its.toArray.isEmpty) = false := by
    rw [hi, Bool.or_false]
    exact decide_eq_false (by omega)
  have c4 : Builtin.Tuple.tupleTooMany (((its.toArray.size : Nat) : Int) * k) = false := by
    unfold Builtin.Tuple.tupleTooMany
    rw [sizeLine_eq]
    exact decide_eq_false (by omega)
  refine call_meets F.slot_tuple_mul ⟨_, ho, rfl⟩ F.entry_tuple_mul (F.args_tuple_mul_2 _ _) (tuple_mulW l its.toArray n dd sl k t c0 c1 c2 (by omega) c4 (by rw [size_rep, List.size_toArray]; exact flen)) ⟨ho, ?_⟩
  rw [size_rep]
  refine ⟨.ref s.heap.objs.size, _, I.laid (t' := s.toks) (o := .tup (List.replicate k.toNat xs).flatten) (fun b ob q => Heap.get?_push_of_some _ q) (Nat.le_refl _) ?_, rfl, q2 e1 _ (I.hok.fresh (Nat.le_refl _))⟩
  exact ⟨by rw [PyProof.Rows.lm_len_rep_flat, sizeLine_eq]; have a1 : k.toNat * xs.length ≤ 1000 * 1000 := Nat.mul_le_mul (by omega) hz; omega, _, r.rep k.toNat, IsTup.new _ _⟩
theorem op_repLK {K : PySem.W.Frag} (hK : X.K = K) : OpR X (binaryOp .Mult) (rRepL K) := by subst hK; exact op_repL
end
theorem rep_flat {β : Type} (u : β) : ∀ k : Nat, (List.replicate k [u]).flatten = List.replicate k u
  | 0 => rfl
  | n + 1 => by rw [List.replicate_succ, List.flatten_cons, rep_flat u n, List.replicate_succ]; rfl
theorem rep_dqs {G : Hp} {u : V} {d : Dt} (h : Dq G u d) : ∀ k : Nat, Dqs G (List.replicate k u) (List.replicate k d)
  | 0 => .nil
  | n + 1 => .cons h (rep_dqs h n)
section
variable {K : PySem.W.Frag} {c : Bs} {δ : Fe} {ta tb : TE}
/-- k * (d,) -/
theorem de_repL {k : Nat} {d : Dt} (ha : De c ta δ (.int (k : Int))) (hb : De c tb δ (.tup [d])) (hk : k ≤ 1000) : De c (tOp (rRepL K) ta tb) δ (.tup (List.replicate k d)) := fun σ G H e Q q =>
  ha σ G H e _ fun v x G1 H1 g1 d1 p1 => hb σ G1 H1 (e.up g1) _ fun w y G2 H2 g2 d2 p2 => by
    subst p1 p2
    have g12 := g1.trans e.jj g2
    cases d1
    cases d2 with
    | tup a1 a2 =>
      rename_i l vs
      cases a2 with
      | cons b1 b2 =>
        cases b2
        rename_i u
        refine ⟨l, (k : Int), [u], rfl, rfl, SqT.of (g2.gh _ _ a1), List.cons_ne_nil _ _, by omega, by omega, by show 1 ≤ 1000; decide, fun z => ?_, fun z p hp => ?_⟩
        · have ek : k = 1 := by omega
          exact q _ _ G2 H2 g12 (.tup a1 (.cons b1 .nil)) (by rw [ek]; rfl)
        · have fl : (List.replicate (k : Int).toNat [u]).flatten = List.replicate k u := by
            rw [Int.toNat_natCast]
            exact rep_flat u k
          rw [fl]
          have dq : Dqs G2 (List.replicate k u) (List.replicate k d) := by
            exact rep_dqs b1 k
          exact q (.ref p) _ _ _ (g12.newDat e.jj hp (.tup (List.replicate k u))) (.tup upd_same (dq.up fun b o z => by rw [upd_ne (ne_of_none (g2.gh b o z) hp)]; exact z)) rfl
end
/-! ### a dict with nested keys, locked: its keys in order -/
section
variable {X : Cx} {pins : List (Addr × Obj)} {σ : L2.St} {H : Hp} {s : Shared} {d : Addr} {o : Obj} {xs : List NE}
theorem er_get : ∀ {xs : List NE} {ys : List (NestedKey × Addr × Value)}, ER xs ys → ∀ {i : Nat} {x : NE}, xs[i]? = some x → ∃ u, ys[i]? = some (x.1, x.2.1, u)
  | _, _, .nil, i, x, h => by simp at h
  | _, _, .cons r h, 0, x, e => by
    have := Option.some.inj e
    subst this
    exact ⟨_, rfl⟩
  | _, _, .cons r h, i + 1, x, e => er_get h (i := i) e
theorem frzN (I : Inv X pins σ H s) (h : H d = some (.frz o (DNest X.prog X.w d xs))) :
    (d == sysModules) = false ∧ s.heap.get? d = some o ∧ o.ExactDict ∧ ∃ (es : Array DictEntry) (ep : Nat), o.data = .dict es ep ∧ es.size = xs.length ∧
      ∀ (i : Nat) (x : NE), xs[i]? = some x → ∃ en : DictEntry, es[i]? = some en ∧ en.key = .ref x.2.1 := by
  obtain ⟨hd, ⟨z, ys, o', es, ep, r, ho, h1, h2, h3, h4⟩, _, _⟩ := I.hok d _ h
  rw [hd] at ho
  cases ho
  refine ⟨z, hd, h1, es, ep, h2, ?_, fun i x e => ?_⟩
  · rw [size_of_entries h3, r.len]
  · obtain ⟨u, hu⟩ := er_get r e
    have q := entry_at h3 i
    rw [hu] at q
    exact ⟨_, q, rfl⟩
end
def ItN (P : Program) (w : World) (d : Addr) (o : Obj) (xs : List NE) : It :=
  ⟨fun i H => H d = some (.frz o (DNest P w d xs)) ∧ i < xs.length, fun i H x H' => H' = H ∧ ∃ e : NE, xs[i]? = some e ∧ x = .ref e.2.1, fun i H => H d = some (.frz o (DNest P w d xs)) ∧ xs.length ≤ i⟩
section
variable {P : Program} {w : World} {K : PySem.W.Frag} {tg : Expr} {d : Addr} {o : Obj} {es : Array DictEntry} {ep : Nat}
theorem turn_keysN {xs : List NE} (it : Addr) (hod : o.data = .dict es ep) : Turn P w K tg (ItN P w d o xs) [it] it (fun i h => h.IsKeyIter it d i xs.length ep) where
  mem := by simp
  obj := fun i h st b hb => by
    have e : b = it := by simpa using hb
    subst e
    obtain ⟨oi, e, c, dd⟩ := st
    exact ⟨oi, e, fun v z => by rw [dd] at z; cases z⟩
  keep := fun i h h' st k => st.at fun oi e => k it (by simp) oi e
  item := by
    intro X hP hw hK hc i pins s σ H E I hf st hg
    subst hP hw hK
    obtain ⟨hd, hi⟩ := hg
    obtain ⟨f0, f1, f2, f3, f4, f5⟩ := hf it (by simp)
    obtain ⟨hs, hgd, hx, es', ep', hdt, hsz, ent⟩ := frzN I hd
    obtain ⟨rfl, rfl⟩ := dict_ep hod hdt
    obtain ⟨en, hen, hkey⟩ := ent i xs[i] (List.getElem?_eq_getElem hi)
    refine next_key_item st hgd hdt hsz hen fun h' st' sb => ?_
    have I1 : Inv X pins σ H { s with heap := h' } := I.turned (t' := s.toks) (fun b ob hb e => (sb.2 b hb).trans e) f0 f1 f3 f4 f5
    obtain ⟨oi, e, c, dd⟩ := id st'
    exact ⟨en.key, rfl, go_of (s := { s with heap := h' }) e c dd (by decide) ⟨.ref xs[i].2.1, H, I1, hkey, ⟨rfl, _, List.getElem?_eq_getElem hi, rfl⟩, st', fun b hb => (hf b hb).1⟩⟩
  done := by
    intro X hP hw hK hc i pins s σ H E I hf st hg
    subst hP hw hK
    obtain ⟨hd, hi⟩ := hg
    obtain ⟨f0, f1, f2, f3, f4, f5⟩ := hf it (by simp)
    obtain ⟨hs, hgd, hx, es', ep', hdt, hsz, ent⟩ := frzN I hd
    obtain ⟨rfl, rfl⟩ := dict_ep hod hdt
    exact next_key_end (I.ok.hd hc) st hgd hdt hsz hi fun h' eb => ⟨rfl, I.turned (t' := s.toks) (fun b ob hb e => eb b ob hb e) f0 f1 f3 f4 f5⟩
  self := fun A i s Q E st h => wpAny_pyIter_keyiter st h
end
def iKeysN (P : Program) (w : World) (td : TE) : TI := fun σ H R => td σ H fun x H1 => ∃ d o xs, x = .ref d ∧ H1 d = some (.frz o (DNest P w d xs)) ∧ R (ItN P w d o xs) H1
theorem pi_keysN {X : Cx} {P : Program} {w : World} {tg e : Expr} {td : TE} (hP : X.prog = P) (hw : X.w = w) (he : PE X e td) : PI X tg e (iKeysN P w td) := by
  subst hP hw
  refine ⟨fun pins s σ H R I h => ?_⟩
  refine thn (he.run pins s σ H _ I h) fun u s1 ⟨x, H1, I1, rx, d, o, xs, ex, hd, q⟩ => ?_
  subst ex
  obtain rfl : u = Value.ref d := rx
  obtain ⟨hs, hgd, hx, es, ep, hdt, hsz, ent⟩ := frzN I1 hd
  refine iter_keys hs hgd hx hdt (pi_one (tk := s1.toks) I1 _ (turn_keysN _ hdt) ⟨_, Heap.get?_push_size _ rfl, rfl, ?_⟩ q)
  rw [hsz] <;> rfl
/-! ### d[y], d locked or not; d[y] += n -/
def Rn (H : Hp) (P : Program) (w : World) (a : Addr) (xs : List NE) : Prop := H a = some (DNest P w a xs) ∨ ∃ o, H a = some (.frz o (DNest P w a xs))
theorem rn_get {X : Cx} {pins : List (Addr × Obj)} {σ : L2.St} {H : Hp} {s : Shared} {a : Addr} {xs : List NE} (I : Inv X pins σ H s) (e : Rn H X.prog X.w a xs) (hk : KeysAt X.K H xs) : (a == sysModules) = false ∧ ∃ ys, ER xs ys ∧ s.heap.DictOfH (nestedKind X.prog X.w) a ys := by
  rcases e with e | ⟨o, e⟩
  · exact dNest_get I e hk
  · obtain ⟨_, ⟨z, ys, o, es, ep, r, ho, h1, h2, h3, h4⟩, _, _⟩ := I.hok a _ e
    refine ⟨z, ys, r, o, es, ep, ho, h1, h2, h3, fun y hy => ?_, h4⟩
    obtain ⟨x, hx, e1, e2⟩ := r.mem y hy
    rw [← e1, ← e2]
    exact key_is I (hk x hx).1 (hk x hx).2
def rDGetR (P : Program) (w : World) (K : PySem.W.Frag) : R2 := fun x y H Q => ∃ (a b : Addr) (k : NestedKey) (xs : List NE) (v : V), x = .ref a ∧ y = .ref b ∧ Rn H P w a xs ∧ KeysAt K H xs ∧ Dp K H y k.data ∧ k.depth ≤ 8 ∧ atN xs k = some v ∧ Q v H
def tDGetR (P : Program) (w : World) (K : PySem.W.Frag) (td ty : TE) : TE := fun σ H Q => td σ H fun x H1 => ty σ H1 fun y H2 => rDGetR P w K x y H2 Q
section
variable {X : Cx} {P : Program} {w : World} {K : PySem.W.Frag} {o i e : Expr} {td ty te : TE} {pos tpos : Pos}
theorem pget_R (hP : X.prog = P) (hw : X.w = w) (hK : X.K = K) (hu : X.A.units + 64 < cLine) : PGet X (rDGetR P w K) := by
  subst hP hw hK
  intro pins s σ H ov iv u v Q I rx ry h
  obtain ⟨a, b, k, xs, v', rfl, rfl, hd, hk, dk, hdp, hv, q2⟩ := h
  cases rx
  cases ry
  obtain ⟨z, ys, er, m⟩ := rn_get I hd hk
  rcases er.at (k := k) with ⟨e1, e2⟩ | ⟨v'', a', u', e1, e2, r⟩
  · rw [hv] at e1; cases e1
  · rw [hv] at e1
    have := Option.some.inj e1
    subst this
    exact wpAny_getItem_heap (show X.A.in1.units + 8 < cLine from by rw [Around.in1_units]; omega) (key_is I dk hdp) m e2 ⟨v', H, I.tok _, r, q2⟩
theorem pe_dgetR (hP : X.prog = P) (hw : X.w = w) (hK : X.K = K) (hu : X.A.units + 64 < cLine) (ho : PE X o td) (hi : PE X i ty) (hs : NoSl i) : PE X (.Subscript o i pos) (tDGetR P w K td ty) := by
  subst hP hw hK
  refine ⟨fun pins s σ H Q I h => ?_⟩
  refine subD_of PySem.F.slot_dict_getitem.lookup hs (thn (ho.run pins s σ H _ I h) fun u s1 ⟨x, H1, I1, rx, q1⟩ => thn (hi.run pins s1 σ H1 _ I1 q1) fun iv s2 ⟨y, H2, I2, ry, q2⟩ => ?_)
  obtain ⟨a, b, k, xs, v, ex, ey, hd, hk, dk, hdp, hv, q3⟩ := id q2
  subst ex
  cases rx
  obtain ⟨z, ys, er, m⟩ := rn_get I2 hd hk
  exact ⟨m.typeIs, pget_R rfl rfl rfl hu pins s2 σ H2 (.ref a) _ (.ref a) _ Q I2 (show L2.RelV (.ref a) (.ref a) from rfl) ry q2⟩
def rDPutM (P : Program) (w : World) (K : PySem.W.Frag) : TSet := fun x y v H Q => ∃ (a b : Addr) (k : NestedKey) (xs : List NE),
  x = .ref a ∧ y = .ref b ∧ H a = some (DNest P w a xs) ∧ KeysAt K H xs ∧ Dp K H y k.data ∧ k.depth ≤ 8 ∧ xs.length ≤ sizeLine ∧ Q (upd H a (DNest P w a (putN xs k b v)))
theorem pset_M (hP : X.prog = P) (hw : X.w = w) (hK : X.K = K) (hu : X.A.units + 64 < cLine) : PSet X (rDPutM P w K) := by
  subst hP hw hK
  intro pins s σ H x y v ov iv u Q I rx ry rv h
  obtain ⟨a, b, k, xs, rfl, rfl, hd, hk, dk, hdp, hz, q3⟩ := h
  cases rx
  cases ry
  obtain ⟨z, ys, er, m⟩ := dNest_get I hd hk
  refine wpAny_setItem_heap (hsz := by rw [er.len]; exact hz) (show X.A.in1.units + 8 < cLine from by rw [Around.in1_units]; omega) (key_is I dk hdp) m fun h' m' hs' => ?_
  have he : ∃ q, h'.get? a = some q := by
    obtain ⟨q, _, _, hq, _⟩ := m'
    exact ⟨q, hq⟩
  exact ⟨_, I.write (x := a) (e := a) (by rw [hd]; trivial) (.inl rfl) (fun b q hb e => (hs'.2 b hb).trans e) he (dNest_ok z (er.put rv) m'), q3⟩
/-- d[y] += n -/
theorem ps_daugM (hP : X.prog = P) (hw : X.w = w) (hK : X.K = K) (hu : X.A.units + 64 < cLine) (ho : PE X o td) (hi : PE X i ty) (he : PE X e te)
    (ha : ∀ ov iv new, augStore i ov iv new = (do holding [new, ov, iv] (setItem ov iv new); release [new, ov, iv] []; pure .next) := by intros; rfl) :
    PS X (.AugAssign (.Subscript o i tpos) .Add e pos) (tAugS td ty te (rDGetR P w K) (ipI fun i j => i + j) (rDPutM P w K)) := ps_augS ho hi (pget_R hP hw hK hu) he ip_add (pset_M hP hw hK hu) ha
end
end Zd

set_option Elab.async false
set_option maxRecDepth 100000
set_option maxHeartbeats 4000000
/-! Zd50: a dict with nested keys whose keys are data too: {}, in, d[y] = v, d[y] += n, a walk over it; xs.append(ys.pop(0)); isinstance of a bool. -/
namespace Zd
open PySem PySem.Spec PyProof.Rows L2
section
variable {α : Type} {c : Bs} {δ : Fe} {te ta tb ty : TE} {ts : TS} {p : Po} {P : Program} {w : World} {K : PySem.W.Frag} {kf : α → NestedKey} {df : α → Dt} {es : List α} {ds : List Dt}
def DN2 (P : Program) (w : World) (kf : α → NestedKey) (df : α → Dt) (es : List α) (ds : List Dt) : Hp → Addr → HO → Prop := fun G a o => ∃ xs : List NE, o = DNest P w a xs ∧ xs.map (·.1) = es.map kf ∧ Dqs G (xs.map fun x => V.ref x.2.1) (es.map df) ∧ Dqs G (xs.map (·.2.2)) ds
theorem DN2.len {G : Hp} {xs : List NE} (h : xs.map (·.1) = es.map kf) : xs.length = es.length := by
  have := congrArg List.length h
  simpa using this
theorem dn2_keys {G : Hp} {xs : List NE} (hk : ∀ a, NKey K (df a) (kf a)) (h1 : xs.map (·.1) = es.map kf) (h2 : Dqs G (xs.map fun x => V.ref x.2.1) (es.map df)) : ∀ x ∈ xs, x.1.depth ≤ 8 ∧ ∃ dk, Dq G (.ref x.2.1) dk ∧ Pd K dk x.1.data := fun x hx => by
  obtain ⟨i, hi⟩ := List.getElem?_of_mem hx
  have e1 : (xs.map (·.1))[i]? = some x.1 := by rw [List.getElem?_map, hi]; rfl
  rw [h1, List.getElem?_map] at e1
  cases ha : es[i]? with
  | none => rw [ha] at e1; cases e1
  | some a =>
    rw [ha] at e1
    have e2 : kf a = x.1 := Option.some.inj e1
    obtain ⟨d, hd, dq⟩ := h2.get' (i := i) (v := .ref x.2.1) (by rw [List.getElem?_map, hi]; rfl)
    rw [List.getElem?_map, ha] at hd
    have e3 : df a = d := Option.some.inj hd
    rw [← e2]
    exact ⟨(hk a).d, d, dq, by rw [← e3]; exact (hk a).p⟩
theorem dn2_nst {G : Hp} {a : Addr} {o : HO} (hk : ∀ a, NKey K (df a) (kf a)) (h : DN2 P w kf df es ds G a o) : DNst P w K (es.map kf) ds G a o := by
  obtain ⟨xs, h1, h2, h3, h4⟩ := h
  exact ⟨xs, h1, h2, dn2_keys hk h2 h3, h4⟩
theorem nst2 {i : Nat} (hk : ∀ a, NKey K (df a) (kf a)) (h : δ[i]? = some (.obj (DN2 P w kf df es ds))) : NstAt P w K c δ i (es.map kf) ds := fun σ G H e => by
  obtain ⟨a, o, e1, h1, h2, h3, h4⟩ := e.sl i _ h
  exact ⟨a, o, e1, h1, dn2_nst hk (h4.1 G (Same.refl _))⟩
/-- x = {} -/
theorem ds_let20 {i : Nat} (q : Ds c ts (δ.set i (.obj (DN2 P w kf df [] []))) p) : Ds c (tSeq (tAsg (tDNest P w) (gName i)) ts) δ p :=
  ds_seq (M := (· = δ.set i (.obj (DN2 P w kf df [] [])))) (fun D σ G H e n r b k => fun a ha =>
    n _ _ G _ (Same.refl G) ((e.up (Gx.put e.same e.jj ha)).setOwn i (.obj (DN2 P w kf df [] [])) (fun k y hk oy sk => e.noSlot ha k y hk oy sk) fun hlt =>
      ⟨a, _, List.getElem?_set_self (by rw [e.len]; exact hlt), upd_same, (by
        cases k : G a with
        | none => rfl
        | some u => rw [e.same a u k] at ha; cases ha), e.gx.fresh e.j0 ha, (fun _ _ => ⟨[], rfl, rfl, Dqs.nil, Dqs.nil⟩), fun _ z => nomatch z⟩) rfl) fun δ' e => by rw [e]; exact q
/-- d[y] = v, y a new key -/
theorem ds_put2 {i : Nat} {a : α} {d : Dt} (hk : ∀ a, NKey K (df a) (kf a)) (h : δ[i]? = some (.obj (DN2 P w kf df es ds))) (hv : De c tb δ d) (hy : De c ty δ (df a)) (hn : kf a ∉ es.map kf) (hl : es.length ≤ 10000000) (q : p.N (δ.set i (.obj (DN2 P w kf df (es ++ [a]) (ds ++ [d]))))) : Ds c (sDPutM P w K (tVar i) ty tb) δ p := fun D σ G H e n r bb kk => by
  refine hv σ G H e _ fun v dv G1 H1 g1 d1 p1 => ?_
  subst p1
  obtain ⟨x, o, e1, _⟩ := (e.up g1).sl i _ h
  refine ⟨.ref x, e1, hy σ G1 H1 (e.up g1) _ fun y dy G2 H2 g2 d2 p2 => ?_⟩
  subst p2
  have e2 := (e.up g1).up g2
  obtain ⟨x', o', e1', h1', h2', h3', h4'⟩ := e2.sl i _ h
  rw [e1] at e1'
  have ea := V.ref.inj (Option.some.inj (Option.some.inj e1'))
  subst ea
  obtain ⟨xs, rfl, hks, hx, hxv⟩ := h4'.1 G2 (Same.refl _)
  obtain ⟨b, rfl⟩ := (hk a).ref d2
  have hlen : xs.length = es.length := by
    have := congrArg List.length hks
    simpa using this
  have no : (atN xs (kf a)).isSome = false := by rw [atN_some, hks]; exact decide_eq_false hn
  have ep : putN xs (kf a) b v = xs ++ [(kf a, b, v)] := by unfold putN; rw [if_neg (by rw [no]; decide)]
  refine ⟨x, b, kf a, xs, rfl, rfl, h1', keys_at e2.same (dn2_keys hk hks hx), (hk a).p.dp e2.same d2, (hk a).d, sz_ok (by omega), ?_⟩
  rw [ep]
  refine n _ _ G2 _ (g1.gg.trans g2.gg) (e2.pokeO h e1 fun G' s' => ⟨_, rfl, ?_, ?_, ?_⟩) q
  · rw [List.map_append, hks, List.map_append]; rfl
  · rw [List.map_append, List.map_append]
    exact (hx.up s').append (.cons (d2.up s') .nil)
  · rw [List.map_append]
    exact (hxv.up s').append (.cons ((d1.up g2.gg).up s') .nil)
theorem putN_set {k : NestedKey} {v : V} : ∀ {xs : List NE} {j : Nat} {x : NE}, (xs.map (·.1)).Nodup → xs[j]? = some x → x.1 = k → xs.map (fun x => if x.1 = k then (x.1, x.2.1, v) else x) = xs.set j (k, x.2.1, v)
  | [], j, x, _, h, _ => by simp at h
  | y :: r, 0, x, nd, h, e => by
    have := Option.some.inj h
    subst this
    rw [List.map_cons, if_pos e, e]
    obtain ⟨n1, n2⟩ := List.nodup_cons.mp nd
    have : r.map (fun x => if x.1 = k then (x.1, x.2.1, v) else x) = r := by
      conv => rhs; rw [← List.map_id r]
      refine List.map_congr_left fun z hz => ?_
      rw [if_neg fun ez => n1 (by show y.1 ∈ _; rw [e, ← ez]; exact List.mem_map.mpr ⟨z, hz, rfl⟩)]
      rfl
    rw [this]
    rfl
  | y :: r, j + 1, x, nd, h, e => by
    obtain ⟨n1, n2⟩ := List.nodup_cons.mp nd
    have h : r[j]? = some x := h
    have ne : ¬ y.1 = k := fun ez => n1 (by show y.1 ∈ _; rw [ez, ← e]; exact List.mem_map.mpr ⟨x, List.mem_of_getElem? h, rfl⟩)
    rw [List.map_cons, if_neg ne, putN_set n2 h e]
    rfl
theorem map_set_same {β : Type} {f : NE → β} : ∀ {xs : List NE} {j : Nat} {x y : NE}, xs[j]? = some x → f y = f x → (xs.set j y).map f = xs.map f
  | [], j, x, y, h, _ => by simp at h
  | z :: r, 0, x, y, h, e => by
    have := Option.some.inj h
    subst this
    show f y :: r.map f = f z :: r.map f
    rw [e]
  | z :: r, j + 1, x, y, h, e => by
    show f z :: (r.set j y).map f = f z :: r.map f
    rw [map_set_same (show r[j]? = some x from h) e]
theorem map_set_at {β : Type} {f : NE → β} : ∀ {xs : List NE} {j : Nat} {y : NE}, (xs.set j y).map f = (xs.map f).set j (f y)
  | [], j, y => rfl
  | z :: r, 0, y => rfl
  | z :: r, j + 1, y => congrArg (f z :: ·) map_set_at
/-- d[y] += n, y a key of an int -/
theorem ds_aug2 {i j : Nat} {a : α} {m n' : Int} (hk : ∀ a, NKey K (df a) (kf a)) (nd : (es.map kf).Nodup) (h : δ[i]? = some (.obj (DN2 P w kf df es ds))) (hy : De c ty δ (df a)) (ha : es[j]? = some a) (hm : ds[j]? = some (.int m)) (he : De c te δ (.int n')) (hl : es.length ≤ 10000000) (q : p.N (δ.set i (.obj (DN2 P w kf df es (ds.set j (.int (m + n'))))))) :
    Ds c (tAugS (tVar i) ty te (rDGetR P w K) (ipI fun i j => i + j) (rDPutM P w K)) δ p := fun D σ G H e n r bb kk => by
  obtain ⟨x, o, e1, _⟩ := e.sl i _ h
  refine ⟨.ref x, e1, hy σ G H e _ fun y dy G2 H2 g2 d2 p2 => ?_⟩
  subst p2
  have e2 := e.up g2
  obtain ⟨x', o', e1', h1', h2', h3', h4'⟩ := e2.sl i _ h
  rw [e1] at e1'
  have ea := V.ref.inj (Option.some.inj (Option.some.inj e1'))
  subst ea
  obtain ⟨xs, rfl, hks, hx, hxv⟩ := h4'.1 G2 (Same.refl _)
  obtain ⟨b, rfl⟩ := (hk a).ref d2
  have nd' : (xs.map (·.1)).Nodup := by rw [hks]; exact nd
  have hlen : xs.length = es.length := by
    have := congrArg List.length hks
    simpa using this
  obtain ⟨z, hj, hat⟩ := atN_get nd' (k := kf a) (j := j) (by rw [hks, List.getElem?_map, ha]; rfl)
  have hz1 : z.1 = kf a := by
    have : (xs.map (·.1))[j]? = some z.1 := by rw [List.getElem?_map, hj]; rfl
    rw [hks, List.getElem?_map, ha] at this
    exact (Option.some.inj this).symm
  obtain ⟨v, hv1, hv2⟩ := hxv.get hm
  have ev : v = z.2.2 := by
    rw [List.getElem?_map, hj] at hv1
    exact (Option.some.inj hv1).symm
  subst ev
  have ev2 : z.2.2 = .int m := by
    generalize z.2.2 = u at hv2
    cases hv2; rfl
  refine ⟨x, b, kf a, xs, .int m, rfl, rfl, .inl h1', keys_at e2.same (dn2_keys hk hks hx), (hk a).p.dp e2.same d2, (hk a).d, by rw [hat, ev2], ?_⟩
  refine he σ G2 H2 e2 _ fun u du G4 H4 g4 d4 p4 => ?_
  subst p4
  cases d4
  refine ⟨m, n', rfl, rfl, ?_⟩
  have e4 := e2.up g4
  obtain ⟨x', o', e1', h1', h2', h3', h4'⟩ := e4.sl i _ h
  rw [e1] at e1'
  have ea := V.ref.inj (Option.some.inj (Option.some.inj e1'))
  subst ea
  obtain ⟨ys, rfl, hks, hx, hxv⟩ := h4'.1 G4 (Same.refl _)
  have nd' : (ys.map (·.1)).Nodup := by rw [hks]; exact nd
  have hlen : ys.length = es.length := by
    have := congrArg List.length hks
    simpa using this
  obtain ⟨z, hj, hat⟩ := atN_get nd' (k := kf a) (j := j) (by rw [hks, List.getElem?_map, ha]; rfl)
  have hz1 : z.1 = kf a := by
    have : (ys.map (·.1))[j]? = some z.1 := by rw [List.getElem?_map, hj]; rfl
    rw [hks, List.getElem?_map, ha] at this
    exact (Option.some.inj this).symm
  have d2' := d2.up g4.gg
  refine ⟨x, b, kf a, ys, rfl, rfl, h1', keys_at e4.same (dn2_keys hk hks hx), (hk a).p.dp e4.same d2', (hk a).d, sz_ok (by omega), ?_⟩
  have ep : putN ys (kf a) b (.int (m + n')) = ys.set j (kf a, z.2.1, .int (m + n')) := by
    unfold putN
    rw [if_pos (by rw [hat]; rfl)]
    exact putN_set nd' hj hz1
  rw [ep]
  refine n _ _ G4 _ (g2.gg.trans g4.gg) (e4.pokeO h e1 fun G' s' => ⟨_, rfl, ?_, ?_, ?_⟩) q
  · rw [show (ys.set j (kf a, z.2.1, V.int (m + n'))).map (·.1) = ys.map (·.1) from map_set_same hj hz1.symm, hks]
  · rw [show (ys.set j (kf a, z.2.1, V.int (m + n'))).map (fun x => V.ref x.2.1) = ys.map (fun x => V.ref x.2.1) from map_set_same hj rfl]
    exact hx.up s'
  · rw [map_set_at]
    exact dqs_set j (hxv.up s') (.int _)
/-! ### locked, walked -/
def DF2 (P : Program) (w : World) (od : Obj) (kf : α → NestedKey) (df : α → Dt) (es : List α) (ds : List Dt) : Hp → Addr → HO → Prop := fun G a o => ∃ u, o = .frz od u ∧ DN2 P w kf df es ds G a u
theorem dl_lock {i : Nat} {S : List Dt → Prop} (h : δ[i]? = some (.obj (DN2 P w kf df es ds))) (k : ∀ od, Dl c te (δ.set i (.obj (DF2 P w od kf df es ds))) S) : Dl c (tLockE te) δ S := fun σ G H e Q q => by
  obtain ⟨a, o, e1, h1, h2, h3, h4, h5⟩ := e.sl i _ h
  obtain ⟨xs, rfl, hxs⟩ := h4 G (Same.refl _)
  have nS : ¬ c.b.S a := fun s => c.b.hs _ _ e.j0 s h3
  refine ⟨a, _, h1, trivial, fun od => ?_⟩
  have e' := e.pokeO (Ψ := DF2 P w od kf df es ds) (o := .frz od (DNest P w a xs)) h e1 (fun G' s' => ⟨_, rfl, h4 G' s'⟩)
  refine k od σ G _ e' _ fun p vs ds' G' H' g k1 k2 k3 k4 k5 => ?_
  have ha : H' a = some (.frz od (DNest P w a xs)) := g.hh a _ nS upd_same
  have pa : p ≠ a := fun z => by rw [z, upd_same] at k1; cases k1
  have gna : G' a = none := by
    cases z : G' a with
    | none => rfl
    | some u =>
      rcases g.nw a (by rw [z]; simp) with y | y | ⟨ys, y⟩
      · exact absurd h2 y
      · rw [upd_same] at y; cases y
      · rw [upd_same] at y; cases y
  refine ⟨ha, q p vs ds' G' _ ⟨g.gg, fun b x sb hb => ?_, fun b x hb => ?_, fun b hb => ?_, ?_⟩ ?_ k2 (by rw [upd_ne pa]; exact k3) k4 k5⟩
  · by_cases z : b = a
    · subst z
      rw [upd_same, ← hb, h1]
    · rw [upd_ne z]
      exact g.hh b x sb (by rw [upd_ne z]; exact hb)
  · rw [upd_ne (ne_of_none hb gna)]
    exact g.gh b x hb
  · have z : b ≠ a := fun z => hb (by rw [z]; exact gna)
    rcases g.nw b hb with y | y | ⟨ys, y⟩
    · exact .inl y
    · rw [upd_ne z] at y; exact .inr (.inl y)
    · rw [upd_ne z] at y; exact .inr (.inr ⟨ys, y⟩)
  · exact c.b.st _ _ g.jj fun b sb => upd_ne fun z => nS (by rw [← z]; exact sb)
  · rw [upd_ne pa] at k1; exact k1
/-- J walks things that stand for xs, from (G, H) on; it changes nothing -/
def ItOk2 (b : Bx) (J : It) (G H : Hp) (xs : List Dt) : Prop := ∀ (i : Nat) (G1 H1 : Hp), Gx b G H G1 H1 →
  (i < xs.length → J.go i H1 ∧ ∀ x H', J.yld i H1 x H' → ∃ d, xs[i]? = some d ∧ H' = H1 ∧ Dq G1 x d) ∧ (xs.length ≤ i → J.stop i H1)
def Di2 (c : Bs) (wi : TI) (δ : Fe) (xs : List Dt) : Prop := ∀ (σ : L2.St) (G H : Hp), Ec c G H σ δ → ∀ R : It → Hp → Prop, (∀ J G' H', Gx c.b G H G' H' → ItOk2 c.b J G' H' xs → R J H') → wi σ H R
/-- for y in d, d locked -/
theorem di_keys2 {i : Nat} {od : Obj} (h : δ[i]? = some (.obj (DF2 P w od kf df es ds))) : Di2 c (iKeysN P w (tVar i)) δ (es.map df) := fun σ G H e R q => by
  obtain ⟨a, o, e1, h1, h2, h3, h4, h5⟩ := e.sl i _ h
  obtain ⟨u, rfl, xs, rfl, k1, k2, k3⟩ := h4 G (Same.refl _)
  have nS : ¬ c.b.S a := fun s => c.b.hs _ _ e.j0 s h3
  have hl : xs.length = es.length := by
    have := congrArg List.length k1
    simpa using this
  refine ⟨.ref a, e1, a, od, xs, rfl, h1, q _ G H (Gx.refl e.same e.jj) fun i G1 H1 g => ?_⟩
  have ha := g.hh a _ nS h1
  rw [List.length_map]
  refine ⟨fun hi => ⟨⟨ha, by omega⟩, fun x H' hy => ?_⟩, fun hi => ⟨ha, by omega⟩⟩
  obtain ⟨rfl, z, hz, rfl⟩ := hy
  obtain ⟨d, hd, dq⟩ := (k2.up g.gg).get' (i := i) (v := .ref z.2.1) (by rw [List.getElem?_map, hz]; rfl)
  exact ⟨d, hd, rfl, dq⟩
/-- [e for g in wi], by the places -/
theorem dl_lcN {wi : TI} {g : TG} {vs : List Nat} {xs : List Dt} (f : Nat → Dt) (hw : Di2 c wi δ xs) (hlen : xs.length ≤ 10000000)
    (h : ∀ i d, xs[i]? = some d → Dg c g d (wipeF δ vs) vs (fun δ2 => De c te δ2 (f i))) : Dl c (tLc wi g tYes te vs) δ (· = (List.range xs.length).map f) := fun σ G H e Q q => by
  refine hw σ G H e _ fun J G1 H1 g1 ok => ?_
  intro D hD
  have hD0 : H D = none := g1.fresh e.jj hD
  have e1 := e.up g1
  have gD1 : G1 D = none := by
    cases k : G1 D with
    | none => rfl
    | some u => rw [g1.gh D u k] at hD; cases hD
  have notS : ¬ c.b.S D := fun s => c.b.hs _ _ g1.jj s hD
  let W : Nat → Nat → Hp → Prop := fun i m Hi => m = xs.length - i ∧ i ≤ xs.length ∧ ∃ Gi ws, Gx c.b G1 H1 Gi Hi ∧ Hi D = some (.lst ws) ∧ Gi D = none ∧ Dqs Gi ws ((List.range i).map f)
  refine ⟨W, ⟨xs.length, by simp, Nat.zero_le _, G1, [], Gx.put g1.gh g1.jj hD, upd_same, gD1, .nil⟩, ?_⟩
  rintro i m Hi ⟨rfl, hi, Gi, ws, gi, hDi, gDi, da⟩
  obtain ⟨okgo, okstop⟩ := ok i Gi Hi gi
  by_cases hlt : i < xs.length
  · obtain ⟨go, step⟩ := okgo hlt
    refine .inr ⟨go, fun H' => ∃ Gi' ws', Gx c.b G1 H1 Gi' H' ∧ H' D = some (.lst ws') ∧ Gi' D = none ∧ Dqs Gi' ws' ((List.range (i + 1)).map f), fun H' hn => ?_, fun x H' hy => ?_⟩
    · exact ⟨xs.length - (i + 1), by omega, rfl, hlt, hn⟩
    · obtain ⟨d, hd, rfl, dx⟩ := step x H' hy
      have e2 := (e1.up gi).wipe vs
      have keepD : ∀ {Ga Ha Gb Hb : Hp} {ws : List V}, Gx c.b Ga Ha Gb Hb → Ha D = some (.lst ws) → Ga D = none → Hb D = some (.lst ws) ∧ Gb D = none := fun {Ga Ha Gb Hb ws} gg hh nn => ⟨gg.hh D _ notS hh, by
        cases k : Gb D with
        | none => rfl
        | some u =>
          rcases gg.nw D (by rw [k]; simp) with z | z | ⟨_, z⟩
          · exact absurd nn z
          · rw [hh] at z; cases z
          · rw [hh] at z; cases z⟩
      refine h i d hd (L2.wipe σ vs) Gi H' x e2 dx _ fun δ3 σ3 G3 H3 e3 g3 w3 k3 => ?_
      obtain ⟨hD3, gD3⟩ := keepD g3 hDi gDi
      refine ⟨by rw [w3, wipe_wipe], ?_⟩
      refine dt_yes σ3 G3 H3 e3 _ fun k G4 H4 g4 p4 => ?_
      subst p4
      rw [if_pos rfl]
      obtain ⟨hD4, gD4⟩ := keepD g4 hD3 gD3
      refine k3 σ3 G4 H4 (e3.up g4) _ fun y dy G5 H5 g5 dqy iy => ?_
      subst iy
      obtain ⟨hD5, gD5⟩ := keepD g5 hD4 gD4
      have gx := ((gi.trans e1.jj g3).trans e1.jj g4).trans e1.jj g5
      refine ⟨ws, hD5, sz_lt' ?_, G5, ws ++ [y], Gx.poke e1.jj gx hD gD5, upd_same, gD5, ?_⟩
      · rw [da.length, List.length_map, List.length_range]; omega
      · rw [List.range_succ, List.map_append]
        exact (da.up ((g3.gg.trans g4.gg).trans g5.gg)).append (.cons dqy .nil)
  · have ei : i = xs.length := by omega
    subst ei
    exact .inl ⟨okstop (Nat.le_refl _), q D ws _ Gi Hi (g1.trans e.jj gi) hD0 gDi hDi da rfl⟩
/-- d[y] -/
theorem de_get2 {i j : Nat} {a : α} {d : Dt} (hk : ∀ a, NKey K (df a) (kf a)) (nd : (es.map kf).Nodup) (h : δ[i]? = some (.obj (DN2 P w kf df es ds)) ∨ ∃ od, δ[i]? = some (.obj (DF2 P w od kf df es ds))) (hy : De c ty δ (df a)) (ha : es[j]? = some a) (hd : ds[j]? = some d) : De c (tDGetR P w K (tVar i) ty) δ d := fun σ G H e Q q => by
  have at_ : ∀ {G H : Hp}, Ec c G H σ δ → ∃ x xs, σ[i]? = some (some (V.ref x)) ∧ Rn H P w x xs ∧ xs.map (·.1) = es.map kf ∧ Dqs G (xs.map fun x => V.ref x.2.1) (es.map df) ∧ Dqs G (xs.map (·.2.2)) ds := fun {G H} e => by
    rcases h with h | ⟨od, h⟩
    · obtain ⟨x, o, e1, h1, h2, h3, h4, h5⟩ := e.sl i _ h
      obtain ⟨xs, rfl, k1, k2, k3⟩ := h4 G (Same.refl _)
      exact ⟨x, xs, e1, .inl h1, k1, k2, k3⟩
    · obtain ⟨x, o, e1, h1, h2, h3, h4, h5⟩ := e.sl i _ h
      obtain ⟨u, rfl, xs, rfl, k1, k2, k3⟩ := h4 G (Same.refl _)
      exact ⟨x, xs, e1, .inr ⟨_, h1⟩, k1, k2, k3⟩
  obtain ⟨x, _, e1, _⟩ := at_ e
  refine ⟨.ref x, e1, hy σ G H e _ fun y dy G2 H2 g2 dq p2 => ?_⟩
  subst p2
  obtain ⟨x', xs, e1', hr, hks, hx, hv⟩ := at_ (e.up g2)
  rw [e1] at e1'
  have ea := V.ref.inj (Option.some.inj (Option.some.inj e1'))
  subst ea
  obtain ⟨b, rfl⟩ := (hk a).ref dq
  obtain ⟨z, hj, hat⟩ := atN_get (xs := xs) (by rw [hks]; exact nd) (k := kf a) (j := j) (by rw [hks, List.getElem?_map, ha]; rfl)
  obtain ⟨v, hv1, hv2⟩ := hv.get hd
  have ev : v = z.2.2 := by
    rw [List.getElem?_map, hj] at hv1
    exact (Option.some.inj hv1).symm
  subst ev
  exact ⟨x, b, kf a, xs, z.2.2, rfl, rfl, hr, keys_at (e.up g2).same (dn2_keys hk hks hx), (hk a).p.dp (e.up g2).same dq, (hk a).d, hat, q _ _ G2 H2 g2 hv2 rfl⟩
end
/-! ### xs.append(ys.pop(0)) -/
section
variable {K : PySem.W.Frag} {c : Bs} {δ : Fe} {te : TE} {p : Po}
theorem ds_appPop {i j : Nat} {xs rest : List Dt} {d : Dt} (hij : i ≠ j) (hi : δ[i]? = some (.own xs)) (hj : δ[j]? = some (.own (d :: rest))) (hl : xs.length < 10000000) (k : p.N ((δ.set j (.own rest)).set i (.own (xs ++ [d])))) :
    Ds c (tDrop (tBM K "list" rAppend (tVar i) (tCons (tBM K "list" rPopAt (tVar j) (tCons (tC (.int 0)) tNil)) tNil))) δ p := fun D σ G H e n r b q => by
  obtain ⟨a, vs, e1, h1, h2, h3, h4⟩ := e.sl i _ hi
  obtain ⟨b', us, f1, g1, g2, g3, g4⟩ := e.sl j _ hj
  have ab : a ≠ b' := fun z => hij (e.apart i j _ _ a hi hj rfl rfl e1 (by rw [z]; exact f1))
  refine ⟨.ref a, e1, .inl ⟨rfl, _, SqL.of h1⟩, ?_⟩
  refine ⟨.ref b', f1, .inl ⟨rfl, _, SqL.of g1⟩, ?_⟩
  cases g4 with
  | cons u1 u2 =>
    rename_i u us
    refine ⟨b', u :: us, 0, 0, u, rfl, rfl, g1, by decide, by decide, by unfold seqIndex?; simp, rfl, ?_⟩
    have e2 := e.poke hj f1 u2
    refine ⟨a, vs, u, rfl, rfl, by rw [upd_ne ab]; exact h1, sz_lt' (by rw [h4.length]; omega), ?_⟩
    exact n _ _ G _ (Same.refl G) (e2.poke (i := i) (ds := xs) (by rw [List.getElem?_set_ne (Ne.symm hij)]; exact hi) e1 (h4.append (.cons u1 .nil))) k
end
end Zd

set_option Elab.async false
set_option maxRecDepth 100000
set_option maxHeartbeats 4000000
/-! Zd51: a dict of texts to lists of the body's own, which the body grows. -/
namespace Zd
open PySem PySem.Spec PyProof.Rows L2
def kvZ (ns : List Str) (as : List Addr) : List (Key × V) := (ns.zip as).map fun x => (Sum.inr x.1, V.ref x.2)
theorem kvZ_app {ns ms : List Str} {as bs : List Addr} (h : ns.length = as.length) : kvZ (ns ++ ms) (as ++ bs) = kvZ ns as ++ kvZ ms bs := by
  unfold kvZ
  rw [List.zip_append h, List.map_append]
theorem kvZ_keys : ∀ {ns : List Str} {as : List Addr}, ns.length = as.length → (kvZ ns as).map (·.1) = ns.map Sum.inr
  | [], [], _ => rfl
  | n :: ns, a :: as, h => congrArg (Sum.inr n :: ·) (kvZ_keys (Nat.succ.inj h))
theorem kvZ_val {n : Str} : ∀ {ns : List Str} {as : List Addr} {j : Nat} {a : Addr}, ns.Nodup → ns[j]? = some n → as[j]? = some a → valV (kvZ ns as) (Sum.inr n) = some (.ref a)
  | [], as, j, a, _, h, _ => by simp at h
  | m :: ns, [], j, a, _, _, h => by simp at h
  | m :: ns, b :: as, 0, a, nd, h1, h2 => by
    have e1 := Option.some.inj h1
    have e2 := Option.some.inj h2
    subst e1 e2
    unfold valV kvZ
    rw [List.zip_cons_cons, List.map_cons, List.find?_cons_of_pos (by simp)]
    rfl
  | m :: ns, b :: as, j + 1, a, nd, h1, h2 => by
    obtain ⟨n1, n2⟩ := List.nodup_cons.mp nd
    have h1 : ns[j]? = some n := h1
    have h2 : as[j]? = some a := h2
    have ne : ¬ m = n := fun z => n1 (by rw [z]; exact List.mem_of_getElem? h1)
    have ih := kvZ_val n2 h1 h2
    unfold valV kvZ at ih ⊢
    rw [List.zip_cons_cons, List.map_cons, List.find?_cons_of_neg (by simpa using ne)]
    exact ih
theorem putK_new {kvs : List (Key × V)} {n : Str} {v : V} (h : Sum.inr n ∉ kvs.map (·.1)) : putK kvs (Sum.inr n) v = kvs ++ [(Sum.inr n, v)] := by
  unfold putK
  rw [if_neg]
  intro z
  obtain ⟨x, hx, ex⟩ := List.any_eq_true.mp z
  exact h (by rw [← of_decide_eq_true ex]; exact List.mem_map.mpr ⟨x, hx, rfl⟩)
/-- the dict at p of the texts ns, whose lists stand at as and hold ps -/
structure LL (c : Bs) (ns : List Str) (as : List Addr) (p : Addr) (ps : List (List Dt)) (G H : Hp) : Prop where
  hp : H p = some (.dK (kvZ ns as))
  gp : G p = none
  ep : c.H0 p = none
  la : as.length = ns.length
  lp : ps.length = ns.length
  nd : as.Nodup
  np : p ∉ as
  el : ∀ (j : Nat) (a : Addr) (ds : List Dt), as[j]? = some a → ps[j]? = some ds → ∃ vs, H a = some (.lst vs) ∧ G a = none ∧ c.H0 a = none ∧ Dqs G vs ds
section
variable {c : Bs} {δ : Fe} {te ta tb tk tv : TE} {ts tu : TS} {ns : List Str} {as : List Addr} {p : Addr} {ps : List (List Dt)} {K : PySem.W.Frag}
theorem own_stay {c : Bs} {G0 H0 G H G' H' : Hp} {a : Addr} {o : HO} (j : c.b.J c.H0) (g : Gx c.b G H G' H') (h : H a = some o) (hn : ∀ xs, o ≠ .tup xs) (n : G a = none) (e : c.H0 a = none) : H' a = some o ∧ G' a = none := ⟨g.hh a o (fun s => c.b.hs _ _ j s e) h, by
  cases k : G' a with
  | none => rfl
  | some u =>
    rcases g.nw a (by rw [k]; simp) with z | z | ⟨xs, z⟩
    · exact absurd n z
    · rw [h] at z; cases z
    · rw [h] at z; exact absurd (Option.some.inj z) (hn xs)⟩
theorem LL.up {G H G' H' : Hp} (j : c.b.J c.H0) (l : LL c ns as p ps G H) (g : Gx c.b G H G' H') : LL c ns as p ps G' H' := by
  obtain ⟨a1, a2⟩ := own_stay (G0 := G) (H0 := H) j g l.hp (fun _ z => nomatch z) l.gp l.ep
  refine ⟨a1, a2, l.ep, l.la, l.lp, l.nd, l.np, fun i a ds h1 h2 => ?_⟩
  obtain ⟨vs, k1, k2, k3, k4⟩ := l.el i a ds h1 h2
  obtain ⟨b1, b2⟩ := own_stay (G0 := G) (H0 := H) j g k1 (fun _ z => nomatch z) k2 k3
  exact ⟨vs, b1, b2, k3, k4.up g.gg⟩
/-- what a statement does while such a dict is known -/
def Dx (c : Bs) (ns : List Str) (as : List Addr) (p : Addr) (ts : TS) (δ : Fe) (ps : List (List Dt)) (N : Fe → List (List Dt) → Prop) (R : Dt → Prop) : Prop := ∀ (D : Ends) (σ : L2.St) (G H : Hp), Ec c G H σ δ → LL c ns as p ps G H →
  (∀ δ' ps' σ' G' H', Same G G' → Ec c G' H' σ' δ' → LL c ns as p ps' G' H' → N δ' ps' → D.nx σ' H') → (∀ v d G' H', Gx c.b c.G0 c.H0 G' H' → Dq G' v d → R d → D.rt v H') → ts D σ H
variable {R : Dt → Prop} {N : Fe → List (List Dt) → Prop}
theorem dx_seq {M : Fe → List (List Dt) → Prop} (h : Dx c ns as p ts δ ps M R) (k : ∀ δ' ps', M δ' ps' → Dx c ns as p tu δ' ps' N R) : Dx c ns as p (tSeq ts tu) δ ps N R := fun D σ G H e l n r =>
  h { D with nx := tu D } σ G H e l (fun δ' ps' σ' G' H' s e' l' m => k δ' ps' m D σ' G' H' e' l' (fun δ2 ps2 σ2 G2 H2 s2 => n δ2 ps2 σ2 G2 H2 (s.trans s2)) r) r
theorem dx_next (h : N δ ps) : Dx c ns as p tNext δ ps N R := fun D σ G H e l n r => n δ ps σ G H (Same.refl G) e l h
theorem dx_for {wi : TI} {g : TG} {vs : List Nat} {xs : List Dt} (hw : Di c wi δ (· = xs)) (I : Nat → Fe → List (List Dt) → Prop) (i0 : I 0 δ ps)
    (turn : ∀ (i : Nat) (d : Dt) δ' ps', xs[i]? = some d → I i δ' ps' → Dg c g d δ' vs (fun δ2 => Dx c ns as p ts δ2 ps' (I (i + 1)) R))
    (hct : ∀ D σ H, ts D σ H → ts D σ H) (fin : ∀ δ' ps', I xs.length δ' ps' → N δ' ps') : Dx c ns as p (tFor wi g ts) δ ps N R := fun D σ G H e l n r => by
  refine hw σ G H e _ fun J ys G1 H1 g1 ey ok => ?_
  subst ey
  refine ⟨fun i m σ' Hi => m = ys.length - i ∧ i ≤ ys.length ∧ ∃ Gi δi pi, Ec c Gi Hi σ' δi ∧ LL c ns as p pi Gi Hi ∧ Same G1 Gi ∧ I i δi pi, ⟨ys.length, by simp, Nat.zero_le _, G1, δ, ps, e.up g1, l.up e.j0 g1, Same.refl _, i0⟩, ?_⟩
  rintro i m σ' Hi ⟨rfl, hi, Gi, δi, pi, ei, li, si, ii⟩
  obtain ⟨okgo, okstop⟩ := ok i Gi Hi si ei.same ei.jj
  by_cases hlt : i < ys.length
  · obtain ⟨go, step⟩ := okgo hlt
    refine .inr ⟨go, fun σ2 H2 => ∃ G2 δ2 p2, Ec c G2 H2 σ2 δ2 ∧ LL c ns as p p2 G2 H2 ∧ Same G1 G2 ∧ I (i + 1) δ2 p2, fun σ2 H2 hn => ⟨ys.length - (i + 1), by omega, rfl, hlt, hn⟩, fun x H' hy => ?_⟩
    obtain ⟨d, G2, hd, g2, dx⟩ := step x H' hy
    have l2 := li.up ei.j0 g2
    refine turn i d δi pi hd ii σ' G2 H' x (ei.up g2) dx _ fun δ3 σ3 G3 H3 e3 g3 w3 k3 => ?_
    have l3 := l2.up ei.j0 g3
    have s3 : Same G1 G3 := (si.trans g2.gg).trans g3.gg
    exact k3 _ σ3 G3 H3 e3 l3 (fun δ4 p4 σ4 G4 H4 s4 e4 l4 n4 => ⟨G4, δ4, p4, e4, l4, s3.trans s4, n4⟩) r
  · have ei' : i = ys.length := by omega
    subst ei'
    exact .inl ⟨okstop (Nat.le_refl _), n δi pi σ' Gi Hi (g1.gg.trans si) ei li (fin δi pi ii)⟩
theorem pokeAt {G H : Hp} {σ : L2.St} {a : Addr} {o : HO} (e : Ec c G H σ δ) (hδ : ∀ x ∈ δ, x.owns = false) (n : G a = none) (h : c.H0 a = none) : Ec c G (upd H a o) σ δ := by
  refine ⟨e.j0, Gx.poke e.j0 e.gx h n, e.len, fun k x hk => ?_, e.apart⟩
  have q := e.sl k x hk
  have no := hδ x (List.mem_of_getElem? hk)
  cases x with
  | un => trivial
  | dat d => exact q
  | own es => cases no
  | obj Φ => cases no
  | raw v => exact q
/-- d[n].append(e) -/
theorem dx_app {i j : Nat} {n : Str} {d : Dt} {ds : List Dt} (nd : ns.Nodup) (hδ : ∀ x ∈ δ, x.owns = false) (hi : δ[i]? = some (.raw (.ref p))) (hk : De c tk δ (.str n)) (hj : ns[j]? = some n) (hd : ps[j]? = some ds) (hv : De c tv δ d) (hl : ds.length < 10000000) (k : N δ (ps.set j (ds ++ [d]))) :
    Dx c ns as p (tDrop (tBM K "list" rAppend (tDGet (tVar i) tk) (tCons tv tNil))) δ ps N R := fun D σ G H e l nx r => by
  refine ⟨.ref p, e.sl i _ hi, hk σ G H e _ fun v dv G1 H1 g1 d1 p1 => ?_⟩
  subst p1
  cases d1
  have l1 := l.up e.j0 g1
  have e1 := e.up g1
  have hja : j < as.length := by rw [l.la]; exact (List.getElem?_eq_some_iff.mp hj).1
  have ha := List.getElem?_eq_getElem hja
  generalize as[j] = a at ha
  refine ⟨p, .ref a, rfl, (by rw [show some (V.ref a) = valV (kvZ ns as) (Sum.inr n) from (kvZ_val nd hj ha).symm]; exact DGet.k (k := Sum.inr n) l1.hp), ?_⟩
  obtain ⟨vs, k1, k2, k3, k4⟩ := l1.el j a ds ha hd
  refine ⟨.inl ⟨rfl, _, SqL.of k1⟩, hv σ G1 H1 e1 _ fun u du G2 H2 g2 d2 p2 => ?_⟩
  subst p2
  have l2 := l1.up e.j0 g2
  have e2 := e1.up g2
  obtain ⟨vs, k1, k2, k3, k4⟩ := l2.el j a ds ha hd
  have np : p ≠ a := fun z => l.np (by rw [z]; exact List.mem_of_getElem? ha)
  refine ⟨a, vs, u, rfl, rfl, k1, sz_lt' (by rw [k4.length]; omega), ?_⟩
  refine nx δ _ σ G2 _ (g1.gg.trans g2.gg) (pokeAt e2 hδ k2 k3) ⟨by rw [upd_ne np]; exact l2.hp, l2.gp, l2.ep, l2.la, by rw [List.length_set]; exact l2.lp, l2.nd, l2.np, fun m b es h1 h2 => ?_⟩ k
  by_cases z : j = m
  · subst z
    rw [ha] at h1
    have := Option.some.inj h1
    subst this
    rw [List.getElem?_set_self (by rw [l2.lp, ← l2.la]; exact hja)] at h2
    have := Option.some.inj h2
    subst this
    exact ⟨_, upd_same, k2, k3, k4.append (.cons d2 .nil)⟩
  · rw [List.getElem?_set_ne z] at h2
    have ba : b ≠ a := fun eb => z (by
      rw [eb] at h1
      have hm := (List.getElem?_eq_some_iff.mp h1).1
      exact (List.getElem_inj l2.nd (h₀ := hja) (h₁ := hm)).mp (((List.getElem?_eq_some_iff.mp ha).2).trans ((List.getElem?_eq_some_iff.mp h1).2).symm))
    obtain ⟨ws, m1, m2, m3, m4⟩ := l2.el m b es h1 h2
    exact ⟨ws, by rw [upd_ne ba]; exact m1, m2, m3, m4⟩
/-! ### the lists become data -/
def DKd (ns : List Str) (ds : List Dt) : Hp → Addr → HO → Prop := fun G _ o => ∃ as : List Addr, as.length = ns.length ∧ o = .dK (kvZ ns as) ∧ Dqs G (as.map V.ref) ds
theorem dx_end {i : Nat} {q : Po} (hδ : ∀ x ∈ δ, x.owns = false) (hi : δ[i]? = some (.raw (.ref p))) (k : Ds c ts (δ.set i (.obj (DKd ns (ps.map Dt.lst)))) { q with N := fun _ => False, B := fun _ => False, C := fun _ => False }) (hq : q.R = R) : Dx c ns as p ts δ ps N R := fun D σ G H e l nx r => by
  classical
  let G2 : Hp := fun b => if b ∈ as then H b else G b
  have at_ : ∀ {b : Addr}, b ∈ as → ∃ j ds vs, as[j]? = some b ∧ ps[j]? = some ds ∧ H b = some (.lst vs) ∧ G b = none ∧ c.H0 b = none ∧ Dqs G vs ds := fun {b} hb => by
    obtain ⟨j, hj⟩ := List.getElem?_of_mem hb
    have hl : j < ps.length := by rw [l.lp, ← l.la]; exact (List.getElem?_eq_some_iff.mp hj).1
    obtain ⟨vs, k1, k2, k3, k4⟩ := l.el j b _ hj (List.getElem?_eq_getElem hl)
    exact ⟨j, _, vs, hj, List.getElem?_eq_getElem hl, k1, k2, k3, k4⟩
  have up : Same G G2 := fun b u hb => by
    show (if b ∈ as then H b else G b) = _
    by_cases z : b ∈ as
    · obtain ⟨_, _, _, _, _, _, k2, _⟩ := at_ z
      rw [k2] at hb; cases hb
    · rw [if_neg z]; exact hb
  have gx : Gx c.b c.G0 c.H0 G2 H := ⟨e.gx.gg.trans up, e.gx.hh, fun b u hb => by
    have hb : (if b ∈ as then H b else G b) = some u := hb
    by_cases z : b ∈ as
    · rwa [if_pos z] at hb
    · rw [if_neg z] at hb
      exact e.same b u hb, fun b hb => by
    have hb : (if b ∈ as then H b else G b) ≠ none := hb
    by_cases z : b ∈ as
    · obtain ⟨_, _, _, _, _, _, _, k3, _⟩ := at_ z
      exact .inr (.inl k3)
    · rw [if_neg z] at hb
      exact e.gx.nw b hb, e.jj⟩
  have G2p : G2 p = none := by
    show (if p ∈ as then H p else G p) = none
    rw [if_neg l.np]
    exact l.gp
  have hil : i < δ.length := (List.getElem?_eq_some_iff.mp hi).1
  have dqs : ∀ G', Same G2 G' → Dqs G' (as.map V.ref) (ps.map Dt.lst) := fun G' s' => by
    have key : ∀ (m : Nat), Dqs G' ((as.drop m).map V.ref) ((ps.drop m).map Dt.lst) := by
      intro m
      by_cases hm : m < as.length
      · have hm2 : m < ps.length := by rw [l.lp, ← l.la]; exact hm
        have : ∀ t, t = as.length - m → Dqs G' ((as.drop m).map V.ref) ((ps.drop m).map Dt.lst) := by
          intro t ht
          induction t generalizing m with
          | zero => omega
          | succ t ih =>
            rw [List.drop_eq_getElem_cons hm, List.drop_eq_getElem_cons hm2, List.map_cons, List.map_cons]
            obtain ⟨vs, k1, k2, k3, k4⟩ := l.el m _ _ (List.getElem?_eq_getElem hm) (List.getElem?_eq_getElem hm2)
            refine .cons (.lst (s' _ _ (show (if _ ∈ as then _ else _) = _ by rw [if_pos (List.getElem_mem hm)]; exact k1)) ((k4.up up).up s')) ?_
            by_cases hm3 : m + 1 < as.length
            · exact ih (m + 1) hm3 (by rw [l.lp, ← l.la]; exact hm3) (by omega)
            · rw [List.drop_eq_nil_of_le (by omega), List.drop_eq_nil_of_le (by rw [l.lp, ← l.la]; omega)]
              exact .nil
        exact this _ rfl
      · rw [List.drop_eq_nil_of_le (by omega), List.drop_eq_nil_of_le (by rw [l.lp, ← l.la]; omega)]
        exact .nil
    exact key 0
  have e2 : Ec c G2 H σ (δ.set i (.obj (DKd ns (ps.map Dt.lst)))) := by
    refine ⟨e.j0, gx, by rw [List.length_set, e.len], fun m x hm => ?_, fun m m' y z b hm hm' oy oz sk sl => ?_⟩
    · by_cases z : i = m
      · subst z
        rw [List.getElem?_set_self hil] at hm
        have := Option.some.inj hm
        subst this
        exact ⟨p, _, e.sl i _ hi, l.hp, G2p, l.ep, fun G' s' => ⟨as, l.la, rfl, dqs G' s'⟩, fun _ z => nomatch z⟩
      · rw [List.getElem?_set_ne z] at hm
        have q := e.sl m x hm
        have no := hδ x (List.mem_of_getElem? hm)
        cases x with
        | un => trivial
        | dat d => obtain ⟨v, q1, q2⟩ := q; exact ⟨v, q1, q2.up up⟩
        | own es => cases no
        | obj Φ => cases no
        | raw v => exact q
    · have one : ∀ {m : Nat} {y : Sl}, (δ.set i (.obj (DKd ns (ps.map Dt.lst))))[m]? = some y → y.owns = true → m = i := fun {m y} hm oy => by
        by_cases z : i = m
        · exact z.symm
        · rw [List.getElem?_set_ne z] at hm
          rw [hδ y (List.mem_of_getElem? hm)] at oy; cases oy
      rw [one hm oy, one hm' oz]
  refine k D σ G2 H e2 (fun _ _ _ _ _ _ z => z.elim) (fun v d G' H' g dq rd => r v d G' H' g dq (by rw [← hq]; exact rd)) (fun _ _ _ _ _ _ z => z.elim) fun _ _ _ _ _ _ z => z.elim
/-- d[n], the lists data -/
theorem de_getDK {i j : Nat} {n : Str} {d : Dt} {ds : List Dt} (nd : ns.Nodup) (h : δ[i]? = some (.obj (DKd ns ds))) (hk : De c tk δ (.str n)) (hj : ns[j]? = some n) (hd : ds[j]? = some d) : De c (tDGet (tVar i) tk) δ d := fun σ G H e Q q => by
  obtain ⟨a, o, e1, h1, h2, h3, h4⟩ := e.sl i _ h
  refine ⟨.ref a, e1, hk σ G H e _ fun v dv G1 H1 g1 d1 p1 => ?_⟩
  subst p1
  cases d1
  obtain ⟨a', o', e1', h1', _, _, h4', _⟩ := (e.up g1).sl i _ h
  rw [e1] at e1'
  have ea := V.ref.inj (Option.some.inj (Option.some.inj e1'))
  subst ea
  obtain ⟨as, hla, rfl, dq⟩ := h4' G1 (Same.refl _)
  obtain ⟨v, hv, dv⟩ := dq.get hd
  rw [List.getElem?_map] at hv
  cases ha : as[j]? with
  | none => rw [ha] at hv; cases hv
  | some b =>
    rw [ha] at hv
    have ev : V.ref b = v := Option.some.inj hv
    subst ev
    exact ⟨a, .ref b, rfl, (by rw [show some (V.ref b) = valV (kvZ ns as) (Sum.inr n) from (kvZ_val nd hj ha).symm]; exact DGet.k (k := Sum.inr n) h1'), q _ _ G1 H1 g1 dv rfl⟩
/-! ### {n: [] for ..} -/
theorem dx_new {wi : TI} {g : TG} {vs : List Nat} {xs : List Dt} {i : Nat} {P : Po} (nd : ns.Nodup) (hδ : ∀ x ∈ δ, x.owns = false) (hw : Di c wi δ (· = xs)) (hlen : xs.length = ns.length) (hle : ns.length ≤ 10000000)
    (h : ∀ (j : Nat) (d : Dt) (n : Str), xs[j]? = some d → ns[j]? = some n → Dg c g d (wipeF δ vs) vs (fun δ2 => De c tk δ2 (.str n)))
    (k : ∀ as p, Dx c ns as p ts (δ.set i (.raw (.ref p))) (ns.map fun _ => []) (fun _ _ => False) P.R) : Ds c (tSeq (tAsg (tDc wi g tYes tk (tLst tNil) vs) (gName i)) ts) δ P := fun D σ G H e nx r bb cc => by
  refine hw σ G H e _ fun J xs' G1 H1 g1 ex ok => ?_
  subst ex
  intro p hp
  have e1 := e.up g1
  have hp0 : H p = none := g1.fresh e.jj hp
  have gp1 : G1 p = none := by
    cases k : G1 p with
    | none => rfl
    | some u => rw [g1.gh p u k] at hp; cases hp
  have nS : ∀ {a : Addr}, H1 a = none → ¬ c.b.S a := fun {a} h s => c.b.hs _ _ g1.jj s h
  have keep : ∀ {Ga Ha Gb Hb : Hp} {a : Addr} {o : HO}, (∀ xs, o ≠ .tup xs) → Gx c.b Ga Ha Gb Hb → H1 a = none → Ha a = some o → Ga a = none → Hb a = some o ∧ Gb a = none := fun {Ga Ha Gb Hb a o} ho gg h0 hh nn => ⟨gg.hh a _ (nS h0) hh, by
    cases k : Gb a with
    | none => rfl
    | some u =>
      rcases gg.nw a (by rw [k]; simp) with z | z | ⟨ys, z⟩
      · exact absurd nn z
      · rw [hh] at z; cases z
      · rw [hh] at z; exact absurd (Option.some.inj z) (ho ys)⟩
  refine ⟨fun j m Hi => m = xs'.length - j ∧ j ≤ xs'.length ∧ ∃ Gi as, Gx c.b G1 H1 Gi Hi ∧ Hi p = some (.dK (kvZ (ns.take j) as)) ∧ Gi p = none ∧ as.length = j ∧ as.Nodup ∧ p ∉ as ∧ ∀ a ∈ as, Hi a = some (.lst []) ∧ Gi a = none ∧ H1 a = none,
    ⟨xs'.length, by simp, Nat.zero_le _, G1, [], Gx.put g1.gh g1.jj hp, upd_same, gp1, rfl, List.nodup_nil, List.not_mem_nil, fun a z => absurd z List.not_mem_nil⟩, ?_⟩
  rintro j m Hi ⟨rfl, hj, Gi, as, gi, hpi, gpi, la, nda, npa, hel⟩
  obtain ⟨okgo, okstop⟩ := ok j Gi Hi gi.gg gi.gh gi.jj
  by_cases hlt : j < xs'.length
  · obtain ⟨go, step⟩ := okgo hlt
    refine .inr ⟨go, fun H' => ∃ Gi' as', Gx c.b G1 H1 Gi' H' ∧ H' p = some (.dK (kvZ (ns.take (j + 1)) as')) ∧ Gi' p = none ∧ as'.length = j + 1 ∧ as'.Nodup ∧ p ∉ as' ∧ ∀ a ∈ as', H' a = some (.lst []) ∧ Gi' a = none ∧ H1 a = none, fun H' hn => ⟨xs'.length - (j + 1), by omega, rfl, hlt, hn⟩, fun x H' hy => ?_⟩
    obtain ⟨d, G2, hd, g2, dx⟩ := step x H' hy
    have hnj := List.getElem?_eq_getElem (show j < ns.length by omega)
    generalize hnn : ns[j] = n at hnj
    refine h j d n hd hnj (L2.wipe σ vs) G2 H' x ((e1.up (gi.trans e1.jj g2)).wipe vs) dx _ fun δ3 σ3 G3 H3 e3 g3 w3 k3 => ?_
    refine ⟨by rw [w3, wipe_wipe], ?_⟩
    refine dt_yes σ3 G3 H3 e3 _ fun kb G4 H4 g4 p4 => ?_
    subst p4
    rw [if_pos rfl]
    refine k3 σ3 G4 H4 (e3.up g4) _ fun y dy G5 H5 g5 dqy iy => ?_
    subst iy
    cases dqy
    have g25 := ((g2.trans (gi.jj) g3).trans (gi.jj) g4).trans gi.jj g5
    have gx := gi.trans e1.jj g25
    obtain ⟨hp5, gp5⟩ := keep (by intro _ z; cases z) g25 hp hpi gpi
    refine ⟨Nat.zero_le _, fun a ha => ?_⟩
    have ap : a ≠ p := fun z => by rw [z, hp5] at ha; cases ha
    have aas : a ∉ as := fun z => by
      obtain ⟨q1, q2, q3⟩ := hel a z
      obtain ⟨q4, _⟩ := keep (by intro _ z; cases z) g25 q3 q1 q2
      rw [q4] at ha; cases ha
    have ha1 : H1 a = none := gx.fresh e1.jj ha
    have ga5 : G5 a = none := by
      cases k : G5 a with
      | none => rfl
      | some u => rw [gx.gh a u k] at ha; cases ha
    have hlk : (ns.take j).length = as.length := by rw [List.length_take, la]; omega
    have hput : putK (kvZ (ns.take j) as) (Sum.inr n) (.ref a) = kvZ (ns.take (j + 1)) (as ++ [a]) := by
      rw [putK_new, List.take_add_one, hnj, kvZ_app hlk]
      · rfl
      · rw [kvZ_keys hlk]
        intro z
        obtain ⟨n', hn', en⟩ := List.mem_map.mp z
        have en := Sum.inr.inj en
        subst en
        obtain ⟨t, ht⟩ := List.getElem?_of_mem hn'
        have htl : t < j := by
          have := (List.getElem?_eq_some_iff.mp ht).1
          rw [List.length_take] at this
          omega
        rw [List.getElem?_take, if_pos htl] at ht
        have := (List.getElem_inj nd (h₀ := (List.getElem?_eq_some_iff.mp ht).1) (h₁ := (List.getElem?_eq_some_iff.mp hnj).1)).mp ((List.getElem?_eq_some_iff.mp ht).2.trans (List.getElem?_eq_some_iff.mp hnj).2.symm)
        omega
    refine ⟨kvZ (ns.take j) as, Sum.inr n, rfl, by rw [upd_ne (Ne.symm ap)]; exact hp5, sz_lt' (by have := congrArg List.length (kvZ_keys hlk); rw [List.length_map, List.length_map, List.length_take] at this; omega), G5, as ++ [a], ?_, ?_, gp5, by rw [List.length_append, la]; rfl, ?_, ?_, fun b hb => ?_⟩
    · exact Gx.poke e1.jj (gx.trans e1.jj (Gx.put gx.gh gx.jj ha)) hp gp5
    · rw [upd_same, hput]
    · rw [List.nodup_append]
      exact ⟨nda, List.nodup_cons.mpr ⟨List.not_mem_nil, List.nodup_nil⟩, fun b hb b' hb' z => aas (by rw [← List.mem_singleton.mp hb', ← z]; exact hb)⟩
    · intro z
      rcases List.mem_append.mp z with z | z
      · exact npa z
      · exact ap (List.mem_singleton.mp z).symm
    · rcases List.mem_append.mp hb with hb | hb
      · obtain ⟨q1, q2, q3⟩ := hel b hb
        obtain ⟨q4, q5⟩ := keep (by intro _ z; cases z) g25 q3 q1 q2
        have bp : b ≠ p := fun z => npa (by rw [← z]; exact hb)
        have ba : b ≠ a := fun z => aas (by rw [← z]; exact hb)
        exact ⟨by rw [upd_ne bp, upd_ne ba]; exact q4, q5, q3⟩
      · rw [List.mem_singleton.mp hb]
        exact ⟨by rw [upd_ne ap, upd_same], ga5, ha1⟩
  · have ej : j = xs'.length := by omega
    subst ej
    refine .inl ⟨okstop (Nat.le_refl _), ?_⟩
    have etk : ns.take xs'.length = ns := List.take_of_length_le (by omega)
    rw [etk] at hpi
    have eh : ∀ {a : Addr}, H1 a = none → c.H0 a = none := fun {a} h => e1.gx.fresh e.j0 h
    refine k as p D _ Gi Hi ((e1.up gi).setRaw i) ⟨hpi, gpi, eh hp, by rw [la, hlen], by rw [List.length_map], nda, npa, fun j a ds h1 h2 => ?_⟩ (fun _ _ _ _ _ _ _ _ z => z.elim) r
    rw [List.getElem?_map] at h2
    obtain ⟨q1, q2, q3⟩ := hel a (List.mem_of_getElem? h1)
    have : ds = [] := by
      cases z : ns[j]? with
      | none => rw [z] at h2; cases h2
      | some n => rw [z] at h2; exact (Option.some.inj h2).symm
    subst this
    exact ⟨[], q1, q2, eh q3, .nil⟩
end
end Zd

set_option Elab.async false
set_option maxRecDepth 100000
set_option maxHeartbeats 8000000
namespace K30
open PySem L2 StX Zd
/-! ### endings, schedules, what is merged: the mathematics -/
abbrev End := List (List Evt)
abbrev evsD (es : List Evt) : Dt := .lst (es.map pairD)
abbrev progP (C : Addr) (pl : Plan) : Dt := progD C ⟨pl.names, pl.ports, pl.modes, pl.rows.reverse⟩
def evP (e : Evt) : PyData := .tuple [.str e.1, .int e.2]
def endD (e : End) : Dt := .tup (e.map fun ps => .tup (ps.map pairD))
def endP (e : End) : PyData := .tuple (e.map fun ps => .tuple (ps.map evP))
def endK (e : End) : NestedKey := .tup (e.map fun ps => .tup (ps.map fun x => .tup [.text x.1, .num x.2]))
def schD (s : List Bool) : Dt := .tup (s.map Dt.bl)
def schP (s : List Bool) : PyData := .tuple (s.map PyData.bool)
theorem datas_map {α : Type} (f : α → NestedKey) : ∀ xs : List α, NestedKey.datas (xs.map f) = xs.map fun x => (f x).data
  | [] => by simp [NestedKey.datas]
  | x :: r => by rw [List.map_cons, NestedKey.datas, datas_map f r]; rfl
theorem depth_map {α : Type} {f : α → NestedKey} {n : Nat} : ∀ xs : List α, (∀ x ∈ xs, (f x).depth ≤ n) → NestedKey.depthAll (xs.map f) ≤ n
  | [], _ => by simp [NestedKey.depthAll]
  | x :: r, h => by
    rw [List.map_cons, NestedKey.depthAll]
    exact Nat.max_le.mpr ⟨h x List.mem_cons_self, depth_map r fun y hy => h y (List.mem_cons_of_mem _ hy)⟩
theorem endK_data (e : End) : (endK e).data = endP e := by
  unfold endK endP
  rw [NestedKey.data, datas_map]
  congr 1
  refine List.map_congr_left fun ps _ => ?_
  rw [NestedKey.data, datas_map]
  congr 1
theorem pd_ev2 {K : PySem.W.Frag} (e : Evt) : Pd K (pairD e) (evP e) := .tup (.cons (.str _) (.cons (.int _) .nil))
theorem pd_end {K : PySem.W.Frag} (e : End) : Pd K (endD e) (endP e) := .tup (Pds.map fun ps _ => .tup (Pds.map fun x _ => pd_ev2 x))
theorem nkey_end {K : PySem.W.Frag} (e : End) : NKey K (endD e) (endK e) where
  p := by rw [endK_data]; exact pd_end e
  d := by
    unfold endK
    rw [NestedKey.depth]
    have : NestedKey.depthAll (e.map fun ps => NestedKey.tup (ps.map fun x => NestedKey.tup [.text x.1, .num x.2])) ≤ 2 := depth_map e fun ps _ => by
      rw [NestedKey.depth]
      have : NestedKey.depthAll (ps.map fun x => NestedKey.tup [.text x.1, .num x.2]) ≤ 1 := depth_map ps fun x _ => by simp [NestedKey.depth, NestedKey.depthAll]
      omega
    omega
  t := ⟨_, rfl⟩
theorem eqvAll_map {α : Type} [DecidableEq α] {f : α → PyData} (h : ∀ a b, PyData.eqv (f a) (f b) = decide (a = b)) : ∀ as bs : List α, PyData.eqvAll (as.map f) (bs.map f) = decide (as = bs)
  | [], [] => by simp [PyData.eqvAll]
  | [], _ :: _ => by simp [PyData.eqvAll]
  | _ :: _, [] => by simp [PyData.eqvAll]
  | a :: r, b :: t => by
    rw [List.map_cons, List.map_cons, PyData.eqvAll, h, eqvAll_map h r t]
    by_cases e1 : a = b
    · by_cases e2 : r = t
      · simp [e1, e2]
      · simp [e1, e2]
    · simp [e1]
theorem eqv_ev (a b : Evt) : PyData.eqv (evP a) (evP b) = decide (a = b) := by
  obtain ⟨n, i⟩ := a
  obtain ⟨m, j⟩ := b
  show PyData.eqv (.tuple [.str n, .int i]) (.tuple [.str m, .int j]) = _
  simp only [PyData.eqv, PyData.eqvAll, Bool.and_true]
  by_cases h1 : n = m
  · by_cases h2 : i = j
    · simp [h1, h2]
    · simp [h1, h2]
  · simp [h1]
theorem eqv_end (a b : End) : PyData.eqv (endP a) (endP b) = decide (a = b) := by
  show PyData.eqv (.tuple (a.map fun ps => .tuple (ps.map evP))) (.tuple (b.map fun ps => .tuple (ps.map evP))) = _
  rw [PyData.eqv]
  refine eqvAll_map (f := fun ps : List Evt => PyData.tuple (ps.map evP)) (fun as bs => ?_) a b
  show PyData.eqv (.tuple _) (.tuple _) = _
  rw [PyData.eqv]
  exact eqvAll_map eqv_ev as bs
theorem endK_inj {a b : End} (h : endK a = endK b) : a = b := by
  have : endP a = endP b := by rw [← endK_data, ← endK_data, h]
  have e := eqv_end a b
  rw [this, eqv_end b b, decide_eq_true rfl] at e
  exact of_decide_eq_true e.symm
theorem endKs_nodup {es : List End} (h : es.Nodup) : (es.map endK).Nodup := by
  refine List.pairwise_map.mpr (h.imp fun {a b} ne e => ne (endK_inj e))
theorem endK_mem {e : End} {es : List End} : endK e ∈ es.map endK ↔ e ∈ es := ⟨fun h => by
  obtain ⟨x, hx, ex⟩ := List.mem_map.mp h
  rw [← endK_inj ex]; exact hx, fun h => List.mem_map.mpr ⟨e, h, rfl⟩⟩
/-! schedules -/
def schA : Nat → Nat → Nat → List (List Bool)
  | 0, _, _ => []
  | n + 1, a, b => if a = 0 ∨ b = 0 then [List.replicate a true ++ List.replicate b false] else (schA n (a - 1) b).map (true :: ·) ++ (schA n a (b - 1)).map (false :: ·)
def schB : Nat → Nat → Nat → List (List Bool)
  | 0, _, _ => []
  | n + 1, a, b => if a = 0 ∧ b = 0 then [[]] else (if 0 < a then (schB n (a - 1) b).map (true :: ·) else []) ++ (if 0 < b then (schB n a (b - 1)).map (false :: ·) else [])
theorem schB_only1 : ∀ n b, b < n → schB n 0 b = [List.replicate b false]
  | 0, b, h => by omega
  | n + 1, 0, h => by rw [schB, if_pos ⟨rfl, rfl⟩]; rfl
  | n + 1, b + 1, h => by
    rw [schB, if_neg (by omega), if_neg (by omega), if_pos (by omega), List.nil_append, show b + 1 - 1 = b from rfl, schB_only1 n b (by omega)]
    rfl
theorem schB_only2 : ∀ n a, a < n → schB n a 0 = [List.replicate a true]
  | 0, b, h => by omega
  | n + 1, 0, h => by rw [schB, if_pos ⟨rfl, rfl⟩]; rfl
  | n + 1, a + 1, h => by
    rw [schB, if_neg (by omega), if_pos (by omega), if_neg (by omega), List.append_nil, show a + 1 - 1 = a from rfl, schB_only2 n a (by omega)]
    rfl
theorem schAB : ∀ n a b, a + b < n → schA n a b = schB n a b
  | 0, a, b, h => by omega
  | n + 1, a, b, h => by
    by_cases h1 : a = 0
    · subst h1
      rw [schA, if_pos (.inl rfl), schB_only1 (n + 1) b (by omega)]
      rfl
    · by_cases h2 : b = 0
      · subst h2
        rw [schA, if_pos (.inr rfl), schB_only2 (n + 1) a (by omega)]
        simp
      · rw [schA, if_neg (by omega), schB, if_neg (by omega), if_pos (by omega), if_pos (by omega), schAB n (a - 1) b (by omega), schAB n a (b - 1) (by omega)]
theorem schB_len : ∀ n a b, (schB n a b).length ≤ 2 ^ (a + b)
  | 0, a, b => Nat.zero_le _
  | n + 1, a, b => by
    rw [schB]
    by_cases h : a = 0 ∧ b = 0
    · rw [if_pos h, h.1, h.2]; decide
    · rw [if_neg h, List.length_append]
      have h1 : (if 0 < a then (schB n (a - 1) b).map (true :: ·) else []).length * 2 ≤ 2 ^ (a + b) := by
        by_cases ha : 0 < a
        · rw [if_pos ha, List.length_map]
          have := schB_len n (a - 1) b
          rw [show a + b = (a - 1 + b) + 1 by omega, Nat.pow_succ]
          omega
        · rw [if_neg ha]; exact Nat.zero_le _
      have h2 : (if 0 < b then (schB n a (b - 1)).map (false :: ·) else []).length * 2 ≤ 2 ^ (a + b) := by
        by_cases hb : 0 < b
        · rw [if_pos hb, List.length_map]
          have := schB_len n a (b - 1)
          rw [show a + b = (a + (b - 1)) + 1 by omega, Nat.pow_succ]
          omega
        · rw [if_neg hb]; exact Nat.zero_le _
      omega
def trues (s : List Bool) : Nat := (s.filter id).length
def falses (s : List Bool) : Nat := (s.filter (!·)).length
theorem tf_len : ∀ s : List Bool, trues s + falses s = s.length
  | [] => rfl
  | true :: r => by have := tf_len r; unfold trues falses at *; simp; omega
  | false :: r => by have := tf_len r; unfold trues falses at *; simp; omega
theorem schB_ok : ∀ n a b, ∀ s ∈ schB n a b, trues s = a ∧ falses s = b
  | 0, a, b, s, h => by rw [schB] at h; cases h
  | n + 1, a, b, s, h => by
    rw [schB] at h
    by_cases hz : a = 0 ∧ b = 0
    · rw [if_pos hz] at h
      rw [List.mem_singleton.mp h, hz.1, hz.2]
      exact ⟨rfl, rfl⟩
    · rw [if_neg hz] at h
      rcases List.mem_append.mp h with h | h
      · by_cases ha : 0 < a
        · rw [if_pos ha] at h
          obtain ⟨r, hr, rfl⟩ := List.mem_map.mp h
          obtain ⟨q1, q2⟩ := schB_ok n (a - 1) b r hr
          unfold trues falses at *
          simp at *
          omega
        · rw [if_neg ha] at h; cases h
      · by_cases hb : 0 < b
        · rw [if_pos hb] at h
          obtain ⟨r, hr, rfl⟩ := List.mem_map.mp h
          obtain ⟨q1, q2⟩ := schB_ok n a (b - 1) r hr
          unfold trues falses at *
          simp at *
          omega
        · rw [if_neg hb] at h; cases h
/-! merged -/
def tcn (s : List Bool) (k : Nat) : Nat := trues (s.take k)
theorem take_snoc {s : List Bool} {k : Nat} {b : Bool} (h : s[k]? = some b) : s.take (k + 1) = s.take k ++ [b] := by rw [List.take_add_one, h]; rfl
theorem tcn_succ {s : List Bool} {k : Nat} {b : Bool} (h : s[k]? = some b) : tcn s (k + 1) = tcn s k + (if b then 1 else 0) := by
  unfold tcn trues
  rw [take_snoc h, List.filter_append, List.length_append]
  cases b <;> rfl
theorem tcn_le (s : List Bool) (k : Nat) : tcn s k ≤ k := by
  have := tf_len (s.take k)
  rw [List.length_take] at this
  unfold tcn
  omega
theorem tcn_all (s : List Bool) (k : Nat) : tcn s k ≤ trues s := by
  unfold tcn trues
  exact ((List.take_sublist k s).filter _).length_le
theorem fcn_all (s : List Bool) {k : Nat} (h : k ≤ s.length) : k - tcn s k ≤ falses s := by
  have h1 := tf_len (s.take k)
  rw [List.length_take] at h1
  have h2 : falses (s.take k) ≤ falses s := by
    unfold falses
    exact ((List.take_sublist k s).filter _).length_le
  unfold tcn
  omega
structure MrgOk (a : List Bool × List Evt × List Evt) : Prop where
  t : trues a.1 = a.2.1.length
  f : falses a.1 = a.2.2.length
  l : a.1.length ≤ 1000
def mrgAt (a : List Bool × List Evt × List Evt) (k : Nat) : Evt := if a.1[k]? = some true then (a.2.1[tcn a.1 k]?).getD ("", 0) else (a.2.2[k - tcn a.1 k]?).getD ("", 0)
def mrgL (a : List Bool × List Evt × List Evt) : List Evt := (List.range a.1.length).map (mrgAt a)
theorem mrg_true {a : List Bool × List Evt × List Evt} (h : MrgOk a) {k : Nat} (hk : a.1[k]? = some true) : a.2.1[tcn a.1 k]? = some (mrgAt a k) := by
  have h1 := tcn_succ hk
  have h2 := tcn_all a.1 (k + 1)
  have h3 : tcn a.1 k < a.2.1.length := by rw [← h.t]; rw [if_pos rfl] at h1; omega
  unfold mrgAt
  rw [if_pos hk, List.getElem?_eq_getElem h3]
  rfl
theorem mrg_false {a : List Bool × List Evt × List Evt} (h : MrgOk a) {k : Nat} (hk : a.1[k]? = some false) : a.2.2[k - tcn a.1 k]? = some (mrgAt a k) := by
  have h1 := tcn_succ hk
  have hl := (List.getElem?_eq_some_iff.mp hk).1
  have h2 := fcn_all a.1 (k := k + 1) (by omega)
  have h4 := tcn_le a.1 k
  have h3 : k - tcn a.1 k < a.2.2.length := by rw [← h.f]; rw [if_neg (by decide)] at h1; omega
  unfold mrgAt
  rw [if_neg (by rw [hk]; simp), List.getElem?_eq_getElem h3]
  rfl
theorem mrg_mem {a : List Bool × List Evt × List Evt} (h : MrgOk a) : ∀ e ∈ mrgL a, e ∈ a.2.1 ∨ e ∈ a.2.2 := fun e he => by
  obtain ⟨k, hk, rfl⟩ := List.mem_map.mp he
  have hl := List.mem_range.mp hk
  have hg := List.getElem?_eq_getElem hl
  cases hb : a.1[k] with
  | true =>
    rw [hb] at hg
    exact .inl (List.mem_of_getElem? (mrg_true h hg))
  | false =>
    rw [hb] at hg
    exact .inr (List.mem_of_getElem? (mrg_false h hg))
/-! endings -/
def col (n : Str) (os : List Out) : List Evt := (os.filter fun o => decide (o.1 = n)).map (·.2)
theorem col_app (n : Str) (os ps : List Out) : col n (os ++ ps) = col n os ++ col n ps := by unfold col; rw [List.filter_append, List.map_append]
def endOf (ports : List Port) (os : List Out) : End := ports.map fun pt => col pt.1 os
def endM (M : Mach) (es : List Evt) : End := endOf M.ports (trc M es).outs.flatten
theorem PlanW.port_of {pl : Plan} (h : PlanW pl) {p : Pla} (hp : PlaOk (machL pl) p) {e : Evt} (he : e.1 ∈ pl.names) : ∀ o ∈ (stepM (machL pl) p e).os, ∃ (j : Nat) (pt : Port), pl.ports[j]? = some pt ∧ pt.1 = o.1 := fun o ho => by
  obtain ⟨j, F⟩ := fits h.mach hp he
  rw [F.eq] at ho
  obtain ⟨w, hw, rfl⟩ := List.mem_map.mp ho
  obtain ⟨port, h1, h2⟩ := F.o w hw
  have h1 : pl.ports[w.1]? = some port := h1
  refine ⟨w.1, port, h1, ?_⟩
  show port.1 = ((pl.ports[w.1]?).map (·.1)).getD w.2.1
  rw [h1]
  rfl
theorem PlanW.trc_port {pl : Plan} (h : PlanW pl) {es : List Evt} (he : ∀ e ∈ es, e.1 ∈ pl.names) : ∀ i : Nat, ∀ os ∈ (trc (machL pl) (es.take i)).outs, ∀ o ∈ os, ∃ (j : Nat) (pt : Port), pl.ports[j]? = some pt ∧ pt.1 = o.1
  | 0, os, ho => by rw [List.take_zero] at ho; cases ho
  | i + 1, os, ho => by
    cases hi : es[i]? with
    | none =>
      have e1 : es.take (i + 1) = es.take i := by rw [List.take_add_one, hi]; simp
      rw [e1] at ho
      exact PlanW.trc_port h he i os ho
    | some ev =>
      rw [trc_snoc _ hi] at ho
      rcases List.mem_append.mp ho with ho | ho
      · exact PlanW.trc_port h he i os ho
      · rw [List.mem_singleton.mp ho]
        exact h.port_of (trc_ok h.mach he i).1 (he ev (List.mem_of_getElem? hi))
theorem PlanW.trc_port' {pl : Plan} (h : PlanW pl) {es : List Evt} (he : ∀ e ∈ es, e.1 ∈ pl.names) : ∀ os ∈ (trc (machL pl) es).outs, ∀ o ∈ os, ∃ (j : Nat) (pt : Port), pl.ports[j]? = some pt ∧ pt.1 = o.1 := by
  have := h.trc_port he es.length
  rwa [List.take_length] at this
theorem PlanW.trc_len {pl : Plan} (h : PlanW pl) {es : List Evt} (he : ∀ e ∈ es, e.1 ∈ pl.names) : ∀ i : Nat, ∀ os ∈ (trc (machL pl) (es.take i)).outs, os.length ≤ 4
  | 0, os, ho => by rw [List.take_zero] at ho; cases ho
  | i + 1, os, ho => by
    cases hi : es[i]? with
    | none =>
      have e1 : es.take (i + 1) = es.take i := by rw [List.take_add_one, hi]; simp
      rw [e1] at ho
      exact PlanW.trc_len h he i os ho
    | some ev =>
      rw [trc_snoc _ hi] at ho
      rcases List.mem_append.mp ho with ho | ho
      · exact PlanW.trc_len h he i os ho
      · rw [List.mem_singleton.mp ho]
        obtain ⟨j, F⟩ := fits h.mach (trc_ok h.mach he i).1 (he ev (List.mem_of_getElem? hi))
        rw [F.eq]
        show ((((machL pl).f _).2.2).map _).length ≤ 4
        rw [List.length_map]
        exact (h.mach.row _ F.x).wl
theorem PlanW.trc_len' {pl : Plan} (h : PlanW pl) {es : List Evt} (he : ∀ e ∈ es, e.1 ∈ pl.names) : ∀ os ∈ (trc (machL pl) es).outs, os.length ≤ 4 := by
  have := h.trc_len he es.length
  rwa [List.take_length] at this
theorem flat_le {α : Type} {n : Nat} : ∀ {xss : List (List α)}, (∀ xs ∈ xss, xs.length ≤ n) → xss.flatten.length ≤ xss.length * n
  | [], _ => by simp
  | xs :: r, h => by
    rw [List.flatten_cons, List.length_append, List.length_cons, Nat.succ_mul]
    have h1 := h xs List.mem_cons_self
    have h2 := flat_le (xss := r) fun ys hy => h ys (List.mem_cons_of_mem _ hy)
    omega
theorem col_le (n : Str) (os : List Out) : (col n os).length ≤ os.length := by
  unfold col
  rw [List.length_map]
  exact List.length_filter_le _ _
/-! the groups -/
abbrev Grp := End × List Bool × Nat
def gAdd (gs : List Grp) (e : End) (s : List Bool) : List Grp := match (gs.map (·.1)).idxOf? e with
  | some j => gs.set j (e, ((gs[j]?).map (·.2.1)).getD [], ((gs[j]?).map (·.2.2)).getD 0 + 1)
  | none => gs ++ [(e, s, 1)]
def gAll (f : List Bool → End) (ss : List (List Bool)) : List Grp := ss.foldl (fun gs s => gAdd gs (f s) s) []
theorem gAll_snoc (f : List Bool → End) {ss : List (List Bool)} {i : Nat} {s : List Bool} (h : ss[i]? = some s) : gAll f (ss.take (i + 1)) = gAdd (gAll f (ss.take i)) (f s) s := by
  unfold gAll
  rw [List.take_add_one, h, List.foldl_append]
  rfl
theorem gAdd_no {gs : List Grp} {e : End} {s : List Bool} (h : e ∉ gs.map (·.1)) : gAdd gs e s = gs ++ [(e, s, 1)] := by
  unfold gAdd
  rw [List.idxOf?_eq_none_iff.mpr h]
theorem gAdd_yes {gs : List Grp} {e : End} {s : List Bool} (nd : (gs.map (·.1)).Nodup) {j : Nat} {g : Grp} (h : gs[j]? = some g) (he : g.1 = e) : gAdd gs e s = gs.set j (e, g.2.1, g.2.2 + 1) := by
  have hj : (gs.map (·.1))[j]? = some e := by rw [List.getElem?_map, h, ← he]; rfl
  have hm : e ∈ gs.map (·.1) := List.mem_of_getElem? hj
  unfold gAdd
  cases hi : (gs.map (·.1)).idxOf? e with
  | none => exact absurd hm (List.idxOf?_eq_none_iff.mp hi)
  | some i =>
    have hgi : (gs.map (·.1))[i]? = some e := by
      obtain ⟨h1, h2, _⟩ := List.findIdx?_eq_some_iff_getElem.mp (show List.findIdx? (· == e) (gs.map (·.1)) = some i from hi)
      rw [List.getElem?_eq_getElem h1]
      exact congrArg some (by simpa using h2)
    have : i = j := (List.getElem_inj nd (h₀ := (List.getElem?_eq_some_iff.mp hgi).1) (h₁ := (List.getElem?_eq_some_iff.mp hj).1)).mp ((List.getElem?_eq_some_iff.mp hgi).2.trans (List.getElem?_eq_some_iff.mp hj).2.symm)
    subst this
    show gs.set i (e, ((gs[i]?).map (·.2.1)).getD [], ((gs[i]?).map (·.2.2)).getD 0 + 1) = _
    rw [h]
    rfl
theorem gAdd_keys {gs : List Grp} {e : End} {s : List Bool} (nd : (gs.map (·.1)).Nodup) : ((gAdd gs e s).map (·.1)).Nodup ∧ (gAdd gs e s).length ≤ gs.length + 1 := by
  by_cases h : e ∈ gs.map (·.1)
  · obtain ⟨g, hg, ee⟩ := List.mem_map.mp h
    obtain ⟨j, hj⟩ := List.getElem?_of_mem hg
    rw [gAdd_yes nd hj ee]
    have : (gs.set j (e, g.2.1, g.2.2 + 1)).map (·.1) = gs.map (·.1) := by
      rw [List.map_set]
      refine List.ext_getElem? fun i => ?_
      by_cases z : j = i
      · subst z
        rw [List.getElem?_set_self (by rw [List.length_map]; exact (List.getElem?_eq_some_iff.mp hj).1), List.getElem?_map, hj, ← ee]
        rfl
      · rw [List.getElem?_set_ne z]
    rw [this, List.length_set]
    exact ⟨nd, Nat.le_succ _⟩
  · rw [gAdd_no h, List.map_append, List.length_append]
    refine ⟨?_, Nat.le_refl _⟩
    rw [List.nodup_append]
    exact ⟨nd, List.nodup_cons.mpr ⟨List.not_mem_nil, List.nodup_nil⟩, fun b hb b' hb' z => h (by rw [← show b' = e by simpa using hb', ← z]; exact hb)⟩
theorem gAll_keys (f : List Bool → End) (ss : List (List Bool)) : ∀ i, i ≤ ss.length → ((gAll f (ss.take i)).map (·.1)).Nodup ∧ (gAll f (ss.take i)).length ≤ i
  | 0, _ => ⟨List.nodup_nil, Nat.le_refl _⟩
  | i + 1, h => by
    obtain ⟨h1, h2⟩ := gAll_keys f ss i (by omega)
    rw [gAll_snoc f (List.getElem?_eq_getElem (show i < ss.length by omega))]
    obtain ⟨q1, q2⟩ := gAdd_keys (e := f ss[i]) (s := ss[i]) h1
    exact ⟨q1, by omega⟩
def grpD (g : Grp) : Dt := .tup [endD g.1, schD g.2.1, nD g.2.2]
def grpP (g : Grp) : PyData := .tuple [endP g.1, schP g.2.1, .int g.2.2]
theorem pd_sch {K : PySem.W.Frag} (s : List Bool) : Pd K (schD s) (schP s) := .tup (Pds.map fun b _ => .bl b)
theorem pd_grp {K : PySem.W.Frag} (g : Grp) : Pd K (grpD g) (grpP g) := .tup (.cons (pd_end _) (.cons (pd_sch _) (.cons (.int _) .nil)))
end K30

set_option Elab.async false
set_option maxRecDepth 100000
set_option maxHeartbeats 4000000
/-! Zd40: a > b of tuples, a < b < c of ints, str of a small int, min of two; part of a list of nested data. -/
namespace Zd
open PySem PySem.Spec PyProof.Rows L2
/-! ### a > b of data that are alike -/
section
variable {X : Cx} {K : PySem.W.Frag}
def rGtD (K : PySem.W.Frag) : R2 := fun x y H Q => ∃ d e, Dp K H x d ∧ Dp K H y e ∧ PySem.W.alike d e = true ∧ d ≠ .none ∧ d.depth ≤ 60 ∧ Q (.bl (PySem.W.dataLt e d)) H
theorem op_gtD (hu : X.A.units + 64 < cLine) : OpR X (compareOp .Gt) (rGtD X.K) := by
  intro pins s σ H x y v u Q I rx ry h
  obtain ⟨d, e, hd, he, ha, hn, hdp, q⟩ := h
  obtain ⟨as, r1⟩ := Dp.reads I d x v hd rx
  obtain ⟨bs, r2⟩ := Dp.reads I e y u he ry
  exact PySem.W.gt_data r1 r2 ha hn (by have := Nat.min_le_left d.depth e.depth; omega) ⟨.bl _, H, I, rfl, q⟩
theorem op_gtDK (hK : X.K = K) (hu : X.A.units + 64 < cLine) : OpR X (compareOp .Gt) (rGtD K) := by subst hK; exact op_gtD hu
theorem rv_gtD {b : Bx} {d e : Dt} {p q : PyData} (hd : Pd K d p) (he : Pd K e q) (ha : PySem.W.alike p q = true) (hn : p ≠ .none) (hdp : p.depth ≤ 60) : Rv b (rGtD K) d e (· = .bl (PySem.W.dataLt q p)) := rv_val fun v w G H s d1 d2 Q k =>
  ⟨p, q, hd.dp s d1, he.dp s d2, ha, hn, hdp, k _ (.bl _)⟩
/-! ### str of a small int -/
def strI (i : Int) : Str := Str.ofString (toString i)
def rStrI : List V → Hp → VK → Prop := fun xs H Q => ∃ i : Int, xs = [.int i] ∧ 0 ≤ i ∧ i < 1000 ∧ Q (.str (strI i)) H
theorem call_strI : CallR X (.type "str") rStrI := by
  intro pins s σ H xs us Q I r h
  obtain ⟨i, rfl, h0, h1, q⟩ := h
  obtain ⟨u, rfl, t, rfl⟩ := vals1 r
  refine PySem.P.str_of_int ?_ ⟨.str _, H, I.tok _, ⟨_, rfl⟩, q⟩
  by_cases z : i.natAbs = 0
  · rw [z]; decide
  · have : i.natAbs.log2 < 10 := (Nat.log2_lt z).mpr (by omega)
    omega
end
section
variable {K : PySem.W.Frag} {c : Bs} {δ : Fe} {te ta tb tc : TE}
theorem de_strI {i : Int} (h : De c te δ (.int i)) (h0 : 0 ≤ i) (h1 : i < 1000) : De c (tCB rStrI (tCons te tNil)) δ (.str (strI i)) := fun σ G H e Q q => h σ G H e _ fun v d G1 H1 g1 d1 p1 => by
  subst p1
  cases d1
  exact ⟨i, rfl, h0, h1, q _ _ G1 H1 g1 (.str _) rfl⟩
theorem de_min2 {i j : Int} (ha : De c ta δ (.int i)) (hb : De c tb δ (.int j)) : De c (tCB (fun xs H Q => ∃ i j, xs = [V.int i, .int j] ∧ Q (.int (if j < i then j else i)) H) (tCons ta (tCons tb tNil))) δ (.int (if j < i then j else i)) := fun σ G H e Q q =>
  (da_consE ha (da_consE hb da_nil) : Ds' c _ δ (· = [.int i, .int j])) σ G H e _ fun vs ds G2 H2 g2 d2 p2 => by
    subst p2
    cases d2 with
    | cons a1 r1 => cases r1 with
      | cons a2 r2 =>
        cases r2; cases a1; cases a2
        exact ⟨i, j, rfl, q _ _ G2 H2 g2 (.int _) rfl⟩
/-! ### a < b < c -/
theorem de_chainI {f g : Int → Int → Bool} {i j k : Int} (ha : De c ta δ (.int i)) (hb : De c tb δ (.int j)) (hc : De c tc δ (.int k)) : De c (tChain (rI0 fun i j => .bl (f i j)) (rI0 fun i j => .bl (g i j)) ta tb tc) δ (.bl (f i j && g j k)) := by
  intro σ G H e Q q
  refine ha σ G H e _ fun v d G1 H1 g1 d1 p1 => ?_
  subst p1
  cases d1
  have e1 := e.up g1
  refine hb σ G1 H1 e1 _ fun v2 d2 G2 H2 g2 dd2 p2 => ?_
  subst p2
  cases dd2
  refine ⟨i, j, rfl, rfl, f i j, rfl, ?_⟩
  cases hf : f i j with
  | false => exact q _ _ G2 H2 (g1.trans e.jj g2) (.bl _) (by rw [hf]; rfl)
  | true =>
    refine hc σ G2 H2 (e1.up g2) _ fun v3 d3 G3 H3 g3 dd3 p3 => ?_
    subst p3
    cases dd3
    exact ⟨j, k, rfl, rfl, q _ _ G3 H3 ((g1.trans e.jj g2).trans e.jj g3) (.bl _) (by rw [hf]; rfl)⟩
theorem cutD_map {α : Type} (f : α → Dt) (xs : List α) (lo hi : Option Int) : ∃ ys : List α, cutD (xs.map f) lo hi = ys.map f ∧ ys.length ≤ xs.length ∧ ∀ y ∈ ys, y ∈ xs := by
  unfold cutD
  rw [List.length_map, ← List.map_drop, ← List.map_take]
  refine ⟨_, rfl, ?_, fun y hy => List.mem_of_mem_drop (List.mem_of_mem_take hy)⟩
  rw [List.length_take, List.length_drop]
  omega
end
end Zd

set_option Elab.async false
set_option maxRecDepth 100000
set_option maxHeartbeats 4000000
/-! Zd41: a list comprehension whose element may let an exception out of a call. -/
namespace Zd
open PySem PySem.Spec PyProof.Rows L2
/-- less of a ground -/
theorem frames_less {B B2 h : Heap} (hb : ∀ x, B.get? x = none → B2.get? x = none) : ∀ {l : List Env}, h.FunFrames B l → h.FunFrames B2 l
  | [], _ => trivial
  | _ :: _, ⟨k, ⟨L, o, e1, e2, e3⟩, r⟩ => ⟨k, ⟨L, o, e1, hb L e2, e3⟩, frames_less hb r⟩
theorem traced_less {B B2 h : Heap} {a : Addr} {Z : Obj → Prop} {fl : Value} (hb : ∀ x, B.get? x = none → B2.get? x = none) : HandSPX.TracedZ h B a Z fl → HandSPX.TracedZ h B2 a Z fl := by
  rintro ⟨o, us, T, t, ts, q1, q2, q3, q4, q5, q6⟩
  exact ⟨o, us, T, t, ts, q1, q2, q3, q4, hb T q5, q6⟩
theorem fly_less {B B2 h : Heap} {l : List Env} {a : Addr} {Z : Obj → Prop} (ss : ∀ x o, B2.get? x = some o → B.get? x = some o) (hb : ∀ x, B.get? x = none → B2.get? x = none) (x : HandSPX.FlyingZ B l a Z h) : HandSPX.FlyingZ B2 l a Z h :=
  ⟨fun b o e => x.1 b o (ss b o e), hb a x.2.1, frames_less hb x.2.2.1, traced_less hb x.2.2.2⟩
/-- a block of names, not in the ground, is written anew under a noted exception -/
theorem held_but {B h1 h2 : Heap} {l : List Env} {a L C : Addr} {Z : Obj → Prop} {m1 m2 : Str → Option Value} (n1 : h1.Ns C m1) (n2 : h2.Ns C m2) (sb : Heap.SameBut C h1 h2) (hC : B.get? C = none) (x : HandSPX.HeldZ B l a Z L h1) : HandSPX.HeldZ B l a Z L h2 := by
  obtain ⟨x1, x2, x3, o, us, T, t, ts, q1, q2, q3, q4, q5, q6, q7, q8, q9⟩ := x
  obtain ⟨oC, _, _, c1, c2, _⟩ := n1
  have nA : a ≠ C := fun z => by rw [z, c1] at q1; cases q1; rw [c2] at q3; cases q3
  have nT : T ≠ C := fun z => by rw [z, c1] at q7; cases q7; rw [c2] at q8; cases q8
  refine ⟨fun b u e => ?_, x2, Heap.FunFrames.sameBut sb n2 x3, o, us, T, t, ts, (sb.2 a nA).trans q1, q2, q3, q4, q5, q6, (sb.2 T nT).trans q7, q8, q9⟩
  have nb : b ≠ C := fun z => by rw [z, hC] at e; cases e
  exact (sb.2 b nb).trans (x1 b u e)
/-- what a block's exception owes -/
def xeC (X : Cx) (cenv : Env) : Value → Shared → Prop := notedBy (model X.prog X.w) X.A cenv (CompFails (model X.prog X.w) X.A X.xe cenv)
/-- where a block begins -/
def Starts (X : Cx) (s : Shared) (H : Hp) (C : Addr) (fp : List Addr) : Prop := s.heap.objs.size = C ∧ ∃ pins σ, Inv X pins σ H s ∧ ∀ b ∈ fp, FpOk X pins H b
/-- an element's context -/
abbrev blkE (X : Cx) (s : Shared) (H : Hp) (scope : Scope) (cenv : Env) (fp : List Addr) (pn : List (Addr × Obj)) : Cx := (X.blk s H scope cenv fp).tr pn (xeC X cenv)
theorem passes_blk {X : Cx} {W : WX} {E : XK} {s0 : Shared} {H0 : Hp} {scope : Scope} {cl : List (Str × Addr)} {C : Addr} {fp : List Addr} {pn : List (Addr × Obj)} (hs : X.stack = X.env :: X.outer) (hf : X.env.frame = some X.env.locals) (tk : Takes X W) (hW : ∀ cls d σ H, E cls d H → W cls d σ H)
    (st : Starts X s0 H0 C fp) : Passes (L2.CX X.prog X.w) (blkE X s0 H0 scope (compEnvC scope cl C X.env) fp pn) E := by
  intro pins' σ' H s u s' I c
  obtain ⟨hsz, pins, σ, I0, f0⟩ := st
  have IX : Inv X pins σ H s := I0.call' (ch := fp) I.os I.base I.hok I.bare fun b hb => let f := (f0 b hb).2; ⟨f.2.2.1, f.1, f.2.2.2.1, f.2.2.2.2⟩
  obtain ⟨m, ⟨oC, es, ep, c1, c2, c3⟩, _⟩ := I.loc
  have c1 : s.heap.get? C = some oC := c1
  have cH : H C = none := I.free
  have cF : C ∉ frs X.stack := fun z => by
    rcases List.mem_cons.mp (I0.stkSub C z) with y | y
    · have q := I0.lt
      rw [← y, hsz] at q
      exact absurd q (Nat.lt_irrefl _)
    · exact I0.nofs (Nat.le_of_eq hsz) y
  obtain ⟨a, B, H', cls, d, rfl, fl, hok, ub, na, os, ag, hE⟩ := c
  have cH' : H' C = none := ub.free C oC c1 cH
  have fC : FpOk X pins H' C := I0.fpOk (Nat.le_of_eq hsz) cH'
  -- the ground without the block
  obtain ⟨B2, b1, b2⟩ := restrict B fun x => decide (x ≠ C)
  have bC : B2.get? C = none := b2 C (by simp)
  have bS : ∀ x o, B2.get? x = some o → B.get? x = some o ∧ x ≠ C := fun x o e => by
    by_cases z : x = C
    · rw [z, bC] at e; cases e
    · rw [b1 x (by simp [z])] at e; exact ⟨e, z⟩
  have bN : ∀ x, B.get? x = none → B2.get? x = none := fun x e => by
    cases k : B2.get? x with
    | none => rfl
    | some o => rw [(bS x o k).1] at e; cases e
  have fl2 := fly_less (fun x o e => (bS x o e).1) bN fl
  -- the state without the exception, then without the block
  obtain ⟨G1, g1, g2⟩ := restrict s'.heap fun b => (B.get? b).isSome || decide (b ∈ frs X.stack)
  have gB : ∀ b o, B.get? b = some o → G1.get? b = some o := fun b o e => (g1 b (by rw [e]; rfl)).trans (fl.1 b o e)
  have gF : ∀ b, b ∈ frs X.stack → G1.get? b = s'.heap.get? b := fun b hb => g1 b (by rw [decide_eq_true hb, Bool.or_true])
  have gO : ∀ b o, G1.get? b = some o → s'.heap.get? b = some o ∧ (B.get? b = some o ∨ b ∈ frs X.stack) := fun b o e => by
    by_cases z : b ∈ frs X.stack
    · exact ⟨(gF b z).symm.trans e, .inr z⟩
    · cases k : B.get? b with
      | none => rw [g2 b (by rw [k, decide_eq_false z]; rfl)] at e; cases e
      | some o' =>
        rw [gB b o' k] at e
        cases e
        exact ⟨fl.1 b _ k, .inl rfl⟩
  have J1 : Inv X pins σ H' { s with heap := G1, gens := s'.gens, drawn := s'.drawn, toks := s'.toks } := by
    refine IX.call (ch := []) { keep := fun b o e n hb _ => gB b o (ub.keep b o e n hb), slot := fun b o e n hb _ => ?_, free := fun b o e n _ => ub.free b o e n, there := fun b o e _ => ?_, tups := ub.tups, frzs := ub.frzs, tbls := ub.tbls } (hok.kept gB) ag (fun _ z => nomatch z)
    · obtain ⟨sl, q⟩ := ub.slot b o e hb
      exact ⟨sl, (gF b hb).trans q⟩
    · by_cases hb : b ∈ frs X.stack
      · exact let ⟨_, q⟩ := ub.slot b o e hb; ⟨_, (gF b hb).trans q⟩
      · exact let ⟨o', q⟩ := ub.there b o e hb; ⟨o', gB b o' q⟩
  obtain ⟨G2, k1, k2⟩ := restrict G1 fun x => decide (x ≠ C)
  have kS : ∀ x o, G2.get? x = some o → G1.get? x = some o ∧ x ≠ C := fun x o e => by
    by_cases z : x = C
    · rw [z, k2 C (by simp)] at e; cases e
    · rw [k1 x (by simp [z])] at e; exact ⟨e, z⟩
  have J2 : Inv X pins σ H' { s with heap := G2, gens := s'.gens, drawn := s'.drawn, toks := s'.toks } :=
    J1.turned (it := C) (h' := G2) (t' := s'.toks) (fun b o hb e => (k1 b (by simp [hb])).trans e) fC.1 fC.2.1 fC.2.2.2.1 fC.2.2.2.2.1 fC.2.2.2.2.2
  -- noted, the block let go, on
  have hfr : X.A.frames = some (X.env :: X.outer) := by rw [I0.ok.frames, hs]
  show wpAny (model X.prog X.w) X.A (noteFrame (.ref a) (compEnvC scope cl C X.env)) _ _ s'
  rw [noteFrame_env (.ref a) (cenv := compEnvC scope cl C X.env) (env := X.env) rfl]
  refine HandSPX.looks_onZ (base := B2) Zc.steady hfr hf (by rw [← hs]; exact fl2) fun h1 hh1 up1 => ?_
  have sC : s'.heap.get? C = some oC := fl.1 C oC (ub.keep C oC c1 cH cF)
  obtain ⟨sl, hC1⟩ := up1 C oC sC fun vs z => by rw [c2] at z; cases z
  have n1 : h1.Ns C m := ⟨_, es, ep, hC1, c2, c3⟩
  refine ⟨m, n1, fun h2 m2 hn2 sb => ?_⟩
  have sb : Heap.SameBut C h1 h2 := sb
  have hh2 := held_but n1 hn2 sb bC hh1
  obtain ⟨_, _, _, oe, vs, T, oT, ts, he, _, hd, hv, _⟩ := id hh2
  show wpAny _ _ (PySem.passOn _ _ _) _ _ _
  unfold PySem.passOn
  refine wpAny_bind (wpAny_field he hd hv ?_)
  rw [if_neg (by simp)]
  have hfc : (compEnvC scope cl C X.env).frame = some X.env.locals := hf
  rw [hfc]
  refine wpAny_bind (HandSPX.setFlight_onZ hh2 fun h3 hh3 up3 => wpAny_throw (tk _ _ ?_))
  refine ⟨a, B2, _, pins, σ, H', cls, d, rfl, J2, fun b o e hb => ?_, fun b o e hnf => ?_, .inr (.inr (by rw [hs]; exact hh3)), na, os, ag, hW _ _ _ _ hE⟩
  · obtain ⟨e1, nb⟩ := kS b o e
    rcases (gO b o e1).2 with q | q
    · exact (b1 b (by simp [nb])).trans q
    · exact absurd q hb
  · obtain ⟨e1, nb⟩ := kS b o e
    obtain ⟨sl1, q1⟩ := up1 b o (gO b o e1).1 hnf
    obtain ⟨sl3, q3⟩ := up3 b _ ((sb.2 b nb).trans q1) hnf
    exact ⟨sl3, q3⟩
section
variable {X : Cx}
/-- [elt for target in iter if ..], whose element may raise -/
theorem pe_lcE {elt tg iter : Expr} {ifs : List Expr} {scope : Scope} {own : List (Str × Nat)} {pos : Pos} {wi : TI} {g : TG} {tt : TT} {te : TE} (hc : X.calm = true) (nd : X.N.Nodup) (hi : PI X tg iter wi) (ok : BlkOk X.N X.env.scope scope own)
    (hg : ∀ (s : Shared) (H : Hp) (C : Addr) (cl : List (Str × Addr)) (fp : List Addr), PG (X.blk s H scope (compEnvC scope cl C X.env) fp) tg g)
    (ht : ∀ (s : Shared) (H : Hp) (C : Addr) (cl : List (Str × Addr)) (fp : List Addr), PTs (X.blk s H scope (compEnvC scope cl C X.env) fp) ifs tt)
    (he : ∀ (s : Shared) (H : Hp) (C : Addr) (cl : List (Str × Addr)) (fp : List Addr) (pn : List (Addr × Obj)), Starts X s H C fp → PE (blkE X s H scope (compEnvC scope cl C X.env) fp pn) elt te)
    (hst : ∀ x, foldedSetIterable iter X.env x = pure x := by intro _; rfl) : PE X (.ListComp elt [⟨tg, iter, ifs, 0⟩] scope pos) (tLc wi g tt te (own.map (·.2))) := by
  refine ⟨fun pins s σ H Q I start => ?_⟩
  have clo := closure_ok (scope := scope) (env := X.env) fun y hy e => (ok.free y hy e).elim (fun z => I.ok.has _ (.inl z)) fun z => I.ok.has _ (.inr z)
  rw [eval_ListComp]
  refine comprehension_at (use := none) rfl hst clo ok.kind (fun y hy e => by rw [ok.uniq y hy, e]) (thn (hi.run pins s σ H _ I start) fun _ _ came => thn came fun _ sa got => ?_)
  obtain ⟨it, fp, tn, J, Ha, rfl, Ia, T, tn0, fpa, lc⟩ := got
  refine wpAny_newObj_type (newEnv_comp ?_) (by show 0 ≤ sizeLine; decide)
  -- the list
  have freshD : Ha sa.heap.objs.size = none := Ia.hok.fresh (Nat.le_refl _)
  obtain ⟨W, ⟨n0, W0⟩, turns⟩ := lc _ freshD
  have fpLt : ∀ b ∈ fp, b < sa.heap.objs.size := fun b hb => let ⟨_, q, _⟩ := T.obj _ _ tn0 b hb; Heap.lt_size q
  obtain ⟨sb, hsb⟩ : ∃ z : Shared, z = { sa with heap := sa.heap.push { cls := .type "list", data := .seq ([] : List Value).toArray } } := ⟨_, rfl⟩
  obtain ⟨Hb, hHb⟩ : ∃ z : Hp, z = upd Ha sa.heap.objs.size (.lst []) := ⟨_, rfl⟩
  have kb : ∀ b o, sa.heap.get? b = some o → sb.heap.get? b = some o := fun b o q => by rw [hsb]; exact Heap.get?_push_of_some _ q
  have szb : sb.heap.objs.size = sa.heap.objs.size + 1 := by rw [hsb]; exact Heap.size_push ..
  have Ib : Inv X pins σ Hb sb := by
    rw [hsb, hHb]
    exact Ia.laid (t' := sa.toks) (fun b o q => Heap.get?_push_of_some _ q) (Nat.le_refl _) ⟨Nat.zero_le _, [], 0, .nil, Heap.get?_push_size _ rfl⟩
  have fpb : ∀ b ∈ fp, FpOk X pins Hb b := fun b hb => ⟨by rw [hHb, upd_ne (Nat.ne_of_lt (fpLt b hb))]; exact (fpa b hb).1, (fpa b hb).2⟩
  have Ic := block_start (scope := scope) (own := own) Ib ok nd fun b hb => ⟨fpb b hb, by rw [szb]; exact Nat.lt_succ_of_lt (fpLt b hb)⟩
  obtain ⟨cl, hcl⟩ : ∃ z, z = cellsFrom (sb.heap.objs.size + 1) scope.names (cloFrom X.env.cells scope.names []) := ⟨_, rfl⟩
  obtain ⟨C, hC⟩ : ∃ z, z = sb.heap.objs.size := ⟨_, rfl⟩
  obtain ⟨sc, hsc⟩ : ∃ z : Shared, z = { sb with heap := pushCells (sb.heap.push { cls := .type "dict", data := .dict #[] }) scope.names } := ⟨_, rfl⟩
  rw [← hsc, ← hcl, ← hC] at Ic
  have begun : Starts X sb Hb C fp := ⟨hC.symm, pins, σ, Ib, fpb⟩
  have goal : codeAny (model X.prog X.w) X.A (.compStart (.ListComp elt [⟨tg, iter, ifs, 0⟩] scope pos) 0 (.ref it) (.ref sa.heap.objs.size) (compEnvC scope cl C X.env)) (compEnds (model X.prog X.w) X.A X.xe none (EP X pins σ Q) (.ref sa.heap.objs.size) (compEnvC scope cl C X.env)) sc := ?_
  · rw [hsc, hcl, hC, hsb] at goal
    exact goal
  have tnc : tn 0 sc.heap := T.keep _ _ _ tn0 fun b _ o q => by rw [hsc]; exact pushCells_keeps _ _ _ _ (Heap.get?_push_of_some _ (kb b o q))
  have fpB : ∀ {σ' : L2.St} {H' : Hp} {s' : Shared}, Inv (X.blk sb Hb scope (compEnvC scope cl C X.env) fp) [] σ' H' s' → (∀ b ∈ fp, H' b = none) → ∀ b ∈ fp, FpOk (X.blk sb Hb scope (compEnvC scope cl C X.env) fp) [] H' b := fun I' free b hb =>
    ⟨free b hb, (I'.ok.exf b hb).1, I'.ok.exfs b hb, .inl hb, fun x c q => (I'.ok.exf b hb).2 x c q, fun p hp => nomatch (show p ∈ ([] : List (Addr × Obj)) from hp)⟩
  have loop : codeAny (model X.prog X.w) X.A (.compLoop (.ListComp elt [⟨tg, iter, ifs, 0⟩] scope pos) 0 (.ref it) (.ref sa.heap.objs.size) (compEnvC scope cl C X.env)) (compEnds (model X.prog X.w) X.A X.xe none (EP X pins σ Q) (.ref sa.heap.objs.size) (compEnvC scope cl C X.env)) sc := by
    refine compLoop_any (fun k z => ∃ i Hz, Inv (X.blk sb Hb scope (compEnvC scope cl C X.env) fp) [] (wipe σ (own.map (·.2))) Hz z ∧ tn i z.heap ∧ (∀ b ∈ fp, Hz b = none) ∧ W i k Hz) ?_ n0 ⟨0, Hb, Ic, tnc, fun b hb => (fpb b hb).1, by rw [hHb]; exact W0⟩
    rintro k z ⟨i, Hz, Iz, tz, fz, Wz⟩
    rcases turns i k Hz Wz with ⟨stop, q⟩ | ⟨go, Nx, next, body⟩
    · refine thnF (T.done (X.blk sb Hb scope (compEnvC scope cl C X.env) fp) rfl rfl rfl hc i [] z _ Hz (fun _ _ => False) Iz (fpB Iz fz) tz stop) fun r z2 hr => ?_
      obtain ⟨rfl, I2⟩ := hr
      have back : Inv X pins σ Hz z2 := Ib.call' (ch := fp) I2.os I2.base I2.hok I2.bare fun b hb => let f := (fpb b hb).2; ⟨f.2.2.1, f.1, f.2.2.2.1, f.2.2.2.2⟩
      have noC : Hz C = none := I2.free
      have fC : FpOk X pins Hz C := Ib.fpOk (Nat.le_of_eq hC.symm) noC
      obtain ⟨m, nC, _⟩ := I2.loc
      exact ⟨m, nC, fun h' but => ⟨.ref sa.heap.objs.size, Hz, back.turned (t' := z2.toks) (fun b o hb q => (but.2 b hb).trans q) fC.1 fC.2.1 fC.2.2.2.1 fC.2.2.2.2.1 fC.2.2.2.2.2, rfl, q⟩⟩
    · refine thnF (T.item (X.blk sb Hb scope (compEnvC scope cl C X.env) fp) rfl rfl rfl hc i [] z _ Hz (fun _ _ => False) Iz (fpB Iz fz) tz go) fun r z2 hr => ?_
      obtain ⟨u, rfl, own2⟩ := hr
      refine thnF own2 fun _ z3 ⟨x, H3, I3, rx, yx, t3, f3⟩ => ?_
      have P3 := I3.pinned (fpB I3 f3) (T.obj _ _ t3)
      refine thnF ((hg sb Hb C cl fp).run _ z3 _ H3 x u _ P3 rx (body x H3 yx)) fun _ z4 ⟨σ4, H4, I4, w4, q4⟩ => ?_
      refine thnF ((ht sb Hb C cl fp).run _ z4 σ4 H4 _ I4 q4) fun b z5 ⟨H5, I5, q5⟩ => ?_
      have again : ∀ {z' : Shared} {H' : Hp}, Inv (X.blk sb Hb scope (compEnvC scope cl C X.env) fp) ([] ++ pinsAt fp z3.heap) σ4 H' z' → Nx H' → ∃ k', k' < k ∧ ∃ i H', Inv (X.blk sb Hb scope (compEnvC scope cl C X.env) fp) [] (wipe σ (own.map (·.2))) H' z' ∧ tn i z'.heap ∧ (∀ b ∈ fp, H' b = none) ∧ W i k' H' := fun {z' H'} I' nx => by
        obtain ⟨k', lt, Wk⟩ := next H' nx
        have pinned : ∀ b ∈ fp, ∀ o, z3.heap.get? b = some o → z'.heap.get? b = some o ∧ H' b = none := fun b hb o q => ⟨(I'.pin (b, o) (List.mem_append_right _ (List.mem_append_right _ (mem_pinsAt hb q)))).1, (I'.pin (b, o) (List.mem_append_right _ (List.mem_append_right _ (mem_pinsAt hb q)))).2.1⟩
        refine ⟨k', lt, i + 1, H', (I'.unpinned (pins := [])).weak (by rw [← w4, wipe_length]) (fun j v q => (wipe_some (by rw [w4]; exact q)).1), T.keep _ _ _ t3 fun b hb o q => (pinned b hb o q).1, fun b hb => ?_, Wk⟩
        obtain ⟨o, q, _⟩ := T.obj _ _ t3 b hb
        exact (pinned b hb o q).2
      cases b with
      | false =>
        rw [if_neg (by decide)] at q5 ⊢
        exact again I5 q5
      | true =>
        rw [if_pos rfl] at q5 ⊢
        refine wpAny_mono ((he sb Hb C cl fp _ begun).run [] z5 σ4 H5 _ (I5.toTry _) q5) (fun y z6 ⟨yv, H6, I6, r6, acc, hacc, lacc, nx⟩ => ?_) fun _ _ bad => bad
        exact app_ok (X := X.blk sb Hb scope (compEnvC scope cl C X.env) fp) (I6.ofTry I5.ok) hacc lacc r6 fun z7 I7 => again I7 nx
  exact codeAny_compStart_list loop (T.self X.A 0 _ _ _ tnc loop)
end
section
variable {c : Bs} {δ : Fe} {te : TE} {K : PySem.W.Frag}
/-- [f x for x in xs], where each turn tells something of x -/
theorem dl_lcOfQ {α : Type} {xs : List α} {b : α → Dt} {wi : TI} {g : TG} {vs : List Nat} (f : α → Dt) (P : α → Prop) (hw : Di c wi δ (· = xs.map b)) (hlen : xs.length ≤ 10000000)
    (h : ∀ x ∈ xs, Dg c g (b x) (wipeF δ vs) vs (fun δ2 => Dn c te δ2 (fun y => y = f x ∧ P x))) : Dl c (tLc wi g tYes te vs) δ (fun ys => ys = xs.map f ∧ ∀ x ∈ xs, P x) :=
  dl_lc hw fun ys e => ⟨fun i acc => acc = (xs.take i).map f ∧ ∀ x ∈ xs.take i, P x, ⟨by simp, fun x hx => by simp at hx⟩, fun i d acc hd ia σ G H v en dq Q q => by
      rw [e] at hd
      obtain ⟨x, hx, rfl⟩ := get_of hd
      refine h x (List.mem_of_getElem? hx) σ G H v en dq Q fun δ' σ' G' H' e1 g1 w1 k1 => q δ' σ' G' H' e1 g1 w1 (dt_yes.imp fun k hk => ?_)
      rw [hk, if_pos rfl]
      refine k1.imp fun y ey => ⟨?_, fun z hz => ?_⟩
      · rw [ey.1, ia.1, List.take_add_one, hx, List.map_append]
        rfl
      · rw [List.take_add_one, hx] at hz
        rcases List.mem_append.mp hz with hz | hz
        · exact ia.2 z hz
        · simp only [Option.toList_some, List.mem_singleton] at hz
          rw [hz]
          exact ey.2, fun acc ia => by rw [e, List.length_map, List.take_length] at ia; exact ia, by rw [e, List.length_map]; exact hlen⟩
/-- an iterator that never comes -/
theorem di_no (h : Dn c te δ (fun _ => False)) : Di c (iList K te) δ (fun _ => False) := fun σ G H e R _ => h σ G H e _ fun _ _ _ _ _ _ z => z.elim
theorem di_noE (h : Dn c te δ (fun _ => False)) : Di c (iEnum K (tCons te tNil)) δ (fun _ => False) := fun σ G H e R _ => h σ G H e _ fun _ _ _ _ _ _ z => z.elim
theorem dl_no {wi : TI} {g : TG} {tt : TT} {vs : List Nat} {T : List Dt → Prop} (h : Di c wi δ (fun _ => False)) : Dl c (tLc wi g tt te vs) δ T := dl_lc h fun _ z => z.elim
end
/-! ### a def that may raise, by data -/
/-- the arguments, what is asked of them, whether it answers, and what: else it raises CT -/
def spX {α : Type} (CT : Addr) (A : α → List Dt) (pre : α → Prop) (ok : α → Bool) (post : α → Dt) : Sp := fun vs H Q E => ∃ (G : Hp) (a : α), Same G H ∧ Dqs G vs (A a) ∧ pre a ∧ (ok a = true → ∀ v G' H', Gx Bx.pure G H G' H' → Dq G' v (post a) → Q v H') ∧ (ok a = false → ∀ G' H', Gx Bx.pure G H G' H' → E (.ref CT) none H')
theorem dn_callX {α : Type} {A : α → List Dt} {pre : α → Prop} {ok : α → Bool} {post : α → Dt} {E : XK} {CT : Addr} {G H : Hp} {δ : Fe} {tr : TA} (a : α) (ha : Ds' ⟨Bx.pure, G, H⟩ tr δ (· = A a)) (hp : pre a) (hE : ok a = false → ∀ G' H', Gx Bx.pure G H G' H' → E (.ref CT) none H') : Dn ⟨Bx.pure, G, H⟩ (tCall (spX CT A pre ok post) [] E tr) δ (fun d => d = post a ∧ ok a = true) := by
  intro σ G1 H1 e Q q
  refine ha σ G1 H1 e _ fun vs ds G2 H2 g2 d2 p2 => ?_
  subst p2
  have e2 := e.up g2
  exact ⟨G2, a, e2.same, by rw [List.append_nil]; exact d2, hp, fun yes v G' H' g dq => q v _ G' H' (g2.trans e.jj (g.of_pure e2.jj)) dq ⟨rfl, yes⟩, fun no G' H' g => hE no G' H' (e2.gx.trans trivial g)⟩
end Zd
namespace Zd
open PySem PySem.Spec PyProof.Rows L2
/-- a call that lets nothing out this time -/
theorem pass_no {X : Cx} {P : Program} {w : World} : Passes (L2.CX P w) X (fun _ _ _ => False) := fun _ _ _ _ _ _ _ h => by
  obtain ⟨_, _, _, _, _, _, _, _, _, _, _, _, z⟩ := h
  exact z.elim
/-! ### a tuple's display, and what is known of it -/
def tTupF (t : TA) : TE := fun σ H Q => t σ H fun xs H1 => xs.length ≤ sizeLine ∧ ∀ (p : Addr) (ob : Obj), H1 p = none → ob.cls = .type "tuple" → ob.dict = none → Q (.ref p) (upd H1 p (.frz ob (.tup xs)))
theorem pe_tupF {X : Cx} {es : List Expr} {t : TA} {k : Nat} {pos : Pos} (ha : PA X es t) : PE X (.Tuple es k pos) (tTupF t) :=
  ⟨fun pins s σ H Q I start => wpAny_Tuple_spliced (thn (ha.run pos pins s σ H _ I start) fun us sa got => by
    obtain ⟨xs, Ha, Ia, r, sz, q⟩ := got
    refine ⟨by rw [← r.length]; exact sz, .ref sa.heap.objs.size, _, Ia.laid (t' := sa.toks) (o := .frz { cls := .type "tuple", data := .seq us.toArray } (.tup xs)) (fun b u e => Heap.get?_push_of_some _ e) (Nat.le_refl _) ?_, rfl, q _ _ (Ia.hok.fresh (Nat.le_refl _)) rfl rfl⟩
    exact ⟨Heap.get?_push_size _ rfl, sz, us, r, IsTup.new _ _⟩)⟩
theorem de_tupF {c : Bs} {δ : Fe} {tr : TA} {ds : List Dt} (ha : Ds' c tr δ (· = ds)) (hl : ds.length ≤ 10000000 := by first | decide | (simp; done)) : De c (tTupF tr) δ (.ftup ds) := fun σ G H e Q q => ha σ G H e _ fun vs ds' G1 H1 g1 d1 p1 => by
  subst p1
  refine ⟨sz_ok (by rw [d1.length]; exact hl), fun p ob hp h1 h2 => ?_⟩
  exact q (.ref p) (.ftup ds') _ _ (g1.newDat e.jj hp _) (.ftup upd_same h1 h2 (d1.up fun a u k => by rw [upd_ne (ne_of_none (g1.gh a u k) hp)]; exact k)) rfl
/-! ### a list so many times -/
theorem dl_rep {c : Bs} {δ : Fe} {ta tb : TE} {xs : List Dt} {n : Nat} (ha : De c ta δ (.lst xs)) (hb : De c tb δ (.int (n : Int))) (hn : n ≤ 1000000) (hl : xs.length * n ≤ 10000000) : Dl c (tOp rRep ta tb) δ (· = (List.replicate n xs).flatten) := fun σ G H e Q q => ha σ G H e _ fun v d G1 H1 g1 d1 p1 => hb σ G1 H1 (e.up g1) _ fun w2 d' G2 H2 g2 dd2 p2 => by
  subst p1 p2
  have g := g1.trans e.jj g2
  have z1 := d1.up g2.gg
  cases dd2
  cases z1 with
  | lst h1 h2 =>
    have rep : ∀ k, Dqs G2 (List.replicate k _).flatten (List.replicate k xs).flatten := fun k => by
      induction k with
      | zero => exact .nil
      | succ k ih => rw [List.replicate_succ, List.replicate_succ, List.flatten_cons, List.flatten_cons]; exact h2.append ih
    refine ⟨_, (n : Int), _, rfl, rfl, g2.gh _ _ h1, by omega, by omega, ?_, fun p hp => ?_⟩
    · rw [Int.toNat_natCast]
      exact sz_ok (by rw [h2.length]; exact hl)
    · rw [Int.toNat_natCast]
      refine q p _ _ G2 _ (g.trans e.jj (Gx.put g2.gh g2.jj hp)) (g.fresh e.jj hp) ?_ upd_same (rep n) rfl
      cases k : G2 p with
      | none => rfl
      | some u => rw [g2.gh p u k] at hp; cases hp
end Zd
namespace Zd
open PySem PySem.Spec PyProof.Rows L2
/-- walks over a list of which something is known -/
theorem di_listN {K : PySem.W.Frag} {c : Bs} {δ : Fe} {te : TE} {P : List Dt → Prop} (h : Dn c te δ (fun d => ∃ xs, d = .lst xs ∧ P xs)) : Di c (iList K te) δ P := fun σ G H e R q =>
  h σ G H e _ fun v x G1 H1 g1 d1 p1 => by
    obtain ⟨xs, rfl, px⟩ := p1
    cases d1 with
    | lst a1 a2 =>
      rename_i a vs
      refine ⟨a, rfl, ⟨vs, SqL.of (g1.gh _ _ a1)⟩, q _ xs G1 H1 g1 px fun i G2 H2 s1 s2 j => ⟨fun hi => ?_, fun hi => ?_⟩⟩
      · obtain ⟨y, hy, dy⟩ := a2.get (List.getElem?_eq_getElem hi)
        refine ⟨⟨vs, y, SqL.of (s2 _ _ (s1 _ _ a1)), hy⟩, fun z H' hz => ?_⟩
        obtain ⟨rfl, hz⟩ := hz
        have e2 := (hz vs (SqL.of (s2 _ _ (s1 _ _ a1)))).symm.trans hy
        have e3 := Option.some.inj e2
        subst e3
        exact ⟨_, G2, List.getElem?_eq_getElem hi, Gx.refl s2 j, dy.up s1⟩
      · exact ⟨vs, SqL.of (s2 _ _ (s1 _ _ a1)), by rw [a2.length]; exact hi⟩
end Zd
namespace Zd
open PySem PySem.Spec PyProof.Rows L2
/-- x in a tuple of texts that is known for good -/
theorem rv_inSF {K : PySem.W.Frag} {b : Bx} {neg : Bool} {n : Str} {ns : List Str} : Rv b (rIn K neg) (.str n) (.ftup (ns.map Dt.str)) (· = .bl (if neg then !decide (n ∈ ns) else decide (n ∈ ns))) := rv_val fun v w G H s d1 d2 Q q => by
  cases d1
  cases d2 with
  | ftup h1 c1 c2 h2 =>
    have e := h2.strs
    subst e
    refine ⟨_, _, rfl, .inr (SqT.frz (s _ _ h1)), rfl, flat_strs ns, ?_⟩
    rw [inV_strs]
    exact q _ (.bl _)
end Zd

set_option Elab.async false
set_option maxRecDepth 100000
set_option maxHeartbeats 4000000
/-! Zd42: xs.extend(t), t a tuple. -/
namespace Zd
open PySem PySem.Spec PyProof.Rows L2
/-- what extend does with a tuple, whatever its object's dict and slots -/
theorem extend_tup (l : Addr) (xs : Array Value) (n : Nat) (b : Addr) (ys : Array Value) (n2 : Nat) (dd : Option Addr) (sl : Array (Option Value)) (short : ¬(!xs.isEmpty && Builtin.List.listTooLong (xs.size + ys.size)) = true) (h1 : xs.size ≤ sizeLine) (h2 : xs.size + ys.size ≤ sizeLine + 1) :
    Meets (Builtin.«list.extend» ⟨[.ref l, .ref b], []⟩) (fun _ R s => s.heap.get? l = some { cls := .type "list", data := .seq xs n } ∧ s.heap.get? b = some { cls := .type "tuple", dict := dd, data := .seq ys n2, slots := sl } ∧ R (.ok (.ret Value.none)) { s with heap := s.heap.update l (Obj.mapSeq fun x => x ++ ys), toks := s.toks }) :=
  .of_wp fun prog w A R s h => by
    obtain ⟨hp, g, d, tk, os⟩ := s
    obtain ⟨hl, hb, hR⟩ := h
    have f1 := AutoSeq1.idx_int
    have f2 := AutoSeq1.sub_tuple_tuple
    have f3 := AutoSeq1.sub_list_list
    have f4 := AutoSeq1.sub_tuple_list
    have f5 := AutoSeq1.sub_list_tuple
    have room : (xs ++ ys).size ≤ sizeLine + 1 := Nat.le_trans (Nat.le_of_eq (Array.size_append ..)) h2
    wp_walk using (wpAny_updateSeq hl rfl (hz := h1) (_hz' := room)), AutoSeq1.wpAny_loadPart' hl, AutoSeq1.wpAny_loadPart' hb
    exact ⟨_, rfl, hR⟩
def rExtT (K : PySem.W.Frag) : V → List V → Hp → VK → Prop := fun x vs H Q => ∃ (l b : Addr) (xs ys : List V), x = .ref l ∧ vs = [.ref b] ∧ H l = some (.lst xs) ∧ SqT K H b ys ∧ xs.length + ys.length ≤ sizeLine ∧ Q .non (upd H l (.lst (xs ++ ys)))
theorem mt_extT {X : Cx} : MtM X "list.extend" (rExtT X.K) := by
  intro pins s σ H x vs v us Q I rx rv h
  obtain ⟨l, b, xs, ys, rfl, rfl, hl, hb, hz, q⟩ := h
  cases rx
  obtain ⟨u, rfl, ru⟩ := rv.one
  cases ru
  obtain ⟨_, its, n, r, len, e⟩ := I.lstM hl
  obtain ⟨its2, r2, ⟨⟨ocls, od, odata, osl⟩, ob, oc, n2, odt⟩, _⟩ := I.tuple hb
  have len2 := r2.length
  cases oc
  cases odt
  have both : its.toArray.size + its2.toArray.size ≤ sizeLine := by rw [List.size_toArray, List.size_toArray]; omega
  refine call_meets F.slot_list_extend ⟨_, e, rfl⟩ F.entry_list_extend (F.args_list_extend_2 _ _) (extend_tup l its.toArray n b its2.toArray n2 od osl (by rw [notLongL both, Bool.and_false]; exact Bool.false_ne_true) (by rw [List.size_toArray]; omega) (by omega)) ⟨e, ob, ?_⟩
  exact ⟨.non, _, I.lset (its' := its ++ its2) hl e (by simp) (r.append r2) (by rw [List.length_append]; omega), rfl, q⟩
theorem mt_extTK {X : Cx} {K : PySem.W.Frag} (hK : X.K = K) : MtM X "list.extend" (rExtT K) := by subst hK; exact mt_extT
theorem ds_extendT {K : PySem.W.Frag} {c : Bs} {δ : Fe} {te : TE} {p : Po} {i : Nat} {ds ys : List Dt} (h : δ[i]? = some (.own ds)) (he : De c te δ (.tup ys)) (hl : ds.length + ys.length ≤ 10000000) (k : p.N (δ.set i (.own (ds ++ ys)))) : Ds c (tDrop (tBM K "list" (rExtT K) (tVar i) (tCons te tNil))) δ p := fun D σ G H e n r b q => by
  obtain ⟨a, vs, e1, h1, h2, h3, h4⟩ := e.sl i _ h
  refine ⟨.ref a, e1, .inl ⟨rfl, _, SqL.of h1⟩, ?_⟩
  refine he σ G H e _ fun v d G1 H1 g1 d1 t1 => ?_
  subst t1
  obtain ⟨a', vs', e1', h1', h2', h3', h4'⟩ := (e.up g1).sl i _ h
  rw [e1] at e1'
  have ea := V.ref.inj (Option.some.inj (Option.some.inj e1'))
  subst ea
  cases d1 with
  | tup b1 b2 =>
    refine ⟨a, _, vs', _, rfl, rfl, h1', SqT.of (g1.gh _ _ b1), sz_ok (by rw [h4'.length, b2.length]; exact hl), ?_⟩
    exact n _ _ G1 _ g1.gg ((e.up g1).poke h e1 (h4'.append b2)) k
end Zd

set_option Elab.async false
set_option maxRecDepth 100000
set_option maxHeartbeats 4000000
/-! Zd43: isinstance(n, int), isinstance(n, bool) of an integer. -/
namespace Zd
open PySem PySem.Spec PyProof.Rows L2
section
variable {K : PySem.W.Frag} {c : Bs} {δ : Fe} {te : TE}
theorem kit_int_int : PySem.W.kitOne K (.type "int") (.type "int") = some true := by kernel_rfl
theorem kit_int_bool : PySem.W.kitOne K (.type "int") (.type "bool") = some false := by kernel_rfl
theorem de_isOne {nm : String} {n : Int} {b : Bool} (hk : PySem.W.kitOne K (.type "int") (.type nm) = some b) (h : De c te δ (.int n)) :
    De c (tCB (rIsi K) (tCons te (tCons (tC (.ty nm)) tNil))) δ (.bl b) := fun σ G H e Q q =>
  h σ G H e _ fun v d G1 H1 g1 d1 p1 => by
    subst p1
    cases d1
    exact ⟨_, _, _, _, b, rfl, .ty _, .base (.int _), hk, q _ _ G1 _ g1 (.bl _) rfl⟩
end
end Zd

set_option Elab.async false
set_option maxRecDepth 100000
set_option maxHeartbeats 4000000
/-! Zd44: for k in range(a, b). -/
namespace Zd
open PySem PySem.Spec PyProof.Rows L2
section
variable {K : PySem.W.Frag} {c : Bs} {δ : Fe} {ta tb : TE}
theorem di_rng2E {m n : Int} (ha : De c ta δ (.int m)) (hb : De c tb δ (.int n)) (hm : -(2 ^ 62) ≤ m ∧ m < 2 ^ 62) (hn : -(2 ^ 62) ≤ n ∧ n < 2 ^ 62) : Di c (iRng2 (tCons ta (tCons tb tNil))) δ (· = rngD m (n - m).toNat) := fun σ G H e R q =>
  ha σ G H e _ fun v x G1 H1 g1 d1 p1 => hb σ G1 H1 (e.up g1) _ fun u y G2 H2 g2 d2 p2 => by
    subst p1 p2
    cases d1
    cases d2
    exact ⟨m, n, rfl, ⟨hm.1, hm.2, hn.1, hn.2⟩, q _ _ G2 H2 (g1.trans e.jj g2) rfl (itOk_rng m _)⟩
end
end Zd

set_option Elab.async false
set_option maxRecDepth 100000
set_option maxHeartbeats 4000000
/-! Zd45: t + u of tuples, either of which may be empty; xs[i] as one target of several. -/
namespace Zd
open PySem PySem.Spec PyProof.Rows L2
section
variable {K : PySem.W.Frag} {c : Bs} {δ : Fe} {te ta tb : TE}
theorem de_catTT {xs ys : List Dt} (ha : De c ta δ (.tup xs)) (hb : De c tb δ (.tup ys)) (hl : xs.length + ys.length ≤ 10000000) : De c (tOp (rCatA K) ta tb) δ (.tup (xs ++ ys)) := fun σ G H e Q q =>
  ha σ G H e _ fun v x G1 H1 g1 d1 p1 => hb σ G1 H1 (e.up g1) _ fun w y G2 H2 g2 d2 p2 => by
    subst p1 p2
    have g12 := g1.trans e.jj g2
    cases d1 with
    | tup a1 a2 =>
      rename_i a vs
      have b1 := g2.gg _ _ a1
      have b2 := a2.up g2.gg
      cases d2 with
      | tup e1 e2 =>
        rename_i b ws
        refine ⟨a, b, vs, ws, rfl, rfl, SqT.of (g2.gh _ _ b1), SqT.of (g2.gh _ _ e1), sz_ok (by rw [b2.length, e2.length]; exact hl), fun z => ?_, fun _ z => ?_, fun _ _ p hp => ?_⟩
        · have ez : xs = [] := List.length_eq_zero_iff.mp (by rw [← b2.length, z]; rfl)
          exact q _ _ G2 H2 g12 (.tup e1 e2) (by rw [ez, List.nil_append])
        · have ez : ys = [] := List.length_eq_zero_iff.mp (by rw [← e2.length, z]; rfl)
          exact q _ _ G2 H2 g12 (.tup b1 b2) (by rw [ez, List.append_nil])
        · exact q (.ref p) _ _ _ (g12.newDat e.jj hp (.tup (vs ++ ws))) (.tup upd_same ((b2.append e2).up fun b o z => by rw [upd_ne (ne_of_none (g2.gh b o z) hp)]; exact z)) rfl
/-! ### targets of an assignment that may change the body's own lists -/
def Dw (c : Bs) (g : TG) (d : Dt) (δ : Fe) (M : Fe → Prop) : Prop := ∀ (σ : L2.St) (G H : Hp) (v : V), Ec c G H σ δ → Dq G v d → ∀ Q : L2.St → Hp → Prop, (∀ δ' σ' G' H', Ec c G' H' σ' δ' → Same G G' → M δ' → Q σ' H') → g v σ H Q
def Dws (c : Bs) (g : TGs) (ds : List Dt) (δ : Fe) (M : Fe → Prop) : Prop := ∀ (σ : L2.St) (G H : Hp) (xs : List V), Ec c G H σ δ → Dqs G xs ds → ∀ Q : L2.St → Hp → Prop, (∀ δ' σ' G' H', Ec c G' H' σ' δ' → Same G G' → M δ' → Q σ' H') → g xs σ H Q
theorem dw_name {i : Nat} {d : Dt} {M : Fe → Prop} (k : M (δ.set i (.dat d))) : Dw c (gName i) d δ M := fun σ G H v e dq Q q =>
  q _ _ G H (e.setDat i dq) (Same.refl G) k
theorem dw_setAt {i j : Nat} {ds : List Dt} {d : Dt} {M : Fe → Prop} (h : δ[i]? = some (.own ds)) (hj : De c tb δ (.int (j : Int))) (hl : j < ds.length) (k : M (δ.set i (.own (ds.set j d)))) : Dw c (gSub (tVar i) tb L2.rSetL) d δ M := fun σ G H v e dq Q q => by
  obtain ⟨a, us, s1, h1, h2, h3, h4⟩ := e.sl i _ h
  refine ⟨.ref a, s1, hj σ G H e _ fun y d2 G2 H2 g2 dq2 p2 => ?_⟩
  subst p2
  cases dq2
  have e2 := e.up g2
  obtain ⟨a', vs', s1', h1', h2', h3', h4'⟩ := e2.sl i _ h
  rw [s1] at s1'
  have ea := V.ref.inj (Option.some.inj (Option.some.inj s1'))
  subst ea
  refine ⟨a, vs', (j : Int), j, rfl, rfl, h1', ?_, q _ _ G2 _ (e2.poke h s1 (dqs_set j h4' (dq.up g2.gg))) g2.gg k⟩
  have hlt : j < vs'.length := by rw [h4'.length]; exact hl
  unfold ixN
  rw [if_pos (by omega), if_pos (by omega)]
  simp
theorem dws_nil {M : Fe → Prop} (k : M δ) : Dws c gNil [] δ M := fun σ G H xs e d Q q => by
  cases d
  exact ⟨rfl, q δ σ G H e (Same.refl G) k⟩
theorem dws_cons {g : TG} {gs : TGs} {d : Dt} {ds : List Dt} {M N : Fe → Prop} (h : Dw c g d δ M) (k : ∀ δ', M δ' → Dws c gs ds δ' N) : Dws c (gCons g gs) (d :: ds) δ N := fun σ G H xs e dd Q q => by
  cases dd with
  | cons d1 d2 =>
    refine ⟨_, _, rfl, h σ G H _ e d1 _ fun δ1 σ1 G1 H1 e1 s1 m1 => ?_⟩
    exact k δ1 m1 σ1 G1 H1 _ e1 (d2.up s1) Q fun δ2 σ2 G2 H2 e2 s2 k2 => q δ2 σ2 G2 H2 e2 (s1.trans s2) k2
theorem dws_name {i : Nat} {gs : TGs} {d : Dt} {ds : List Dt} {M : Fe → Prop} (k : Dws c gs ds (δ.set i (.dat d)) M) : Dws c (gCons (gName i) gs) (d :: ds) δ M :=
  dws_cons (M := (· = δ.set i (.dat d))) (dw_name rfl) fun _ e => by rw [e]; exact k
theorem dws_setAt {i j : Nat} {gs : TGs} {ds es : List Dt} {d : Dt} {M : Fe → Prop} (h : δ[i]? = some (.own es)) (hj : De c tb δ (.int (j : Int))) (hl : j < es.length) (k : Dws c gs ds (δ.set i (.own (es.set j d))) M) : Dws c (gCons (gSub (tVar i) tb L2.rSetL) gs) (d :: ds) δ M :=
  dws_cons (M := (· = δ.set i (.own (es.set j d)))) (dw_setAt h hj hl rfl) fun _ e => by rw [e]; exact k
theorem dw_unl {n : Nat} {gs : TGs} {ds : List Dt} {M : Fe → Prop} (hn : ds.length = n) (h : Dws c gs ds δ M) : Dw c (gUnl K n gs) (.lst ds) δ M := fun σ G H v e d Q q => by
  cases d with
  | lst a1 a2 => exact ⟨_, _, rfl, SqL.of (e.same _ _ a1), by rw [a2.length, hn], h σ G H _ e a2 Q q⟩
theorem dw_tup {n : Nat} {gs : TGs} {ds : List Dt} {M : Fe → Prop} (hn : ds.length = n) (h : Dws c gs ds δ M) : Dw c (gTup K n gs) (.tup ds) δ M := fun σ G H v e d Q q => by
  cases d with
  | tup a1 a2 => exact ⟨_, _, rfl, SqT.of (e.same _ _ a1), by rw [a2.length, hn], h σ G H _ e a2 Q q⟩
theorem ds_asgW {ts : TS} {p : Po} {g : TG} {d : Dt} {M : Fe → Prop} (h : De c te δ d) (k : Dw c g d δ M) (m : ∀ δ', M δ' → Ds c ts δ' p) : Ds c (tSeq (tAsg te g) ts) δ p :=
  ds_seq (M := M) (fun D σ G H e n r b q => h σ G H e _ fun v x G1 H1 g1 d1 p1 => by
    subst p1
    exact k σ G1 H1 v (e.up g1) d1 _ fun δ' σ' G' H' e' s' m' => n δ' σ' G' H' (g1.gg.trans s') e' m') m
end
end Zd

set_option Elab.async false
set_option maxRecDepth 100000
set_option maxHeartbeats 8000000
namespace K30
open PySem L2 StX Zd
/-! ### schedules, what is merged, endings: the program -/
structure SchOk (n : Nat) (a : Nat × Nat) : Prop where
  lt : a.1 + a.2 < n
  le : a.1 + a.2 ≤ 9
section
variable {P : Program} {w : World} {K : PySem.W.Frag} {mg : Str → Option Value} {base : Heap} {C aS aE : Addr}
abbrev spSch (n : Nat) : Sp := spT (fun a : Nat × Nat => [nD a.1, nD a.2]) (SchOk n) fun a d => d = .lst ((schA n a.1 a.2).map schD)
abbrev spLSch (n : Nat) : Sp := spT (fun a : Nat × Nat => [nD a.1, nD a.2]) (SchOk n) fun a d => d = .lst ((schB n a.1 a.2).map schD)
theorem schA_le {n a b : Nat} (h : a + b < n) (h9 : a + b ≤ 9) : (schA n a b).length ≤ 512 := by
  rw [schAB n a b h]
  have h1 := schB_len n a b
  have h2 : 2 ^ (a + b) ≤ 2 ^ 9 := Nat.pow_le_pow_right (by decide) h9
  omega
theorem schB_le {n a b : Nat} (h9 : a + b ≤ 9) : (schB n a b).length ≤ 512 := by
  have h1 := schB_len n a b
  have h2 : 2 ^ (a + b) ≤ 2 ^ 9 := Nat.pow_le_pow_right (by decide) h9
  omega
theorem sch_len {n a b : Nat} (h : a + b < n) {s : List Bool} (hs : s ∈ schA n a b) : s.length = a + b := by
  rw [schAB n a b h] at hs
  have := schB_ok n a b s hs
  have := tf_len s
  omega
theorem de_one {c : Bs} {δ : Fe} {te : TE} {x : Bool} {s : List Bool} (hl : s.length ≤ 100) (h : De c te δ (schD s)) : De c (tTup (tCons (tC (.bl x)) (tStar K te tNil))) δ (schD (x :: s)) :=
  De.eq (de_tup (da_consE de_bl (da_starQ (k := .tup) skOk_tup h da_nil)) (by rw [List.length_cons, List.append_nil, List.length_map]; omega)) (by rw [List.append_nil]; rfl)
theorem ok_schedules {f : Addr} {fd : FuncData} (k_schedules : Kn K mg "schedules" s_schedules ["many", "others"] f fd) : ∀ n, FnOk P w K mg base CX0 (n + 1) f fd ["many", "others"] (spSch n)
  | 0 => k_schedules.F.ok sc_schedules (fun vs H Q E h => spT_len (fun _ => rfl) h) (fun cdv A outer s H vs Q E hr h => False.elim (by obtain ⟨_, _, _, _, z, _⟩ := h; exact absurd z.lt (Nat.not_lt_zero _)))
  | n + 1 => by
    have nd := sc_schedules.nd
    have G_schedules := ok_schedules k_schedules n
    refine k_schedules.F.ok sc_schedules (fun vs H Q E h => spT_len (fun _ => rfl) h) (fun cdv A outer s H vs Q E hr h => ⟨_, (pss_cons (ps_if (PW.pt (pw_or (pt_cmpR op_eq (pv 0) pe_int (nomark _)) (pw_or1 (pt_cmpR op_eq (pv 1) pe_int (nomark _))))) (pss_one (ps_ret (pe_lst (pa_cons (pe_op (op_catAK (K := K) rfl) (pe_op (op_repLK (K := K) rfl) (pv 0) (pe_tup (pa_cons pe_bl pa_nil))) (pe_op (op_repLK (K := K) rfl) (pv 1) (pe_tup (pa_cons pe_bl pa_nil)))) pa_nil)))) pss_nil)
      (pss_cons (ps_setLc (i := 2) (own := [("rest", 3)]) (g := gName 3) rfl nd rfl rfl (sw_true rfl rfl rfl (by decide +kernel)) (pi_listK (K := K) rfl (pe_call G_schedules (hr.mono (by first | decide | omega)) (by rfl) k_schedules.g k_schedules.F.kp k_schedules.b .nil pass0 (pa_cons (pe_op op_sub (pv 0) pe_int) (pa_cons (pv 1) pa_nil)))) (by refine blkOk_by ?_; show blkC N_schedules (defScope s_schedules) _ _ = true; decide +kernel) (fun _ _ _ _ _ => (pg_name (i := 3) nd rfl (by first | exact Or.inl rfl | exact Or.inr rfl))) (fun _ _ _ _ _ => pts_nil) (fun _ _ _ _ _ => (pe_tup (pa_cons pe_bl (pa_starK (K := K) rfl (pv 3) pa_nil)))))
      (pss_one (ps_ret (pe_op op_cat (pv 2) (pe_lc (own := [("rest", 3)]) (g := gName 3) rfl nd (pi_listK (K := K) rfl (pe_call G_schedules (hr.mono (by first | decide | omega)) (by rfl) k_schedules.g k_schedules.F.kp k_schedules.b .nil pass0 (pa_cons (pv 0) (pa_cons (pe_op op_sub (pv 1) pe_int) pa_nil)))) (by refine blkOk_by ?_; show blkC N_schedules (defScope s_schedules) _ _ = true; decide +kernel) (fun _ _ _ _ _ => (pg_name (i := 3) nd rfl (by first | exact Or.inl rfl | exact Or.inr rfl))) (fun _ _ _ _ _ => pts_nil) (fun _ _ _ _ _ => (pe_tup (pa_cons pe_bl (pa_starK (K := K) rfl (pv 3) pa_nil)))))))))) , ?_⟩)
    refine ok_bodyT (fun a => [.dat (nD a.1), .dat (nD a.2), .un, .un]) h (fun _ => by show 2 ≤ 4; decide) (fun _ => rfl) fun c a hc hp => ?_
    obtain ⟨a, b⟩ := a
    obtain ⟨hlt, h9⟩ := hp
    simp only at hlt h9 ⊢
    refine ds_seq (M := fun δ' => ¬ (a = 0 ∨ b = 0) ∧ δ' = [.dat (nD a), .dat (nD b), .un, .un]) (ds_ifE (k := decide (a = 0) || decide (b = 0)) (dt_or (a := decide (a = 0)) (b := decide (b = 0)) (dt_testE (De.eq (de_op (de_var rfl) de_int rv_eqI) (by show Dt.bl _ = Dt.bl _; congr 1; exact decide_eq_decide.mpr (by omega)))) fun _ => dt_testE (De.eq (de_op (de_var rfl) de_int rv_eqI) (by show Dt.bl _ = Dt.bl _; congr 1; exact decide_eq_decide.mpr (by omega)))) (fun ht => ?_) (fun ht => ?_)) ?_
    · have hz : a = 0 ∨ b = 0 := by
        rcases Bool.or_eq_true _ _ |>.mp ht with z | z
        · exact .inl (of_decide_eq_true z)
        · exact .inr (of_decide_eq_true z)
      refine ds_retE (d := .lst [.tup (List.replicate a (.bl true) ++ List.replicate b (.bl false))]) (de_lst (da_consE (de_catTT (de_repL (k := a) (de_var rfl) (de_tup (da_consE de_bl da_nil)) (by omega)) (de_repL (k := b) (de_var rfl) (de_tup (da_consE de_bl da_nil)) (by omega)) (by rw [List.length_replicate, List.length_replicate]; omega)) da_nil)) ?_
      show _ = Dt.lst ((schA (n + 1) a b).map schD)
      rw [schA, if_pos hz]
      show _ = Dt.lst [Dt.tup _]
      rw [List.map_append, List.map_replicate, List.map_replicate]
    · refine ds_next ⟨fun hz => ?_, rfl⟩
      rw [Bool.or_eq_false_iff] at ht
      rcases hz with z | z
      · exact of_decide_eq_false ht.1 z
      · exact of_decide_eq_false ht.2 z
    rintro δ' ⟨hn, rfl⟩
    have ha : 0 < a := by omega
    have hb : 0 < b := by omega
    have c1 : ∀ {δ : Fe} {E : XK} {te : TE}, De c te δ (nD (a - 1)) → δ[1]? = some (.dat (nD b)) → De c (tCall (spSch n) [] E (tCons te (tCons (tVar 1) tNil))) δ (.lst ((schA n (a - 1) b).map schD)) := fun h1 h2 => de_callT (A := fun a : Nat × Nat => [nD a.1, nD a.2]) (f := fun a => .lst ((schA n a.1 a.2).map schD)) (a - 1, b) (da_consE h1 (da_consE (de_var h2) da_nil)) ⟨by show a - 1 + b < n; omega, by show a - 1 + b ≤ 9; omega⟩
    have c2 : ∀ {δ : Fe} {E : XK} {te : TE}, δ[0]? = some (.dat (nD a)) → De c te δ (nD (b - 1)) → De c (tCall (spSch n) [] E (tCons (tVar 0) (tCons te tNil))) δ (.lst ((schA n a (b - 1)).map schD)) := fun h1 h2 => de_callT (A := fun a : Nat × Nat => [nD a.1, nD a.2]) (f := fun a => .lst ((schA n a.1 a.2).map schD)) (a, b - 1) (da_consE (de_var h1) (da_consE h2 da_nil)) ⟨by show a + (b - 1) < n; omega, by show a + (b - 1) ≤ 9; omega⟩
    have l1 := schA_le (n := n) (a := a - 1) (b := b) (by omega) (by omega)
    have l2 := schA_le (n := n) (a := a) (b := b - 1) (by omega) (by omega)
    refine ds_letE (d := .lst ((schA n (a - 1) b).map fun s => schD (true :: s))) (Dl.de (dl_lcOf (xs := schA n (a - 1) b) (b := schD) (fun s => schD (true :: s)) (di_list (c1 (De.eq (de_sub (de_var rfl) de_int) (by show Dt.int _ = Dt.int _; congr 1; omega)) rfl)) (by omega) fun s hs => dg_name (by decide) (de_one (by have := sch_len (by omega) hs; omega) (de_var rfl)))) ?_
    refine ds_retE (Dl.de (dl_cat (xs := (schA n (a - 1) b).map fun s => schD (true :: s)) (ys := (schA n a (b - 1)).map fun s => schD (false :: s)) (de_var rfl) (Dl.de (dl_lcOf (xs := schA n a (b - 1)) (b := schD) (fun s => schD (false :: s)) (di_list (c2 rfl (De.eq (de_sub (de_var rfl) de_int) (by show Dt.int _ = Dt.int _; congr 1; omega)))) (by omega) fun s hs => dg_name (by decide) (de_one (by have := sch_len (by omega) hs; omega) (de_var rfl)))) (by rw [List.length_map, List.length_map]; omega))) ?_
    show _ = Dt.lst ((schA (n + 1) a b).map schD)
    rw [schA, if_neg hn, List.map_append, List.map_map, List.map_map]
    rfl
theorem ok__law_schedules {f : Addr} {fd : FuncData} (k__law_schedules : Kn K mg "_law_schedules" s__law_schedules ["first", "second"] f fd) : ∀ n, FnOk P w K mg base CX0 (n + 1) f fd ["first", "second"] (spLSch n)
  | 0 => k__law_schedules.F.ok sc__law_schedules (fun vs H Q E h => spT_len (fun _ => rfl) h) (fun cdv A outer s H vs Q E hr h => False.elim (by obtain ⟨_, _, _, _, z, _⟩ := h; exact absurd z.lt (Nat.not_lt_zero _)))
  | n + 1 => by
    have nd := sc__law_schedules.nd
    have G__law_schedules := ok__law_schedules k__law_schedules n
    refine k__law_schedules.F.ok sc__law_schedules (fun vs H Q E h => spT_len (fun _ => rfl) h) (fun cdv A outer s H vs Q E hr h => ⟨_, (pss_cons (ps_if (PW.pt (pw_and (pt_cmpR op_eq (pv 0) pe_int (nomark _)) (pw_and1 (pt_cmpR op_eq (pv 1) pe_int (nomark _))))) (pss_one (ps_ret (pe_lst (pa_cons (pe_tup pa_nil) pa_nil)))) pss_nil)
      (pss_cons (ps_set (i := 2) nd rfl (by first | exact Or.inl rfl | exact Or.inr rfl) (pe_lst pa_nil))
      (pss_cons (ps_if (pt_cmpR op_gt (pv 0) pe_int (nomark _)) (pss_one (ps_setLc (i := 2) (own := [("rest", 3)]) (g := gName 3) rfl nd rfl rfl (sw_true rfl rfl rfl (by decide +kernel)) (pi_listK (K := K) rfl (pe_call G__law_schedules (hr.mono (by first | decide | omega)) (by rfl) k__law_schedules.g k__law_schedules.F.kp k__law_schedules.b .nil pass0 (pa_cons (pe_op op_sub (pv 0) pe_int) (pa_cons (pv 1) pa_nil)))) (by refine blkOk_by ?_; show blkC N__law_schedules (defScope s__law_schedules) _ _ = true; decide +kernel) (fun _ _ _ _ _ => (pg_name (i := 3) nd rfl (by first | exact Or.inl rfl | exact Or.inr rfl))) (fun _ _ _ _ _ => pts_nil) (fun _ _ _ _ _ => (pe_op (op_catAK (K := K) rfl) (pe_tup (pa_cons pe_bl pa_nil)) (pv 3))))) pss_nil)
      (pss_cons (ps_if (pt_cmpR op_gt (pv 1) pe_int (nomark _)) (pss_one (ps_set (i := 2) nd rfl (by first | exact Or.inl rfl | exact Or.inr rfl) (pe_op op_cat (pv 2) (pe_lc (own := [("rest", 3)]) (g := gName 3) rfl nd (pi_listK (K := K) rfl (pe_call G__law_schedules (hr.mono (by first | decide | omega)) (by rfl) k__law_schedules.g k__law_schedules.F.kp k__law_schedules.b .nil pass0 (pa_cons (pv 0) (pa_cons (pe_op op_sub (pv 1) pe_int) pa_nil)))) (by refine blkOk_by ?_; show blkC N__law_schedules (defScope s__law_schedules) _ _ = true; decide +kernel) (fun _ _ _ _ _ => (pg_name (i := 3) nd rfl (by first | exact Or.inl rfl | exact Or.inr rfl))) (fun _ _ _ _ _ => pts_nil) (fun _ _ _ _ _ => (pe_op (op_catAK (K := K) rfl) (pe_tup (pa_cons pe_bl pa_nil)) (pv 3))))))) pss_nil)
      (pss_one (ps_ret (pv 2))))))) , ?_⟩)
    refine ok_bodyT (fun a => [.dat (nD a.1), .dat (nD a.2), .un, .un]) h (fun _ => by show 2 ≤ 4; decide) (fun _ => rfl) fun c a hc hp => ?_
    obtain ⟨a, b⟩ := a
    obtain ⟨hlt, h9⟩ := hp
    simp only at hlt h9 ⊢
    have isz : ∀ {δ : Fe} {i : Nat} {k : Nat}, δ[i]? = some (.dat (nD k)) → Dt' c (tTest (tOp rEq (tVar i) (tC (.int 0)))) δ (· = decide (k = 0)) := fun h => dt_testE (De.eq (de_op (de_var h) de_int rv_eqI) (by show Dt.bl _ = Dt.bl _; congr 1; exact decide_eq_decide.mpr (by omega)))
    have pos : ∀ {δ : Fe} {i : Nat} {k : Nat}, δ[i]? = some (.dat (nD k)) → Dt' c (tTest (tOp (rI0 fun i j => .bl (decide (j < i))) (tVar i) (tC (.int 0)))) δ (· = decide (0 < k)) := fun h => dt_testE (De.eq (de_cmp (f := fun i j => decide (j < i)) (de_var h) de_int) (by show Dt.bl _ = Dt.bl _; congr 1; exact decide_eq_decide.mpr (by omega)))
    refine ds_seq (M := fun δ' => ¬ (a = 0 ∧ b = 0) ∧ δ' = [.dat (nD a), .dat (nD b), .un, .un]) (ds_ifE (k := decide (a = 0) && decide (b = 0)) (dt_and (a := decide (a = 0)) (b := decide (b = 0)) (isz rfl) fun _ => isz rfl) (fun ht => ?_) (fun ht => ?_)) ?_
    · rw [Bool.and_eq_true] at ht
      refine ds_retE (d := .lst [.tup []]) (de_lst (da_consE (de_tup da_nil) da_nil)) ?_
      show _ = Dt.lst ((schB (n + 1) a b).map schD)
      rw [schB, if_pos ⟨of_decide_eq_true ht.1, of_decide_eq_true ht.2⟩]
      rfl
    · refine ds_next ⟨fun hz => ?_, rfl⟩
      rw [decide_eq_true hz.1, decide_eq_true hz.2] at ht
      cases ht
    rintro δ' ⟨hn, rfl⟩
    have c1 : ∀ {δ : Fe} {E : XK} {te : TE}, 0 < a → De c te δ (nD (a - 1)) → δ[1]? = some (.dat (nD b)) → De c (tCall (spLSch n) [] E (tCons te (tCons (tVar 1) tNil))) δ (.lst ((schB n (a - 1) b).map schD)) := fun ha h1 h2 => de_callT (A := fun a : Nat × Nat => [nD a.1, nD a.2]) (f := fun a => .lst ((schB n a.1 a.2).map schD)) (a - 1, b) (da_consE h1 (da_consE (de_var h2) da_nil)) ⟨by show a - 1 + b < n; omega, by show a - 1 + b ≤ 9; omega⟩
    have c2 : ∀ {δ : Fe} {E : XK} {te : TE}, 0 < b → δ[0]? = some (.dat (nD a)) → De c te δ (nD (b - 1)) → De c (tCall (spLSch n) [] E (tCons (tVar 0) (tCons te tNil))) δ (.lst ((schB n a (b - 1)).map schD)) := fun hb h1 h2 => de_callT (A := fun a : Nat × Nat => [nD a.1, nD a.2]) (f := fun a => .lst ((schB n a.1 a.2).map schD)) (a, b - 1) (da_consE (de_var h1) (da_consE h2 da_nil)) ⟨by show a + (b - 1) < n; omega, by show a + (b - 1) ≤ 9; omega⟩
    have l1 := schB_le (n := n) (a := a - 1) (b := b) (by omega)
    have l2 := schB_le (n := n) (a := a) (b := b - 1) (by omega)
    have one : ∀ {δ : Fe} {i j : Nat} {x : Bool} {s : List Bool}, s.length ≤ 100 → δ[i]? = some (.dat (schD s)) → De c (tOp (rCatA K) (tTup (tCons (tC (.bl x)) tNil)) (tVar i)) δ (schD (x :: s)) := fun {δ i j x s} hl h => De.eq (de_catTT (de_tup (da_consE de_bl da_nil)) (de_var h) (by rw [List.length_map]; show 1 + s.length ≤ _; omega)) rfl
    have sl1 : ∀ {a b : Nat} {s : List Bool}, a + b < 10 → s ∈ schB n a b → s.length ≤ 100 := fun {a b s} hab hs => by
      have := schB_ok n a b s hs
      have := tf_len s
      omega
    refine ds_letE (d := .lst []) (de_lst da_nil) ?_
    refine ds_seq (M := fun δ' => ∃ x3, δ' = [.dat (nD a), .dat (nD b), .dat (.lst ((if 0 < a then (schB n (a - 1) b).map (true :: ·) else []).map schD)), x3]) (ds_ifE (k := decide (0 < a)) (pos rfl) (fun ht => ?_) (fun ht => ?_)) ?_
    · have ha := of_decide_eq_true ht
      refine ds_set (T := (· = .lst ((schB n (a - 1) b).map fun s => schD (true :: s)))) (Dl.de (dl_lcOf (xs := schB n (a - 1) b) (b := schD) (fun s => schD (true :: s)) (di_list (c1 ha (De.eq (de_sub (de_var rfl) de_int) (by show Dt.int _ = Dt.int _; congr 1; omega)) rfl)) (by omega) fun s hs => dg_name (by decide) (one (j := 0) (sl1 (by omega) hs) rfl))) fun d e => ⟨.un, ?_⟩
      rw [e, if_pos ha, List.map_map]
      rfl
    · rw [if_neg (of_decide_eq_false ht)]
      exact ds_next ⟨.un, rfl⟩
    rintro δ' ⟨x3, rfl⟩
    have l3 : (if 0 < a then (schB n (a - 1) b).map (true :: ·) else []).length ≤ 512 := by
      by_cases ha : 0 < a
      · rw [if_pos ha, List.length_map]; omega
      · rw [if_neg ha]; exact Nat.zero_le _
    generalize hL : (if 0 < a then (schB n (a - 1) b).map (true :: ·) else []) = L at l3
    refine ds_seq (M := fun δ' => ∃ x3, δ' = [.dat (nD a), .dat (nD b), .dat (.lst ((L ++ (if 0 < b then (schB n a (b - 1)).map (false :: ·) else [])).map schD)), x3]) (ds_ifE (k := decide (0 < b)) (pos rfl) (fun ht => ?_) (fun ht => ?_)) ?_
    · have hb := of_decide_eq_true ht
      refine ds_set (T := (· = .lst (L.map schD ++ (schB n a (b - 1)).map fun s => schD (false :: s)))) (Dl.de (dl_cat (de_var rfl) (Dl.de (dl_lcOf (xs := schB n a (b - 1)) (b := schD) (fun s => schD (false :: s)) (di_list (c2 hb rfl (De.eq (de_sub (de_var rfl) de_int) (by show Dt.int _ = Dt.int _; congr 1; omega)))) (by omega) fun s hs => dg_name (by decide) (one (j := 0) (sl1 (by omega) hs) rfl))) (by rw [List.length_map, List.length_map]; omega))) fun d e => ⟨x3, ?_⟩
      rw [e, if_pos hb, List.map_append, List.map_map]
      rfl
    · rw [if_neg (of_decide_eq_false ht), List.append_nil]
      exact ds_next ⟨x3, rfl⟩
    rintro δ' ⟨x3, rfl⟩
    refine ds_retE (de_var rfl) ?_
    show _ = Dt.lst ((schB (n + 1) a b).map schD)
    rw [schB, if_neg hn, hL]
abbrev spMerged : Sp := spT (fun a : List Bool × List Evt × List Evt => [schD a.1, evsD a.2.1, evsD a.2.2]) MrgOk fun a d => d = evsD (mrgL a)
theorem ok_merged {f : Addr} {fd : FuncData} (F : Fun K "merged" "merged" s_merged f fd) (m_list : mg "list" = none) : FnOk P w K mg base CX0 1 f fd ["schedule", "first", "second"] spMerged := by
  have nd := sc_merged.nd
  refine F.ok sc_merged (fun vs H Q E h => spT_len (fun _ => rfl) h) (fun cdv A outer s H vs Q E hr h => ⟨_, (pss_cons (ps_set (i := 3) nd rfl (by first | exact Or.inl rfl | exact Or.inr rfl) (pe_callTy (call_list_ofK (K := K) rfl) (by rfl) m_list (by decide +kernel) (pa_cons (pv 1) pa_nil)))
      (pss_cons (ps_set (i := 4) nd rfl (by first | exact Or.inl rfl | exact Or.inr rfl) (pe_callTy (call_list_ofK (K := K) rfl) (by rfl) m_list (by decide +kernel) (pa_cons (pv 2) pa_nil)))
      (pss_cons (ps_set (i := 5) nd rfl (by first | exact Or.inl rfl | exact Or.inr rfl) (pe_lst pa_nil))
      (pss_cons (ps_for PassesOwn.never rfl (pi_tupK (K := K) rfl (pv 0)) (pg_name (i := 6) nd rfl (by first | exact Or.inl rfl | exact Or.inr rfl)) (pss_one (ps_if (pt_val (pv 6)) (pss_one (ps_expr (pe_bm PySem.F.plainAttrs_list PySem.F.slot_list_append PySem.F.type_list_append mt_append (pv 5) (pa_cons (pe_bm PySem.F.plainAttrs_list PySem.F.slot_list_pop PySem.F.type_list_pop mt_popAt (pv 3) (pa_cons pe_int pa_nil)) pa_nil)))) (pss_one (ps_expr (pe_bm PySem.F.plainAttrs_list PySem.F.slot_list_append PySem.F.type_list_append mt_append (pv 5) (pa_cons (pe_bm PySem.F.plainAttrs_list PySem.F.slot_list_pop PySem.F.type_list_pop mt_popAt (pv 4) (pa_cons pe_int pa_nil)) pa_nil)))))))
      (pss_one (ps_ret (pv 5))))))) , ?_⟩)
  refine ok_bodyT (fun a => [.dat (schD a.1), .dat (evsD a.2.1), .dat (evsD a.2.2), .un, .un, .un, .un]) h (fun _ => by show 3 ≤ 7; decide) (fun _ => rfl) fun c a hc hp => ?_
  obtain ⟨s, fs, gs⟩ := a
  have hl := hp.l
  simp only at hl ⊢
  refine ds_letOwnE (ds := fs.map pairD) (dl_listOfK (de_var rfl)) ?_
  refine ds_letOwnE (ds := gs.map pairD) (dl_listOfK (de_var rfl)) ?_
  refine ds_letOwnE (ds := []) (dl_lst da_nil fun _ e => by rw [e]; decide) ?_
  refine ds_seq (M := fun δ' => ∃ x3 x4 x6, δ' = [.dat (schD s), .dat (evsD fs), .dat (evsD gs), x3, x4, .own ((mrgL (s, fs, gs)).map pairD), x6]) (ds_for (vs := [6]) (di_tup (xs := s.map Dt.bl) (de_var rfl)) fun xs e => ?_) ?_
  · subst e
    refine ⟨fun k δ' => k ≤ s.length ∧ ∃ x6, δ' = [.dat (schD s), .dat (evsD fs), .dat (evsD gs), .own ((fs.drop (tcn s k)).map pairD), .own ((gs.drop (k - tcn s k)).map pairD), .own (((List.range k).map (mrgAt (s, fs, gs))).map pairD), x6], ⟨Nat.zero_le _, .un, rfl⟩, ?_, ?_⟩
    · rintro k d δ' hd ⟨hk, x6, rfl⟩
      obtain ⟨b, hb, rfl⟩ := get_of hd
      have hkl := (List.getElem?_eq_some_iff.mp hb).1
      have hs := tcn_succ hb
      have hle := tcn_le s k
      refine dg_name (by decide) ?_
      refine ds_ifE (k := b) (dt_testE (de_var rfl)) (fun ht => ?_) (fun ht => ?_)
      · subst ht
        have hm := mrg_true hp hb
        have hm : fs[tcn s k]? = some (mrgAt (s, fs, gs) k) := hm
        obtain ⟨h1, h2⟩ := List.getElem?_eq_some_iff.mp hm
        have hdr : (fs.drop (tcn s k)).map pairD = pairD (mrgAt (s, fs, gs) k) :: (fs.drop (tcn s k + 1)).map pairD := by rw [List.drop_eq_getElem_cons h1, List.map_cons, h2]
        rw [if_pos rfl] at hs
        refine ds_appPop (i := 5) (j := 3) (by decide) rfl (by rw [hdr]; rfl) (by rw [List.length_map, List.length_map, List.length_range]; omega) ⟨by omega, .dat (.bl true), ?_⟩
        rw [hs, show k + 1 - (tcn s k + 1) = k - tcn s k by omega, List.range_succ, List.map_append, List.map_append]
        rfl
      · subst ht
        have hm := mrg_false hp hb
        have hm : gs[k - tcn s k]? = some (mrgAt (s, fs, gs) k) := hm
        obtain ⟨h1, h2⟩ := List.getElem?_eq_some_iff.mp hm
        have hdr : (gs.drop (k - tcn s k)).map pairD = pairD (mrgAt (s, fs, gs) k) :: (gs.drop (k - tcn s k + 1)).map pairD := by rw [List.drop_eq_getElem_cons h1, List.map_cons, h2]
        rw [if_neg (by decide)] at hs
        have hs : tcn s (k + 1) = tcn s k := hs
        refine ds_appPop (i := 5) (j := 4) (by decide) rfl (by rw [hdr]; rfl) (by rw [List.length_map, List.length_map, List.length_range]; omega) ⟨by omega, .dat (.bl false), ?_⟩
        rw [hs, show k + 1 - tcn s k = k - tcn s k + 1 by omega, List.range_succ, List.map_append, List.map_append]
        rfl
    · rintro δ' ⟨hk, x6, rfl⟩
      rw [List.length_map]
      exact ⟨_, _, x6, rfl⟩
  rintro δ' ⟨x3, x4, x6, rfl⟩
  refine ds_freeze (i := 5) (ds := (mrgL (s, fs, gs)).map pairD) rfl ?_
  exact ds_retE (de_var rfl) rfl
structure EoOk (a : Plan × List Evt) : Prop where
  w : PlanW a.1
  n : ∀ e ∈ a.2, e.1 ∈ a.1.names
  l : a.2.length ≤ 100
abbrev spEnding (C : Addr) : Sp := spT (fun a : Plan × List Evt => [progP C a.1, evsD a.2]) EoOk fun a d => d = endD (endM (machL a.1) a.2)
def colS (ports : List Port) (os : List Out) : List (List Dt) := ports.map fun pt => (col pt.1 os).map pairD
theorem colS_snoc {ports : List Port} (nd : (ports.map (·.1)).Nodup) {os : List Out} {o : Out} {j : Nat} {pt : Port} (hj : ports[j]? = some pt) (ho : pt.1 = o.1) : colS ports (os ++ [o]) = (colS ports os).set j ((col pt.1 os).map pairD ++ [pairD o.2]) := by
  unfold colS
  refine List.ext_getElem? fun i => ?_
  by_cases z : j = i
  · subst z
    rw [List.getElem?_set_self (by rw [List.length_map]; exact (List.getElem?_eq_some_iff.mp hj).1), List.getElem?_map, hj]
    show some ((col pt.1 (os ++ [o])).map pairD) = some _
    have e : col pt.1 [o] = [o.2] := by
      unfold col
      rw [List.filter_cons, if_pos (decide_eq_true ho.symm)]
      rfl
    rw [col_app, e, List.map_append]
    rfl
  · rw [List.getElem?_set_ne z, List.getElem?_map, List.getElem?_map]
    cases hi : ports[i]? with
    | none => rfl
    | some q =>
      show some ((col q.1 (os ++ [o])).map pairD) = some ((col q.1 os).map pairD)
      have : ¬ o.1 = q.1 := fun e => z (by
        have h1 : (ports.map (·.1))[j]? = some o.1 := by rw [List.getElem?_map, hj, ← ho]; rfl
        have h2 : (ports.map (·.1))[i]? = some o.1 := by rw [List.getElem?_map, hi, e]; rfl
        exact (List.getElem_inj nd (h₀ := (List.getElem?_eq_some_iff.mp h1).1) (h₁ := (List.getElem?_eq_some_iff.mp h2).1)).mp ((List.getElem?_eq_some_iff.mp h1).2.trans (List.getElem?_eq_some_iff.mp h2).2.symm))
      rw [col_app]
      have e : col q.1 [o] = [] := by
        unfold col
        rw [List.filter_cons, if_neg (by simpa using this)]
        rfl
      rw [e, List.append_nil]
theorem flatten_take {α : Type} {xss : List (List α)} {i : Nat} {xs : List α} (h : xss[i]? = some xs) : (xss.take (i + 1)).flatten = (xss.take i).flatten ++ xs := by
  rw [List.take_add_one, h, List.flatten_append]
  show _ ++ (xs ++ []) = _
  rw [List.append_nil]
theorem take_flat_le {α : Type} (xss : List (List α)) (i : Nat) : (xss.take i).flatten.length ≤ xss.flatten.length := by
  conv => rhs; rw [← List.take_append_drop i xss, List.flatten_append, List.length_append]
  exact Nat.le_add_right _ _
theorem ok_ending_of {f f1 : Addr} {fd d1 : FuncData} (F : Fun K "ending_of" "ending_of" s_ending_of f fd) (k_run : Kn K mg "run" s_run ["program", "events"] f1 d1) (G_run : FnOk P w K mg base CX0 3 f1 d1 ["program", "events"] (spRun K C aS aE)) (hC : Cls K C) (n_ports : NoAttr K C "ports") (m_tuple : mg "tuple" = none) : FnOk P w K mg base CX0 4 f fd ["program", "events"] (spEnding C) := by
  have nd := sc_ending_of.nd
  refine F.ok sc_ending_of (fun vs H Q E h => spT_len (fun _ => rfl) h) (fun cdv A outer s H vs Q E hr h => ⟨_, (pss_cons (ps_set (i := 2) nd rfl (by first | exact Or.inl rfl | exact Or.inr rfl) (pe_dc (own := [("port", 3), ("_", 4)]) (g := _) (tt := _) rfl nd (pi_tupK (K := K) rfl (pe_fldK (K := K) rfl (pv 0) (by rfl))) (by refine blkOk_by ?_; show blkC N_ending_of (defScope s_ending_of) _ _ = true; decide +kernel) (fun _ _ _ _ _ => (pg_tupK (K := K) (n := 2) rfl rfl (pgs_cons (pg_name (i := 3) nd rfl (by first | exact Or.inl rfl | exact Or.inr rfl)) (pgs_cons (pg_name (i := 4) nd rfl (by first | exact Or.inl rfl | exact Or.inr rfl)) pgs_nil)))) (fun _ _ _ _ _ => pts_nil) (fun _ _ _ _ _ => (pv 3)) (fun _ _ _ _ _ => (pe_lst pa_nil))))
      (pss_cons (ps_for PassesOwn.never rfl (pi_listK (K := K) rfl (pe_ix (ix_tupK (K := K) rfl) (pe_call G_run (hr.mono (by decide)) (by rfl) k_run.g k_run.F.kp k_run.b .nil pass0 (pa_cons (pv 0) (pa_cons (pv 1) pa_nil))) pe_int (fun _ _ => rfl))) (pg_name (i := 5) nd rfl (by first | exact Or.inl rfl | exact Or.inr rfl)) (pss_one (ps_for PassesOwn.never rfl (pi_tupK (K := K) rfl (pv 5)) (pg_tupK (K := K) (n := 3) rfl rfl (pgs_cons (pg_name (i := 3) nd rfl (by first | exact Or.inl rfl | exact Or.inr rfl)) (pgs_cons (pg_name (i := 6) nd rfl (by first | exact Or.inl rfl | exact Or.inr rfl)) (pgs_cons (pg_name (i := 7) nd rfl (by first | exact Or.inl rfl | exact Or.inr rfl)) pgs_nil)))) (pss_one (ps_expr (pe_bm PySem.F.plainAttrs_list PySem.F.slot_list_append PySem.F.type_list_append mt_append (pe_dget (hu_of hr) (pv 2) (pv 3) (fun _ _ => rfl)) (pa_cons (pe_tup (pa_cons (pv 6) (pa_cons (pv 7) pa_nil))) pa_nil)))))))
      (pss_one (ps_ret (pe_callTy (call_tuple_ofK (K := K) rfl) (by rfl) m_tuple (by decide +kernel) (pa_cons (pe_lc (own := [("port", 3), ("_", 4)]) (g := _) rfl nd (pi_tupK (K := K) rfl (pe_fldK (K := K) rfl (pv 0) (by rfl))) (by refine blkOk_by ?_; show blkC N_ending_of (defScope s_ending_of) _ _ = true; decide +kernel) (fun _ _ _ _ _ => (pg_tupK (K := K) (n := 2) rfl rfl (pgs_cons (pg_name (i := 3) nd rfl (by first | exact Or.inl rfl | exact Or.inr rfl)) (pgs_cons (pg_name (i := 4) nd rfl (by first | exact Or.inl rfl | exact Or.inr rfl)) pgs_nil)))) (fun _ _ _ _ _ => pts_nil) (fun _ _ _ _ _ => (pe_callTy (call_tuple_ofK (K := K) rfl) (by rfl) m_tuple (by decide +kernel) (pa_cons (pe_dget (hu_of hr) (pv 2) (pv 3) (fun _ _ => rfl)) pa_nil)))) pa_nil)))))) , ?_⟩)
  refine ok_bodyT (fun a => [.dat (progP C a.1), .dat (evsD a.2), .un, .un, .un, .un, .un, .un]) h (fun _ => by show 2 ≤ 8; decide) (fun _ => rfl) fun c a hc hp => ?_
  obtain ⟨pl, es⟩ := a
  obtain ⟨hw, hn, hl⟩ := hp
  simp only at hw hn hl ⊢
  have hB := hw.base
  have p3 := hB.p3
  have rk : RunOk K ⟨machL pl, .lst, .tup, es⟩ := ⟨hw.mach, skOk_lst, fun _ _ => skOk_tup, hn, by show es.length ≤ 1000; omega⟩
  have hol : (trc (machL pl) es).outs.length ≤ es.length := by
    have := (trc_ok hw.mach hn es.length).2.1
    rwa [List.take_length] at this
  have hport := hw.trc_port' hn
  have hlen4 := hw.trc_len' hn
  have hfl : (trc (machL pl) es).outs.flatten.length ≤ 400 := by
    have := flat_le hlen4
    omega
  generalize hO : (trc (machL pl) es).outs = O at hol hport hlen4 hfl
  have nl : (pl.ports.map (·.1)).length = pl.ports.length := List.length_map ..
  refine dx_new (ns := pl.ports.map (·.1)) (xs := pl.ports.map portD) hB.pN (by intro x hx; simp at hx; rcases hx with rfl | rfl | rfl <;> rfl) (di_tup (de_fld (de_var (d := progP C pl) rfl) hC n_ports rfl)) (by rw [List.length_map, List.length_map]) (by omega) (fun j d n hd hnj => ?_) fun as p => ?_
  · obtain ⟨pt, hpt, rfl⟩ := get_of hd
    have : pt.1 = n := by
      rw [List.getElem?_map, hpt] at hnj
      exact Option.some.inj hnj
    subst this
    exact dg_tup rfl (dgs_name (by decide) (dgs_name (by decide) (dgs_nil (de_var rfl))))
  have own : ∀ {x3 x5 x6 x7 : Sl}, x3.owns = false → x5.owns = false → x6.owns = false → x7.owns = false → ∀ x ∈ ([.dat (progP C pl), .dat (evsD es), .raw (.ref p), x3, .un, x5, x6, x7] : Fe), x.owns = false := by
    intro x3 x5 x6 x7 h3 h5 h6 h7 x hx
    simp only [List.mem_cons, List.not_mem_nil, or_false] at hx
    rcases hx with rfl | rfl | rfl | rfl | rfl | rfl | rfl | rfl
    all_goals first | rfl | assumption
  refine dx_seq (M := fun δ' ps' => ps' = colS pl.ports O.flatten ∧ ∃ x3 x5 x6 x7 : Sl, δ' = [.dat (progP C pl), .dat (evsD es), .raw (.ref p), x3, .un, x5, x6, x7] ∧ x3.owns = false ∧ x5.owns = false ∧ x6.owns = false ∧ x7.owns = false) ?_ ?_
  · refine dx_for (vs := [5]) (xs := O.map outsD) (di_list (De.eq (de_ixT (d := .lst ((trc (machL pl) es).outs.map outsD)) (de_callRun ⟨machL pl, .lst, .tup, es⟩ (ks := prgKs) (ds := prgDs ⟨pl.names, pl.ports, pl.modes, pl.rows.reverse⟩) (de_var rfl) hw.fld (de_var rfl) rk) de_int rfl) (by rw [hO])))
      (fun k δ' ps' => ps' = colS pl.ports (O.take k).flatten ∧ ∃ x3 x5 x6 x7 : Sl, δ' = [.dat (progP C pl), .dat (evsD es), .raw (.ref p), x3, .un, x5, x6, x7] ∧ x3.owns = false ∧ x5.owns = false ∧ x6.owns = false ∧ x7.owns = false)
      ⟨by unfold colS; rw [List.map_map]; rfl, .un, .un, .un, .un, rfl, rfl, rfl, rfl, rfl⟩ ?_ (fun _ _ _ h => h) ?_
    · rintro k d δ' ps' hd ⟨rfl, x3, x5, x6, x7, rfl, o3, o5, o6, o7⟩
      obtain ⟨os, hos, rfl⟩ := get_of hd
      refine dg_name (by decide) ?_
      have hm := List.mem_of_getElem? hos
      refine dx_for (vs := [3, 6, 7]) (xs := os.map o3D) (di_tup (de_var rfl))
        (fun i δ' ps' => ps' = colS pl.ports ((O.take k).flatten ++ os.take i) ∧ ∃ x3 x6 x7 : Sl, δ' = [.dat (progP C pl), .dat (evsD es), .raw (.ref p), x3, .un, .dat (outsD os), x6, x7] ∧ x3.owns = false ∧ x6.owns = false ∧ x7.owns = false)
        ⟨by rw [List.take_zero, List.append_nil], x3, x6, x7, rfl, o3, o6, o7⟩ ?_ (fun _ _ _ h => h) ?_
      · rintro i d δ' ps' hd ⟨rfl, x3, x6, x7, rfl, o3, o6, o7⟩
        obtain ⟨o, ho, rfl⟩ := get_of hd
        obtain ⟨j, pt, hj, hpt⟩ := hport os hm o (List.mem_of_getElem? ho)
        refine dg_tup rfl (dgs_name (by decide) (dgs_name (by decide) (dgs_name (by decide) (dgs_nil ?_))))
        have hcl : ((col pt.1 ((O.take k).flatten ++ os.take i)).map pairD).length < 10000000 := by
          rw [List.length_map]
          have h1 := col_le pt.1 ((O.take k).flatten ++ os.take i)
          rw [List.length_append, List.length_take] at h1
          have h2 := take_flat_le O k
          have h3 := hlen4 os hm
          omega
        refine dx_app (i := 2) (j := j) (n := o.1) (d := pairD o.2) (ds := (col pt.1 ((O.take k).flatten ++ os.take i)).map pairD) hB.pN (own rfl rfl rfl rfl) rfl (de_var rfl) (by rw [List.getElem?_map, hj, ← hpt]; rfl) (by unfold colS; rw [List.getElem?_map, hj]; rfl) (de_tup (da_consE (de_var rfl) (da_consE (de_var rfl) da_nil))) hcl ⟨?_, _, _, _, rfl, rfl, rfl, rfl⟩
        rw [show os.take (i + 1) = os.take i ++ [o] by rw [List.take_add_one, ho]; rfl, ← List.append_assoc, colS_snoc hB.pN hj hpt]
      · rintro δ' ps' ⟨rfl, x3, x6, x7, rfl, o3, o6, o7⟩
        refine ⟨?_, x3, _, x6, x7, rfl, o3, rfl, o6, o7⟩
        rw [List.length_map, List.take_length, flatten_take hos]
    · rintro δ' ps' ⟨rfl, r⟩
      rw [List.length_map, List.take_length]
      exact ⟨rfl, r⟩
  rintro δ' ps' ⟨rfl, x3, x5, x6, x7, rfl, o3, o5, o6, o7⟩
  refine dx_end (i := 2) (q := { N := fun _ => False, R := fun d => d = endD (endM (machL pl) es) }) (own o3 o5 o6 o7) rfl ?_ rfl
  refine ds_retE (de_tupleOfLK (Dl.de (dl_lcOf (xs := pl.ports) (b := portD) (fun pt => .tup ((col pt.1 O.flatten).map pairD)) (di_tup (de_fld (de_var (d := progP C pl) rfl) hC n_ports rfl)) (by omega) fun pt hpt => ?_))) ?_
  · obtain ⟨j, hj⟩ := List.getElem?_of_mem hpt
    exact dg_tup rfl (dgs_name (by decide) (dgs_name (by decide) (dgs_nil (de_tupleOfLK (de_getDK (j := j) (n := pt.1) (ns := pl.ports.map (·.1)) (ds := (colS pl.ports O.flatten).map Dt.lst) hB.pN rfl (de_var rfl) (by rw [List.getElem?_map, hj]; rfl) (by unfold colS; rw [List.getElem?_map, List.getElem?_map, hj]; rfl))))))
  · show _ = endD (endOf pl.ports (trc (machL pl) es).outs.flatten)
    rw [hO]
    unfold endD endOf
    rw [List.map_map]
    rfl
end
end K30

set_option Elab.async false
set_option maxRecDepth 100000
set_option maxHeartbeats 4000000
/-! Zd46: what is never reached; a list that is made anew by a def; a walk over two things by hand; t + u of tuples of both kinds. -/
namespace Zd
open PySem PySem.Spec PyProof.Rows L2 StX
/-! ### what is never reached -/
theorem pss_stuck {X : Cx} {sts : List Stmt} : PSs X sts (fun _ _ _ => False) := ⟨fun _ _ _ _ _ _ h => h.elim⟩
/-! ### data without lists -/
mutual
def noList : Dt → Bool
  | .lst _ => false
  | .tup xs => noLists xs
  | .ftup xs => noLists xs
  | .dct _ xs => noLists xs
  | .ins _ _ xs => noLists xs
  | _ => true
def noLists : List Dt → Bool
  | [] => true
  | x :: r => noList x && noLists r
end
mutual
theorem Dq.bare {G G' : Hp} (s : ∀ a o, G a = some o → (∀ xs, o ≠ .lst xs) → G' a = some o) : ∀ {v : V} {d : Dt}, Dq G v d → noList d = true → Dq G' v d
  | _, _, .non, _ => .non
  | _, _, .bl b, _ => .bl b
  | _, _, .int i, _ => .int i
  | _, _, .str x, _ => .str x
  | _, _, .lst h hs, n => by simp [noList] at n
  | _, _, .tup h hs, n => .tup (s _ _ h fun _ z => nomatch z) (Dqs.bare s hs (by simpa [noList] using n))
  | _, _, .dct h hk hs, n => .dct (s _ _ h fun _ z => nomatch z) hk (Dqs.bare s hs (by simpa [noList] using n))
  | _, _, .ins h hk hs, n => .ins (s _ _ h fun _ z => nomatch z) hk (Dqs.bare s hs (by simpa [noList] using n))
  | _, _, .con a, _ => .con a
  | _, _, .ftup h h1 h2 hs, n => .ftup (s _ _ h fun _ z => nomatch z) h1 h2 (Dqs.bare s hs (by simpa [noList] using n))
theorem Dqs.bare {G G' : Hp} (s : ∀ a o, G a = some o → (∀ xs, o ≠ .lst xs) → G' a = some o) : ∀ {vs : List V} {ds : List Dt}, Dqs G vs ds → noLists ds = true → Dqs G' vs ds
  | _, _, .nil, _ => .nil
  | _, _, .cons h hs, n => by
    rw [noLists, Bool.and_eq_true] at n
    exact .cons (Dq.bare s h n.1) (Dqs.bare s hs n.2)
end
theorem noLists_map {α : Type} {f : α → Dt} : ∀ {xs : List α}, (∀ x ∈ xs, noList (f x) = true) → noLists (xs.map f) = true
  | [], _ => by simp [noLists]
  | x :: r, h => by rw [List.map_cons, noLists, h x List.mem_cons_self, noLists_map fun y hy => h y (List.mem_cons_of_mem _ hy)]; rfl
/-- the data's heap without its lists -/
def bareH (G : Hp) : Hp := fun a => match G a with
  | some (.lst _) => none
  | o => o
theorem bare_sub (G : Hp) : Same (bareH G) G := fun a o e => by
  unfold bareH at e
  split at e
  · cases e
  · exact e
theorem bare_at {G : Hp} {a : Addr} {o : HO} (h : G a = some o) (n : ∀ xs, o ≠ .lst xs) : bareH G a = some o := by
  unfold bareH
  split
  · rename_i xs e
    rw [h] at e
    exact absurd (Option.some.inj e) (n xs)
  · exact h
theorem bare_no {G : Hp} {a : Addr} {xs : List V} : bareH G a ≠ some (.lst xs) := fun e => by
  have h := bare_sub G a _ e
  unfold bareH at e
  rw [h] at e
  cases e
theorem Dq.toBare {G : Hp} {v : V} {d : Dt} (h : Dq G v d) (n : noList d = true) : Dq (bareH G) v d := h.bare (fun a o e k => bare_at e k) n
/-- what a call made over the bare heap leaves -/
theorem Gx.unbare {G H G' H' : Hp} (s : Same G H) (g : Gx Bx.pure (bareH G) H G' H') : Gx Bx.pure G H G H' :=
  ⟨Same.refl G, fun a o z e => g.hh a o z e, fun a o e => g.hh a o (fun z => z) (s a o e), fun _ h => .inl h, trivial⟩
/-- a list that such a call gives is new -/
theorem new_list {G H G' H' : Hp} (s : Same G H) (g : Gx Bx.pure (bareH G) H G' H') {v : V} {ds : List Dt} (hq : Dq G' v (.lst ds)) (nl : noLists ds = true) : ∃ p vs G2, v = .ref p ∧ Gx Bx.pure G H G2 H' ∧ H p = none ∧ G2 p = none ∧ H' p = some (.lst vs) ∧ Dqs G2 vs ds := by
  cases hq with
  | @lst p vs _ h1 h2 =>
    have hp : H p = none := by
      rcases g.nw p (by rw [h1]; simp) with k | k | ⟨xs, k⟩
      · cases e : bareH G p with
        | none => exact absurd e k
        | some o =>
          have := g.gg p o e
          rw [h1] at this
          rw [← Option.some.inj this] at e
          exact absurd e bare_no
      · exact k
      · have k1 := g.hh p _ (fun z => z) k
        have k2 := g.gh p _ h1
        rw [k1] at k2
        cases k2
    have gp : G p = none := by
      cases e : G p with
      | none => rfl
      | some o => rw [s p o e] at hp; cases hp
    obtain ⟨G2, hG2⟩ : ∃ G2 : Hp, G2 = fun a => if a = p then none else match G a with
      | some o => some o
      | none => G' a := ⟨_, rfl⟩
    have atP : G2 p = none := by rw [hG2]; exact if_pos rfl
    have atO : ∀ {a : Addr} {o : HO}, G a = some o → G2 a = some o := fun {a o} e => by
      have : a ≠ p := ne_of_none e gp
      rw [hG2]
      simp only
      rw [if_neg this, e]
    have atN : ∀ {a : Addr}, a ≠ p → G a = none → G2 a = G' a := fun {a} n e => by
      rw [hG2]
      simp only
      rw [if_neg n, e]
    have keep : ∀ a o, G' a = some o → a ≠ p → G2 a = some o := fun a o e n => by
      cases k : G a with
      | none => rw [atN n k]; exact e
      | some u =>
        have k1 := g.hh a u (fun z => z) (s a u k)
        have k2 := g.gh a o e
        rw [k1] at k2
        rw [atO k]
        exact k2
    refine ⟨p, vs, G2, rfl, ⟨fun a o e => atO e, fun a o z e => g.hh a o z e, fun a o e => ?_, fun a e => ?_, trivial⟩, hp, atP, g.gh p _ h1, h2.bare (fun a o e n => keep a o e fun z => ?_) nl⟩
    · cases k : G a with
      | none =>
        have n : a ≠ p := fun z => by rw [z, atP] at e; cases e
        rw [atN n k] at e
        exact g.gh a o e
      | some u =>
        rw [atO k] at e
        rw [← Option.some.inj e]
        exact g.hh a u (fun z => z) (s a u k)
    · cases k : G a with
      | none =>
        have n : a ≠ p := fun z => by rw [z, atP] at e; exact e rfl
        rw [atN n k] at e
        rcases g.nw a e with z | z
        · cases y : bareH G a with
          | none => exact absurd y z
          | some u => rw [bare_sub G a u y] at k; cases k
        · exact .inr z
      | some u => exact .inl (by simp)
    · rw [z, h1] at e
      exact n vs (Option.some.inj e).symm
section
variable {K : PySem.W.Frag} {c : Bs} {δ : Fe} {te ta tb : TE}
/-! ### a walk over two things -/
theorem for_two {D : Ends} {σ : L2.St} {H : Hp} {i j : Nat} {t : Addr} {x0 x1 : V} {ts : TS} (I1 I2 : L2.St → Hp → Prop) (hσ : σ[i]? = some (some (.ref t))) (ht : SqL K H t [x0, x1])
    (b0 : ∀ E : Ends, (∀ σ1 H1, I1 σ1 H1 → E.nx σ1 H1) → ts E (σ.set j (some x0)) H)
    (b1 : ∀ (E : Ends) σ1 H1, I1 σ1 H1 → (∀ σ2 H2, I2 σ2 H2 → E.nx σ2 H2) → ts E (σ1.set j (some x1)) H1)
    (l1 : ∀ σ1 H1, I1 σ1 H1 → SqL K H1 t [x0, x1]) (l2 : ∀ σ2 H2, I2 σ2 H2 → SqL K H2 t [x0, x1]) (fin : ∀ σ2 H2, I2 σ2 H2 → D.nx σ2 H2) : tFor (iList K (tVar i)) (gName j) ts D σ H := by
  refine ⟨.ref t, hσ, t, rfl, ⟨_, ht⟩, fun k m σ' Hi => m = 2 - k ∧ ((k = 0 ∧ σ' = σ ∧ Hi = H) ∨ (k = 1 ∧ I1 σ' Hi) ∨ (k = 2 ∧ I2 σ' Hi)), ⟨2, rfl, .inl ⟨rfl, rfl, rfl⟩⟩, ?_⟩
  rintro k m σ' Hi ⟨rfl, h⟩
  rcases h with ⟨rfl, rfl, rfl⟩ | ⟨rfl, h⟩ | ⟨rfl, h⟩
  · refine .inr ⟨⟨[x0, x1], x0, ht, rfl⟩, I1, fun σ'' H'' hn => ⟨1, by decide, rfl, .inr (.inl ⟨rfl, hn⟩)⟩, fun y H' hy => ?_⟩
    obtain ⟨rfl, hy⟩ := hy
    have := Option.some.inj (hy _ ht)
    subst this
    exact b0 _ fun _ _ h => h
  · refine .inr ⟨⟨[x0, x1], x1, l1 _ _ h, rfl⟩, I2, fun σ'' H'' hn => ⟨0, by decide, rfl, .inr (.inr ⟨rfl, hn⟩)⟩, fun y H' hy => ?_⟩
    obtain ⟨rfl, hy⟩ := hy
    have := Option.some.inj (hy _ (l1 _ _ h))
    subst this
    exact b1 _ _ _ h fun _ _ h => h
  · exact .inl ⟨⟨_, l2 _ _ h, by show 2 ≤ 2; decide⟩, fin _ _ h⟩
/-! ### t + u, t of either kind and maybe empty, u a tuple that isn't empty -/
theorem de_catFT {k : Sk} {xs ys : List Dt} (hk : k = .tup ∨ k = .ftup) (hy : ys ≠ []) (ha : De c ta δ (sqD k xs)) (hb : De c tb δ (.tup ys)) (hl : xs.length + ys.length ≤ 10000000) : De c (tOp (rCatA K) ta tb) δ (.tup (xs ++ ys)) := fun σ G H e Q q =>
  ha σ G H e _ fun v x G1 H1 g1 d1 p1 => hb σ G1 H1 (e.up g1) _ fun w y G2 H2 g2 d2 p2 => by
    subst p1 p2
    have g12 := g1.trans e.jj g2
    cases d2 with
    | tup e1 e2 =>
      rename_i b ws
      have hne : ws ≠ [] := fun z => hy (List.length_eq_zero_iff.mp (by rw [← e2.length, z]; rfl))
      have go : ∀ {a : Addr} {vs : List V}, v = .ref a → SqT K H2 a vs → Dqs G2 vs xs → rCatA K v (.ref b) H2 Q := fun {a vs} ew hq dq => by
        subst ew
        refine ⟨a, b, vs, ws, rfl, rfl, hq, SqT.of (g2.gh _ _ e1), sz_ok (by rw [dq.length, e2.length]; exact hl), fun z => ?_, fun _ z => absurd z hne, fun _ _ p hp => ?_⟩
        · have ez : xs = [] := List.length_eq_zero_iff.mp (by rw [← dq.length, z]; rfl)
          exact q _ _ G2 H2 g12 (.tup e1 e2) (by rw [ez, List.nil_append])
        · exact q (.ref p) _ _ _ (g12.newDat e.jj hp (.tup (vs ++ ws))) (.tup upd_same ((dq.append e2).up fun b o z => by rw [upd_ne (ne_of_none (g2.gh b o z) hp)]; exact z)) rfl
      rcases hk with rfl | rfl
      · cases d1 with
        | tup a1 a2 => exact go rfl (SqT.of (g2.gh _ _ (g2.gg _ _ a1))) (a2.up g2.gg)
      · cases d1 with
        | ftup a1 f1 f2 a2 => exact go rfl (SqT.frz (g2.gh _ _ (g2.gg _ _ a1))) (a2.up g2.gg)
end
end Zd

set_option Elab.async false
set_option maxRecDepth 100000
set_option maxHeartbeats 4000000
/-! Zd47: isinstance of a caught own error, with attributes or without; an own error that keeps one attribute. -/
namespace Zd
open PySem PySem.Spec PyProof.Rows L2 StX
/-- isinstance(e, c) in a suite that holds e, whether e has attributes or not -/
def rIsD (K : PySem.W.Frag) (a : Addr) (cls : Value) (d : Option Addr) : List V → Hp → VK → Prop := fun xs H Q => ∃ D, cls = .ref D ∧ (d = none ∨ ∃ dd fs, d = some dd ∧ H dd = some (.xd fs)) ∧ ExcC K D ∧ rIsE K D a xs H Q
theorem call_isD {X : Cx} {K : PySem.W.Frag} (hK : X.K = K) {a : Addr} {cls : Value} {d : Option Addr} {oe : Obj} {pn : List (Addr × Obj)} (hz : Zc cls d oe) (hf : ∃ vs, oe.data = .fields vs) : CallR (X.suite a ((a, oe) :: pn)) (.builtin "isinstance") (rIsD K a cls d) := by
  subst hK
  intro pins s σ H xs us Q I r h
  obtain ⟨D, rfl, hd, C, q⟩ := h
  rcases hd with rfl | ⟨dd, fs, rfl, hx⟩
  · exact call_isE C hz hf pins s σ H xs us Q I r q
  · obtain ⟨c, cv, b, rfl, hcv, e, q⟩ := q
    obtain ⟨u0, us, rfl, r0, r1⟩ : ∃ u us', us = u :: us' ∧ RelV (.ref a) u ∧ Vals [c] us' := by cases r with | cons rx rr => exact ⟨_, _, rfl, rx, rr⟩
    obtain ⟨u1, rfl, rc⟩ := r1.one
    obtain rfl : u0 = Value.ref a := r0
    obtain rfl := hcv _ rc
    have hp := (I.pin (a, oe) (List.mem_append_left _ List.mem_cons_self)).1
    obtain ⟨mA, hns, _⟩ : ObjOk X.prog X.w H s.heap dd (.xd fs) := I.hok dd _ hx
    obtain ⟨od, ho, _⟩ := lookIn_ns hns
    obtain ⟨vs, hv⟩ := hf
    have J : PySem.W.InstAt s.heap a oe D (some od) := ⟨hp, hz.1, by unfold PySem.W.notCls; rw [hv] <;> rfl, by rw [hz.2]; exact ho⟩
    have hc : (PySem.W.clsIn X.K D).isSome = true := by
      obtain ⟨cd, h1, _⟩ := PySem.W.any_some C.hd
      rw [h1]; rfl
    exact PySem.W.kia_one (PySem.W.kitx_exc hc C.hg C.hk C.hs C.ha C.hn C.ht C.hm) I.kIn J e (fun z => nomatch z) fun tk => ⟨.bl b, H, I.kept (t' := tk) fun _ _ z => z, rfl, q⟩
/-- what an `__init__` does that keeps its one argument under a name -/
def spInit1 (C : Addr) (f : Str) : Sp := fun vs H Q _ => ∃ a v, vs = [.ref a, v] ∧ H a = some (exo a C none) ∧ ∀ dx, H dx = none → dx ≠ a → Q .non (upd (upd H dx (exd dx [(f, v)])) a (exo a C (some dx)))
/-- such an error made: its dict is new -/
theorem mkO_go {C : Addr} {f : Str} {ta : TA} {c : Bs} {δ : Fe} {d : Dt} {σ : L2.St} {G H : Hp} (ha : Ds' c ta δ (· = [d])) (e : Ec c G H σ δ) {Q : Value → Option Addr → Hp → Prop}
    (q : ∀ dx v G' H', Gx c.b G H G' H' → H dx = none → G' dx = none → H' dx = some (.xd [(f, v)]) → Dq G' v d → Q (.ref C) (some dx) H') : tMkO C (spInit1 C f) [] ta σ H Q :=
  ha σ G H e _ fun vs ds G1 H1 g1 d1 p => by
    subst p
    cases d1 with
    | cons dv dr =>
      cases dr
      rename_i v
      refine ⟨by show 1 ≤ 1000; decide, fun a hn => ⟨a, v, rfl, upd_same, fun dx hdx hne => ⟨rfl, dx, [(f, v)], upd_same, by rw [upd_ne hne]; exact upd_same, by rw [upd_ne hne] at hdx; exact hdx, ?_⟩⟩⟩
      have hdx1 : H1 dx = none := by rw [upd_ne hne] at hdx; exact hdx
      have eH : upd (del (upd (upd (upd H1 a (exo a C none)) dx (exd dx [(f, v)])) a (exo a C (some dx))) a) dx (.xd [(f, v)]) = upd H1 dx (.xd [(f, v)]) := by
        funext b
        by_cases h1 : b = dx
        · rw [h1, upd_same, upd_same]
        · rw [upd_ne h1, upd_ne h1]
          by_cases h2 : b = a
          · rw [h2, del_same, hn]
          · rw [del_ne h2, upd_ne h2, upd_ne h1, upd_ne h2]
      rw [eH]
      have g2 := g1.trans e.jj (Gx.put (o := .xd [(f, v)]) g1.gh g1.jj hdx1)
      refine q dx v G1 _ g2 (g1.fresh e.jj hdx1) ?_ upd_same dv
      cases k : G1 dx with
      | none => rfl
      | some u => rw [g1.gh dx u k] at hdx1; cases hdx1
end Zd

set_option Elab.async false
set_option maxRecDepth 100000
set_option maxHeartbeats 8000000
namespace K30
open PySem L2 StX Zd
/-! ### endings: the program -/
/-- an own error class over ValueError, without a method of its own -/
structure Exq (K : PySem.W.Frag) (mg : Str → Option Value) (nm : Str) (C : Addr) : Prop where
  x : PySem.W.excIn K C [.type "ValueError", .type "Exception", .type "BaseException", .type "object"] "ValueError.__new__" = true
  g : mg nm = some (.ref C)
  k : PySem.W.keepIn K (.ref C) = true
  b : PySem.W.subIn K (.ref C) (.type "BaseException") = some true
  t : PySem.W.typeIn K (.ref C) = some (.type "type")
def kE (gs : List Grp) : List End := gs.map (·.1)
def vS (gs : List Grp) : List Dt := gs.map fun g => schD g.2.1
def vN (gs : List Grp) : List Dt := gs.map fun g => nD g.2.2
def gMid (gs : List Grp) (e : End) (s : List Bool) : List Grp := if e ∈ kE gs then gs else gs ++ [(e, s, 0)]
theorem gMid_nodup {gs : List Grp} {e : End} {s : List Bool} (nd : (kE gs).Nodup) : (kE (gMid gs e s)).Nodup := by
  unfold gMid
  by_cases h : e ∈ kE gs
  · rw [if_pos h]; exact nd
  · rw [if_neg h]
    unfold kE
    rw [List.map_append]
    exact List.nodup_append.mpr ⟨nd, List.nodup_cons.mpr ⟨List.not_mem_nil, List.nodup_nil⟩, fun b hb b' hb' z => h (by rw [← show b' = e by simpa using hb', ← z]; exact hb)⟩
theorem gAdd_mid {gs : List Grp} {e : End} {s : List Bool} (nd : (kE gs).Nodup) : ∃ j g, (gMid gs e s)[j]? = some g ∧ g.1 = e ∧ gAdd gs e s = (gMid gs e s).set j (e, g.2.1, g.2.2 + 1) := by
  by_cases h : e ∈ kE gs
  · obtain ⟨g, hg, ee⟩ := List.mem_map.mp h
    obtain ⟨j, hj⟩ := List.getElem?_of_mem hg
    unfold gMid
    rw [if_pos h]
    exact ⟨j, g, hj, ee, gAdd_yes nd hj ee⟩
  · unfold gMid
    rw [if_neg h]
    refine ⟨gs.length, (e, s, 0), by simp, rfl, ?_⟩
    rw [gAdd_no h]
    simp
theorem map_set_fst {β : Type} {f : Grp → β} {gs : List Grp} {j : Nat} {g h : Grp} (hj : gs[j]? = some g) (e : f h = f g) : (gs.set j h).map f = gs.map f := by
  rw [List.map_set]
  refine List.ext_getElem? fun i => ?_
  by_cases z : j = i
  · subst z
    rw [List.getElem?_set_self (by rw [List.length_map]; exact (List.getElem?_eq_some_iff.mp hj).1), List.getElem?_map, hj, e]
    rfl
  · rw [List.getElem?_set_ne z]
structure EnA where
  pl : Plan
  fs : List Evt
  gs : List Evt
structure EnOk (a : EnA) : Prop where
  w : PlanW a.pl
  nf : ∀ e ∈ a.fs, e.1 ∈ a.pl.names
  ng : ∀ e ∈ a.gs, e.1 ∈ a.pl.names
  lf : a.fs.length ≤ 60
  lg : a.gs.length ≤ 60
def EnA.f (a : EnA) (s : List Bool) : End := endM (machL a.pl) (mrgL (s, a.fs, a.gs))
def EnA.gAll (a : EnA) : List Grp := K30.gAll a.f (schA 9 a.fs.length a.gs.length)
theorem EnOk.mrg {a : EnA} {s : List Bool} (h8 : a.fs.length + a.gs.length ≤ 8) (hs : s ∈ schA 9 a.fs.length a.gs.length) : MrgOk (s, a.fs, a.gs) := by
  rw [schAB 9 _ _ (by omega)] at hs
  obtain ⟨h1, h2⟩ := schB_ok 9 _ _ s hs
  have := tf_len s
  exact ⟨h1, h2, by show s.length ≤ 1000; omega⟩
theorem EnOk.eo {a : EnA} (h : EnOk a) {s : List Bool} (h8 : a.fs.length + a.gs.length ≤ 8) (hs : s ∈ schA 9 a.fs.length a.gs.length) : EoOk (a.pl, mrgL (s, a.fs, a.gs)) := by
  have hm := EnOk.mrg h8 hs
  refine ⟨h.w, fun e he => ?_, ?_⟩
  · rcases mrg_mem hm e he with z | z
    · exact h.nf e z
    · exact h.ng e z
  · show (mrgL _).length ≤ 100
    unfold mrgL
    rw [List.length_map, List.length_range]
    have := sch_len (n := 9) (by omega) hs
    show s.length ≤ 100
    omega
section
variable {P : Program} {w : World} {K : PySem.W.Frag} {mg : Str → Option Value} {base : Heap} {C aS aE CL : Addr} {tM : Tok}
abbrev spEndings (C CL : Addr) : Sp := spX CL (fun a : EnA => [progP C a.pl, evsD a.fs, evsD a.gs]) EnOk (fun a => decide (a.fs.length + a.gs.length ≤ 8)) fun a => .lst (a.gAll.map grpD)
theorem ok_endings {f f1 f2 f3 : Addr} {fd d1 d2 d3 : FuncData} (F : Fun K "endings" "endings" s_endings f fd) (k_schedules : Kn K mg "schedules" s_schedules ["many", "others"] f1 d1) (k_merged : Kn K mg "merged" s_merged ["schedule", "first", "second"] f2 d2) (k_ending_of : Kn K mg "ending_of" s_ending_of ["program", "events"] f3 d3)
    (G_schedules : FnOk P w K mg base CX0 10 f1 d1 ["many", "others"] (spSch 9)) (G_merged : FnOk P w K mg base CX0 1 f2 d2 ["schedule", "first", "second"] spMerged) (G_ending_of : FnOk P w K mg base CX0 4 f3 d3 ["program", "events"] (spEnding C))
    (c_MOST_SCHEDULED : mg "MOST_SCHEDULED" = some (.int 8 tM)) (x_TooLong : Exq K mg "TooLong" CL) (m_len : mg "len" = none) : FnOk P w K mg base (L2.CX P w) 11 f fd ["program", "first", "second"] (spEndings C CL) := by
  have nd := sc_endings.nd
  refine F.okX sc_endings (fun vs H Q E h => by obtain ⟨G, a, _, d, _⟩ := h; exact d.length) (fun cdv A outer s H vs Q E hr h => ⟨_, (pss_cons (ps_if (pt_cmpR op_gt (pe_op op_add (pe_callB (call_lenK (K := K) rfl) (by rfl) m_len PySem.boot_len (pa_cons (pv 1) pa_nil)) (pe_callB (call_lenK (K := K) rfl) (by rfl) m_len PySem.boot_len (pa_cons (pv 2) pa_nil))) (pe_glob (v := .int 8) rfl c_MOST_SCHEDULED ⟨_, rfl⟩) (nomark _)) (pss_one (ps_raise rfl (takes_of rfl rfl rfl rfl) (pmk_own PySem.F.excBase_ValueError x_TooLong.x x_TooLong.g x_TooLong.k (raises_own x_TooLong.b x_TooLong.t) rfl))) pss_nil)
      (pss_cons (ps_set (i := 3) nd rfl (by first | exact Or.inl rfl | exact Or.inr rfl) (pe_dNest (P := P) (w := w) rfl rfl))
      (pss_cons (ps_set (i := 4) nd rfl (by first | exact Or.inl rfl | exact Or.inr rfl) (pe_dNest (P := P) (w := w) rfl rfl))
      (pss_cons (ps_for (passes_of rfl) rfl (pi_listK (K := K) rfl (pe_call G_schedules (hr.mono (by decide)) (by rfl) k_schedules.g k_schedules.F.kp k_schedules.b .nil pass0 (pa_cons (pe_callB (call_lenK (K := K) rfl) (by rfl) m_len PySem.boot_len (pa_cons (pv 1) pa_nil)) (pa_cons (pe_callB (call_lenK (K := K) rfl) (by rfl) m_len PySem.boot_len (pa_cons (pv 2) pa_nil)) pa_nil)))) (pg_name (i := 5) nd rfl (by first | exact Or.inl rfl | exact Or.inr rfl)) (pss_cons (ps_set (i := 6) nd rfl (by first | exact Or.inl rfl | exact Or.inr rfl) (pe_call G_ending_of (hr.mono (by decide)) (by rfl) k_ending_of.g k_ending_of.F.kp k_ending_of.b .nil pass0 (pa_cons (pv 0) (pa_cons (pe_call G_merged (hr.mono (by decide)) (by rfl) k_merged.g k_merged.F.kp k_merged.b .nil pass0 (pa_cons (pv 5) (pa_cons (pv 1) (pa_cons (pv 2) pa_nil)))) pa_nil))))
      (pss_cons (ps_if (pt_cmpR (op_notInM (P := P) (w := w) (K := K) rfl rfl rfl hr.units) (pv 6) (pv 3) (by rfl)) (pss_cons (ps_dputM (P := P) (w := w) (K := K) rfl rfl rfl hr.units (pv 3) (pv 6) (pv 5) rfl)
      (pss_one (ps_dputM (P := P) (w := w) (K := K) rfl rfl rfl hr.units (pv 4) (pv 6) pe_int rfl))) pss_nil)
      (pss_one (ps_daugM (P := P) (w := w) (K := K) rfl rfl rfl hr.units (pv 4) (pv 6) pe_int)))))
      (pss_one (ps_ret (pe_lock (pe_lc (own := [("ending", 6)]) (g := gName 6) rfl nd (pi_keysN (P := P) (w := w) rfl rfl (pv 3)) (by refine blkOk_by ?_; show blkC N_endings (defScope s_endings) _ _ = true; decide +kernel) (fun _ _ _ _ _ => (pg_name (i := 6) nd rfl (by first | exact Or.inl rfl | exact Or.inr rfl))) (fun _ _ _ _ _ => pts_nil) (fun _ _ _ _ _ => (pe_tup (pa_cons (pv 6) (pa_cons (pe_dgetR (P := P) (w := w) (K := K) rfl rfl rfl hr.units (pv 3) (pv 6) (fun _ _ => rfl)) (pa_cons (pe_dgetR (P := P) (w := w) (K := K) rfl rfl rfl hr.units (pv 4) (pv 6) (fun _ _ => rfl)) pa_nil))))))))))))) , ?_⟩)
  obtain ⟨G, a, s0, d, O, qN, qE⟩ := h
  refine (?_ : Ds ⟨Bx.pure, G, H⟩ _ [.dat (progP C a.pl), .dat (evsD a.fs), .dat (evsD a.gs), .un, .un, .un, .un] { N := fun _ => False, R := fun d => decide (a.fs.length + a.gs.length ≤ 8) = true ∧ d = .lst (a.gAll.map grpD) }) _ _ G H (d.start s0 N_endings (by rw [d.length]; show 3 ≤ 7; decide)) (fun _ _ _ _ _ _ z => z.elim) (fun v d G' H' g dq r => by obtain ⟨h1, rfl⟩ := r; exact qN h1 v G' H' g dq) (fun _ _ _ _ _ _ z => z.elim) (fun _ _ _ _ _ _ z => z.elim)
  have lf := O.lf
  have lg := O.lg
  refine ds_seq (M := fun δ' => a.fs.length + a.gs.length ≤ 8 ∧ δ' = [.dat (progP C a.pl), .dat (evsD a.fs), .dat (evsD a.gs), .un, .un, .un, .un]) (ds_ifE (k := decide ((8 : Int) < a.fs.length + a.gs.length)) (dt_testE (De.eq (de_cmp (f := fun i j => decide (j < i)) (de_add (de_lenLK (de_var rfl)) (de_lenLK (de_var rfl))) (de_c fun _ => .int _)) (by rw [List.length_map, List.length_map]))) (fun ht => ?_) (fun ht => ?_)) ?_
  · have ht' := of_decide_eq_true ht
    intro D σ G1 H1 e n' r' b' c'
    exact qE (decide_eq_false (by omega)) G1 H1 e.gx
  · have ht' := of_decide_eq_false ht
    exact ds_next ⟨by omega, rfl⟩
  rintro δ' ⟨h8, rfl⟩
  generalize hss : schA 9 a.fs.length a.gs.length = ss
  have hmem : ∀ s ∈ ss, s ∈ schA 9 a.fs.length a.gs.length := fun s hs => by rw [hss]; exact hs
  have hsl : ss.length ≤ 512 := by rw [← hss]; exact schA_le (by omega) (by omega)
  have keys := gAll_keys a.f ss
  refine ds_let20 (kf := endK) (df := endD) ?_
  refine ds_let20 (kf := endK) (df := endD) ?_
  refine ds_seq (M := fun δ' => ∃ x5 x6, δ' = [.dat (progP C a.pl), .dat (evsD a.fs), .dat (evsD a.gs), .obj (DN2 P w endK endD (kE a.gAll) (vS a.gAll)), .obj (DN2 P w endK endD (kE a.gAll) (vN a.gAll)), x5, x6]) (ds_for (vs := [5]) (di_list (xs := ss.map schD) (De.eq (de_callT (A := fun a : Nat × Nat => [nD a.1, nD a.2]) (f := fun a => .lst ((schA 9 a.1 a.2).map schD)) (a.fs.length, a.gs.length) (da_consE (De.eq (de_lenLK (de_var rfl)) (by rw [List.length_map]; rfl)) (da_consE (De.eq (de_lenLK (de_var rfl)) (by rw [List.length_map]; rfl)) da_nil)) ⟨by show a.fs.length + a.gs.length < 9; omega, by show a.fs.length + a.gs.length ≤ 9; omega⟩) (by rw [hss]))) fun xs e => ?_) ?_
  · subst e
    refine ⟨fun k δ' => ∃ x5 x6, k ≤ ss.length ∧ δ' = [.dat (progP C a.pl), .dat (evsD a.fs), .dat (evsD a.gs), .obj (DN2 P w endK endD (kE (gAll a.f (ss.take k))) (vS (gAll a.f (ss.take k)))), .obj (DN2 P w endK endD (kE (gAll a.f (ss.take k))) (vN (gAll a.f (ss.take k)))), x5, x6], ⟨.un, .un, Nat.zero_le _, rfl⟩, ?_, ?_⟩
    · rintro k d δ' hd ⟨x5, x6, hk, rfl⟩
      obtain ⟨s, hs, rfl⟩ := get_of hd
      have hkl := (List.getElem?_eq_some_iff.mp hs).1
      have hsm := hmem s (List.mem_of_getElem? hs)
      obtain ⟨knd, kl⟩ := keys k hk
      have hkn := gAll_snoc a.f hs
      generalize hgs : gAll a.f (ss.take k) = gs at knd kl hkn
      refine dg_name (by decide) ?_
      refine ds_letE (d := endD (a.f s)) (de_callT (A := fun a : Plan × List Evt => [progP C a.1, evsD a.2]) (f := fun a => endD (endM (machL a.1) a.2)) (a.pl, mrgL (s, a.fs, a.gs)) (da_consE (de_var rfl) (da_consE (de_callT (A := fun a : List Bool × List Evt × List Evt => [schD a.1, evsD a.2.1, evsD a.2.2]) (f := fun a => evsD (mrgL a)) (s, a.fs, a.gs) (da_consE (de_var rfl) (da_consE (de_var rfl) (da_consE (de_var rfl) da_nil))) (EnOk.mrg h8 hsm)) da_nil)) (O.eo h8 hsm)) ?_
      have mid := gMid_nodup (e := a.f s) (s := s) knd
      obtain ⟨j, g, hj, hge, hadd⟩ := gAdd_mid (e := a.f s) (s := s) knd
      refine ds_seq (M := (· = [.dat (progP C a.pl), .dat (evsD a.fs), .dat (evsD a.gs), .obj (DN2 P w endK endD (kE (gMid gs (a.f s) s)) (vS (gMid gs (a.f s) s))), .obj (DN2 P w endK endD (kE (gMid gs (a.f s) s)) (vN (gMid gs (a.f s) s))), .dat (schD s), .dat (endD (a.f s))])) (ds_ifE (k := !decide (endK (a.f s) ∈ (kE gs).map endK)) (dt_testE (de_inN (neg := true) (nst2 (fun e => nkey_end e) rfl) (de_var rfl) (nkey_end _))) (fun ht => ?_) (fun ht => ?_)) ?_
      · have hn : endK (a.f s) ∉ (kE gs).map endK := by simpa using ht
        have hn' : a.f s ∉ kE gs := fun z => hn (endK_mem.mpr z)
        have hl : (kE gs).length ≤ 10000000 := by unfold kE; rw [List.length_map]; omega
        refine ds_seq (M := (· = [.dat (progP C a.pl), .dat (evsD a.fs), .dat (evsD a.gs), .obj (DN2 P w endK endD (kE gs ++ [a.f s]) (vS gs ++ [schD s])), .obj (DN2 P w endK endD (kE gs) (vN gs)), .dat (schD s), .dat (endD (a.f s))])) (ds_put2 (i := 3) (fun e => nkey_end e) rfl (de_var rfl) (de_var rfl) hn hl rfl) ?_
        rintro δ' rfl
        refine ds_put2 (i := 4) (d := nD 0) (fun e => nkey_end e) rfl de_int (de_var rfl) hn hl ?_
        unfold gMid
        rw [if_neg hn']
        unfold kE vS vN
        rw [List.map_append, List.map_append, List.map_append]
        rfl
      · have hn : a.f s ∈ kE gs := endK_mem.mp (by simpa using ht)
        unfold gMid
        rw [if_pos hn]
        exact ds_next rfl
      rintro δ' rfl
      have hml : (gMid gs (a.f s) s).length ≤ 1000 := by
        unfold gMid
        by_cases z : a.f s ∈ kE gs
        · rw [if_pos z]; omega
        · rw [if_neg z, List.length_append]; show gs.length + 1 ≤ 1000; omega
      refine ds_aug2 (i := 4) (j := j) (a := a.f s) (m := (g.2.2 : Int)) (n' := 1) (fun e => nkey_end e) (endKs_nodup mid) rfl (de_var rfl) (by unfold kE; rw [List.getElem?_map, hj, ← hge]; rfl) (by unfold vN; rw [List.getElem?_map, hj]; rfl) de_int (by unfold kE; rw [List.length_map]; omega) ⟨.dat (schD s), .dat (endD (a.f s)), by omega, ?_⟩
      rw [hkn, hadd]
      have e1 : kE ((gMid gs (a.f s) s).set j (a.f s, g.2.1, g.2.2 + 1)) = kE (gMid gs (a.f s) s) := map_set_fst hj hge.symm
      have e2 : vS ((gMid gs (a.f s) s).set j (a.f s, g.2.1, g.2.2 + 1)) = vS (gMid gs (a.f s) s) := map_set_fst hj rfl
      have e3 : vN ((gMid gs (a.f s) s).set j (a.f s, g.2.1, g.2.2 + 1)) = (vN (gMid gs (a.f s) s)).set j (.int ((g.2.2 : Int) + 1)) := by unfold vN; rw [List.map_set]; rfl
      rw [e1, e2, e3]
      rfl
    · rintro δ' ⟨x5, x6, hk, rfl⟩
      rw [List.length_map, List.take_length]
      unfold EnA.gAll
      rw [hss]
      exact ⟨x5, x6, rfl⟩
  rintro δ' ⟨x5, x6, rfl⟩
  obtain ⟨knd, kl⟩ := keys ss.length (Nat.le_refl _)
  rw [List.take_length] at knd kl
  have hga : a.gAll = gAll a.f ss := by unfold EnA.gAll; rw [hss]
  rw [hga]
  generalize gAll a.f ss = gs at knd kl
  have nde : ((kE gs).map endK).Nodup := endKs_nodup knd
  refine ds_retE (d := .lst ((List.range ((kE gs).map endD).length).map fun i => ((gs[i]?).map grpD).getD .non)) (Dl.de (dl_lock (i := 3) rfl fun od => dl_lcN (fun i => ((gs[i]?).map grpD).getD .non) (di_keys2 (i := 3) rfl) (by rw [List.length_map]; unfold kE; rw [List.length_map]; omega) fun i d hd => ?_)) ⟨decide_eq_true h8, ?_⟩
  · unfold kE at hd
    rw [List.map_map] at hd
    obtain ⟨g, hg, rfl⟩ := get_of hd
    refine dg_name (by decide) ?_
    have hk1 : (kE gs)[i]? = some g.1 := by unfold kE; rw [List.getElem?_map, hg]; rfl
    rw [hg]
    exact de_tup (da_consE (de_var rfl) (da_consE (de_get2 (i := 3) (j := i) (a := g.1) (d := schD g.2.1) (fun e => nkey_end e) nde (.inr ⟨od, rfl⟩) (de_var rfl) hk1 (by unfold vS; rw [List.getElem?_map, hg]; rfl)) (da_consE (de_get2 (i := 4) (j := i) (a := g.1) (d := nD g.2.2) (fun e => nkey_end e) nde (.inl rfl) (de_var rfl) hk1 (by unfold vN; rw [List.getElem?_map, hg]; rfl)) da_nil)))
  · congr 1
    refine List.ext_getElem? fun i => ?_
    rw [List.length_map, show (kE gs).length = gs.length by unfold kE; rw [List.length_map], List.getElem?_map, List.getElem?_map]
    by_cases h : i < gs.length
    · rw [List.getElem?_range h, List.getElem?_eq_getElem h]
      show some (((gs[i]?).map grpD).getD .non) = _
      rw [List.getElem?_eq_getElem h]
      rfl
    · rw [List.getElem?_eq_none (by rw [List.length_range]; omega), List.getElem?_eq_none (by omega)]
      rfl
end
end K30

set_option Elab.async false
set_option maxRecDepth 100000
set_option maxHeartbeats 8000000
namespace K30
open PySem L2 StX Zd
/-! ### endings: what the law works out -/
def EndW (e : End) : Prop := ∀ ps ∈ e, ∀ x ∈ ps, PyData.strOk x.1 = true
theorem lay_end {n : Nat} {e : End} (h : EndW e) : Lay (n + 3) (endP e) := lay_tuple (lays_map fun ps hp => lay_tuple (lays_map fun x hx => lay_tuple (lays_cons (lay_str (h ps hp x hx)) (lays_cons lay_int lays_nil))))
theorem lay_sch {n : Nat} (s : List Bool) : Lay (n + 1) (schP s) := lay_tuple (lays_map fun _ _ => lay_bl)
theorem lay_grp {n : Nat} {g : Grp} (h : EndW g.1) : Lay (n + 4) (grpP g) := lay_tuple (lays_cons (lay_end h) (lays_cons (lay_sch _) (lays_cons lay_int lays_nil)))
theorem end_words {pl : Plan} (hw : PlanW pl) {es : List Evt} (hn : ∀ e ∈ es, e.1 ∈ pl.names) : EndW (endM (machL pl) es) := fun ps hp x hx => by
  obtain ⟨pt, _, rfl⟩ := List.mem_map.mp hp
  obtain ⟨o, ho, rfl⟩ := List.mem_map.mp hx
  obtain ⟨os, hos, ho⟩ := List.mem_flatten.mp (List.mem_filter.mp ho).1
  exact (hw.trc_outs' hn os hos o ho).l
theorem gAdd_mem {gs : List Grp} {e : End} {s : List Bool} (nd : (kE gs).Nodup) : ∀ x ∈ kE (gAdd gs e s), x ∈ kE gs ∨ x = e := fun x hx => by
  obtain ⟨j, g, hj, hge, hadd⟩ := gAdd_mid (e := e) (s := s) nd
  have e1 : kE ((gMid gs e s).set j (e, g.2.1, g.2.2 + 1)) = kE (gMid gs e s) := map_set_fst hj hge.symm
  rw [hadd, e1] at hx
  unfold gMid at hx
  by_cases h : e ∈ kE gs
  · rw [if_pos h] at hx; exact .inl hx
  · rw [if_neg h] at hx
    unfold kE at hx ⊢
    rw [List.map_append] at hx
    rcases List.mem_append.mp hx with z | z
    · exact .inl z
    · exact .inr (by simpa using z)
theorem gAll_mem (f : List Bool → End) (ss : List (List Bool)) : ∀ i, i ≤ ss.length → ∀ x ∈ kE (gAll f (ss.take i)), ∃ s ∈ ss, x = f s
  | 0, _, x, hx => by cases hx
  | i + 1, h, x, hx => by
    rw [gAll_snoc f (List.getElem?_eq_getElem (show i < ss.length by omega))] at hx
    rcases gAdd_mem (gAll_keys f ss i (by omega)).1 x hx with z | z
    · exact gAll_mem f ss i (by omega) x z
    · exact ⟨_, List.getElem_mem _, z⟩
theorem filter_one {n j : Nat} (h : j < n) : (List.range n).filter (fun k => decide (k = j)) = [j] := by
  induction n with
  | zero => omega
  | succ n ih =>
    rw [List.range_succ, List.filter_append]
    by_cases e : j = n
    · subst e
      have : (List.range j).filter (fun k => decide (k = j)) = [] := List.filter_eq_nil_iff.mpr fun k hk => by
        have := List.mem_range.mp hk
        simp; omega
      rw [this]
      simp
    · rw [ih (by omega)]
      have : [n].filter (fun k => decide (k = j)) = [] := List.filter_eq_nil_iff.mpr fun k hk => by
        rw [List.mem_singleton.mp hk]
        simp; omega
      rw [this]
      rfl
theorem any_end (es : List End) (e : End) : (es.map endP).any (fun z => PyData.eqv z (endP e)) = decide (e ∈ es) := by
  induction es with
  | nil => simp
  | cons x r ih =>
    rw [List.map_cons, List.any_cons, ih, eqv_end]
    by_cases h : x = e
    · subst h; simp
    · have h' : ¬ e = x := fun z => h z.symm
      simp [h, h']
theorem ds_asgW0 {c : Bs} {δ : Fe} {te : TE} {p : Po} {g : TG} {d : Dt} (h : De c te δ d) (k : Dw c g d δ p.N) : Ds c (tAsg te g) δ p := fun D σ G H e n r b q => h σ G H e _ fun v x G1 H1 g1 d1 p1 => by
  subst p1
  exact k σ G1 H1 v (e.up g1) d1 _ fun δ' σ' G' H' e' s' m' => n δ' σ' G' H' (g1.gg.trans s') e' m'
structure LEA where
  pl : Plan
  fs : List Evt
  gs : List Evt
  s : List Bool
structure LEOk (a : LEA) : Prop where
  w : PlanW a.pl
  nf : ∀ e ∈ a.fs, e.1 ∈ a.pl.names
  ng : ∀ e ∈ a.gs, e.1 ∈ a.pl.names
  m : MrgOk (a.s, a.fs, a.gs)
  l : a.s.length ≤ 100
section
variable {P : Program} {w : World} {K : PySem.W.Frag} {mg : Str → Option Value} {base : Heap} {C aS aE CL : Addr} {tM : Tok}
abbrev spLEnding : Sp := spT (fun a : LEA => [planD a.pl, evsD a.fs, evsD a.gs, schD a.s]) LEOk fun a d => d = endD (endM (machL a.pl) (mrgL (a.s, a.fs, a.gs)))
theorem ok__law_ending {f f1 : Addr} {fd d1 : FuncData} (F : Fun K "_law_ending" "_law_ending" s__law_ending f fd) (k__law_run : Kn K mg "_law_run" s__law_run ["plan", "events"] f1 d1) (G__law_run : FnOk P w K mg base CX0 3 f1 d1 ["plan", "events"] spLRun) (m_len : mg "len" = none) (m_range : mg "range" = none) (m_tuple : mg "tuple" = none) : FnOk P w K mg base CX0 4 f fd ["plan", "first", "second", "schedule"] spLEnding := by
  have nd := sc__law_ending.nd
  refine F.ok sc__law_ending (fun vs H Q E h => spT_len (fun _ => rfl) h) (fun cdv A outer s H vs Q E hr h => ⟨_, (pss_cons (ps_set (i := 4) nd rfl (by first | exact Or.inl rfl | exact Or.inr rfl) (pe_lst pa_nil))
      (pss_cons (ps_for PassesOwn.never rfl (pi_range1 rfl m_range (pa_cons (pe_callB (call_lenK (K := K) rfl) (by rfl) m_len PySem.boot_len (pa_cons (pv 3) pa_nil)) pa_nil)) (pg_name (i := 5) nd rfl (by first | exact Or.inl rfl | exact Or.inr rfl)) (pss_cons (ps_set (i := 6) nd rfl (by first | exact Or.inl rfl | exact Or.inr rfl) (pe_callB (call_lenK (K := K) rfl) (by rfl) m_len PySem.boot_len (pa_cons (pe_lc (own := [("choice", 7)]) (g := gName 7) rfl nd (pi_tupK (K := K) rfl (pe_slice (sl_tupAK (K := K) rfl) (pv 3) po_none (po_some (pv 5)))) (by refine blkOk_by ?_; show blkC N__law_ending (defScope s__law_ending) _ _ = true; decide +kernel) (fun _ _ _ _ _ => (pg_name (i := 7) nd rfl (by first | exact Or.inl rfl | exact Or.inr rfl))) (fun _ _ _ _ _ => pts_one (pt_val (pv 7))) (fun _ _ _ _ _ => (pv 7))) pa_nil)))
      (pss_one (ps_if (pt_val (pe_ix (ix_tupK (K := K) rfl) (pv 3) (pv 5) (fun _ _ => rfl))) (pss_one (ps_expr (pe_bm PySem.F.plainAttrs_list PySem.F.slot_list_append PySem.F.type_list_append mt_append (pv 4) (pa_cons (pe_ix (ix_listK (K := K) rfl) (pv 1) (pv 6) (fun _ _ => rfl)) pa_nil)))) (pss_one (ps_expr (pe_bm PySem.F.plainAttrs_list PySem.F.slot_list_append PySem.F.type_list_append mt_append (pv 4) (pa_cons (pe_ix (ix_listK (K := K) rfl) (pv 2) (pe_op op_sub (pv 5) (pv 6)) (fun _ _ => rfl)) pa_nil))))))))
      (pss_cons (ps_set (i := 8) nd rfl (by first | exact Or.inl rfl | exact Or.inr rfl) (pe_ix (ix_listK (K := K) rfl) (pe_call G__law_run (hr.mono (by decide)) (by rfl) k__law_run.g k__law_run.F.kp k__law_run.b .nil pass0 (pa_cons (pv 0) (pa_cons (pv 4) pa_nil))) pe_int (fun _ _ => rfl)))
      (pss_cons (ps_set (i := 9) nd rfl (by first | exact Or.inl rfl | exact Or.inr rfl) (pe_lst pa_nil))
      (pss_cons (ps_for PassesOwn.never rfl (pi_tupK (K := K) rfl (pe_ix (ix_listK (K := K) rfl) (pv 0) pe_int (fun _ _ => rfl))) (pg_tupK (K := K) (n := 2) rfl rfl (pgs_cons (pg_name (i := 10) nd rfl (by first | exact Or.inl rfl | exact Or.inr rfl)) (pgs_cons (pg_name (i := 11) nd rfl (by first | exact Or.inl rfl | exact Or.inr rfl)) pgs_nil))) (pss_cons (ps_set (i := 12) nd rfl (by first | exact Or.inl rfl | exact Or.inr rfl) (pe_lst pa_nil))
      (pss_cons (ps_for PassesOwn.never rfl (pi_listK (K := K) rfl (pv 8)) (pg_name (i := 13) nd rfl (by first | exact Or.inl rfl | exact Or.inr rfl)) (pss_one (ps_set (i := 12) nd rfl (by first | exact Or.inl rfl | exact Or.inr rfl) (pe_op op_cat (pv 12) (pe_lc (own := [("triple", 14)]) (g := gName 14) rfl nd (pi_tupK (K := K) rfl (pv 13)) (by refine blkOk_by ?_; show blkC N__law_ending (defScope s__law_ending) _ _ = true; decide +kernel) (fun _ _ _ _ _ => (pg_name (i := 14) nd rfl (by first | exact Or.inl rfl | exact Or.inr rfl))) (fun _ _ _ _ _ => pts_one (pt_cmpR op_eq (pe_ix (ix_tupK (K := K) rfl) (pv 14) pe_int (fun _ _ => rfl)) (pv 10) (nomark _))) (fun _ _ _ _ _ => (pe_tup (pa_cons (pe_ix (ix_tupK (K := K) rfl) (pv 14) pe_int (fun _ _ => rfl)) (pa_cons (pe_ix (ix_tupK (K := K) rfl) (pv 14) pe_int (fun _ _ => rfl)) pa_nil)))))))))
      (pss_one (ps_expr (pe_bm PySem.F.plainAttrs_list PySem.F.slot_list_append PySem.F.type_list_append mt_append (pv 9) (pa_cons (pe_callTy (call_tuple_ofK (K := K) rfl) (by rfl) m_tuple (by decide +kernel) (pa_cons (pv 12) pa_nil)) pa_nil)))))))
      (pss_one (ps_ret (pe_callTy (call_tuple_ofK (K := K) rfl) (by rfl) m_tuple (by decide +kernel) (pa_cons (pv 9) pa_nil))))))))) , ?_⟩)
  refine ok_bodyT (fun a => [.dat (planD a.pl), .dat (evsD a.fs), .dat (evsD a.gs), .dat (schD a.s), .un, .un, .un, .un, .un, .un, .un, .un, .un, .un, .un]) h (fun _ => by show 4 ≤ 15; decide) (fun _ => rfl) fun c a hc hp => ?_
  obtain ⟨pl, fs, gs, s⟩ := a
  obtain ⟨hw, nf, ng, hm, hl⟩ := hp
  simp only at hw nf ng hm hl ⊢
  have p3 := hw.base.p3
  refine ds_letOwnE (ds := []) (dl_lst da_nil fun _ e => by rw [e]; decide) ?_
  refine ds_seq (M := fun δ' => ∃ x5 x6, δ' = [.dat (planD pl), .dat (evsD fs), .dat (evsD gs), .dat (schD s), .own ((mrgL (s, fs, gs)).map pairD), x5, x6, .un, .un, .un, .un, .un, .un, .un, .un]) (ds_for (vs := [5]) (di_rng1E (n := (s.length : Int)) (De.eq (de_lenTK (de_var rfl)) (by rw [List.length_map])) (by omega) (by omega)) fun xs e => ?_) ?_
  · subst e
    refine ⟨fun k δ' => ∃ x5 x6, k ≤ s.length ∧ δ' = [.dat (planD pl), .dat (evsD fs), .dat (evsD gs), .dat (schD s), .own (((List.range k).map (mrgAt (s, fs, gs))).map pairD), x5, x6, .un, .un, .un, .un, .un, .un, .un, .un], ⟨.un, .un, Nat.zero_le _, rfl⟩, ?_, ?_⟩
    · rintro k d δ' hd ⟨x5, x6, _, rfl⟩
      obtain ⟨hk, rfl⟩ := rng_get hd
      rw [Int.toNat_natCast] at hk
      have hb := List.getElem?_eq_getElem hk
      generalize s[k] = b at hb
      have hle := tcn_le s k
      refine dg_name (by decide) ?_
      refine ds_letE (d := nD (tcn s k)) (De.eq (de_lenLK (Dl.de (dl_lcOfF (xs := s.take k) (b := Dt.bl) id (fun b => .bl b) (di_tup (dn_slTA (T := (· = .tup ((s.take k).map Dt.bl))) (A := (· = none)) (B := (· = some (k : Int))) (de_var (d := schD s) rfl) dp_none (dp_someE (de_var rfl)) fun lo hi e1 e2 => by rw [e1, e2, cutD_take, List.map_take])) (by rw [List.length_take]; omega) fun b _ => dg_name (by decide) ⟨dt_testE (de_var rfl), fun _ => de_var rfl⟩))) (by rw [List.length_map]; rfl)) ?_
      refine ds_ifE (k := b) (dt_testE (de_ixTn (i := k) (xs := s.map Dt.bl) (de_var rfl) (de_var rfl) (by rw [List.getElem?_map, hb]; rfl))) (fun ht => ?_) (fun ht => ?_)
      · subst ht
        have h1 : fs[tcn s k]? = some (mrgAt (s, fs, gs) k) := mrg_true hm hb
        refine ds_append (i := 4) (T := (· = pairD (mrgAt (s, fs, gs) k))) rfl (de_ixLn (i := tcn s k) (de_var rfl) (de_var rfl) (by rw [List.getElem?_map, h1]; rfl)) (by rw [List.length_map, List.length_map, List.length_range]; omega) fun d e => ⟨.dat (.int (k : Int)), .dat (nD (tcn s k)), by omega, ?_⟩
        rw [e, List.range_succ, List.map_append, List.map_append]
        rfl
      · subst ht
        have h1 : gs[k - tcn s k]? = some (mrgAt (s, fs, gs) k) := mrg_false hm hb
        refine ds_append (i := 4) (T := (· = pairD (mrgAt (s, fs, gs) k))) rfl (de_ixLn (i := k - tcn s k) (de_var rfl) (De.eq (de_sub (de_var rfl) (de_var rfl)) (by congr 1; omega)) (by rw [List.getElem?_map, h1]; rfl)) (by rw [List.length_map, List.length_map, List.length_range]; omega) fun d e => ⟨.dat (.int (k : Int)), .dat (nD (tcn s k)), by omega, ?_⟩
        rw [e, List.range_succ, List.map_append, List.map_append]
        rfl
    · rintro δ' ⟨x5, x6, _, rfl⟩
      rw [rngD_len, Int.toNat_natCast]
      exact ⟨x5, x6, rfl⟩
  rintro δ' ⟨x5, x6, rfl⟩
  refine ds_freeze (i := 4) (ds := (mrgL (s, fs, gs)).map pairD) rfl ?_
  have hes : ∀ e ∈ mrgL (s, fs, gs), e.1 ∈ pl.names := fun e he => by
    rcases mrg_mem hm e he with z | z
    · exact nf e z
    · exact ng e z
  have hel : (mrgL (s, fs, gs)).length ≤ 100 := by unfold mrgL; rw [List.length_map, List.length_range]; exact hl
  generalize mrgL (s, fs, gs) = es at hes hel
  have hol : (trc (machL pl) es).outs.length ≤ es.length := by
    have := (trc_ok hw.mach hes es.length).2.1
    rwa [List.take_length] at this
  have hlen4 := hw.trc_len' hes
  have hfl : (trc (machL pl) es).outs.flatten.length ≤ 400 := by
    have := flat_le hlen4
    omega
  refine ds_letE (d := .lst ((trc (machL pl) es).outs.map outsD)) (de_ixL (d := .lst ((trc (machL pl) es).outs.map outsD)) (de_callT (A := fun a : Plan × List Evt => [planD a.1, .lst (a.2.map pairD)]) (f := fun a => lrunD (trc (machL a.1) a.2)) (pl, es) (da_consE (de_var rfl) (da_consE (de_var rfl) da_nil)) ⟨hw.p.tab, hw.mach, hes, by show es.length ≤ 1000; omega⟩) de_int rfl) ?_
  generalize hO : (trc (machL pl) es).outs = O at hol hlen4 hfl
  refine ds_letOwnE (ds := []) (dl_lst da_nil fun _ e => by rw [e]; decide) ?_
  have hcol : ∀ (n : Str) (i : Nat), (col n (O.take i).flatten).length ≤ 400 := fun n i => by
    have h1 := col_le n (O.take i).flatten
    have h2 := take_flat_le O i
    omega
  refine ds_seq (M := fun δ' => ∃ x10 x11 x12 x13 x14, δ' = [.dat (planD pl), .dat (evsD fs), .dat (evsD gs), .dat (schD s), .dat (evsD es), x5, x6, .un, .dat (.lst (O.map outsD)), .own (pl.ports.map fun pt => .tup ((col pt.1 O.flatten).map pairD)), x10, x11, x12, x13, x14]) (ds_for (vs := [10, 11]) (di_tup (xs := pl.ports.map portD) (de_ports (de_var rfl))) fun xs e => ?_) ?_
  · subst e
    refine ⟨fun k δ' => ∃ x10 x11 x12 x13 x14, δ' = [.dat (planD pl), .dat (evsD fs), .dat (evsD gs), .dat (schD s), .dat (evsD es), x5, x6, .un, .dat (.lst (O.map outsD)), .own ((pl.ports.take k).map fun pt => .tup ((col pt.1 O.flatten).map pairD)), x10, x11, x12, x13, x14], ⟨.un, .un, .un, .un, .un, rfl⟩, ?_, ?_⟩
    · rintro k d δ' hd ⟨x10, x11, x12, x13, x14, rfl⟩
      obtain ⟨pt, hpt, rfl⟩ := get_of hd
      refine dg_tup rfl (dgs_name (by decide) (dgs_name (by decide) (dgs_nil ?_)))
      refine ds_letE (d := .lst []) (de_lst da_nil) ?_
      refine ds_seq (M := fun δ' => ∃ x13 x14, δ' = [.dat (planD pl), .dat (evsD fs), .dat (evsD gs), .dat (schD s), .dat (evsD es), x5, x6, .un, .dat (.lst (O.map outsD)), .own ((pl.ports.take k).map fun pt => .tup ((col pt.1 O.flatten).map pairD)), .dat (.str pt.1), .dat (strsL pt.2), .dat (.lst ((col pt.1 O.flatten).map pairD)), x13, x14]) (ds_for (vs := [13]) (di_list (xs := O.map outsD) (de_var rfl)) fun xs e => ?_) ?_
      · subst e
        refine ⟨fun i δ' => ∃ x13 x14, δ' = [.dat (planD pl), .dat (evsD fs), .dat (evsD gs), .dat (schD s), .dat (evsD es), x5, x6, .un, .dat (.lst (O.map outsD)), .own ((pl.ports.take k).map fun pt => .tup ((col pt.1 O.flatten).map pairD)), .dat (.str pt.1), .dat (strsL pt.2), .dat (.lst ((col pt.1 (O.take i).flatten).map pairD)), x13, x14], ⟨_, _, rfl⟩, ?_, ?_⟩
        · rintro i d δ' hd ⟨x13, x14, rfl⟩
          obtain ⟨os, hos, rfl⟩ := get_of hd
          have h4 := hlen4 os (List.mem_of_getElem? hos)
          refine dg_name (by decide) ?_
          refine ds_set (T := (· = .lst ((col pt.1 (O.take i).flatten).map pairD ++ (os.filter fun o => decide (o.1 = pt.1)).map fun o => pairD o.2))) (Dl.de (dl_cat (de_var rfl) (Dl.de (dl_lcOfF (xs := os) (b := o3D) (fun o => decide (o.1 = pt.1)) (fun o => pairD o.2) (di_tup (de_var rfl)) (by omega) fun o _ => dg_name (by decide) ⟨dt_testE (de_op (de_ixTn (i := 0) (d := .str o.1) (de_var (d := o3D o) rfl) de_int rfl) (de_var rfl) rv_eqS), fun _ => de_tup (da_consE (de_ixTn (i := 1) (d := .str o.2.1) (de_var (d := o3D o) rfl) de_int rfl) (da_consE (de_ixTn (i := 2) (d := .int o.2.2) (de_var (d := o3D o) rfl) de_int rfl) da_nil))⟩)) (by
            have h5 := hcol pt.1 i
            have h6 := List.length_filter_le (fun o : Out => decide (o.1 = pt.1)) os
            rw [List.length_map, List.length_map]
            omega))) fun d e => ⟨.dat (outsD os), x14, ?_⟩
          rw [e, flatten_take hos, col_app, List.map_append]
          unfold col
          rw [List.map_map (l := List.filter _ os)]
          rfl
        · rintro δ' ⟨x13, x14, rfl⟩
          rw [List.length_map, List.take_length]
          exact ⟨x13, x14, rfl⟩
      rintro δ' ⟨x13, x14, rfl⟩
      refine ds_append (i := 9) (T := (· = .tup ((col pt.1 O.flatten).map pairD))) rfl (de_tupleOfLK (de_var rfl)) (by rw [List.length_map, List.length_take]; omega) fun d e => ⟨.dat (.str pt.1), .dat (strsL pt.2), .dat (.lst ((col pt.1 O.flatten).map pairD)), x13, x14, ?_⟩
      rw [e, show pl.ports.take (k + 1) = pl.ports.take k ++ [pt] by rw [List.take_add_one, hpt]; rfl, List.map_append]
      rfl
    · rintro δ' ⟨x10, x11, x12, x13, x14, rfl⟩
      rw [List.length_map, List.take_length]
      exact ⟨x10, x11, x12, x13, x14, rfl⟩
  rintro δ' ⟨x10, x11, x12, x13, x14, rfl⟩
  refine ds_freeze (i := 9) rfl ?_
  refine ds_retE (de_tupleOfLK (de_var rfl)) ?_
  show _ = endD (endOf pl.ports (trc (machL pl) es).outs.flatten)
  rw [hO]
  unfold endD endOf
  rw [List.map_map]
  rfl
end
end K30

set_option Elab.async false
set_option maxRecDepth 100000
set_option maxHeartbeats 8000000
namespace K30
open PySem L2 StX Zd
/-! ### what is due -/
structure DueOk (a : EnA) : Prop where
  e : EnOk a
  h8 : a.fs.length + a.gs.length ≤ 8
section
variable {P : Program} {w : World} {K : PySem.W.Frag} {mg : Str → Option Value} {base : Heap} {C aS aE CL : Addr} {tM : Tok}
abbrev spDue : Sp := spT (fun a : EnA => [planD a.pl, evsD a.fs, evsD a.gs]) DueOk fun a d => d = .lst (a.gAll.map grpD)
theorem ok__law_due {f f1 f2 : Addr} {fd d1 d2 : FuncData} (F : Fun K "_law_due" "_law_due" s__law_due f fd) (k__law_schedules : Kn K mg "_law_schedules" s__law_schedules ["first", "second"] f1 d1) (k__law_ending : Kn K mg "_law_ending" s__law_ending ["plan", "first", "second", "schedule"] f2 d2)
    (G__law_schedules : FnOk P w K mg base CX0 10 f1 d1 ["first", "second"] (spLSch 9)) (G__law_ending : FnOk P w K mg base CX0 4 f2 d2 ["plan", "first", "second", "schedule"] spLEnding) (m_len : mg "len" = none) (m_range : mg "range" = none) : FnOk P w K mg base CX0 11 f fd ["plan", "first", "second"] spDue := by
  have nd := sc__law_due.nd
  refine F.ok sc__law_due (fun vs H Q E h => spT_len (fun _ => rfl) h) (fun cdv A outer s H vs Q E hr h => ⟨_, (pss_cons (ps_set (i := 3) nd rfl (by first | exact Or.inl rfl | exact Or.inr rfl) (pe_lst pa_nil))
      (pss_cons (ps_set (i := 4) nd rfl (by first | exact Or.inl rfl | exact Or.inr rfl) (pe_lst pa_nil))
      (pss_cons (ps_for PassesOwn.never rfl (pi_listK (K := K) rfl (pe_call G__law_schedules (hr.mono (by decide)) (by rfl) k__law_schedules.g k__law_schedules.F.kp k__law_schedules.b .nil pass0 (pa_cons (pe_callB (call_lenK (K := K) rfl) (by rfl) m_len PySem.boot_len (pa_cons (pv 1) pa_nil)) (pa_cons (pe_callB (call_lenK (K := K) rfl) (by rfl) m_len PySem.boot_len (pa_cons (pv 2) pa_nil)) pa_nil)))) (pg_name (i := 5) nd rfl (by first | exact Or.inl rfl | exact Or.inr rfl)) (pss_cons (ps_set (i := 6) nd rfl (by first | exact Or.inl rfl | exact Or.inr rfl) (pe_call G__law_ending (hr.mono (by decide)) (by rfl) k__law_ending.g k__law_ending.F.kp k__law_ending.b .nil pass0 (pa_cons (pv 0) (pa_cons (pv 1) (pa_cons (pv 2) (pa_cons (pv 5) pa_nil))))))
      (pss_one (ps_if (pt_cmpR (op_inDK (K := K) rfl (u65 hr)) (pv 6) (pv 3) (by rfl)) (pss_cons (ps_set (i := 7) nd rfl (by first | exact Or.inl rfl | exact Or.inr rfl) (pe_ix (ix_listK (K := K) rfl) (pe_lc (own := [("k", 8)]) (g := gName 8) rfl nd (pi_range1 rfl m_range (pa_cons (pe_callB (call_lenK (K := K) rfl) (by rfl) m_len PySem.boot_len (pa_cons (pv 3) pa_nil)) pa_nil)) (by refine blkOk_by ?_; show blkC N__law_due (defScope s__law_due) _ _ = true; decide +kernel) (fun _ _ _ _ _ => (pg_name (i := 8) nd rfl (by first | exact Or.inl rfl | exact Or.inr rfl))) (fun _ _ _ _ _ => pts_one (pt_cmpR (op_eqDK (K := K) rfl hr.units) (pe_ix (ix_listK (K := K) rfl) (pv 3) (pv 8) (fun _ _ => rfl)) (pv 6) (nomark _))) (fun _ _ _ _ _ => (pv 8))) pe_int (fun _ _ => rfl)))
      (pss_one (ps_asg (pe_tup (pa_cons (pv 6) (pa_cons (pe_ix (ix_tupK (K := K) rfl) (pe_ix (ix_listK (K := K) rfl) (pv 4) (pv 7) (fun _ _ => rfl)) pe_int (fun _ _ => rfl)) (pa_cons (pe_op op_add (pe_ix (ix_tupK (K := K) rfl) (pe_ix (ix_listK (K := K) rfl) (pv 4) (pv 7) (fun _ _ => rfl)) pe_int (fun _ _ => rfl)) pe_int) pa_nil)))) (pg_sub (pv 4) (pv 7) set_list)))) (pss_cons (ps_expr (pe_bm PySem.F.plainAttrs_list PySem.F.slot_list_append PySem.F.type_list_append mt_append (pv 3) (pa_cons (pv 6) pa_nil)))
      (pss_one (ps_expr (pe_bm PySem.F.plainAttrs_list PySem.F.slot_list_append PySem.F.type_list_append mt_append (pv 4) (pa_cons (pe_tup (pa_cons (pv 6) (pa_cons (pv 5) (pa_cons pe_int pa_nil)))) pa_nil)))))))))
      (pss_one (ps_ret (pv 4)))))) , ?_⟩)
  refine ok_bodyT (fun a => [.dat (planD a.pl), .dat (evsD a.fs), .dat (evsD a.gs), .un, .un, .un, .un, .un, .un]) h (fun _ => by show 3 ≤ 9; decide) (fun _ => rfl) fun c a hc hp => ?_
  obtain ⟨O, h8⟩ := hp
  have lf := O.lf
  have lg := O.lg
  have hss0 : schB 9 a.fs.length a.gs.length = schA 9 a.fs.length a.gs.length := (schAB 9 _ _ (by omega)).symm
  generalize hss : schA 9 a.fs.length a.gs.length = ss at hss0
  have hmem : ∀ s ∈ ss, s ∈ schA 9 a.fs.length a.gs.length := fun s hs => by rw [hss]; exact hs
  have hsl : ss.length ≤ 512 := by rw [← hss]; exact schA_le (by omega) (by omega)
  have keys := gAll_keys a.f ss
  have kmem := gAll_mem a.f ss
  refine ds_letOwnE (ds := []) (dl_lst da_nil fun _ e => by rw [e]; decide) ?_
  refine ds_letOwnE (ds := []) (dl_lst da_nil fun _ e => by rw [e]; decide) ?_
  refine ds_seq (M := fun δ' => ∃ x3 x5 x6 x7 x8, δ' = [.dat (planD a.pl), .dat (evsD a.fs), .dat (evsD a.gs), x3, .own (a.gAll.map grpD), x5, x6, x7, x8]) (ds_for (vs := [5]) (di_list (xs := ss.map schD) (De.eq (de_callT (A := fun a : Nat × Nat => [nD a.1, nD a.2]) (f := fun a => .lst ((schB 9 a.1 a.2).map schD)) (a.fs.length, a.gs.length) (da_consE (De.eq (de_lenLK (de_var rfl)) (by rw [List.length_map]; rfl)) (da_consE (De.eq (de_lenLK (de_var rfl)) (by rw [List.length_map]; rfl)) da_nil)) ⟨by show a.fs.length + a.gs.length < 9; omega, by show a.fs.length + a.gs.length ≤ 9; omega⟩) (by rw [hss0]))) fun xs e => ?_) ?_
  · subst e
    refine ⟨fun k δ' => ∃ x5 x6 x7 x8, k ≤ ss.length ∧ δ' = [.dat (planD a.pl), .dat (evsD a.fs), .dat (evsD a.gs), .own ((kE (gAll a.f (ss.take k))).map endD), .own ((gAll a.f (ss.take k)).map grpD), x5, x6, x7, x8], ⟨.un, .un, .un, .un, Nat.zero_le _, rfl⟩, ?_, ?_⟩
    · rintro k d δ' hd ⟨x5, x6, x7, x8, hk, rfl⟩
      obtain ⟨s, hs, rfl⟩ := get_of hd
      have hkl := (List.getElem?_eq_some_iff.mp hs).1
      have hsm := hmem s (List.mem_of_getElem? hs)
      obtain ⟨knd, kl⟩ := keys k hk
      have hkn := gAll_snoc a.f hs
      have hkm := kmem k hk
      have ew : ∀ s ∈ ss, EndW (a.f s) := fun s hs => by
        have eo := O.eo h8 (hmem s hs)
        exact end_words eo.w eo.n
      generalize hgs : gAll a.f (ss.take k) = gs at knd kl hkn hkm
      have hew : ∀ e ∈ kE gs, EndW e := fun e he => by
        obtain ⟨s', hs', rfl⟩ := hkm e he
        exact ew s' hs'
      have hes := ew s (List.mem_of_getElem? hs)
      have eo := O.eo h8 hsm
      refine dg_name (by decide) ?_
      refine ds_letE (d := endD (a.f s)) (de_callT (A := fun a : LEA => [planD a.pl, evsD a.fs, evsD a.gs, schD a.s]) (f := fun a => endD (endM (machL a.pl) (mrgL (a.s, a.fs, a.gs)))) ⟨a.pl, a.fs, a.gs, s⟩ (da_consE (de_var rfl) (da_consE (de_var rfl) (da_consE (de_var rfl) (da_consE (de_var rfl) da_nil)))) ⟨O.w, O.nf, O.ng, EnOk.mrg h8 hsm, by
        have := sch_len (n := 9) (by omega) hsm
        show s.length ≤ 100
        omega⟩) ?_
      have hel : (kE gs).length = gs.length := by unfold kE; rw [List.length_map]
      refine ds_ifE (k := decide (a.f s ∈ kE gs)) (dt_thaw (i := 3) (ds := (kE gs).map endD) rfl (dt_testE (De.eq (de_op (de_var rfl) (de_var rfl) (rv_inD (n := 4) (ps := (kE gs).map endP) (pd_end _) (Pds.map fun e _ => pd_end e) (lay_end hes) (lay_list (lays_map fun e he => lay_end (n := 0) (hew e he))))) (by rw [any_end])))) (fun ht => ?_) (fun ht => ?_)
      · have hin := of_decide_eq_true ht
        obtain ⟨g, hg, hge⟩ := List.mem_map.mp hin
        obtain ⟨j, hj⟩ := List.getElem?_of_mem hg
        have hjl := (List.getElem?_eq_some_iff.mp hj).1
        have hjk : (kE gs)[j]? = some (a.f s) := by unfold kE; rw [List.getElem?_map, hj, ← hge]; rfl
        have hadd := gAdd_yes (s := s) knd hj hge
        refine ds_letE (d := nD j) (dn_thaw (i := 3) (ds := (kE gs).map endD) rfl (de_ixL (ds := ((List.range gs.length).filter fun k => decide (k = j)).map nD) (Dl.de (dl_lcOfF (xs := List.range gs.length) (b := nD) (fun k => decide (k = j)) nD (di_imp (di_rng1E (n := (gs.length : Int)) (De.eq (de_lenLK (de_var rfl)) (by rw [List.length_map, hel])) (by omega) (by omega)) fun ys e => by rw [e, Int.toNat_natCast, rng_eq]; rfl) (by rw [List.length_range]; omega) fun k' hk' => dg_name (by decide) ⟨?_, fun _ => de_var rfl⟩)) de_int (by rw [filter_one hjl]; rfl)) fun d e => by rw [e]; rfl) ?_
        · have hk'l := List.mem_range.mp hk'
          have hk'g : (kE gs)[k']? = some (kE gs)[k'] := List.getElem?_eq_getElem (by rw [hel]; exact hk'l)
          generalize (kE gs)[k'] = e' at hk'g
          refine dt_testE (De.eq (de_op (de_ixLn (i := k') (d := endD e') (de_var rfl) (de_var rfl) (by rw [List.getElem?_map, hk'g]; rfl)) (de_var rfl) (rv_eqV (n := 3) (pd_end e') (pd_end (a.f s)) (lay_end (n := 0) (hew e' (List.mem_of_getElem? hk'g))) (lay_end (n := 0) hes))) ?_)
          rw [eqv_end]
          congr 1
          refine decide_eq_decide.mpr ⟨fun z => ?_, fun z => ?_⟩
          · subst z
            exact (List.getElem_inj (show (kE gs).Nodup from knd) (h₀ := (List.getElem?_eq_some_iff.mp hk'g).1) (h₁ := (List.getElem?_eq_some_iff.mp hjk).1)).mp ((List.getElem?_eq_some_iff.mp hk'g).2.trans (List.getElem?_eq_some_iff.mp hjk).2.symm)
          · subst z
            exact Option.some.inj (hk'g.symm.trans hjk)
        · have hrow : ∀ {δ : Fe} {m : Int} {d : Dt}, δ[4]? = some (.own (gs.map grpD)) → δ[7]? = some (.dat (nD j)) → atI [endD g.1, schD g.2.1, nD g.2.2] m = some d → De c (tOp (rIxT K) (tOp (rIxL K) (tVar 4) (tVar 7)) (tC (.int m))) δ d := fun h1 h2 h3 => de_ixT (ds := [endD g.1, schD g.2.1, nD g.2.2]) (de_ownAt (i := 4) (j := (j : Int)) h1 (de_var h2) (atI_nat (by rw [List.getElem?_map, hj]; rfl))) de_int h3
          refine ds_asgW0 (d := grpD (a.f s, g.2.1, g.2.2 + 1)) (de_tup (da_consE (de_var rfl) (da_consE (hrow rfl rfl rfl) (da_consE (De.eq (de_add (hrow (m := 2) (d := nD g.2.2) rfl rfl rfl) de_int) rfl) da_nil)))) (dw_setAt (i := 4) (j := j) rfl (de_var rfl) (by rw [List.length_map]; exact hjl) ⟨.dat (schD s), .dat (endD (a.f s)), .dat (nD j), x8, by omega, ?_⟩)
          have e1 : kE (gs.set j (a.f s, g.2.1, g.2.2 + 1)) = kE gs := map_set_fst hj hge.symm
          rw [hkn, hadd, e1, List.map_set]
          rfl
      · have hni := of_decide_eq_false ht
        have hadd := gAdd_no (s := s) (show a.f s ∉ gs.map (·.1) from hni)
        refine ds_seq (M := (· = [.dat (planD a.pl), .dat (evsD a.fs), .dat (evsD a.gs), .own ((kE gs).map endD ++ [endD (a.f s)]), .own (gs.map grpD), .dat (schD s), .dat (endD (a.f s)), x7, x8])) (ds_append (i := 3) (T := (· = endD (a.f s))) rfl (de_var rfl) (by rw [List.length_map, hel]; omega) fun d e => by rw [e]; rfl) ?_
        rintro δ' rfl
        refine ds_append (i := 4) (T := (· = grpD (a.f s, s, 1))) rfl (de_tup (da_consE (de_var rfl) (da_consE (de_var rfl) (da_consE de_int da_nil)))) (by rw [List.length_map]; omega) fun d e => ⟨.dat (schD s), .dat (endD (a.f s)), x7, x8, by omega, ?_⟩
        rw [e, hkn, hadd]
        unfold kE
        rw [List.map_append, List.map_append, List.map_append]
        rfl
    · rintro δ' ⟨x5, x6, x7, x8, hk, rfl⟩
      rw [List.length_map, List.take_length]
      unfold EnA.gAll
      rw [hss]
      exact ⟨_, x5, x6, x7, x8, rfl⟩
  rintro δ' ⟨x3, x5, x6, x7, x8, rfl⟩
  refine ds_freeze (i := 4) (ds := a.gAll.map grpD) rfl ?_
  exact ds_retE (de_var rfl) rfl
end
end K30

set_option Elab.async false
set_option maxRecDepth 100000
set_option maxHeartbeats 8000000
namespace K30
open PySem L2 StX Zd
/-! ### the law -/
structure ErrL (K : PySem.W.Frag) (mg : Str → Option Value) (CL CT CM : Addr) : Prop where
  mM : mg "MissError" = some (.ref CM)
  mL : mg "TooLong" = some (.ref CL)
  mT : mg "TooLarge" = some (.ref CT)
  le : PySem.W.exmOne K (.ref CL) (.ref CM) = some true
  ll : PySem.W.kitOne K (.ref CL) (.ref CL) = some true
  lt : PySem.W.kitOne K (.ref CL) (.ref CT) = some false
  ec : ExcC K CL
theorem ds_goT {c : Bs} {ts : TS} {δ : Fe} {D : Ends} {σ : L2.St} {G H : Hp} (h : Ds c ts δ { N := fun _ => False, R := (· = .bl true) }) (e : Ec c G H σ δ) (hq : ∀ H', D.rt (.bl true) H') : ts D σ H :=
  h D σ G H e (fun _ _ _ _ _ _ z => z.elim) (fun v d G' H' g dq pd => by subst pd; cases dq; exact hq H') (fun _ _ _ _ _ _ z => z.elim) (fun _ _ _ _ _ _ z => z.elim)
theorem seq_go {ts tv : TS} {D : Ends} {σ : L2.St} {H : Hp} (h : ts { D with nx := tv D } σ H) : tSeq ts tv D σ H := h
theorem ds_seqQ {c : Bs} {ts tv : TS} {δ δ1 : Fe} {p : Po} {Q : Prop} (h : (Q → Ds c tv δ1 p) → Ds c (tSeq ts tv) δ p) (rest : Q → Ds c tv δ1 p) : Ds c (tSeq ts tv) δ p := h rest
theorem asg_callS {c : Bs} {δ : Fe} {sp : Sp} {E : L2.St → XK} {ta : TA} {xs : List Dt} {g : TG} {D : Ends} {σ : L2.St} {G H : Hp} (ha : Ds' c ta δ (· = xs)) (e : Ec c G H σ δ) (k : ∀ vs G1 H1, Gx c.b G H G1 H1 → Dqs G1 vs xs → sp vs H1 (fun v H2 => g v σ H2 D.nx) (E σ)) : tAsg (tCallS sp E ta) g D σ H :=
  ha σ G H e _ fun vs ds G1 H1 g d p => by subst p; exact k vs G1 H1 g d
section
variable {c : Bs} {δ : Fe} {te : TE} {K : PySem.W.Frag} {mg : Str → Option Value} {CL CT CM : Addr}
theorem de_isLst {xs : List Dt} (h : De c te δ (.lst xs)) : De c (tCB (rIsi K) (tCons te (tCons (tC (.ty "list")) tNil))) δ (.bl true) := fun σ G H e Q q =>
  h σ G H e _ fun v d G1 H1 g1 d1 p1 => by
    subst p1
    cases d1 with
    | lst a1 a2 =>
      exact ⟨_, .ty "list", .type "list", .type "list", true, rfl, .ty _, .base (.lst (g1.gh _ _ a1)), by unfold PySem.W.kitOne; rw [if_pos (by decide)], q _ _ G1 H1 g1 (.bl _) rfl⟩
theorem de_isX {i : Nat} {a X : Addr} {b : Bool} (T : ErrL K mg CL CT CM) (h : δ[i]? = some (.raw (.ref a))) (hk : PySem.W.kitOne K (.ref CL) (.ref X) = some b) : De c (tCB (rIsD K a (.ref CL) none) (tCons (tVar i) (tCons (tC (.ref X)) tNil))) δ (.bl b) := fun σ G H e Q q =>
  ⟨.ref a, e.sl i _ h, CL, rfl, .inl rfl, T.ec, .ref X, .ref X, b, rfl, fun u hu => hu, hk, q _ _ G H (Gx.refl e.same e.jj) (.bl _) rfl⟩
end
theorem gAll_sch (f : List Bool → End) (ss : List (List Bool)) : ∀ i, i ≤ ss.length → ∀ x ∈ gAll f (ss.take i), x.2.1 ∈ ss
  | 0, _, x, hx => by cases hx
  | i + 1, h, x, hx => by
    have hi := List.getElem?_eq_getElem (show i < ss.length by omega)
    rw [gAll_snoc f hi] at hx
    have ih := gAll_sch f ss i (by omega)
    obtain ⟨j, g, hj, hge, hadd⟩ := gAdd_mid (e := f ss[i]) (s := ss[i]) (gAll_keys f ss i (by omega)).1
    have mid : ∀ y ∈ gMid (gAll f (ss.take i)) (f ss[i]) ss[i], y.2.1 ∈ ss := fun y hy => by
      unfold gMid at hy
      split at hy
      · exact ih y hy
      · rcases List.mem_append.mp hy with z | z
        · exact ih y z
        · rw [List.mem_singleton.mp z]; exact List.getElem_mem _
    rw [hadd] at hx
    rcases List.mem_or_eq_of_mem_set hx with z | z
    · exact mid x z
    · rw [z]; exact mid g (List.mem_of_getElem? hj)
def evsP (es : List Evt) : PyData := .list (es.map evP)
theorem pd_evs {K : PySem.W.Frag} (es : List Evt) : Pd K (evsD es) (evsP es) := .lst (Pds.map fun e _ => pd_ev2 e)
theorem lay_evs {n : Nat} {es : List Evt} (h : ∀ e ∈ es, PyData.strOk e.1 = true) : Lay (n + 2) (evsP es) := lay_list (lays_map fun e he => lay_tuple (lays_cons (lay_str (h e he)) (lays_cons lay_int lays_nil)))
section
variable {P : Program} {w : World} {K : PySem.W.Frag} {mg : Str → Option Value} {base : Heap} {C aS aE CL CT CM : Addr}
def spLaw (K : PySem.W.Frag) : Sp := fun vs H Q _ => ∃ (a : Addr) (ns : List Int), vs = [.ref a] ∧ SqL K H a (ns.map V.int) ∧ ns.length ≤ 63 ∧ ∀ H', Q (.bl true) H'
theorem ok_law {f f1 f2 f3 f4 f5 f6 f7 f8 : Addr} {fd d1 d2 d3 d4 d5 d6 d7 d8 : FuncData} (F : Fun K "law" "law" s_law f fd)
    (k__law_cell : Kn K mg "_law_cell" s__law_cell ["script", "k"] f1 d1) (k__law_source : Kn K mg "_law_source" s__law_source ["cell", "k"] f2 d2) (k__law_pick : Kn K mg "_law_pick" s__law_pick ["source", "many"] f3 d3)
    (k__law_plan : Kn K mg "_law_plan" s__law_plan ["source", "wide"] f4 d4) (k__law_program : Kn K mg "_law_program" s__law_program ["plan"] f5 d5) (k__law_input : Kn K mg "_law_input" s__law_input ["source", "plan", "size"] f6 d6)
    (k_endings : Kn K mg "endings" s_endings ["program", "first", "second"] f7 d7) (k__law_due : Kn K mg "_law_due" s__law_due ["plan", "first", "second"] f8 d8)
    (G__law_cell : FnOk P w K mg base CX0 1 f1 d1 ["script", "k"] (spCell K)) (G__law_source : FnOk P w K mg base CX0 1 f2 d2 ["cell", "k"] spSource) (G__law_pick : FnOk P w K mg base CX0 1 f3 d3 ["source", "many"] spPickS)
    (G__law_plan : FnOk P w K mg base CX0 5 f4 d4 ["source", "wide"] spPlan) (G__law_program : FnOk P w K mg base CX0 5 f5 d5 ["plan"] (spProgL C)) (G__law_input : FnOk P w K mg base CX0 3 f6 d6 ["source", "plan", "size"] spInput)
    (G_endings : FnOk P w K mg base (L2.CX P w) 11 f7 d7 ["program", "first", "second"] (spEndings C CL)) (G__law_due : FnOk P w K mg base CX0 11 f8 d8 ["plan", "first", "second"] spDue)
    (T : ErrL K mg CL CT CM) (m_list : mg "list" = none) (m_isinstance : mg "isinstance" = none) (m_len : mg "len" = none) (m_bool : mg "bool" = none) : FnOk P w K mg base CX0 12 f fd ["script"] (spLaw K) := by
  have nd := sc_law.nd
  refine F.ok sc_law (fun vs H Q E h => by obtain ⟨a, ns, rfl, _⟩ := h; rfl) (fun cdv A outer s H vs Q E hr h => ⟨_, (pss_cons (ps_set (i := 1) nd rfl (by first | exact Or.inl rfl | exact Or.inr rfl) (pe_call G__law_source (hr.mono (by decide)) (by rfl) k__law_source.g k__law_source.F.kp k__law_source.b .nil pass0 (pa_cons (pe_call G__law_cell (hr.mono (by decide)) (by rfl) k__law_cell.g k__law_cell.F.kp k__law_cell.b .nil pass0 (pa_cons (pv 0) (pa_cons pe_int pa_nil))) (pa_cons pe_int pa_nil))))
      (pss_cons (ps_set (i := 2) nd rfl (by first | exact Or.inl rfl | exact Or.inr rfl) (pe_call G__law_plan (hr.mono (by decide)) (by rfl) k__law_plan.g k__law_plan.F.kp k__law_plan.b .nil pass0 (pa_cons (pv 1) (pa_cons pe_int pa_nil))))
      (pss_cons (ps_set (i := 3) nd rfl (by first | exact Or.inl rfl | exact Or.inr rfl) (pe_call G__law_program (hr.mono (by decide)) (by rfl) k__law_program.g k__law_program.F.kp k__law_program.b .nil pass0 (pa_cons (pv 2) pa_nil)))
      (pss_cons (ps_set (i := 4) nd rfl (by first | exact Or.inl rfl | exact Or.inr rfl) (pe_call G__law_pick (hr.mono (by decide)) (by rfl) k__law_pick.g k__law_pick.F.kp k__law_pick.b .nil pass0 (pa_cons (pv 1) (pa_cons pe_int pa_nil))))
      (pss_cons (ps_set (i := 5) nd rfl (by first | exact Or.inl rfl | exact Or.inr rfl) (pe_call G__law_pick (hr.mono (by decide)) (by rfl) k__law_pick.g k__law_pick.F.kp k__law_pick.b .nil pass0 (pa_cons (pv 1) (pa_cons (pe_op op_add (pv 4) pe_int) pa_nil))))
      (pss_cons (ps_set (i := 6) nd rfl (by first | exact Or.inl rfl | exact Or.inr rfl) (pe_call G__law_input (hr.mono (by decide)) (by rfl) k__law_input.g k__law_input.F.kp k__law_input.b .nil pass0 (pa_cons (pv 1) (pa_cons (pv 2) (pa_cons (pv 5) pa_nil)))))
      (pss_cons (ps_set (i := 7) nd rfl (by first | exact Or.inl rfl | exact Or.inr rfl) (pe_call G__law_input (hr.mono (by decide)) (by rfl) k__law_input.g k__law_input.F.kp k__law_input.b .nil pass0 (pa_cons (pv 1) (pa_cons (pv 2) (pa_cons (pe_op op_sub (pv 4) (pv 5)) pa_nil)))))
      (pss_cons (ps_set (i := 8) nd rfl (by first | exact Or.inl rfl | exact Or.inr rfl) (pe_lst (pa_cons (pe_callTy (call_list_ofK (K := K) rfl) (by rfl) m_list (by decide +kernel) (pa_cons (pv 6) pa_nil)) (pa_cons (pe_callTy (call_list_ofK (K := K) rfl) (by rfl) m_list (by decide +kernel) (pa_cons (pv 7) pa_nil)) pa_nil))))
      (pss_cons (ps_try_as (i := 10) (c := .ref CM) rfl rfl nd rfl rfl ⟨by rfl, by decide, .inl T.mM⟩ takes0
    (fun W pn xe tk _ => pss_one (ps_set (i := 9) nd rfl (by first | exact Or.inl rfl | exact Or.inr rfl) (pe_callS G_endings (hr.mono (by decide)) (by rfl) k_endings.g k_endings.F.kp k_endings.b (fun σ => passAt tk σ) (pa_cons (pv 3) (pa_cons (pe_ix (ix_listK (K := K) rfl) (pv 8) pe_int (fun _ _ => rfl)) (pa_cons (pe_ix (ix_listK (K := K) rfl) (pv 8) pe_int (fun _ _ => rfl)) pa_nil))))))
    (fun a oe cls d pn hz hf => pss_one (ps_ret (pe_and (pe_cmpR op_gt (pv 4) pe_int (nomark _)) (pe_and (pe_callB (call_isD (K := K) rfl hz hf) (by rfl) m_isinstance (by decide +kernel) (pa_cons (pv 10) (pa_cons (pe_glob (v := .ref CL) rfl T.mL rfl) pa_nil))) (pe_one (pe_not (pe_callB (call_isD (K := K) rfl hz hf) (by rfl) m_isinstance (by decide +kernel) (pa_cons (pv 10) (pa_cons (pe_glob (v := .ref CT) rfl T.mT rfl) pa_nil))))))))))
      (pss_cons (ps_if (PW.pt (pw_or (pt_cmpR op_gt (pv 4) pe_int (nomark _)) (pw_or1 (pt_cmpR op_gt (pe_callB (call_lenK (K := K) rfl) (by rfl) m_len PySem.boot_len (pa_cons (pe_lc (own := [("row", 11)]) (g := gName 11) rfl nd (pi_listK (K := K) rfl (pv 9)) (by refine blkOk_by ?_; show blkC N_law (defScope s_law) _ _ = true; decide +kernel) (fun _ _ _ _ _ => (pg_name (i := 11) nd rfl (by first | exact Or.inl rfl | exact Or.inr rfl))) (fun _ _ _ _ _ => pts_one (pt_cmpR op_gt (pe_callB (call_lenK (K := K) rfl) (by rfl) m_len PySem.boot_len (pa_cons (pe_lc (own := [("choice", 12)]) (g := gName 12) rfl nd (pi_tupK (K := K) rfl (pe_ix (ix_tupK (K := K) rfl) (pv 11) pe_int (fun _ _ => rfl))) (by refine blkOk_by ?_; show blkC N_law (relS _ (defScope s_law)) _ _ = true; decide +kernel) (fun _ _ _ _ _ => (pg_name (i := 12) nd rfl (by first | exact Or.inl rfl | exact Or.inr rfl))) (fun _ _ _ _ _ => pts_one (pt_not (pt_val (pe_callB (call_isiK' (K := K) rfl) (by rfl) m_isinstance (by decide +kernel) (pa_cons (pv 12) (pa_cons (pe_bltn (v := .ty "bool") (by rfl) m_bool (by decide +kernel) rfl) pa_nil)))))) (fun _ _ _ _ _ => (pv 12))) pa_nil)) pe_int (nomark _))) (fun _ _ _ _ _ => pe_int)) pa_nil)) pe_int (nomark _))))) (pss_one (ps_ret pe_bl)) pss_nil)
      (pss_one (ps_ret (pe_and (pe_callB (call_isiK' (K := K) rfl) (by rfl) m_isinstance (by decide +kernel) (pa_cons (pv 9) (pa_cons (pe_bltn (v := .ty "list") (by rfl) m_list (by decide +kernel) rfl) pa_nil))) (pe_and (pe_cmpR (op_eqDK (K := K) rfl hr.units) (pv 9) (pe_call G__law_due (hr.mono (by decide)) (by rfl) k__law_due.g k__law_due.F.kp k__law_due.b .nil pass0 (pa_cons (pv 2) (pa_cons (pv 6) (pa_cons (pv 7) pa_nil)))) (nomark _)) (pe_one (pe_cmpR (op_eqDK (K := K) rfl hr.units) (pv 8) (pe_lst (pa_cons (pv 6) (pa_cons (pv 7) pa_nil))) (nomark _))))))))))))))))) , ?_⟩)
  obtain ⟨a, ns, rfl, hS0, hlen, hQ⟩ := h
  refine asg_go ?_
  refine ⟨.ref a, rfl, a, ns, 0, by rw [List.append_nil], hS0, by omega, by decide, fun n => ?_⟩
  refine ⟨n, 0, rfl, by decide, by decide, fun p x y hp y0 y1 => ?_⟩
  show tSeq _ _ _ _ _
  refine (?_ : ∀ D : Ends, (∀ H', D.rt (.bl true) H') → tSeq _ _ D _ _) _ hQ
  intro D hq
  have jS : Src (upd H p (.lst [.int x, .int y])) p := ⟨x, y, upd_same, y0, y1⟩
  have S : SrcC ⟨Bx.src p, fun _ => none, upd H p (.lst [.int x, .int y])⟩ p := ⟨rfl, rfl⟩
  have e0 : Ec ⟨Bx.src p, fun _ => none, upd H p (.lst [.int x, .int y])⟩ (fun _ => none) (upd H p (.lst [.int x, .int y])) ((L2.start N_law [V.ref a]).set 1 (some (.ref p))) [.un, .raw (.ref p), .un, .un, .un, .un, .un, .un, .un, .un, .un, .un, .un] := by
    refine ⟨jS, Gx.refl (fun _ _ e => nomatch e) jS, rfl, fun i x hx => ?_, fun i k x y q hx hy ox oy => ?_⟩
    · match i, hx with
      | 0, hx => have := Option.some.inj hx; subst this; trivial
      | 1, hx => have := Option.some.inj hx; subst this; rfl
      | i + 2, hx =>
        have hm : x ∈ List.replicate 11 Sl.un := List.mem_of_getElem? (i := i) hx
        rw [List.eq_of_mem_replicate hm]; trivial
    · match i, hx with
      | 0, hx => have := Option.some.inj hx; subst this; cases ox
      | 1, hx => have := Option.some.inj hx; subst this; cases ox
      | i + 2, hx =>
        have hm : x ∈ List.replicate 11 Sl.un := List.mem_of_getElem? (i := i) hx
        rw [List.eq_of_mem_replicate hm] at ox; cases ox
  generalize hcB : (⟨Bx.src p, fun _ => none, upd H p (.lst [.int x, .int y])⟩ : Bs) = cB at S e0
  clear hcB
  generalize (L2.start N_law [V.ref a]).set 1 (some (.ref p)) = σ0 at e0 ⊢
  generalize upd H p (.lst [.int x, .int y]) = HB at e0 ⊢
  refine ds_goT ?_ e0 hq
  clear e0 hq jS hS0 hp
  refine ds_let (T := fun d => ∃ pl, d = planD pl ∧ PlanOk pl) (dn_callS S rfl (da_consE de_int da_nil) fun xs e => ⟨0, e, Nat.zero_le 1, fun d h => h⟩) ?_
  rintro _ ⟨pl, rfl, hpl⟩
  have hw := hpl.w
  have hB := hw.base
  refine ds_letE (d := progP C pl) (de_callT (A := fun pl : Plan => [planD pl]) (f := fun pl => progP C pl) pl (da_consE (de_var rfl) da_nil) hpl.p) ?_
  refine ds_let (T := fun d => ∃ n : Nat, d = nD n ∧ n ≤ 9) ((dn_pick S rfl de_int (by decide) (by decide)).imp fun d ⟨r, e, r0, r1⟩ => ⟨r.toNat, by rw [e]; show Dt.int r = Dt.int _; rw [Int.toNat_of_nonneg r0], by omega⟩) ?_
  rintro _ ⟨size, rfl, hsz⟩
  refine ds_let (T := fun d => ∃ n : Nat, d = nD n ∧ n ≤ size) ((dn_pick (m := (size : Int) + 1) S rfl (de_add (de_var rfl) de_int) (by omega) (by omega)).imp fun d ⟨r, e, r0, r1⟩ => ⟨r.toNat, by rw [e]; show Dt.int r = Dt.int _; rw [Int.toNat_of_nonneg r0], by omega⟩) ?_
  rintro _ ⟨at_, rfl, hat⟩
  have inp : ∀ {δ : Fe} {te : TE} {E : XK} (n : Nat), n ≤ 100 → δ[1]? = some (.raw (.ref p)) → δ[2]? = some (.dat (planD pl)) → De cB te δ (nD n) → Dn cB (tCall spInput [] E (tCons (tVar 1) (tCons (tVar 2) (tCons te tNil)))) δ (fun d => ∃ es : List Evt, d = evsD es ∧ es.length = n ∧ ∀ e ∈ es, e.1 ∈ pl.names) := fun n hn h1 h2 h3 =>
    dn_callS S h1 (da_consE (de_var h2) (da_consE h3 da_nil)) fun xs e => ⟨(pl, n), e, ⟨hB, hn⟩, fun d ⟨es, e1, e2, e3⟩ => ⟨es, e1, e2, fun e he => (e3 e he).1⟩⟩
  refine ds_let (inp at_ (by omega) rfl rfl (de_var rfl)) ?_
  rintro _ ⟨fs, rfl, hfl, hfn⟩
  refine ds_let (inp (size - at_) (by omega) rfl rfl (De.eq (de_sub (de_var rfl) (de_var rfl)) (by show Dt.int _ = Dt.int _; congr 1; omega))) ?_
  rintro _ ⟨gs, rfl, hgl, hgn⟩
  have hsum : fs.length + gs.length = size := by omega
  refine ds_letE (d := .lst [evsD fs, evsD gs]) (de_lst (da_consE (Dl.de (dl_listOfK (de_var rfl))) (da_consE (Dl.de (dl_listOfK (de_var rfl))) da_nil))) ?_
  have O : EnOk ⟨pl, fs, gs⟩ := ⟨hw, hfn, hgn, by show fs.length ≤ 60; omega, by show gs.length ≤ 60; omega⟩
  refine ds_seqQ (Q := size ≤ 8) (δ1 := [.un, .raw (.ref p), .dat (planD pl), .dat (progP C pl), .dat (nD size), .dat (nD at_), .dat (evsD fs), .dat (evsD gs), .dat (.lst [evsD fs, evsD gs]), .dat (.lst ((EnA.gAll ⟨pl, fs, gs⟩).map grpD)), .un, .un, .un]) (fun rest => ?_) (fun h8 => ?rest)
  intro D' σ1 G1 H1 e1 nx rt bk ct
  refine seq_go ?_
  refine asg_callS (xs := [progP C pl, evsD fs, evsD gs]) (da_consE (de_var (i := 3) rfl) (da_consE (de_ixL (ds := [evsD fs, evsD gs]) (i := 0) (d := evsD fs) (de_var (i := 8) rfl) de_int rfl) (da_consE (de_ixL (ds := [evsD fs, evsD gs]) (i := 1) (d := evsD gs) (de_var (i := 8) rfl) de_int rfl) da_nil))) e1 fun us G2 H2 g2 d2 => ?_
  have e2 := e1.up g2
  refine ⟨G2, ⟨pl, fs, gs⟩, g2.gh, d2, O, fun yes v G3 H3 g3 dq => ?_, fun no G3 H3 g3 => ?_⟩
  · have h8 : fs.length + gs.length ≤ 8 := of_decide_eq_true yes
    have g3' := g3.of_pure e2.jj
    have e3 := (e2.up g3').setDat 9 dq
    exact rest (by omega) D' _ G3 H3 e3 (fun δ' σ' G' H' s => nx δ' σ' G' H' ((g2.gg.trans g3'.gg).trans s)) rt (fun δ' σ' G' H' s => bk δ' σ' G' H' ((g2.gg.trans g3'.gg).trans s)) (fun δ' σ' G' H' s => ct δ' σ' G' H' ((g2.gg.trans g3'.gg).trans s))
  · have h8 : ¬ fs.length + gs.length ≤ 8 := of_decide_eq_false no
    have g3' := g3.of_pure e2.jj
    refine ⟨true, T.le, fun _ ax hn => ?_, fun z => nomatch z⟩
    have e3 := (e2.up g3').setRaw 10 (v := .ref ax)
    have fin : Ds cB (tRet (tAndV (tOp (rI0 fun i j => .bl (decide (j < i))) (tVar 4) (tC (.int 8))) (tAndV (tCB (rIsD K ax (.ref CL) none) (tCons (tVar 10) (tCons (tC (.ref CL)) tNil))) (tNotV (tCB (rIsD K ax (.ref CL) none) (tCons (tVar 10) (tCons (tC (.ref CT)) tNil)))))))
        ([.un, .raw (.ref p), .dat (planD pl), .dat (progP C pl), .dat (nD size), .dat (nD at_), .dat (evsD fs), .dat (evsD gs), .dat (.lst [evsD fs, evsD gs]), .un, .raw (.ref ax), .un, .un] : Fe) { N := fun _ => False, R := (· = .bl true) } :=
      ds_retE (De.eq (de_andV (de_cmp (f := fun i j => decide (j < i)) (de_var (i := 4) (d := nD size) rfl) de_int) fun _ => de_andV (de_isX (i := 10) T rfl T.ll) fun _ => de_notV (de_isX (i := 10) T rfl T.lt)) (by
        rw [decide_eq_true (show (8 : Int) < (size : Int) by omega)]
        rfl)) rfl
    exact fin D' _ G3 H3 e3 (fun _ _ _ _ _ _ z => z.elim) rt (fun _ _ _ _ _ _ z => z.elim) (fun _ _ _ _ _ _ z => z.elim)
  case rest =>
    have h8' : fs.length + gs.length ≤ 8 := by omega
    have keys := gAll_keys (EnA.f ⟨pl, fs, gs⟩) (schA 9 fs.length gs.length) _ (Nat.le_refl _)
    have kmem := gAll_mem (EnA.f ⟨pl, fs, gs⟩) (schA 9 fs.length gs.length) _ (Nat.le_refl _)
    rw [List.take_length] at keys kmem
    have hsl : (schA 9 fs.length gs.length).length ≤ 512 := schA_le (by omega) (by omega)
    have hsm : ∀ g ∈ EnA.gAll ⟨pl, fs, gs⟩, EndW g.1 := fun g hg => by
      obtain ⟨s, hs, e⟩ := kmem g.1 (List.mem_map.mpr ⟨g, hg, rfl⟩)
      rw [e]
      have eo := O.eo h8' hs
      exact end_words eo.w eo.n
    have hgl : (EnA.gAll ⟨pl, fs, gs⟩).length ≤ 512 := Nat.le_trans keys.2 hsl
    have D8 : DueOk ⟨pl, fs, gs⟩ := ⟨O, h8'⟩
    have nokW : ∀ es : List Evt, (∀ e ∈ es, e.1 ∈ pl.names) → ∀ e ∈ es, PyData.strOk e.1 = true := fun es h e he => (hB.nW.ok _ (h e he)).ok
    have slen : ∀ g ∈ EnA.gAll ⟨pl, fs, gs⟩, g.2.1.length ≤ 10000000 := fun g hg => by
      have hs := gAll_sch (EnA.f ⟨pl, fs, gs⟩) (schA 9 fs.length gs.length) _ (Nat.le_refl _) g (by rw [List.take_length]; exact hg)
      have := sch_len (n := 9) (by omega) hs
      omega
    generalize hgs : EnA.gAll ⟨pl, fs, gs⟩ = gg at hsm hgl slen
    refine ds_seq (M := (· = [.un, .raw (.ref p), .dat (planD pl), .dat (progP C pl), .dat (nD size), .dat (nD at_), .dat (evsD fs), .dat (evsD gs), .dat (.lst [evsD fs, evsD gs]), .dat (.lst (gg.map grpD)), .un, .un, .un])) (ds_ifE (k := false) (dt_or (a := false) (b := false) (dt_testE (De.eq (de_cmp (f := fun i j => decide (j < i)) (de_var rfl) de_int) (by show Dt.bl _ = Dt.bl _; rw [decide_eq_false (show ¬ (8 : Int) < (size : Int) by omega)]))) fun _ => dt_testE (De.eq (de_cmp (f := fun i j => decide (j < i)) (de_lenLK (Dl.de (dl_lcOfF (xs := gg) (b := grpD) (fun _ => false) (fun _ => .int 1) (di_list (de_var rfl)) (by omega) fun g hg => dg_name (by decide) ⟨dt_testE (De.eq (de_cmp (f := fun i j => decide (j < i)) (de_lenLK (Dl.de (dl_lcOfF (xs := g.2.1) (b := Dt.bl) (fun _ => false) (fun b => .bl b) (di_tup (de_ixT (ds := [endD g.1, schD g.2.1, nD g.2.2]) (i := 1) (d := schD g.2.1) (de_var rfl) de_int rfl)) (slen g hg) fun b hb => dg_name (by decide) ⟨dt_not (a := true) (dt_BE (de_isBool (de_var rfl))), fun z => nomatch z⟩))) de_int) (by simp)), fun z => nomatch z⟩))) de_int) (by simp))) (fun h => nomatch h) fun _ => ds_next rfl) ?_
    rintro δ' rfl
    exact ds_retE (De.eq (de_andV (de_isLst (de_var rfl)) fun _ => de_andV (de_op (de_var rfl) (de_callT (A := fun a : EnA => [planD a.pl, evsD a.fs, evsD a.gs]) (f := fun a => .lst (a.gAll.map grpD)) ⟨pl, fs, gs⟩ (da_consE (de_var rfl) (da_consE (de_var rfl) (da_consE (de_var rfl) da_nil))) D8) (by rw [hgs]; exact rv_eqP (p := .list (gg.map grpP)) (n := 5) (.lst (Pds.map fun g _ => pd_grp g)) (.lst (Pds.map fun g _ => pd_grp g)) (lay_list (lays_map fun g hg => lay_grp (n := 0) (hsm g hg))))) fun _ => de_op (de_var rfl) (de_lst (da_consE (de_var rfl) (da_consE (de_var rfl) da_nil))) (rv_eqP (p := .list [evsP fs, evsP gs]) (n := 3) (.lst (.cons (pd_evs _) (.cons (pd_evs _) .nil))) (.lst (.cons (pd_evs _) (.cons (pd_evs _) .nil))) (lay_list (lays_cons (lay_evs (n := 0) (nokW fs hfn)) (lays_cons (lay_evs (n := 0) (nokW gs hgn)) lays_nil))))) rfl) rfl
end
end K30

set_option Elab.async false
set_option maxRecDepth 100000
set_option maxHeartbeats 4000000
namespace K30
open PySem L2 StX Zd PyProof.Rows
theorem all_mk {P : Program} {w : World} {K : PySem.W.Frag} {h : Heap} {mg : Str → Option Value} {fa : Addr} (X : K.In h) (G : h.Ns mainGlobals mg) (hfa : mg "law" = some (.ref fa))
    {f1 : Addr} {od1 an1 : Option Addr} {sl1 : Array (Option Value)} {oc1 kV1 dc1 pm1 cd1 ct1 : Value}
    {f2 : Addr} {od2 an2 : Option Addr} {sl2 : Array (Option Value)} {oc2 kV2 dc2 pm2 cd2 ct2 : Value}
    {f3 : Addr} {od3 an3 : Option Addr} {sl3 : Array (Option Value)} {oc3 kV3 dc3 pm3 cd3 ct3 : Value}
    {f4 : Addr} {od4 an4 : Option Addr} {sl4 : Array (Option Value)} {oc4 kV4 dc4 pm4 cd4 ct4 : Value}
    {f5 : Addr} {od5 an5 : Option Addr} {sl5 : Array (Option Value)} {oc5 kV5 dc5 pm5 cd5 ct5 : Value}
    {f6 : Addr} {od6 an6 : Option Addr} {sl6 : Array (Option Value)} {oc6 kV6 dc6 pm6 cd6 ct6 : Value}
    {f7 : Addr} {od7 an7 : Option Addr} {sl7 : Array (Option Value)} {oc7 kV7 dc7 pm7 cd7 ct7 : Value}
    {f8 : Addr} {od8 an8 : Option Addr} {sl8 : Array (Option Value)} {oc8 kV8 dc8 pm8 cd8 ct8 : Value}
    {f9 : Addr} {od9 an9 : Option Addr} {sl9 : Array (Option Value)} {oc9 kV9 dc9 pm9 cd9 ct9 : Value}
    {f10 : Addr} {od10 an10 : Option Addr} {sl10 : Array (Option Value)} {oc10 kV10 dc10 pm10 cd10 ct10 : Value}
    {f11 : Addr} {od11 an11 : Option Addr} {sl11 : Array (Option Value)} {oc11 kV11 dc11 pm11 cd11 ct11 : Value}
    {f12 : Addr} {od12 an12 : Option Addr} {sl12 : Array (Option Value)} {oc12 kV12 dc12 pm12 cd12 ct12 : Value}
    {f13 : Addr} {od13 an13 : Option Addr} {sl13 : Array (Option Value)} {oc13 kV13 dc13 pm13 cd13 ct13 : Value}
    {f14 : Addr} {od14 an14 : Option Addr} {sl14 : Array (Option Value)} {oc14 kV14 dc14 pm14 cd14 ct14 : Value}
    {f15 : Addr} {od15 an15 : Option Addr} {sl15 : Array (Option Value)} {oc15 kV15 dc15 pm15 cd15 ct15 : Value}
    {f16 : Addr} {od16 an16 : Option Addr} {sl16 : Array (Option Value)} {oc16 kV16 dc16 pm16 cd16 ct16 : Value}
    {f17 : Addr} {od17 an17 : Option Addr} {sl17 : Array (Option Value)} {oc17 kV17 dc17 pm17 cd17 ct17 : Value}
    {f18 : Addr} {od18 an18 : Option Addr} {sl18 : Array (Option Value)} {oc18 kV18 dc18 pm18 cd18 ct18 : Value}
    {f19 : Addr} {od19 an19 : Option Addr} {sl19 : Array (Option Value)} {oc19 kV19 dc19 pm19 cd19 ct19 : Value}
    {f20 : Addr} {od20 an20 : Option Addr} {sl20 : Array (Option Value)} {oc20 kV20 dc20 pm20 cd20 ct20 : Value}
    {f21 : Addr} {od21 an21 : Option Addr} {sl21 : Array (Option Value)} {oc21 kV21 dc21 pm21 cd21 ct21 : Value}
    {f22 : Addr} {od22 an22 : Option Addr} {sl22 : Array (Option Value)} {oc22 kV22 dc22 pm22 cd22 ct22 : Value}
    {f23 : Addr} {od23 an23 : Option Addr} {sl23 : Array (Option Value)} {oc23 kV23 dc23 pm23 cd23 ct23 : Value}
    {f24 : Addr} {od24 an24 : Option Addr} {sl24 : Array (Option Value)} {oc24 kV24 dc24 pm24 cd24 ct24 : Value}
    {f25 : Addr} {od25 an25 : Option Addr} {sl25 : Array (Option Value)} {oc25 kV25 dc25 pm25 cd25 ct25 : Value}
    {f26 : Addr} {od26 an26 : Option Addr} {sl26 : Array (Option Value)} {oc26 kV26 dc26 pm26 cd26 ct26 : Value}
    {f27 : Addr} {od27 an27 : Option Addr} {sl27 : Array (Option Value)} {oc27 kV27 dc27 pm27 cd27 ct27 : Value}
    {f28 : Addr} {od28 an28 : Option Addr} {sl28 : Array (Option Value)} {oc28 kV28 dc28 pm28 cd28 ct28 : Value}
    {f29 : Addr} {od29 an29 : Option Addr} {sl29 : Array (Option Value)} {oc29 kV29 dc29 pm29 cd29 ct29 : Value}
    {f30 : Addr} {od30 an30 : Option Addr} {sl30 : Array (Option Value)} {oc30 kV30 dc30 pm30 cd30 ct30 : Value}
    {f31 : Addr} {od31 an31 : Option Addr} {sl31 : Array (Option Value)} {oc31 kV31 dc31 pm31 cd31 ct31 : Value}
    {f32 : Addr} {od32 an32 : Option Addr} {sl32 : Array (Option Value)} {oc32 kV32 dc32 pm32 cd32 ct32 : Value}
    {f33 : Addr} {od33 an33 : Option Addr} {sl33 : Array (Option Value)} {oc33 kV33 dc33 pm33 cd33 ct33 : Value}
    {f34 : Addr} {od34 an34 : Option Addr} {sl34 : Array (Option Value)} {oc34 kV34 dc34 pm34 cd34 ct34 : Value}
    {f35 : Addr} {od35 an35 : Option Addr} {sl35 : Array (Option Value)} {oc35 kV35 dc35 pm35 cd35 ct35 : Value}
    {f36 : Addr} {od36 an36 : Option Addr} {sl36 : Array (Option Value)} {oc36 kV36 dc36 pm36 cd36 ct36 : Value}
    {f37 : Addr} {od37 an37 : Option Addr} {sl37 : Array (Option Value)} {oc37 kV37 dc37 pm37 cd37 ct37 : Value}
    {C : Addr} (aC : PySem.W.nsIn K mainGlobals "Program" = some (some (.ref C)))
    (a1 : PySem.W.nsIn K mainGlobals "copy_of_row" = some (some (.ref f1))) (l1 : K.lookup f1 = some ⟨oc1, od1, .func (PySem.W.fnOf "copy_of_row" "copy_of_row" (defArgs s_copy_of_row) (defBody s_copy_of_row) (defScope s_copy_of_row) .none kV1 dc1 pm1 an1 cd1 ct1), sl1⟩) (c1 : PySem.W.codeIn K cd1 "copy_of_row" = true) (k1 : PySem.W.keepIn K (.ref f1) = true)
    (a2 : PySem.W.nsIn K mainGlobals "cells" = some (some (.ref f2))) (l2 : K.lookup f2 = some ⟨oc2, od2, .func (PySem.W.fnOf "cells" "cells" (defArgs s_cells) (defBody s_cells) (defScope s_cells) .none kV2 dc2 pm2 an2 cd2 ct2), sl2⟩) (c2 : PySem.W.codeIn K cd2 "cells" = true) (k2 : PySem.W.keepIn K (.ref f2) = true)
    (a3 : PySem.W.nsIn K mainGlobals "row_at" = some (some (.ref f3))) (l3 : K.lookup f3 = some ⟨oc3, od3, .func (PySem.W.fnOf "row_at" "row_at" (defArgs s_row_at) (defBody s_row_at) (defScope s_row_at) .none kV3 dc3 pm3 an3 cd3 ct3), sl3⟩) (c3 : PySem.W.codeIn K cd3 "row_at" = true) (k3 : PySem.W.keepIn K (.ref f3) = true)
    (a4 : PySem.W.nsIn K mainGlobals "idle_row" = some (some (.ref f4))) (l4 : K.lookup f4 = some ⟨oc4, od4, .func (PySem.W.fnOf "idle_row" "idle_row" (defArgs s_idle_row) (defBody s_idle_row) (defScope s_idle_row) .none kV4 dc4 pm4 an4 cd4 ct4), sl4⟩) (c4 : PySem.W.codeIn K cd4 "idle_row" = true) (k4 : PySem.W.keepIn K (.ref f4) = true)
    (a5 : PySem.W.nsIn K mainGlobals "position_of" = some (some (.ref f5))) (l5 : K.lookup f5 = some ⟨oc5, od5, .func (PySem.W.fnOf "position_of" "position_of" (defArgs s_position_of) (defBody s_position_of) (defScope s_position_of) .none kV5 dc5 pm5 an5 cd5 ct5), sl5⟩) (c5 : PySem.W.codeIn K cd5 "position_of" = true) (k5 : PySem.W.keepIn K (.ref f5) = true)
    (a6 : PySem.W.nsIn K mainGlobals "candidate_count" = some (some (.ref f6))) (l6 : K.lookup f6 = some ⟨oc6, od6, .func (PySem.W.fnOf "candidate_count" "candidate_count" (defArgs s_candidate_count) (defBody s_candidate_count) (defScope s_candidate_count) .none kV6 dc6 pm6 an6 cd6 ct6), sl6⟩) (c6 : PySem.W.codeIn K cd6 "candidate_count" = true) (k6 : PySem.W.keepIn K (.ref f6) = true)
    (a7 : PySem.W.nsIn K mainGlobals "candidates" = some (some (.ref f7))) (l7 : K.lookup f7 = some ⟨oc7, od7, .func (PySem.W.fnOf "candidates" "candidates" (defArgs s_candidates) (defBody s_candidates) (defScope s_candidates) .none kV7 dc7 pm7 an7 cd7 ct7), sl7⟩) (c7 : PySem.W.codeIn K cd7 "candidates" = true) (k7 : PySem.W.keepIn K (.ref f7) = true)
    (a8 : PySem.W.nsIn K mainGlobals "step" = some (some (.ref f8))) (l8 : K.lookup f8 = some ⟨oc8, od8, .func (PySem.W.fnOf "step" "step" (defArgs s_step) (defBody s_step) (defScope s_step) .none kV8 dc8 pm8 an8 cd8 ct8), sl8⟩) (c8 : PySem.W.codeIn K cd8 "step" = true) (k8 : PySem.W.keepIn K (.ref f8) = true)
    (a9 : PySem.W.nsIn K mainGlobals "run" = some (some (.ref f9))) (l9 : K.lookup f9 = some ⟨oc9, od9, .func (PySem.W.fnOf "run" "run" (defArgs s_run) (defBody s_run) (defScope s_run) .none kV9 dc9 pm9 an9 cd9 ct9), sl9⟩) (c9 : PySem.W.codeIn K cd9 "run" = true) (k9 : PySem.W.keepIn K (.ref f9) = true)
    (a10 : PySem.W.nsIn K mainGlobals "endings" = some (some (.ref f10))) (l10 : K.lookup f10 = some ⟨oc10, od10, .func (PySem.W.fnOf "endings" "endings" (defArgs s_endings) (defBody s_endings) (defScope s_endings) .none kV10 dc10 pm10 an10 cd10 ct10), sl10⟩) (c10 : PySem.W.codeIn K cd10 "endings" = true) (k10 : PySem.W.keepIn K (.ref f10) = true)
    (a11 : PySem.W.nsIn K mainGlobals "schedules" = some (some (.ref f11))) (l11 : K.lookup f11 = some ⟨oc11, od11, .func (PySem.W.fnOf "schedules" "schedules" (defArgs s_schedules) (defBody s_schedules) (defScope s_schedules) .none kV11 dc11 pm11 an11 cd11 ct11), sl11⟩) (c11 : PySem.W.codeIn K cd11 "schedules" = true) (k11 : PySem.W.keepIn K (.ref f11) = true)
    (a12 : PySem.W.nsIn K mainGlobals "merged" = some (some (.ref f12))) (l12 : K.lookup f12 = some ⟨oc12, od12, .func (PySem.W.fnOf "merged" "merged" (defArgs s_merged) (defBody s_merged) (defScope s_merged) .none kV12 dc12 pm12 an12 cd12 ct12), sl12⟩) (c12 : PySem.W.codeIn K cd12 "merged" = true) (k12 : PySem.W.keepIn K (.ref f12) = true)
    (a13 : PySem.W.nsIn K mainGlobals "ending_of" = some (some (.ref f13))) (l13 : K.lookup f13 = some ⟨oc13, od13, .func (PySem.W.fnOf "ending_of" "ending_of" (defArgs s_ending_of) (defBody s_ending_of) (defScope s_ending_of) .none kV13 dc13 pm13 an13 cd13 ct13), sl13⟩) (c13 : PySem.W.codeIn K cd13 "ending_of" = true) (k13 : PySem.W.keepIn K (.ref f13) = true)
    (a14 : PySem.W.nsIn K mainGlobals "_law_cell" = some (some (.ref f14))) (l14 : K.lookup f14 = some ⟨oc14, od14, .func (PySem.W.fnOf "_law_cell" "_law_cell" (defArgs s__law_cell) (defBody s__law_cell) (defScope s__law_cell) .none kV14 dc14 pm14 an14 cd14 ct14), sl14⟩) (c14 : PySem.W.codeIn K cd14 "_law_cell" = true) (k14 : PySem.W.keepIn K (.ref f14) = true)
    (a15 : PySem.W.nsIn K mainGlobals "_law_source" = some (some (.ref f15))) (l15 : K.lookup f15 = some ⟨oc15, od15, .func (PySem.W.fnOf "_law_source" "_law_source" (defArgs s__law_source) (defBody s__law_source) (defScope s__law_source) .none kV15 dc15 pm15 an15 cd15 ct15), sl15⟩) (c15 : PySem.W.codeIn K cd15 "_law_source" = true) (k15 : PySem.W.keepIn K (.ref f15) = true)
    (a16 : PySem.W.nsIn K mainGlobals "_law_pick" = some (some (.ref f16))) (l16 : K.lookup f16 = some ⟨oc16, od16, .func (PySem.W.fnOf "_law_pick" "_law_pick" (defArgs s__law_pick) (defBody s__law_pick) (defScope s__law_pick) .none kV16 dc16 pm16 an16 cd16 ct16), sl16⟩) (c16 : PySem.W.codeIn K cd16 "_law_pick" = true) (k16 : PySem.W.keepIn K (.ref f16) = true)
    (a17 : PySem.W.nsIn K mainGlobals "_law_worded" = some (some (.ref f17))) (l17 : K.lookup f17 = some ⟨oc17, od17, .func (PySem.W.fnOf "_law_worded" "_law_worded" (defArgs s__law_worded) (defBody s__law_worded) (defScope s__law_worded) .none kV17 dc17 pm17 an17 cd17 ct17), sl17⟩) (c17 : PySem.W.codeIn K cd17 "_law_worded" = true) (k17 : PySem.W.keepIn K (.ref f17) = true)
    (a18 : PySem.W.nsIn K mainGlobals "_law_cells" = some (some (.ref f18))) (l18 : K.lookup f18 = some ⟨oc18, od18, .func (PySem.W.fnOf "_law_cells" "_law_cells" (defArgs s__law_cells) (defBody s__law_cells) (defScope s__law_cells) .none kV18 dc18 pm18 an18 cd18 ct18), sl18⟩) (c18 : PySem.W.codeIn K cd18 "_law_cells" = true) (k18 : PySem.W.keepIn K (.ref f18) = true)
    (a19 : PySem.W.nsIn K mainGlobals "_law_known" = some (some (.ref f19))) (l19 : K.lookup f19 = some ⟨oc19, od19, .func (PySem.W.fnOf "_law_known" "_law_known" (defArgs s__law_known) (defBody s__law_known) (defScope s__law_known) .none kV19 dc19 pm19 an19 cd19 ct19), sl19⟩) (c19 : PySem.W.codeIn K cd19 "_law_known" = true) (k19 : PySem.W.keepIn K (.ref f19) = true)
    (a20 : PySem.W.nsIn K mainGlobals "_law_some" = some (some (.ref f20))) (l20 : K.lookup f20 = some ⟨oc20, od20, .func (PySem.W.fnOf "_law_some" "_law_some" (defArgs s__law_some) (defBody s__law_some) (defScope s__law_some) .none kV20 dc20 pm20 an20 cd20 ct20), sl20⟩) (c20 : PySem.W.codeIn K cd20 "_law_some" = true) (k20 : PySem.W.keepIn K (.ref f20) = true)
    (a21 : PySem.W.nsIn K mainGlobals "_law_writes" = some (some (.ref f21))) (l21 : K.lookup f21 = some ⟨oc21, od21, .func (PySem.W.fnOf "_law_writes" "_law_writes" (defArgs s__law_writes) (defBody s__law_writes) (defScope s__law_writes) .none kV21 dc21 pm21 an21 cd21 ct21), sl21⟩) (c21 : PySem.W.codeIn K cd21 "_law_writes" = true) (k21 : PySem.W.keepIn K (.ref f21) = true)
    (a22 : PySem.W.nsIn K mainGlobals "_law_drawn_row" = some (some (.ref f22))) (l22 : K.lookup f22 = some ⟨oc22, od22, .func (PySem.W.fnOf "_law_drawn_row" "_law_drawn_row" (defArgs s__law_drawn_row) (defBody s__law_drawn_row) (defScope s__law_drawn_row) .none kV22 dc22 pm22 an22 cd22 ct22), sl22⟩) (c22 : PySem.W.codeIn K cd22 "_law_drawn_row" = true) (k22 : PySem.W.keepIn K (.ref f22) = true)
    (a23 : PySem.W.nsIn K mainGlobals "_law_named" = some (some (.ref f23))) (l23 : K.lookup f23 = some ⟨oc23, od23, .func (PySem.W.fnOf "_law_named" "_law_named" (defArgs s__law_named) (defBody s__law_named) (defScope s__law_named) .none kV23 dc23 pm23 an23 cd23 ct23), sl23⟩) (c23 : PySem.W.codeIn K cd23 "_law_named" = true) (k23 : PySem.W.keepIn K (.ref f23) = true)
    (a24 : PySem.W.nsIn K mainGlobals "_law_plan" = some (some (.ref f24))) (l24 : K.lookup f24 = some ⟨oc24, od24, .func (PySem.W.fnOf "_law_plan" "_law_plan" (defArgs s__law_plan) (defBody s__law_plan) (defScope s__law_plan) .none kV24 dc24 pm24 an24 cd24 ct24), sl24⟩) (c24 : PySem.W.codeIn K cd24 "_law_plan" = true) (k24 : PySem.W.keepIn K (.ref f24) = true)
    (a25 : PySem.W.nsIn K mainGlobals "_law_program" = some (some (.ref f25))) (l25 : K.lookup f25 = some ⟨oc25, od25, .func (PySem.W.fnOf "_law_program" "_law_program" (defArgs s__law_program) (defBody s__law_program) (defScope s__law_program) .none kV25 dc25 pm25 an25 cd25 ct25), sl25⟩) (c25 : PySem.W.codeIn K cd25 "_law_program" = true) (k25 : PySem.W.keepIn K (.ref f25) = true)
    (a26 : PySem.W.nsIn K mainGlobals "_law_idle" = some (some (.ref f26))) (l26 : K.lookup f26 = some ⟨oc26, od26, .func (PySem.W.fnOf "_law_idle" "_law_idle" (defArgs s__law_idle) (defBody s__law_idle) (defScope s__law_idle) .none kV26 dc26 pm26 an26 cd26 ct26), sl26⟩) (c26 : PySem.W.codeIn K cd26 "_law_idle" = true) (k26 : PySem.W.keepIn K (.ref f26) = true)
    (a27 : PySem.W.nsIn K mainGlobals "_law_table" = some (some (.ref f27))) (l27 : K.lookup f27 = some ⟨oc27, od27, .func (PySem.W.fnOf "_law_table" "_law_table" (defArgs s__law_table) (defBody s__law_table) (defScope s__law_table) .none kV27 dc27 pm27 an27 cd27 ct27), sl27⟩) (c27 : PySem.W.codeIn K cd27 "_law_table" = true) (k27 : PySem.W.keepIn K (.ref f27) = true)
    (a28 : PySem.W.nsIn K mainGlobals "_law_index" = some (some (.ref f28))) (l28 : K.lookup f28 = some ⟨oc28, od28, .func (PySem.W.fnOf "_law_index" "_law_index" (defArgs s__law_index) (defBody s__law_index) (defScope s__law_index) .none kV28 dc28 pm28 an28 cd28 ct28), sl28⟩) (c28 : PySem.W.codeIn K cd28 "_law_index" = true) (k28 : PySem.W.keepIn K (.ref f28) = true)
    (a29 : PySem.W.nsIn K mainGlobals "_law_position" = some (some (.ref f29))) (l29 : K.lookup f29 = some ⟨oc29, od29, .func (PySem.W.fnOf "_law_position" "_law_position" (defArgs s__law_position) (defBody s__law_position) (defScope s__law_position) .none kV29 dc29 pm29 an29 cd29 ct29), sl29⟩) (c29 : PySem.W.codeIn K cd29 "_law_position" = true) (k29 : PySem.W.keepIn K (.ref f29) = true)
    (a30 : PySem.W.nsIn K mainGlobals "_law_step" = some (some (.ref f30))) (l30 : K.lookup f30 = some ⟨oc30, od30, .func (PySem.W.fnOf "_law_step" "_law_step" (defArgs s__law_step) (defBody s__law_step) (defScope s__law_step) .none kV30 dc30 pm30 an30 cd30 ct30), sl30⟩) (c30 : PySem.W.codeIn K cd30 "_law_step" = true) (k30 : PySem.W.keepIn K (.ref f30) = true)
    (a31 : PySem.W.nsIn K mainGlobals "_law_run" = some (some (.ref f31))) (l31 : K.lookup f31 = some ⟨oc31, od31, .func (PySem.W.fnOf "_law_run" "_law_run" (defArgs s__law_run) (defBody s__law_run) (defScope s__law_run) .none kV31 dc31 pm31 an31 cd31 ct31), sl31⟩) (c31 : PySem.W.codeIn K cd31 "_law_run" = true) (k31 : PySem.W.keepIn K (.ref f31) = true)
    (a32 : PySem.W.nsIn K mainGlobals "_law_input" = some (some (.ref f32))) (l32 : K.lookup f32 = some ⟨oc32, od32, .func (PySem.W.fnOf "_law_input" "_law_input" (defArgs s__law_input) (defBody s__law_input) (defScope s__law_input) .none kV32 dc32 pm32 an32 cd32 ct32), sl32⟩) (c32 : PySem.W.codeIn K cd32 "_law_input" = true) (k32 : PySem.W.keepIn K (.ref f32) = true)
    (a33 : PySem.W.nsIn K mainGlobals "_law_schedules" = some (some (.ref f33))) (l33 : K.lookup f33 = some ⟨oc33, od33, .func (PySem.W.fnOf "_law_schedules" "_law_schedules" (defArgs s__law_schedules) (defBody s__law_schedules) (defScope s__law_schedules) .none kV33 dc33 pm33 an33 cd33 ct33), sl33⟩) (c33 : PySem.W.codeIn K cd33 "_law_schedules" = true) (k33 : PySem.W.keepIn K (.ref f33) = true)
    (a34 : PySem.W.nsIn K mainGlobals "_law_ending" = some (some (.ref f34))) (l34 : K.lookup f34 = some ⟨oc34, od34, .func (PySem.W.fnOf "_law_ending" "_law_ending" (defArgs s__law_ending) (defBody s__law_ending) (defScope s__law_ending) .none kV34 dc34 pm34 an34 cd34 ct34), sl34⟩) (c34 : PySem.W.codeIn K cd34 "_law_ending" = true) (k34 : PySem.W.keepIn K (.ref f34) = true)
    (a35 : PySem.W.nsIn K mainGlobals "_law_due" = some (some (.ref f35))) (l35 : K.lookup f35 = some ⟨oc35, od35, .func (PySem.W.fnOf "_law_due" "_law_due" (defArgs s__law_due) (defBody s__law_due) (defScope s__law_due) .none kV35 dc35 pm35 an35 cd35 ct35), sl35⟩) (c35 : PySem.W.codeIn K cd35 "_law_due" = true) (k35 : PySem.W.keepIn K (.ref f35) = true)
    (a36 : PySem.W.nsIn K mainGlobals "law" = some (some (.ref f36))) (l36 : K.lookup f36 = some ⟨oc36, od36, .func (PySem.W.fnOf "law" "law" (defArgs s_law) (defBody s_law) (defScope s_law) .none kV36 dc36 pm36 an36 cd36 ct36), sl36⟩) (c36 : PySem.W.codeIn K cd36 "law" = true) (k36 : PySem.W.keepIn K (.ref f36) = true)
    (a37 : PySem.W.findIn K (.ref C) "__init__" = some (some (.ref f37))) (i37 : PySem.W.isFn K (.ref f37) = true) (l37 : K.lookup f37 = some ⟨oc37, od37, .func (PySem.W.fnOf "__init__" "Program.__init__" (defArgs s_Program___init__) (defBody s_Program___init__) (defScope s_Program___init__) .none kV37 dc37 pm37 an37 cd37 ct37), sl37⟩) (c37 : PySem.W.codeIn K cd37 "Program.__init__" = true) (k37 : PySem.W.keepIn K (.ref f37) = true)
    (z1 : PySem.W.nsIn K mainGlobals "len" = some none)
    (z2 : PySem.W.nsIn K mainGlobals "range" = some none)
    (z3 : PySem.W.nsIn K mainGlobals "list" = some none)
    (z4 : PySem.W.nsIn K mainGlobals "tuple" = some none)
    (z5 : PySem.W.nsIn K mainGlobals "set" = some none)
    (z6 : PySem.W.nsIn K mainGlobals "sorted" = some none)
    (z7 : PySem.W.nsIn K mainGlobals "isinstance" = some none)
    (z8 : PySem.W.nsIn K mainGlobals "int" = some none)
    (z9 : PySem.W.nsIn K mainGlobals "bool" = some none)
    (pg : PySem.W.plainGet K C Str.empty = true) (hd : PySem.W.hasDictIn K C = true) (po : PySem.W.plainOver K C = true) (sa : PySem.W.findIn K (.ref C) "__setattr__" = some (some (.builtin "object.__setattr__"))) (mk : PySem.W.makesIn K C = true) (kc : PySem.W.keepIn K (.ref C) = true)
    (n_names : PySem.W.findIn K (.ref C) "names" = some none)
    (n_ports : PySem.W.findIn K (.ref C) "ports" = some none)
    (n_modes : PySem.W.findIn K (.ref C) "modes" = some none)
    (n_row_of : PySem.W.findIn K (.ref C) "row_of" = some none)
    (n_table : PySem.W.findIn K (.ref C) "table" = some none)
    {aS aE : Addr} {odS odE : Option Addr} {tS : Tok} {nS nE : Nat} {slS slE : Array (Option Value)} (aST : PySem.W.nsIn K mainGlobals "START" = some (some (.ref aS))) (lS : K.lookup aS = some ⟨.type "tuple", odS, .seq #[.int 0 tS, .ref aE] nS, slS⟩) (lE : K.lookup aE = some ⟨.type "tuple", odE, .seq #[] nE, slE⟩)
    {t_MOST_SCHEDULED : Tok} (ci_MOST_SCHEDULED : PySem.W.nsIn K mainGlobals "MOST_SCHEDULED" = some (some (.int 8 t_MOST_SCHEDULED)))
    {C_TooLarge : Addr} (xg_TooLarge : PySem.W.nsIn K mainGlobals "TooLarge" = some (some (.ref C_TooLarge))) (xx_TooLarge : PySem.W.excIn K C_TooLarge [.type "ValueError", .type "Exception", .type "BaseException", .type "object"] "ValueError.__new__" = true) (xk_TooLarge : PySem.W.keepIn K (.ref C_TooLarge) = true) (xb_TooLarge : PySem.W.subIn K (.ref C_TooLarge) (.type "BaseException") = some true) (xt_TooLarge : PySem.W.typeIn K (.ref C_TooLarge) = some (.type "type"))
    {C_TooLong : Addr} (xg_TooLong : PySem.W.nsIn K mainGlobals "TooLong" = some (some (.ref C_TooLong))) (xx_TooLong : PySem.W.excIn K C_TooLong [.type "ValueError", .type "Exception", .type "BaseException", .type "object"] "ValueError.__new__" = true) (xk_TooLong : PySem.W.keepIn K (.ref C_TooLong) = true) (xb_TooLong : PySem.W.subIn K (.ref C_TooLong) (.type "BaseException") = some true) (xt_TooLong : PySem.W.typeIn K (.ref C_TooLong) = some (.type "type"))
    {C_MissError : Addr} (xg_MissError : PySem.W.nsIn K mainGlobals "MissError" = some (some (.ref C_MissError))) (xb_MissError : PySem.W.subIn K (.ref C_MissError) (.type "BaseException") = some true) (xd_MissError : PySem.W.hasDictIn K C_MissError = true) (xt_MissError : PySem.W.typeIn K (.ref C_MissError) = some (.type "type"))
    (er6 : PySem.W.specialIn K (.builtin "object.__class__") "__get__" = some (some (.builtin "getset_descriptor.__get__"))) (er7 : PySem.W.takesIn K (.builtin "object.__class__") = some true)
    (ers_TooLarge : PySem.W.subIn K (.ref C_TooLarge) (.ref C_MissError) = some true) (er1_TooLarge : PySem.W.findIn K (.ref C_TooLarge) "__getattribute__" = some (some (.builtin "BaseException.__getattribute__"))) (er2_TooLarge : PySem.W.findIn K (.ref C_TooLarge) "__getattr__" = some none) (er4_TooLarge : PySem.W.hasDictIn K C_TooLarge = true) (er5_TooLarge : PySem.W.findIn K (.ref C_TooLarge) "__class__" = some (some (.builtin "object.__class__"))) (er8_TooLarge : PySem.W.mroIn K C_TooLarge (.type "object") = some true) (erc_TooLarge : PySem.W.isClsIn K C_TooLarge = true)
    (ers_TooLong : PySem.W.subIn K (.ref C_TooLong) (.ref C_MissError) = some true) (er1_TooLong : PySem.W.findIn K (.ref C_TooLong) "__getattribute__" = some (some (.builtin "BaseException.__getattribute__"))) (er2_TooLong : PySem.W.findIn K (.ref C_TooLong) "__getattr__" = some none) (er4_TooLong : PySem.W.hasDictIn K C_TooLong = true) (er5_TooLong : PySem.W.findIn K (.ref C_TooLong) "__class__" = some (some (.builtin "object.__class__"))) (er8_TooLong : PySem.W.mroIn K C_TooLong (.type "object") = some true) (erc_TooLong : PySem.W.isClsIn K C_TooLong = true)
    (erp_TooLarge_TooLong : PySem.W.subIn K (.ref C_TooLarge) (.ref C_TooLong) = some false) (ern_TooLarge_TooLong : (Value.ref C_TooLarge == Value.ref C_TooLong) = false)
    (erp_TooLong_TooLarge : PySem.W.subIn K (.ref C_TooLong) (.ref C_TooLarge) = some false) (ern_TooLong_TooLarge : (Value.ref C_TooLong == Value.ref C_TooLarge) = false)
    : ∃ fd : FuncData, (∀ (s : Shared) (v : Value), BindsTo s fd ⟨[v], []⟩ [("script", v)]) ∧ ∀ base : Heap, K.In base → base.Ns mainGlobals mg → FnOk P w K mg base CX0 12 fa fd ["script"] (spLaw K) := by
  have e := hfa.symm.trans (PySem.W.mg_of X G a36)
  cases e
  have F1 := fun_mk (st := s_copy_of_row) l1 c1 k1
  have k_copy_of_row : Kn K mg "copy_of_row" s_copy_of_row ["row"] f1 _ := ⟨PySem.W.mg_of X G a1, F1, F1.binds (ps := ["row"]) fun _ _ _ _ _ _ us hl => match us, hl with | [_], _ => rfl⟩
  have F2 := fun_mk (st := s_cells) l2 c2 k2
  have k_cells : Kn K mg "cells" s_cells ["program"] f2 _ := ⟨PySem.W.mg_of X G a2, F2, F2.binds (ps := ["program"]) fun _ _ _ _ _ _ us hl => match us, hl with | [_], _ => rfl⟩
  have F3 := fun_mk (st := s_row_at) l3 c3 k3
  have k_row_at : Kn K mg "row_at" s_row_at ["program", "cell"] f3 _ := ⟨PySem.W.mg_of X G a3, F3, F3.binds (ps := ["program", "cell"]) fun _ _ _ _ _ _ us hl => match us, hl with | [_, _], _ => rfl⟩
  have F4 := fun_mk (st := s_idle_row) l4 c4 k4
  have k_idle_row : Kn K mg "idle_row" s_idle_row ["program", "cell"] f4 _ := ⟨PySem.W.mg_of X G a4, F4, F4.binds (ps := ["program", "cell"]) fun _ _ _ _ _ _ us hl => match us, hl with | [_, _], _ => rfl⟩
  have F5 := fun_mk (st := s_position_of) l5 c5 k5
  have k_position_of : Kn K mg "position_of" s_position_of ["number", "held"] f5 _ := ⟨PySem.W.mg_of X G a5, F5, F5.binds (ps := ["number", "held"]) fun _ _ _ _ _ _ us hl => match us, hl with | [_, _], _ => rfl⟩
  have F6 := fun_mk (st := s_candidate_count) l6 c6 k6
  have k_candidate_count : Kn K mg "candidate_count" s_candidate_count ["count", "position"] f6 _ := ⟨PySem.W.mg_of X G a6, F6, F6.binds (ps := ["count", "position"]) fun _ _ _ _ _ _ us hl => match us, hl with | [_, _], _ => rfl⟩
  have F7 := fun_mk (st := s_candidates) l7 c7 k7
  have k_candidates : Kn K mg "candidates" s_candidates ["held", "number"] f7 _ := ⟨PySem.W.mg_of X G a7, F7, F7.binds (ps := ["held", "number"]) fun _ _ _ _ _ _ us hl => match us, hl with | [_, _], _ => rfl⟩
  have F8 := fun_mk (st := s_step) l8 c8 k8
  have k_step : Kn K mg "step" s_step ["program", "place", "event"] f8 _ := ⟨PySem.W.mg_of X G a8, F8, F8.binds (ps := ["program", "place", "event"]) fun _ _ _ _ _ _ us hl => match us, hl with | [_, _, _], _ => rfl⟩
  have F9 := fun_mk (st := s_run) l9 c9 k9
  have k_run : Kn K mg "run" s_run ["program", "events"] f9 _ := ⟨PySem.W.mg_of X G a9, F9, F9.binds (ps := ["program", "events"]) fun _ _ _ _ _ _ us hl => match us, hl with | [_, _], _ => rfl⟩
  have F10 := fun_mk (st := s_endings) l10 c10 k10
  have k_endings : Kn K mg "endings" s_endings ["program", "first", "second"] f10 _ := ⟨PySem.W.mg_of X G a10, F10, F10.binds (ps := ["program", "first", "second"]) fun _ _ _ _ _ _ us hl => match us, hl with | [_, _, _], _ => rfl⟩
  have F11 := fun_mk (st := s_schedules) l11 c11 k11
  have k_schedules : Kn K mg "schedules" s_schedules ["many", "others"] f11 _ := ⟨PySem.W.mg_of X G a11, F11, F11.binds (ps := ["many", "others"]) fun _ _ _ _ _ _ us hl => match us, hl with | [_, _], _ => rfl⟩
  have F12 := fun_mk (st := s_merged) l12 c12 k12
  have k_merged : Kn K mg "merged" s_merged ["schedule", "first", "second"] f12 _ := ⟨PySem.W.mg_of X G a12, F12, F12.binds (ps := ["schedule", "first", "second"]) fun _ _ _ _ _ _ us hl => match us, hl with | [_, _, _], _ => rfl⟩
  have F13 := fun_mk (st := s_ending_of) l13 c13 k13
  have k_ending_of : Kn K mg "ending_of" s_ending_of ["program", "events"] f13 _ := ⟨PySem.W.mg_of X G a13, F13, F13.binds (ps := ["program", "events"]) fun _ _ _ _ _ _ us hl => match us, hl with | [_, _], _ => rfl⟩
  have F14 := fun_mk (st := s__law_cell) l14 c14 k14
  have k__law_cell : Kn K mg "_law_cell" s__law_cell ["script", "k"] f14 _ := ⟨PySem.W.mg_of X G a14, F14, F14.binds (ps := ["script", "k"]) fun _ _ _ _ _ _ us hl => match us, hl with | [_, _], _ => rfl⟩
  have F15 := fun_mk (st := s__law_source) l15 c15 k15
  have k__law_source : Kn K mg "_law_source" s__law_source ["cell", "k"] f15 _ := ⟨PySem.W.mg_of X G a15, F15, F15.binds (ps := ["cell", "k"]) fun _ _ _ _ _ _ us hl => match us, hl with | [_, _], _ => rfl⟩
  have F16 := fun_mk (st := s__law_pick) l16 c16 k16
  have k__law_pick : Kn K mg "_law_pick" s__law_pick ["source", "many"] f16 _ := ⟨PySem.W.mg_of X G a16, F16, F16.binds (ps := ["source", "many"]) fun _ _ _ _ _ _ us hl => match us, hl with | [_, _], _ => rfl⟩
  have F17 := fun_mk (st := s__law_worded) l17 c17 k17
  have k__law_worded : Kn K mg "_law_worded" s__law_worded ["source", "words"] f17 _ := ⟨PySem.W.mg_of X G a17, F17, F17.binds (ps := ["source", "words"]) fun _ _ _ _ _ _ us hl => match us, hl with | [_, _], _ => rfl⟩
  have F18 := fun_mk (st := s__law_cells) l18 c18 k18
  have k__law_cells : Kn K mg "_law_cells" s__law_cells ["plan"] f18 _ := ⟨PySem.W.mg_of X G a18, F18, F18.binds (ps := ["plan"]) fun _ _ _ _ _ _ us hl => match us, hl with | [_], _ => rfl⟩
  have F19 := fun_mk (st := s__law_known) l19 c19 k19
  have k__law_known : Kn K mg "_law_known" s__law_known ["plan", "cell"] f19 _ := ⟨PySem.W.mg_of X G a19, F19, F19.binds (ps := ["plan", "cell"]) fun _ _ _ _ _ _ us hl => match us, hl with | [_, _], _ => rfl⟩
  have F20 := fun_mk (st := s__law_some) l20 c20 k20
  have k__law_some : Kn K mg "_law_some" s__law_some ["source", "known", "count"] f20 _ := ⟨PySem.W.mg_of X G a20, F20, F20.binds (ps := ["source", "known", "count"]) fun _ _ _ _ _ _ us hl => match us, hl with | [_, _, _], _ => rfl⟩
  have F21 := fun_mk (st := s__law_writes) l21 c21 k21
  have k__law_writes : Kn K mg "_law_writes" s__law_writes ["source", "plan", "known"] f21 _ := ⟨PySem.W.mg_of X G a21, F21, F21.binds (ps := ["source", "plan", "known"]) fun _ _ _ _ _ _ us hl => match us, hl with | [_, _, _], _ => rfl⟩
  have F22 := fun_mk (st := s__law_drawn_row) l22 c22 k22
  have k__law_drawn_row : Kn K mg "_law_drawn_row" s__law_drawn_row ["source", "plan", "cell"] f22 _ := ⟨PySem.W.mg_of X G a22, F22, F22.binds (ps := ["source", "plan", "cell"]) fun _ _ _ _ _ _ us hl => match us, hl with | [_, _, _], _ => rfl⟩
  have F23 := fun_mk (st := s__law_named) l23 c23 k23
  have k__law_named : Kn K mg "_law_named" s__law_named ["source", "count", "ends"] f23 _ := ⟨PySem.W.mg_of X G a23, F23, F23.binds (ps := ["source", "count", "ends"]) fun _ _ _ _ _ _ us hl => match us, hl with | [_, _, _], _ => rfl⟩
  have F24 := fun_mk (st := s__law_plan) l24 c24 k24
  have k__law_plan : Kn K mg "_law_plan" s__law_plan ["source", "wide"] f24 _ := ⟨PySem.W.mg_of X G a24, F24, F24.binds (ps := ["source", "wide"]) fun _ _ _ _ _ _ us hl => match us, hl with | [_, _], _ => rfl⟩
  have F25 := fun_mk (st := s__law_program) l25 c25 k25
  have k__law_program : Kn K mg "_law_program" s__law_program ["plan"] f25 _ := ⟨PySem.W.mg_of X G a25, F25, F25.binds (ps := ["plan"]) fun _ _ _ _ _ _ us hl => match us, hl with | [_], _ => rfl⟩
  have F26 := fun_mk (st := s__law_idle) l26 c26 k26
  have k__law_idle : Kn K mg "_law_idle" s__law_idle ["plan", "cell"] f26 _ := ⟨PySem.W.mg_of X G a26, F26, F26.binds (ps := ["plan", "cell"]) fun _ _ _ _ _ _ us hl => match us, hl with | [_, _], _ => rfl⟩
  have F27 := fun_mk (st := s__law_table) l27 c27 k27
  have k__law_table : Kn K mg "_law_table" s__law_table ["plan"] f27 _ := ⟨PySem.W.mg_of X G a27, F27, F27.binds (ps := ["plan"]) fun _ _ _ _ _ _ us hl => match us, hl with | [_], _ => rfl⟩
  have F28 := fun_mk (st := s__law_index) l28 c28 k28
  have k__law_index : Kn K mg "_law_index" s__law_index ["words", "word"] f28 _ := ⟨PySem.W.mg_of X G a28, F28, F28.binds (ps := ["words", "word"]) fun _ _ _ _ _ _ us hl => match us, hl with | [_, _], _ => rfl⟩
  have F29 := fun_mk (st := s__law_position) l29 c29 k29
  have k__law_position : Kn K mg "_law_position" s__law_position ["number", "held"] f29 _ := ⟨PySem.W.mg_of X G a29, F29, F29.binds (ps := ["number", "held"]) fun _ _ _ _ _ _ us hl => match us, hl with | [_, _], _ => rfl⟩
  have F30 := fun_mk (st := s__law_step) l30 c30 k30
  have k__law_step : Kn K mg "_law_step" s__law_step ["plan", "table", "place", "event"] f30 _ := ⟨PySem.W.mg_of X G a30, F30, F30.binds (ps := ["plan", "table", "place", "event"]) fun _ _ _ _ _ _ us hl => match us, hl with | [_, _, _, _], _ => rfl⟩
  have F31 := fun_mk (st := s__law_run) l31 c31 k31
  have k__law_run : Kn K mg "_law_run" s__law_run ["plan", "events"] f31 _ := ⟨PySem.W.mg_of X G a31, F31, F31.binds (ps := ["plan", "events"]) fun _ _ _ _ _ _ us hl => match us, hl with | [_, _], _ => rfl⟩
  have F32 := fun_mk (st := s__law_input) l32 c32 k32
  have k__law_input : Kn K mg "_law_input" s__law_input ["source", "plan", "size"] f32 _ := ⟨PySem.W.mg_of X G a32, F32, F32.binds (ps := ["source", "plan", "size"]) fun _ _ _ _ _ _ us hl => match us, hl with | [_, _, _], _ => rfl⟩
  have F33 := fun_mk (st := s__law_schedules) l33 c33 k33
  have k__law_schedules : Kn K mg "_law_schedules" s__law_schedules ["first", "second"] f33 _ := ⟨PySem.W.mg_of X G a33, F33, F33.binds (ps := ["first", "second"]) fun _ _ _ _ _ _ us hl => match us, hl with | [_, _], _ => rfl⟩
  have F34 := fun_mk (st := s__law_ending) l34 c34 k34
  have k__law_ending : Kn K mg "_law_ending" s__law_ending ["plan", "first", "second", "schedule"] f34 _ := ⟨PySem.W.mg_of X G a34, F34, F34.binds (ps := ["plan", "first", "second", "schedule"]) fun _ _ _ _ _ _ us hl => match us, hl with | [_, _, _, _], _ => rfl⟩
  have F35 := fun_mk (st := s__law_due) l35 c35 k35
  have k__law_due : Kn K mg "_law_due" s__law_due ["plan", "first", "second"] f35 _ := ⟨PySem.W.mg_of X G a35, F35, F35.binds (ps := ["plan", "first", "second"]) fun _ _ _ _ _ _ us hl => match us, hl with | [_, _, _], _ => rfl⟩
  have F36 := fun_mk (st := s_law) l36 c36 k36
  have F_law := F36
  have F37 := fun_mk (st := s_Program___init__) l37 c37 k37
  have F_init := F37
  have b_Program := F37.binds (ps := ["self", "names", "ports", "modes", "rows"]) fun _ _ _ _ _ _ us hl => match us, hl with | [_, _, _, _, _], _ => rfl
  have mk_Program : Mk K C f37 := ⟨mk, a37, i37, kc⟩
  have g_Program := PySem.W.mg_of X G aC
  have hC : Cls K C := ⟨pg, hd, po, sa⟩
  have m_len : mg "len" = none := PySem.W.mg_none_of X G z1
  have m_range : mg "range" = none := PySem.W.mg_none_of X G z2
  have m_list : mg "list" = none := PySem.W.mg_none_of X G z3
  have m_tuple : mg "tuple" = none := PySem.W.mg_none_of X G z4
  have m_set : mg "set" = none := PySem.W.mg_none_of X G z5
  have m_sorted : mg "sorted" = none := PySem.W.mg_none_of X G z6
  have m_isinstance : mg "isinstance" = none := PySem.W.mg_none_of X G z7
  have m_int : mg "int" = none := PySem.W.mg_none_of X G z8
  have m_bool : mg "bool" = none := PySem.W.mg_none_of X G z9
  have c_START := PySem.W.mg_of X G aST
  have hE_START : CstT K aE [] := ⟨[], fun H => .inr ⟨_, _, _, lE, rfl, rfl, sz_ok (by decide), .nil⟩, fun _ => .nil⟩
  have hS_START : CstT K aS [nD 0, .con aE] := ⟨[.int 0, .ref aE], fun H => .inr ⟨_, _, _, lS, rfl, rfl, sz_ok (by show 2 ≤ 10000000; decide), .cons ⟨tS, rfl⟩ (.cons rfl .nil)⟩, fun _ => .cons (.int 0) (.cons (.con aE) .nil)⟩
  have c_MOST_SCHEDULED := PySem.W.mg_of X G ci_MOST_SCHEDULED
  have g_TooLarge := PySem.W.mg_of X G xg_TooLarge
  have x_TooLarge : Exq K mg "TooLarge" C_TooLarge := ⟨xx_TooLarge, g_TooLarge, xk_TooLarge, xb_TooLarge, xt_TooLarge⟩
  have g_TooLong := PySem.W.mg_of X G xg_TooLong
  have x_TooLong : Exq K mg "TooLong" C_TooLong := ⟨xx_TooLong, g_TooLong, xk_TooLong, xb_TooLong, xt_TooLong⟩
  have g_MissError := PySem.W.mg_of X G xg_MissError
  have er_TooLarge : ExcC K C_TooLarge := ⟨er1_TooLarge, er2_TooLarge, xb_TooLarge, er4_TooLarge, er5_TooLarge, er6, er7, er8_TooLarge⟩
  have mm_TooLarge := PySem.W.exm_ref xb_MissError xd_MissError xt_MissError ers_TooLarge
  have kk_TooLarge_TooLarge : PySem.W.kitOne K (.ref C_TooLarge) (.ref C_TooLarge) = some true := by unfold PySem.W.kitOne; rw [if_pos (by simp)]
  have kk_TooLarge_TooLong : PySem.W.kitOne K (.ref C_TooLarge) (.ref C_TooLong) = some false := by
    have h1 : (PySem.W.clsIn K C_TooLong).isSome = true := erc_TooLong
    unfold PySem.W.kitOne
    rw [ern_TooLarge_TooLong, if_neg Bool.false_ne_true]
    show (if ((PySem.W.clsIn K C_TooLong).isSome && PySem.W.typeIn K (.ref C_TooLong) == some (.type "type")) = true then PySem.W.subIn K (.ref C_TooLarge) (.ref C_TooLong) else none) = some false
    rw [h1, xt_TooLong, if_pos (by rfl)]
    exact erp_TooLarge_TooLong
  have er_TooLong : ExcC K C_TooLong := ⟨er1_TooLong, er2_TooLong, xb_TooLong, er4_TooLong, er5_TooLong, er6, er7, er8_TooLong⟩
  have mm_TooLong := PySem.W.exm_ref xb_MissError xd_MissError xt_MissError ers_TooLong
  have kk_TooLong_TooLarge : PySem.W.kitOne K (.ref C_TooLong) (.ref C_TooLarge) = some false := by
    have h1 : (PySem.W.clsIn K C_TooLarge).isSome = true := erc_TooLarge
    unfold PySem.W.kitOne
    rw [ern_TooLong_TooLarge, if_neg Bool.false_ne_true]
    show (if ((PySem.W.clsIn K C_TooLarge).isSome && PySem.W.typeIn K (.ref C_TooLarge) == some (.type "type")) = true then PySem.W.subIn K (.ref C_TooLong) (.ref C_TooLarge) else none) = some false
    rw [h1, xt_TooLarge, if_pos (by rfl)]
    exact erp_TooLong_TooLarge
  have kk_TooLong_TooLong : PySem.W.kitOne K (.ref C_TooLong) (.ref C_TooLong) = some true := by unfold PySem.W.kitOne; rw [if_pos (by simp)]
  exact ⟨PySem.W.fnOf "law" "law" (defArgs s_law) (defBody s_law) (defScope s_law) .none kV36 dc36 pm36 an36 cd36 ct36, fun s v => .of_eq rfl, fun base _ _ => by
    have g_cell : FnOk P w K mg base CX0 1 _ _ _ _ := ok__law_cell k__law_cell.F m_len
    have g_source : FnOk P w K mg base CX0 1 _ _ _ _ := ok__law_source k__law_source.F m_int
    have g_pick : FnOk P w K mg base CX0 1 _ _ _ _ := (ok__law_pick k__law_pick.F m_int).imp pick_S
    have g_plan : FnOk P w K mg base CX0 5 _ _ _ _ := ok__law_plan k__law_plan.F k__law_pick k__law_worded k__law_known k__law_some k__law_writes k__law_drawn_row k__law_named k__law_cells m_int m_len m_range m_tuple
    have g_program : FnOk P w K mg base CX0 5 _ _ _ _ := ok__law_program k__law_program.F mk_Program (ok_init F_init k_copy_of_row k_idle_row k_cells k_candidate_count (ok_cellsQ k_cells.F hC n_names n_modes m_len m_range) hC n_names n_ports n_modes n_row_of n_table m_range m_tuple) g_Program b_Program
    have g_input : FnOk P w K mg base CX0 3 _ _ _ _ := ok__law_input k__law_input.F k__law_pick k__law_worded m_int m_len m_range
    have g_lrun : FnOk P w K mg base CX0 3 _ _ _ _ := ok__law_run k__law_run.F k__law_position k__law_index k__law_step k__law_table k__law_cells k__law_idle m_len m_range m_list m_tuple m_sorted
    have g_run : FnOk P w K mg base CX0 3 _ _ _ _ := ok_run k_run.F k_position_of k_row_at k_candidates k_step hC n_names n_ports n_row_of m_tuple m_set m_sorted c_START hS_START hE_START
    have g_sch : FnOk P w K mg base CX0 10 _ _ _ _ := ok_schedules k_schedules 9
    have g_lsch : FnOk P w K mg base CX0 10 _ _ _ _ := ok__law_schedules k__law_schedules 9
    have g_merged : FnOk P w K mg base CX0 1 _ _ _ _ := ok_merged k_merged.F m_list
    have g_endof : FnOk P w K mg base CX0 4 _ _ _ _ := ok_ending_of k_ending_of.F k_run g_run hC n_ports m_tuple
    have g_lend : FnOk P w K mg base CX0 4 _ _ _ _ := ok__law_ending k__law_ending.F k__law_run g_lrun m_len m_range m_tuple
    have g_endings : FnOk P w K mg base (L2.CX P w) 11 _ _ _ _ := ok_endings k_endings.F k_schedules k_merged k_ending_of g_sch g_merged g_endof c_MOST_SCHEDULED x_TooLong m_len
    have g_due : FnOk P w K mg base CX0 11 _ _ _ _ := ok__law_due k__law_due.F k__law_schedules k__law_ending g_lsch g_lend m_len m_range
    exact ok_law F_law k__law_cell k__law_source k__law_pick k__law_plan k__law_program k__law_input k_endings k__law_due     g_cell g_source g_pick g_plan g_program g_input g_endings g_due (by have := x_TooLarge; have := er_TooLarge; exact ⟨g_MissError, g_TooLong, g_TooLarge, mm_TooLong, kk_TooLong_TooLong, kk_TooLong_TooLarge, er_TooLong⟩) m_list m_isinstance m_len m_bool⟩
end K30
open PySem PySem.W PyProof.Rows
set_option maxHeartbeats 0 in
theorem PySem.Challenge.cw_missesnone_k30_endings_holds : PySem.Challenge.rw_missesnone_k30_endings.Holds := by
  w_on; o_law; k_head; (case hw => w_witness2)
  k_fill
  refine L2.walk_of (l := PySem.Challenge.rw_missesnone_k30_endings) (n := 63) (k := 12) (x := "script") (CX := fun _ => L2.CX0) (sp := fun w => K30.spLaw _) rfl (by decide) rfl ⟨rfl, by decide, by decide⟩ (fun w h Y => PySem.W.kIn_of Y) ?F (fun _ _ a ns hl _ hS => ⟨a, ns, rfl, hS, hl, fun _ => rfl⟩) (fun _ _ _ _ _ h => h)
  case F =>
    intro w mg fa h KX G hmg
    refine' K30.all_mk KX G hmg ?aC ?a1 ?l1 ?c1 ?k1 ?a2 ?l2 ?c2 ?k2 ?a3 ?l3 ?c3 ?k3 ?a4 ?l4 ?c4 ?k4 ?a5 ?l5 ?c5 ?k5 ?a6 ?l6 ?c6 ?k6 ?a7 ?l7 ?c7 ?k7 ?a8 ?l8 ?c8 ?k8 ?a9 ?l9 ?c9 ?k9 ?a10 ?l10 ?c10 ?k10 ?a11 ?l11 ?c11 ?k11 ?a12 ?l12 ?c12 ?k12 ?a13 ?l13 ?c13 ?k13 ?a14 ?l14 ?c14 ?k14 ?a15 ?l15 ?c15 ?k15 ?a16 ?l16 ?c16 ?k16 ?a17 ?l17 ?c17 ?k17 ?a18 ?l18 ?c18 ?k18 ?a19 ?l19 ?c19 ?k19 ?a20 ?l20 ?c20 ?k20 ?a21 ?l21 ?c21 ?k21 ?a22 ?l22 ?c22 ?k22 ?a23 ?l23 ?c23 ?k23 ?a24 ?l24 ?c24 ?k24 ?a25 ?l25 ?c25 ?k25 ?a26 ?l26 ?c26 ?k26 ?a27 ?l27 ?c27 ?k27 ?a28 ?l28 ?c28 ?k28 ?a29 ?l29 ?c29 ?k29 ?a30 ?l30 ?c30 ?k30 ?a31 ?l31 ?c31 ?k31 ?a32 ?l32 ?c32 ?k32 ?a33 ?l33 ?c33 ?k33 ?a34 ?l34 ?c34 ?k34 ?a35 ?l35 ?c35 ?k35 ?a36 ?l36 ?c36 ?k36 ?a37 ?i37 ?l37 ?c37 ?k37 ?z1 ?z2 ?z3 ?z4 ?z5 ?z6 ?z7 ?z8 ?z9 ?pg ?hd ?po ?sa ?mk ?kc ?n_names ?n_ports ?n_modes ?n_row_of ?n_table ?aST ?lS ?lE ?ci_MOST_SCHEDULED ?xg_TooLarge ?xx_TooLarge ?xk_TooLarge ?xb_TooLarge ?xt_TooLarge ?xg_TooLong ?xx_TooLong ?xk_TooLong ?xb_TooLong ?xt_TooLong ?xg_MissError ?xb_MissError ?xd_MissError ?xt_MissError ?er6 ?er7 ?ers_TooLarge ?er1_TooLarge ?er2_TooLarge ?er4_TooLarge ?er5_TooLarge ?er8_TooLarge ?erc_TooLarge ?ers_TooLong ?er1_TooLong ?er2_TooLong ?er4_TooLong ?er5_TooLong ?er8_TooLong ?erc_TooLong ?erp_TooLarge_TooLong ?ern_TooLarge_TooLong ?erp_TooLong_TooLarge ?ern_TooLong_TooLarge
    (case aC => k_is)
    (case a1 => k_is)
    (case l1 => k_is)
    (case c1 => k_is)
    (case k1 => k_is)
    (case a2 => k_is)
    (case l2 => k_is)
    (case c2 => k_is)
    (case k2 => k_is)
    (case a3 => k_is)
    (case l3 => k_is)
    (case c3 => k_is)
    (case k3 => k_is)
    (case a4 => k_is)
    (case l4 => k_is)
    (case c4 => k_is)
    (case k4 => k_is)
    (case a5 => k_is)
    (case l5 => k_is)
    (case c5 => k_is)
    (case k5 => k_is)
    (case a6 => k_is)
    (case l6 => k_is)
    (case c6 => k_is)
    (case k6 => k_is)
    (case a7 => k_is)
    (case l7 => k_is)
    (case c7 => k_is)
    (case k7 => k_is)
    (case a8 => k_is)
    (case l8 => k_is)
    (case c8 => k_is)
    (case k8 => k_is)
    (case a9 => k_is)
    (case l9 => k_is)
    (case c9 => k_is)
    (case k9 => k_is)
    (case a10 => k_is)
    (case l10 => k_is)
    (case c10 => k_is)
    (case k10 => k_is)
    (case a11 => k_is)
    (case l11 => k_is)
    (case c11 => k_is)
    (case k11 => k_is)
    (case a12 => k_is)
    (case l12 => k_is)
    (case c12 => k_is)
    (case k12 => k_is)
    (case a13 => k_is)
    (case l13 => k_is)
    (case c13 => k_is)
    (case k13 => k_is)
    (case a14 => k_is)
    (case l14 => k_is)
    (case c14 => k_is)
    (case k14 => k_is)
    (case a15 => k_is)
    (case l15 => k_is)
    (case c15 => k_is)
    (case k15 => k_is)
    (case a16 => k_is)
    (case l16 => k_is)
    (case c16 => k_is)
    (case k16 => k_is)
    (case a17 => k_is)
    (case l17 => k_is)
    (case c17 => k_is)
    (case k17 => k_is)
    (case a18 => k_is)
    (case l18 => k_is)
    (case c18 => k_is)
    (case k18 => k_is)
    (case a19 => k_is)
    (case l19 => k_is)
    (case c19 => k_is)
    (case k19 => k_is)
    (case a20 => k_is)
    (case l20 => k_is)
    (case c20 => k_is)
    (case k20 => k_is)
    (case a21 => k_is)
    (case l21 => k_is)
    (case c21 => k_is)
    (case k21 => k_is)
    (case a22 => k_is)
    (case l22 => k_is)
    (case c22 => k_is)
    (case k22 => k_is)
    (case a23 => k_is)
    (case l23 => k_is)
    (case c23 => k_is)
    (case k23 => k_is)
    (case a24 => k_is)
    (case l24 => k_is)
    (case c24 => k_is)
    (case k24 => k_is)
    (case a25 => k_is)
    (case l25 => k_is)
    (case c25 => k_is)
    (case k25 => k_is)
    (case a26 => k_is)
    (case l26 => k_is)
    (case c26 => k_is)
    (case k26 => k_is)
    (case a27 => k_is)
    (case l27 => k_is)
    (case c27 => k_is)
    (case k27 => k_is)
    (case a28 => k_is)
    (case l28 => k_is)
    (case c28 => k_is)
    (case k28 => k_is)
    (case a29 => k_is)
    (case l29 => k_is)
    (case c29 => k_is)
    (case k29 => k_is)
    (case a30 => k_is)
    (case l30 => k_is)
    (case c30 => k_is)
    (case k30 => k_is)
    (case a31 => k_is)
    (case l31 => k_is)
    (case c31 => k_is)
    (case k31 => k_is)
    (case a32 => k_is)
    (case l32 => k_is)
    (case c32 => k_is)
    (case k32 => k_is)
    (case a33 => k_is)
    (case l33 => k_is)
    (case c33 => k_is)
    (case k33 => k_is)
    (case a34 => k_is)
    (case l34 => k_is)
    (case c34 => k_is)
    (case k34 => k_is)
    (case a35 => k_is)
    (case l35 => k_is)
    (case c35 => k_is)
    (case k35 => k_is)
    (case a36 => k_is)
    (case l36 => k_is)
    (case c36 => k_is)
    (case k36 => k_is)
    (case a37 => k_is)
    (case i37 => k_is)
    (case l37 => k_is)
    (case c37 => k_is)
    (case k37 => k_is)
    (case z1 => k_is)
    (case z2 => k_is)
    (case z3 => k_is)
    (case z4 => k_is)
    (case z5 => k_is)
    (case z6 => k_is)
    (case z7 => k_is)
    (case z8 => k_is)
    (case z9 => k_is)
    (case pg => k_is)
    (case hd => k_is)
    (case po => k_is)
    (case sa => k_is)
    (case mk => k_is)
    (case kc => k_is)
    (case n_names => k_is)
    (case n_ports => k_is)
    (case n_modes => k_is)
    (case n_row_of => k_is)
    (case n_table => k_is)
    (case aST => k_is)
    (case lS => k_is)
    (case lE => k_is)
    (case ci_MOST_SCHEDULED => k_is)
    (case xg_TooLarge => k_is)
    (case xx_TooLarge => k_exc)
    (case xk_TooLarge => k_is)
    (case xb_TooLarge => k_is)
    (case xt_TooLarge => k_is)
    (case xg_TooLong => k_is)
    (case xx_TooLong => k_exc)
    (case xk_TooLong => k_is)
    (case xb_TooLong => k_is)
    (case xt_TooLong => k_is)
    (case xg_MissError => k_is)
    (case xb_MissError => k_is)
    (case xd_MissError => k_is)
    (case xt_MissError => k_is)
    (case er6 => k_is)
    (case er7 => k_is)
    (case ers_TooLarge => k_is)
    (case er1_TooLarge => k_is)
    (case er2_TooLarge => k_is)
    (case er4_TooLarge => k_is)
    (case er5_TooLarge => k_is)
    (case er8_TooLarge => k_is)
    (case erc_TooLarge => k_is)
    (case ers_TooLong => k_is)
    (case er1_TooLong => k_is)
    (case er2_TooLong => k_is)
    (case er4_TooLong => k_is)
    (case er5_TooLong => k_is)
    (case er8_TooLong => k_is)
    (case erc_TooLong => k_is)
    (case erp_TooLarge_TooLong => k_is)
    (case ern_TooLarge_TooLong => first | rfl | decide)
    (case erp_TooLong_TooLarge => k_is)
    (case ern_TooLong_TooLarge => first | rfl | decide)

