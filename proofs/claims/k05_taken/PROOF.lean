import PyProof.Rows.All
import HandS.Evl
import Wide.All
import OpenK.AllK
import Wide.FinOn
import HandS.ForMost
import HandS.ForExc
import HandS.Conv
import HandS.SortInts
import HandS.Strs
import HandS.IsInst
import HandS.ExcIs
import HandS.TryMany
import HandS.RaiseMore
import HandS.FStr
import HandS.HotCalls
import HandS.SetFor
import HandS.Comp
import HandS.ExcCtx
import HandS.StrMore
import HandS.AnyAll
import HandS.TupSets
import KE.KRevSl
import HandS.Dict
import HandS.GenCall
import HandS.GenList
import HandS.Lambda
import HandS.EndTab
import HandS.SortRule
import HandS.Remove
import KE.DataMinKey
import PyProof.Rows.CallKwBuiltin
import HandS.Ends
import PySem.Challenge.RW_shortring_k05_taken
set_option Elab.async false
set_option linter.all false
set_option maxRecDepth 100000
set_option maxHeartbeats 4000000
/-! Dx: a heap that knows more: all that stands stands, but that a code object's table may have grown. -/
namespace Dx
open PySem PySem.Spec PyProof.Rows L2
/-- r is o, or o's table grown -/
def Sm : HO → Option HO → Prop
  | .tbl qs, r => ∃ more : Array Value, r = some (.tbl (qs ++ more)) ∧ (TriplesOk qs.toList → TriplesOk (qs ++ more).toList)
  | .lst xs, r => r = some (.lst xs)
  | .tup xs, r => r = some (.tup xs)
  | .dK xs, r => r = some (.dK xs)
  | .dT xs, r => r = some (.dT xs)
  | .set S n, r => r = some (.set S n)
  | .ins C d fs, r => r = some (.ins C d fs)
  | .own x, r => r = some (.own x)
  | .xd fs, r => r = some (.xd fs)
  | .met f x, r => r = some (.met f x)
  | .rng l h, r => r = some (.rng l h)
  | .frz o u, r => r = some (.frz o u)
  | .ext φ, r => r = some (.ext φ)
theorem Sm.self : ∀ (o : HO), Sm o (some o)
  | .tbl qs => ⟨#[], by simp, fun h => by simpa using h⟩
  | .lst _ => rfl
  | .tup _ => rfl
  | .dK _ => rfl
  | .dT _ => rfl
  | .set _ _ => rfl
  | .ins _ _ _ => rfl
  | .own _ => rfl
  | .xd _ => rfl
  | .met _ _ => rfl
  | .rng _ _ => rfl
  | .frz _ _ => rfl
  | .ext _ => rfl
theorem Sm.of {o : HO} {r : Option HO} (h : r = some o) : Sm o r := by
  rw [h]
  exact Sm.self o
theorem Sm.cases {o : HO} {r : Option HO} (h : Sm o r) : r = some o ∨ ∃ qs more, o = .tbl qs ∧ r = some (.tbl (qs ++ more)) ∧ (TriplesOk qs.toList → TriplesOk (qs ++ more).toList) := by
  cases o with
  | tbl qs =>
    obtain ⟨more, h1, h2⟩ := h
    exact .inr ⟨qs, more, rfl, h1, h2⟩
  | _ => exact .inl h
theorem Sm.some {o : HO} {r : Option HO} (h : Sm o r) : r ≠ none := fun z => by
  rcases h.cases with q | ⟨_, _, _, q, _⟩ <;> rw [z] at q <;> cases q
def Ex (H H' : Hp) : Prop := ∀ a o, H a = some o → Sm o (H' a)
theorem Ex.refl (H : Hp) : Ex H H := fun _ _ h => Sm.of h
theorem Ex.trans {H H1 H2 : Hp} (a : Ex H H1) (b : Ex H1 H2) : Ex H H2 := fun x o h => by
  rcases (a x o h).cases with q | ⟨qs, m1, rfl, q, t⟩
  · exact b x o q
  · obtain ⟨m2, q2, t2⟩ := b x _ q
    exact ⟨m1 ++ m2, by rw [q2, Array.append_assoc], fun z => by rw [← Array.append_assoc]; exact t2 (t z)⟩
theorem ne_of {H : Hp} {a p : Addr} {o : HO} (e : H a = Option.some o) (h : H p = none) : a ≠ p := fun z => by
  rw [z, h] at e
  cases e
theorem Ex.new {H : Hp} {p : Addr} {o : HO} (h : H p = none) : Ex H (upd H p o) := fun a u e => by
  rw [upd_ne (ne_of e h)]
  exact Sm.of e
theorem Ex.mut {H H' : Hp} {p : Addr} {o : HO} (e : Ex H H') (h : H p = none) : Ex H (upd H' p o) := fun a u ha => by
  rw [upd_ne (ne_of ha h)]
  exact e a u ha
theorem ex_l {K : PySem.W.Frag} {H H' : Hp} {a : Addr} {xs : List V} (e : Ex H H') (h : SqL K H a xs) : SqL K H' a xs := by
  rcases h with (h | ⟨o, h⟩) | h
  · exact .inl (.inl (e a _ h))
  · exact .inl (.inr ⟨o, e a _ h⟩)
  · exact .inr h
theorem ex_t {K : PySem.W.Frag} {H H' : Hp} {a : Addr} {xs : List V} (e : Ex H H') (h : SqT K H a xs) : SqT K H' a xs := by
  rcases h with (h | ⟨o, h⟩) | h
  · exact .inl (.inl (e a _ h))
  · exact .inl (.inr ⟨o, e a _ h⟩)
  · exact .inr h
theorem fresh_back {H H' : Hp} {p : Addr} (e : Ex H H') (h : H' p = none) : H p = none := by
  cases h1 : H p with
  | none => rfl
  | some o => exact absurd h (e p o h1).some
theorem sq_of {K : PySem.W.Frag} {H : Hp} {a : Addr} {xs : List V} (h : H a = some (.lst xs)) : SqL K H a xs := .inl (.inl h)
theorem st_of {K : PySem.W.Frag} {H : Hp} {a : Addr} {xs : List V} (h : H a = some (.tup xs)) : SqT K H a xs := .inl (.inl h)
theorem sz_of {n : Nat} (h : n ≤ 100000) : n ≤ sizeLine := _root_.Evl.sz_of h
theorem sz_lt {n : Nat} (h : n < 100000) : n < sizeLine := _root_.Evl.sz_lt h
/-- a known table has grown -/
theorem Ex.grown {H : Hp} {P : Addr} {ps more : Array Value} (h : H P = Option.some (.tbl ps)) (t : TriplesOk (ps ++ more).toList) : Ex H (upd H P (.tbl (ps ++ more))) := fun a o e => by
  by_cases q : a = P
  · rw [q, h] at e
    cases e
    rw [q, upd_same]
    exact ⟨more, rfl, fun _ => t⟩
  · rw [upd_ne q]
    exact Sm.of e
end Dx

/-! Dn: what a reading denotes: values as data (Py), environments of data by slot (Env), expressions (Evx, Evt, Eva, Evl), statements (Go). -/
namespace Dn
open PySem L2 Dx

/-! ### data and how it lies -/
class Py (α : Type) where
  rel : PySem.W.Frag → α → V → Hp → Prop
  mono : ∀ {K : PySem.W.Frag} {x : α} {v : V} {H H' : Hp}, Ex H H' → rel K x v H → rel K x v H'
  dflt : α
/-- data that lies in no object -/
class Sc (α : Type) [ip : Py α] : Prop where
  free : ∀ {K : PySem.W.Frag} {x : α} {v : V} {H H' : Hp}, ip.rel K x v H → ip.rel K x v H'
instance pyInt : Py Int := ⟨fun _ i v _ => v = .int i, fun _ h => h, 0⟩
instance pyBool : Py Bool := ⟨fun _ b v _ => v = .bl b, fun _ h => h, false⟩
instance pyStr : Py Str := ⟨fun _ z v _ => v = .str z, fun _ h => h, Str.empty⟩
instance pyUnit : Py Unit := ⟨fun _ _ v _ => v = .non, fun _ h => h, ()⟩
instance scInt : Sc Int := ⟨fun h => h⟩
instance scBool : Sc Bool := ⟨fun h => h⟩
instance scStr : Sc Str := ⟨fun h => h⟩
instance scUnit : Sc Unit := ⟨fun h => h⟩
theorem paired_mono {α : Type} [ip : Py α] {K : PySem.W.Frag} {H H' : Hp} (e : Ex H H') : ∀ {xs : List α} {vs : List V}, Paired (fun x v => ip.rel K x v H) xs vs → Paired (fun x v => ip.rel K x v H') xs vs
  | _, _, .nil => .nil
  | _, _, .cons h t => .cons (ip.mono e h) (paired_mono e t)
instance pyList {α : Type} [ip : Py α] : Py (List α) where
  rel K xs v H := ∃ a vs, v = .ref a ∧ H a = some (.lst vs) ∧ Paired (fun x u => ip.rel K x u H) xs vs
  mono := fun e ⟨a, vs, h1, h2, h3⟩ => ⟨a, vs, h1, e a _ h2, paired_mono e h3⟩
  dflt := []
/-- the script: its ints, read only -/
structure Scr where
  ns : List Int
instance pyScr : Py Scr where
  rel K x v H := ∃ a, v = .ref a ∧ SqL K H a (x.ns.map V.int)
  mono := fun e ⟨a, h1, h2⟩ => ⟨a, h1, ex_l e h2⟩
  dflt := ⟨[]⟩
instance pyPair {α β : Type} [ip : Py α] [iq : Py β] : Py (α × β) where
  rel K t v H := ∃ a u w, v = .ref a ∧ SqT K H a [u, w] ∧ ip.rel K t.1 u H ∧ iq.rel K t.2 w H
  mono := fun e ⟨a, u, w, h1, h2, h3, h4⟩ => ⟨a, u, w, h1, ex_t e h2, ip.mono e h3, iq.mono e h4⟩
  dflt := (ip.dflt, iq.dflt)
instance pyOpt {α : Type} [ip : Py α] : Py (Option α) where
  rel K o v H := match o with
    | none => v = .non
    | some x => ip.rel K x v H
  mono := fun {K x v H H'} e h => by
    cases x with
    | none => exact h
    | some y => exact ip.mono e h
  dflt := none
/-- a tuple of three -/
structure Tri (α β γ : Type) where
  a : α
  b : β
  c : γ
  deriving DecidableEq
instance pyTri {α β γ : Type} [ip : Py α] [iq : Py β] [ir : Py γ] : Py (Tri α β γ) where
  rel K t v H := ∃ p u w z, v = .ref p ∧ SqT K H p [u, w, z] ∧ ip.rel K t.a u H ∧ iq.rel K t.b w H ∧ ir.rel K t.c z H
  mono := fun e ⟨p, u, w, z, h1, h2, h3, h4, h5⟩ => ⟨p, u, w, z, h1, ex_t e h2, ip.mono e h3, iq.mono e h4, ir.mono e h5⟩
  dflt := ⟨ip.dflt, iq.dflt, ir.dflt⟩

theorem ints_rel {K : PySem.W.Frag} {H : Hp} : ∀ (ns : List Int), Paired (fun (x : Int) v => pyInt.rel K x v H) ns (ns.map V.int)
  | [] => .nil
  | _ :: r => .cons rfl (ints_rel r)
theorem ints_vals {K : PySem.W.Frag} {H : Hp} : ∀ {ns : List Int} {vs : List V}, Paired (fun (x : Int) v => pyInt.rel K x v H) ns vs → vs = ns.map V.int
  | _, _, .nil => rfl
  | _, _, .cons h t => by
    have h' : _ = V.int _ := h
    rw [h', ints_vals t]
    rfl
theorem list_ints {K : PySem.W.Frag} {H : Hp} {ns : List Int} {v : V} (h : (pyList (α := Int)).rel K ns v H) : ∃ a, v = .ref a ∧ H a = some (.lst (ns.map V.int)) := by
  obtain ⟨a, vs, e, h1, h2⟩ := h
  rw [ints_vals h2] at h1
  exact ⟨a, e, h1⟩
theorem paired_get {α : Type} {F : α → V → Prop} : ∀ {xs : List α} {vs : List V} {i : Nat} {x : α}, Paired F xs vs → xs[i]? = some x → ∃ v, vs[i]? = some v ∧ F x v
  | _, _, i, _, .nil, h => by simp at h
  | _, _, 0, _, .cons h t, e => by
    simp at e
    subst e
    exact ⟨_, rfl, h⟩
  | _, _, i + 1, _, .cons h t, e => by
    obtain ⟨v, h1, h2⟩ := paired_get t (by simpa using e)
    exact ⟨v, by simpa using h1, h2⟩
theorem paired_back {α : Type} {F : α → V → Prop} : ∀ {xs : List α} {vs : List V} {i : Nat} {v : V}, Paired F xs vs → vs[i]? = some v → ∃ x, xs[i]? = some x ∧ F x v
  | _, _, i, _, .nil, h => by simp at h
  | _, _, 0, _, .cons h t, e => by
    simp at e
    subst e
    exact ⟨_, rfl, h⟩
  | _, _, i + 1, _, .cons h t, e => by
    obtain ⟨x, h1, h2⟩ := paired_back t (by simpa using e)
    exact ⟨x, by simpa using h1, h2⟩
theorem paired_len {α : Type} {F : α → V → Prop} : ∀ {xs : List α} {vs : List V}, Paired F xs vs → xs.length = vs.length
  | _, _, .nil => rfl
  | _, _, .cons _ t => by simp [paired_len t]
theorem paired_app {α : Type} {F : α → V → Prop} : ∀ {xs ys : List α} {vs ws : List V}, Paired F xs vs → Paired F ys ws → Paired F (xs ++ ys) (vs ++ ws)
  | _, _, _, _, .nil, s => s
  | _, _, _, _, .cons h t, s => .cons h (paired_app t s)
theorem paired_take {α : Type} {F : α → V → Prop} : ∀ {xs : List α} {vs : List V} (n : Nat), Paired F xs vs → Paired F (xs.take n) (vs.take n)
  | _, _, 0, _ => .nil
  | _, _, _ + 1, .nil => .nil
  | _, _, n + 1, .cons h t => .cons h (paired_take n t)
theorem paired_drop {α : Type} {F : α → V → Prop} : ∀ {xs : List α} {vs : List V} (n : Nat), Paired F xs vs → Paired F (xs.drop n) (vs.drop n)
  | _, _, 0, r => r
  | _, _, _ + 1, .nil => .nil
  | _, _, n + 1, .cons _ t => paired_drop n t
theorem paired_set {α : Type} {F : α → V → Prop} {x : α} {v : V} (h : F x v) : ∀ {xs : List α} {vs : List V} (n : Nat), Paired F xs vs → Paired F (xs.set n x) (vs.set n v)
  | _, _, _, .nil => .nil
  | _, _, 0, .cons _ t => .cons h t
  | _, _, n + 1, .cons q t => .cons q (paired_set h n t)
theorem paired_imp {α : Type} {F G : α → V → Prop} (hi : ∀ x v, F x v → G x v) : ∀ {xs : List α} {vs : List V}, Paired F xs vs → Paired G xs vs
  | _, _, .nil => .nil
  | _, _, .cons h t => .cons (hi _ _ h) (paired_imp hi t)

/-! ### how the known part (H) and the heap (R) grow through an expression -/
structure Gr (H R H' R' : Hp) : Prop where
  up : Ex H H'
  inn : Ex H' R'
  keep : Ex R R'
  new : ∀ b, H b = none → R b ≠ none → H' b = none
theorem Gr.refl {H R : Hp} (e : Ex H R) : Gr H R H R := ⟨Ex.refl H, e, Ex.refl R, fun _ h _ => h⟩
theorem ne_none {H R : Hp} (e : Ex H R) {b : Addr} (h : H b ≠ none) : R b ≠ none := by
  cases q : H b with
  | none => exact absurd q h
  | some o =>
    exact (e b o q).some
theorem Gr.trans {H R H1 R1 H2 R2 : Hp} (a : Gr H R H1 R1) (b : Gr H1 R1 H2 R2) : Gr H R H2 R2 :=
  ⟨a.up.trans b.up, b.inn, a.keep.trans b.keep, fun x h1 h2 => b.new x (a.new x h1 h2) (ne_none a.keep h2)⟩
/-- a new object, not told of -/
theorem Gr.alloc {H R : Hp} (e : Ex H R) {p : Addr} {o : HO} (hp : R p = none) : Gr H R H (upd R p o) := ⟨Ex.refl H, e.trans (Ex.new hp), Ex.new hp, fun _ h _ => h⟩
/-- a new object, told of -/
theorem Gr.told {H R : Hp} (e : Ex H R) {p : Addr} {o : HO} (hp : R p = none) : Gr H R (upd H p o) (upd R p o) := by
  have hH : H p = none := fresh_back e hp
  refine ⟨Ex.new hH, fun b u hb => ?_, Ex.new hp, fun b h1 h2 => ?_⟩
  · by_cases q : b = p
    · rw [q, upd_same] at hb ⊢
      exact Sm.of hb
    · rw [upd_ne q] at hb ⊢
      exact e b u hb
  · have q : b ≠ p := fun z => h2 (by rw [z]; exact hp)
    rw [upd_ne q]
    exact h1
/-- what stands at p is told of from now on -/
theorem ex_tell {H R : Hp} (e : Ex H R) {p : Addr} {o : HO} (hp : R p = some o) : Ex (upd H p o) R := fun b u hb => by
  by_cases q : b = p
  · rw [q, upd_same] at hb
    rw [q, hp]
    exact Sm.of hb
  · rw [upd_ne q] at hb
    exact e b u hb

/-! ### environments -/
inductive Slot : Type 1 where
  | un
  | dat {α : Type} (i : Py α) (x : α)
  | own {α : Type} (i : Py α) (xs : List α)
  | obj (o : HO)
  | pin (a : Addr) {α : Type} (i : Py α) (xs : List α)
abbrev Ctx := List Slot
def Slot.ok (K : PySem.W.Frag) (R0 H R : Hp) : Slot → Option (Option V) → Prop
  | .un, _ => True
  | .dat i x, o => ∃ v, o = some (some v) ∧ i.rel K x v H
  | .own i xs, o => ∃ p vs, o = some (some (.ref p)) ∧ H p = none ∧ R0 p = none ∧ R p = some (.lst vs) ∧ Paired (fun x v => i.rel K x v H) xs vs
  | .obj ob, o => ∃ p, o = some (some (.ref p)) ∧ H p = none ∧ R0 p = none ∧ R p = some ob ∧ ∀ qs, ob ≠ .tbl qs
  | .pin a i xs, o => ∃ vs, o = some (some (.ref a)) ∧ H a = none ∧ R0 a = none ∧ R a = some (.lst vs) ∧ Paired (fun x v => i.rel K x v H) xs vs
def isOwn : Option Slot → Prop
  | some (.own _ _) => True
  | some (.obj _) => True
  | some (.pin _ _ _) => True
  | _ => False
structure Env (K : PySem.W.Frag) (R0 H R : Hp) (σ : L2.St) (Γ : Ctx) : Prop where
  len : σ.length = Γ.length
  ok : ∀ (j : Nat) (s : Slot), Γ[j]? = some s → s.ok K R0 H R σ[j]?
  dis : ∀ (i j : Nat) (p : Addr), i ≠ j → isOwn Γ[i]? → isOwn Γ[j]? → σ[i]? = some (some (.ref p)) → σ[j]? ≠ some (some (.ref p))
section
variable {K : PySem.W.Frag} {R0 H R H' R' : Hp} {σ : L2.St} {Γ : Ctx}
theorem sm_fix {o : HO} {r : Option HO} (h : ∀ qs, o ≠ .tbl qs) (e : Sm o r) : r = some o := by
  rcases e.cases with q | ⟨qs, _, q, _⟩
  · exact q
  · exact absurd q (h qs)
theorem slot_grow {s : Slot} {o : Option (Option V)} (g : Gr H R H' R') (h : s.ok K R0 H R o) : s.ok K R0 H' R' o := by
  cases s with
  | un => trivial
  | dat i x =>
    obtain ⟨v, h1, h2⟩ := h
    exact ⟨v, h1, i.mono g.up h2⟩
  | own i xs =>
    obtain ⟨p, vs, h1, h2, h3, h4, h5⟩ := h
    exact ⟨p, vs, h1, g.new p h2 (by rw [h4]; intro z; cases z), h3, g.keep p _ h4, paired_mono (ip := i) g.up h5⟩
  | obj ob =>
    obtain ⟨p, h1, h2, h3, h4, h5⟩ := h
    exact ⟨p, h1, g.new p h2 (by rw [h4]; intro z; cases z), h3, sm_fix h5 (g.keep p _ h4), h5⟩
  | pin a i xs =>
    obtain ⟨vs, h1, h2, h3, h4, h5⟩ := h
    exact ⟨vs, h1, g.new a h2 (by rw [h4]; intro z; cases z), h3, g.keep a _ h4, paired_mono (ip := i) g.up h5⟩
theorem Env.grow (E : Env K R0 H R σ Γ) (g : Gr H R H' R') : Env K R0 H' R' σ Γ := ⟨E.len, fun j s h => slot_grow g (E.ok j s h), E.dis⟩
theorem Env.set {i : Nat} {v : V} {s : Slot} (E : Env K R0 H R σ Γ) (h : s.ok K R0 H R (some (some v))) (hn : ¬ isOwn (some s)) : Env K R0 H R (σ.set i (some v)) (Γ.set i s) := by
  refine ⟨by rw [List.length_set, List.length_set]; exact E.len, fun j t ht => ?_, fun a b p hab ha hb e => ?_⟩
  · by_cases q : i = j
    · subst q
      by_cases hl : i < Γ.length
      · rw [List.getElem?_set_self hl] at ht
        rw [List.getElem?_set_self (by rw [E.len]; exact hl)]
        cases ht
        exact h
      · rw [List.getElem?_eq_none (by rw [List.length_set]; omega)] at ht
        cases ht
    · rw [List.getElem?_set_ne q] at ht ⊢
      exact E.ok j t ht
  · have no : ∀ c, isOwn ((Γ.set i s)[c]?) → i ≠ c := fun c hc z => by
      subst z
      by_cases hl : i < Γ.length
      · rw [List.getElem?_set_self hl] at hc
        exact hn hc
      · rw [List.getElem?_eq_none (by rw [List.length_set]; omega)] at hc
        exact hc
    have na := no a ha
    have nb := no b hb
    rw [List.getElem?_set_ne na] at ha e
    rw [List.getElem?_set_ne nb] at hb ⊢
    exact E.dis a b p hab ha hb e
theorem Env.setDat {α : Type} {ip : Py α} {x : α} {i : Nat} {v : V} (E : Env K R0 H R σ Γ) (h : ip.rel K x v H) : Env K R0 H R (σ.set i (some v)) (Γ.set i (.dat ip x)) := E.set ⟨v, rfl, h⟩ (fun z => z)
theorem Env.setUn {i : Nat} {o : Option V} (E : Env K R0 H R σ Γ) : Env K R0 H R (σ.set i o) (Γ.set i .un) := by
  refine ⟨by rw [List.length_set, List.length_set]; exact E.len, fun j t ht => ?_, fun a b p hab ha hb e => ?_⟩
  · by_cases q : i = j
    · subst q
      by_cases hl : i < Γ.length
      · rw [List.getElem?_set_self hl] at ht
        cases ht
        trivial
      · rw [List.getElem?_eq_none (by rw [List.length_set]; omega)] at ht
        cases ht
    · rw [List.getElem?_set_ne q] at ht ⊢
      exact E.ok j t ht
  · have no : ∀ c, isOwn ((Γ.set i Slot.un)[c]?) → i ≠ c := fun c hc z => by
      subst z
      by_cases hl : i < Γ.length
      · rw [List.getElem?_set_self hl] at hc
        exact hc
      · rw [List.getElem?_eq_none (by rw [List.length_set]; omega)] at hc
        exact hc
    have na := no a ha
    have nb := no b hb
    rw [List.getElem?_set_ne na] at ha e
    rw [List.getElem?_set_ne nb] at hb ⊢
    exact E.dis a b p hab ha hb e
def wipeC (Γ : Ctx) : List Nat → Ctx
  | [] => Γ
  | v :: vs => (wipeC Γ vs).set v .un
theorem Env.wipe (E : Env K R0 H R σ Γ) : ∀ vs : List Nat, Env K R0 H R (L2.wipe σ vs) (wipeC Γ vs)
  | [] => E
  | v :: vs => (Env.wipe E vs).setUn
/-- a new list of one's own -/
theorem Env.setOwn {α : Type} {ip : Py α} {xs : List α} {i : Nat} {p : Addr} {vs : List V} (E : Env K R0 H R σ Γ) (h0 : R0 p = none) (hH : H p = none) (hR : R p = some (.lst vs)) (hx : Paired (fun x v => ip.rel K x v H) xs vs)
    (nw : ∀ (j : Nat) (q : Addr), isOwn Γ[j]? → σ[j]? = some (some (V.ref q)) → q ≠ p) : Env K R0 H R (σ.set i (some (.ref p))) (Γ.set i (.own ip xs)) := by
  refine ⟨by rw [List.length_set, List.length_set]; exact E.len, fun j t ht => ?_, fun a b q hab ha hb e => ?_⟩
  · by_cases q : i = j
    · subst q
      by_cases hl : i < Γ.length
      · rw [List.getElem?_set_self hl] at ht
        rw [List.getElem?_set_self (by rw [E.len]; exact hl)]
        cases ht
        exact ⟨p, vs, rfl, hH, h0, hR, hx⟩
      · rw [List.getElem?_eq_none (by rw [List.length_set]; omega)] at ht
        cases ht
    · rw [List.getElem?_set_ne q] at ht ⊢
      exact E.ok j t ht
  · have lt : ∀ {c : Nat}, isOwn ((Γ.set i (Slot.own ip xs))[c]?) → c < Γ.length := fun {c} hc => by
      by_cases hl : c < Γ.length
      · exact hl
      · rw [List.getElem?_eq_none (by rw [List.length_set]; omega)] at hc
        exact hc.elim
    have la := lt ha
    have lb := lt hb
    by_cases qa : i = a
    · subst qa
      rw [List.getElem?_set_self (by rw [E.len]; exact la)] at e
      have eq : p = q := by
        injection e with e
        injection e with e
        injection e
      rw [List.getElem?_set_ne hab] at hb ⊢
      intro z
      exact nw b q hb z eq.symm
    · rw [List.getElem?_set_ne qa] at ha e
      by_cases qb : i = b
      · subst qb
        rw [List.getElem?_set_self (by rw [E.len]; exact lb)]
        intro z
        have eq : p = q := by
          injection z with z
          injection z with z
          injection z
        exact nw a q ha e eq.symm
      · rw [List.getElem?_set_ne qb] at hb ⊢
        exact E.dis a b q hab ha hb e
theorem Env.own_ne {j : Nat} {q p : Addr} (E : Env K R0 H R σ Γ) (h : isOwn Γ[j]?) (e : σ[j]? = some (some (V.ref q))) (hp : R p = none) : q ≠ p := by
  intro z
  subst z
  cases q2 : Γ[j]? with
  | none =>
    rw [q2] at h
    exact h
  | some s =>
    rw [q2] at h
    cases s with
    | un => exact h
    | dat i x => exact h
    | own i xs =>
      obtain ⟨p', vs, h1, h2, h3, h4, h5⟩ := E.ok j _ q2
      rw [e] at h1
      have eq : q = p' := by
        injection h1 with z
        injection z with z
        injection z
      rw [← eq, hp] at h4
      cases h4
    | obj ob =>
      obtain ⟨p', h1, h2, h3, h4, h5⟩ := E.ok j _ q2
      rw [e] at h1
      have eq : q = p' := by
        injection h1 with z
        injection z with z
        injection z
      rw [← eq, hp] at h4
      cases h4
    | pin a i xs =>
      obtain ⟨vs, h1, h2, h3, h4, h5⟩ := E.ok j _ q2
      rw [e] at h1
      have eq : q = a := by
        injection h1 with z
        injection z with z
        injection z
      rw [← eq, hp] at h4
      cases h4
end
end Dn

namespace Dn
open PySem L2 Dx
/-! ### judgements of expressions -/
def Evx {α : Type} [ip : Py α] (K : PySem.W.Frag) (te : TE) (Γ : Ctx) (x : α) : Prop :=
  ∀ (σ : L2.St) (R0 H R : Hp), Ex H R → Env K R0 H R σ Γ → ∀ Q : VK, (∀ v H' R', Gr H R H' R' → ip.rel K x v H' → Q v R') → te σ R Q
def Evt (K : PySem.W.Frag) (tt : TT) (Γ : Ctx) (b : Bool) : Prop :=
  ∀ (σ : L2.St) (R0 H R : Hp), Ex H R → Env K R0 H R σ Γ → ∀ Q : Bool → Hp → Prop, (∀ H' R', Gr H R H' R' → Q b R') → tt σ R Q
def Slot.is (K : PySem.W.Frag) (H : Hp) : Slot → V → Prop
  | .dat i x, v => i.rel K x v H
  | _, _ => False
inductive Are (K : PySem.W.Frag) (H : Hp) : List Slot → List V → Prop
  | nil : Are K H [] []
  | cons {s : Slot} {v : V} {ss : List Slot} {vs : List V} (h : Slot.is K H s v) (t : Are K H ss vs) : Are K H (s :: ss) (v :: vs)
def Eva (K : PySem.W.Frag) (ta : TA) (Γ : Ctx) (ss : List Slot) : Prop :=
  ∀ (σ : L2.St) (R0 H R : Hp), Ex H R → Env K R0 H R σ Γ → ∀ Q : List V → Hp → Prop, (∀ vs H' R', Gr H R H' R' → Are K H' ss vs → Q vs R') → ta σ R Q
/-- a new list, one's own -/
def Evl {α : Type} [ip : Py α] (K : PySem.W.Frag) (te : TE) (Γ : Ctx) (xs : List α) : Prop :=
  ∀ (σ : L2.St) (R0 H R : Hp), Ex H R → Env K R0 H R σ Γ → ∀ Q : VK, (∀ p vs H' R', Gr H R H' R' → H' p = none → R p = none → R' p = some (.lst vs) → Paired (fun x v => ip.rel K x v H') xs vs → Q (.ref p) R') → te σ R Q
/-- a part of a slice -/
def Evo (K : PySem.W.Frag) (to : TO) (Γ : Ctx) (o : Option Int) : Prop :=
  ∀ (σ : L2.St) (R0 H R : Hp), Ex H R → Env K R0 H R σ Γ → ∀ Q : Option Int → Hp → Prop, (∀ H' R', Gr H R H' R' → Q o R') → to σ R Q
/-- an operation upon values -/
def Rv {α β γ : Type} [ia : Py α] [ib : Py β] [ic : Py γ] (K : PySem.W.Frag) (r : R2) (x : α) (y : β) (z : γ) : Prop :=
  ∀ (u w : V) (H R : Hp), Ex H R → ia.rel K x u H → ib.rel K y w H → ∀ Q : VK, (∀ v H' R', Gr H R H' R' → ic.rel K z v H' → Q v R') → r u w R Q
section
variable {K : PySem.W.Frag} {Γ : Ctx} {ta tb tc te : TE} {tt tu : TT}
theorem Evl.x {α : Type} {ip : Py α} {xs : List α} (h : Evl K te Γ xs) : Evx K te Γ xs := fun σ R0 H R e E Q k =>
  h σ R0 H R e E Q fun p vs H' R' g hp hr hl hx => by
    refine k (.ref p) (upd H' p (.lst vs)) R' ⟨g.up.trans (Ex.new hp), ex_tell g.inn hl, g.keep, fun b h1 h2 => ?_⟩ ⟨p, vs, rfl, upd_same, paired_mono (Ex.new hp) hx⟩
    have q : b ≠ p := fun z => h2 (by rw [z]; exact hr)
    rw [upd_ne q]
    exact g.new b h1 h2
theorem evx_var {α : Type} {ip : Py α} {x : α} {i : Nat} (h : Γ[i]? = some (.dat ip x)) : Evx K (tVar i) Γ x := fun σ R0 H R e E Q k => by
  obtain ⟨v, h1, h2⟩ := E.ok i _ h
  exact ⟨v, h1, k v H R (Gr.refl e) h2⟩
theorem evx_int {n : Int} : Evx K (tC (.int n)) Γ n := fun σ R0 H R e E Q k => k _ H R (Gr.refl e) rfl
theorem evx_bl {b : Bool} : Evx K (tC (.bl b)) Γ b := fun σ R0 H R e E Q k => k _ H R (Gr.refl e) rfl
theorem evx_str {z : Str} : Evx K (tC (.str z)) Γ z := fun σ R0 H R e E Q k => k _ H R (Gr.refl e) rfl
theorem evx_non : Evx K (tC .non) Γ () := fun σ R0 H R e E Q k => k _ H R (Gr.refl e) rfl
theorem evx_nonO {α : Type} {ip : Py α} : Evx K (tC .non) Γ (none : Option α) := fun σ R0 H R e E Q k => k _ H R (Gr.refl e) rfl
theorem evx_some {α : Type} {ip : Py α} {x : α} (h : Evx K te Γ x) : Evx K te Γ (some x) := h
theorem evx_is {α : Type} {ip : Py α} {x y : α} (h : Evx K te Γ x) (e : x = y) : Evx K te Γ y := e ▸ h
theorem evt_is {a b : Bool} (h : Evt K tt Γ a) (e : a = b) : Evt K tt Γ b := e ▸ h
theorem evl_is {α : Type} {ip : Py α} {x y : List α} (h : Evl K te Γ x) (e : x = y) : Evl K te Γ y := e ▸ h
theorem evx_op {r : R2} {α β γ : Type} {ia : Py α} {ib : Py β} {ic : Py γ} {x : α} {y : β} {z : γ} (ha : Evx K ta Γ x) (hb : Evx K tb Γ y) (hr : Rv K r x y z) : Evx K (tOp r ta tb) Γ z := fun σ R0 H R e E Q k =>
  ha σ R0 H R e E _ fun u H1 R1 g1 r1 => hb σ R0 H1 R1 g1.inn (E.grow g1) _ fun w H2 R2 g2 r2 => hr u w H2 R2 g2.inn (ia.mono g2.up r1) r2 Q fun v H3 R3 g3 r3 => k v H3 R3 (g1.trans (g2.trans g3)) r3
theorem evx_neg {i : Int} (ha : Evx K ta Γ i) : Evx K (tUn (rU fun i => .int (-i)) ta) Γ (-i) := fun σ R0 H R e E Q k =>
  ha σ R0 H R e E _ fun u H1 R1 g1 r1 => ⟨i, r1, k _ H1 R1 g1 rfl⟩
theorem rv_i0 {g : Int → Int → Int} {i j : Int} : Rv K (rI0 fun i j => .int (g i j)) i j (g i j) := fun u w H R e h1 h2 Q k => ⟨i, j, h1, h2, k _ H R (Gr.refl e) rfl⟩
theorem rv_b0 {g : Int → Int → Bool} {i j : Int} : Rv K (rI0 fun i j => .bl (g i j)) i j (g i j) := fun u w H R e h1 h2 Q k => ⟨i, j, h1, h2, k _ H R (Gr.refl e) rfl⟩
theorem rv_iC {C : Int → Int → Prop} {g : Int → Int → Int} {i j : Int} (hc : C i j) : Rv K (rI C fun i j => .int (g i j)) i j (g i j) := fun u w H R e h1 h2 Q k => ⟨i, j, h1, h2, hc, k _ H R (Gr.refl e) rfl⟩
theorem rv_mod {i j : Int} (hc : 0 < j) : Rv K (rI (fun _ j => 0 < j) fun i j => .int (i % j)) i j (i % j) := rv_iC (C := fun _ j => 0 < j) hc
theorem rv_div {i j : Int} (hc : 0 < j ∧ j < 1073741824) : Rv K (rI CDiv fun i j => .int (i / j)) i j (i / j) := rv_iC hc
theorem rv_mul {i j : Int} (hc : CMul i j) : Rv K (rI CMul fun i j => .int (i * j)) i j (i * j) := rv_iC hc
theorem rv_pow {i j : Int} (hc : CPow i j) : Rv K (rI CPow fun i j => .int (i ^ j.toNat)) i j (i ^ j.toNat) := rv_iC hc
theorem rv_eqI {i j : Int} : Rv K rEq i j (decide (i = j)) := fun u w H R e h1 h2 Q k => by
  have h1' : u = .int i := h1
  have h2' : w = .int j := h2
  subst h1' h2'
  refine ⟨rfl, k _ H R (Gr.refl e) ?_⟩
  show V.bl _ = V.bl _
  simp
theorem rv_neI {i j : Int} : Rv K rNe i j (!decide (i = j)) := fun u w H R e h1 h2 Q k => by
  have h1' : u = .int i := h1
  have h2' : w = .int j := h2
  subst h1' h2'
  refine ⟨rfl, k _ H R (Gr.refl e) ?_⟩
  show V.bl _ = V.bl _
  simp
theorem rv_eqB {i j : Bool} : Rv K rEq i j (decide (i = j)) := fun u w H R e h1 h2 Q k => by
  have h1' : u = .bl i := h1
  have h2' : w = .bl j := h2
  subst h1' h2'
  refine ⟨rfl, k _ H R (Gr.refl e) ?_⟩
  show V.bl _ = V.bl _
  simp
theorem rv_neB {i j : Bool} : Rv K rNe i j (!decide (i = j)) := fun u w H R e h1 h2 Q k => by
  have h1' : u = .bl i := h1
  have h2' : w = .bl j := h2
  subst h1' h2'
  refine ⟨rfl, k _ H R (Gr.refl e) ?_⟩
  show V.bl _ = V.bl _
  simp
theorem rv_eqS {i j : Str} : Rv K rEq i j (decide (i = j)) := fun u w H R e h1 h2 Q k => by
  have h1' : u = .str i := h1
  have h2' : w = .str j := h2
  subst h1' h2'
  refine ⟨rfl, k _ H R (Gr.refl e) ?_⟩
  show V.bl _ = V.bl _
  simp
theorem rv_neS {i j : Str} : Rv K rNe i j (!decide (i = j)) := fun u w H R e h1 h2 Q k => by
  have h1' : u = .str i := h1
  have h2' : w = .str j := h2
  subst h1' h2'
  refine ⟨rfl, k _ H R (Gr.refl e) ?_⟩
  show V.bl _ = V.bl _
  simp
theorem rv_addS {x y : Str} (hl : x.length + y.length ≤ sizeLine) : Rv K (fun x y H Q => ∃ i j, x = .str i ∧ y = .str j ∧ i.length + j.length ≤ sizeLine ∧ Q (.str (i ++ j)) H) x y (x ++ y) := fun u w H R e h1 h2 Q k =>
  ⟨x, y, h1, h2, hl, k _ H R (Gr.refl e) rfl⟩

/-! ### subscripts -/
/-- the item at i, i from nought on -/
def gt {α : Type} [ip : Py α] (xs : List α) (i : Int) : α := xs.getD i.toNat ip.dflt
theorem gt_get {α : Type} {ip : Py α} {xs : List α} {i : Int} (h : 0 ≤ i ∧ i < xs.length) : xs[i.toNat]? = some (gt xs i) := by
  unfold gt
  rw [List.getD_eq_getElem?_getD, List.getElem?_eq_getElem (by omega)] <;> rfl
theorem gt_nat {α : Type} {ip : Py α} {xs : List α} {i : Nat} {x : α} (h : xs[i]? = some x) : gt xs (i : Int) = x := by
  unfold gt
  rw [List.getD_eq_getElem?_getD, Int.toNat_natCast, h] <;> rfl
theorem at_int {xs : List V} {i : Int} {v : V} (hi : 0 ≤ i) (h : xs[i.toNat]? = some v) : atI xs i = some v := by
  have e : i = ((i.toNat : Nat) : Int) := by omega
  rw [e]
  exact atI_nat h
theorem rv_ixL {α : Type} {ip : Py α} {xs : List α} {i : Int} (h : 0 ≤ i ∧ i < xs.length) : Rv K (rIxL K) xs i (gt xs i) := fun u w H R e h1 h2 Q k => by
  obtain ⟨a, vs, rfl, hl, hx⟩ := h1
  obtain ⟨v, hv, hr⟩ := paired_get hx (gt_get h)
  exact ⟨a, vs, i, v, rfl, h2, sq_of (e a _ hl), at_int h.1 hv, k v H R (Gr.refl e) hr⟩
theorem rv_ixScr {s : Scr} {i : Int} (h : 0 ≤ i ∧ i < s.ns.length) : Rv K (rIxL K) s i (gt s.ns i) := fun u w H R e h1 h2 Q k => by
  obtain ⟨a, rfl, hl⟩ := h1
  have hv := gt_get (ip := pyInt) (xs := s.ns) (i := i) h
  exact ⟨a, _, i, .int (gt s.ns i), rfl, h2, ex_l e hl, at_int h.1 (by rw [List.getElem?_map, hv] <;> rfl), k _ H R (Gr.refl e) rfl⟩
theorem rv_ixT0 {α β : Type} {ip : Py α} {iq : Py β} {t : α × β} : Rv K (rIxT K) t (0 : Int) t.1 := fun u w H R e h1 h2 Q k => by
  obtain ⟨a, x, y, rfl, ht, hx, hy⟩ := h1
  exact ⟨a, [x, y], 0, x, rfl, h2, ex_t e ht, rfl, k x H R (Gr.refl e) hx⟩
theorem rv_ixT1 {α β : Type} {ip : Py α} {iq : Py β} {t : α × β} : Rv K (rIxT K) t (1 : Int) t.2 := fun u w H R e h1 h2 Q k => by
  obtain ⟨a, x, y, rfl, ht, hx, hy⟩ := h1
  exact ⟨a, [x, y], 1, y, rfl, h2, ex_t e ht, rfl, k y H R (Gr.refl e) hy⟩

/-! ### tests -/
theorem evt_test {b : Bool} (h : Evx K te Γ b) : Evt K (tTest te) Γ b := fun σ R0 H R e E Q k => h σ R0 H R e E _ fun v H' R' g r => ⟨b, r, k H' R' g⟩
theorem evt_B {b : Bool} (h : Evx K te Γ b) : Evt K (tB te) Γ b := fun σ R0 H R e E Q k => h σ R0 H R e E _ fun v H' R' g r => ⟨b, r, k H' R' g⟩
theorem evt_yes : Evt K tYes Γ true := fun σ R0 H R e E Q k => k H R (Gr.refl e)
theorem evt_and {a b : Bool} (h1 : Evt K tt Γ a) (h2 : a = true → Evt K tu Γ b) : Evt K (tAnd tt tu) Γ (a && b) := fun σ R0 H R e E Q k => h1 σ R0 H R e E _ fun H1 R1 g1 => by
  cases a with
  | true => exact iteT (h2 rfl σ R0 H1 R1 g1.inn (E.grow g1) Q fun H2 R2 g2 => k H2 R2 (g1.trans g2))
  | false => exact iteF (k H1 R1 g1)
theorem evt_or {a b : Bool} (h1 : Evt K tt Γ a) (h2 : a = false → Evt K tu Γ b) : Evt K (tOr tt tu) Γ (a || b) := fun σ R0 H R e E Q k => h1 σ R0 H R e E _ fun H1 R1 g1 => by
  cases a with
  | true => exact iteT (k H1 R1 g1)
  | false => exact iteF (h2 rfl σ R0 H1 R1 g1.inn (E.grow g1) Q fun H2 R2 g2 => k H2 R2 (g1.trans g2))
theorem evt_not {a : Bool} (h1 : Evt K tt Γ a) : Evt K (tNot tt) Γ (!a) := fun σ R0 H R e E Q k => h1 σ R0 H R e E _ fun H1 R1 g1 => k H1 R1 g1
theorem evx_andV {a b : Bool} (h1 : Evx K ta Γ a) (h2 : a = true → Evx K tb Γ b) : Evx K (tAndV ta tb) Γ (a && b) := fun σ R0 H R e E Q k => h1 σ R0 H R e E _ fun v H1 R1 g1 r1 => ⟨a, r1, by
  cases a with
  | true => exact iteT (h2 rfl σ R0 H1 R1 g1.inn (E.grow g1) Q fun v H2 R2 g2 r2 => k v H2 R2 (g1.trans g2) r2)
  | false => exact iteF (k _ H1 R1 g1 rfl)⟩
theorem evx_orV {a b : Bool} (h1 : Evx K ta Γ a) (h2 : a = false → Evx K tb Γ b) : Evx K (tOrV ta tb) Γ (a || b) := fun σ R0 H R e E Q k => h1 σ R0 H R e E _ fun v H1 R1 g1 r1 => ⟨a, r1, by
  cases a with
  | true => exact iteT (k _ H1 R1 g1 rfl)
  | false => exact iteF (h2 rfl σ R0 H1 R1 g1.inn (E.grow g1) Q fun v H2 R2 g2 r2 => k v H2 R2 (g1.trans g2) r2)⟩
theorem evx_notV {a : Bool} (h1 : Evx K ta Γ a) : Evx K (tNotV ta) Γ (!a) := fun σ R0 H R e E Q k => h1 σ R0 H R e E _ fun v H1 R1 g1 r1 => ⟨a, r1, k _ H1 R1 g1 rfl⟩
theorem evx_if {α : Type} {ip : Py α} {x y : α} {b : Bool} (h : Evt K tt Γ b) (h1 : b = true → Evx K ta Γ x) (h2 : b = false → Evx K tb Γ y) : Evx K (tIf tt ta tb) Γ (if b = true then x else y) := fun σ R0 H R e E Q k => h σ R0 H R e E _ fun H1 R1 g1 => by
  cases b with
  | true => exact iteT (h1 rfl σ R0 H1 R1 g1.inn (E.grow g1) Q fun v H2 R2 g2 r2 => k v H2 R2 (g1.trans g2) (by rw [if_pos rfl]; exact r2))
  | false => exact iteF (h2 rfl σ R0 H1 R1 g1.inn (E.grow g1) Q fun v H2 R2 g2 r2 => k v H2 R2 (g1.trans g2) (by rw [if_neg Bool.false_ne_true]; exact r2))
/-- a < b < c over ints -/
theorem evx_chain {g g' : Int → Int → Bool} {i j l : Int} (ha : Evx K ta Γ i) (hb : Evx K tb Γ j) (hc : g i j = true → Evx K tc Γ l) :
    Evx K (tChain (rI0 fun i j => .bl (g i j)) (rI0 fun i j => .bl (g' i j)) ta tb tc) Γ (g i j && g' j l) := fun σ R0 H R e E Q k =>
  ha σ R0 H R e E _ fun u H1 R1 g1 r1 => hb σ R0 H1 R1 g1.inn (E.grow g1) _ fun w H2 R2 g2 r2 => ⟨i, j, r1, r2, g i j, rfl, by
    cases q : g i j with
    | true => exact iteT (hc q σ R0 H2 R2 g2.inn ((E.grow g1).grow g2) _ fun z H3 R3 g3 r3 => ⟨j, l, r2, r3, k _ H3 R3 (g1.trans (g2.trans g3)) (by rw [q]; rfl)⟩)
    | false => exact iteF (k _ H2 R2 (g1.trans g2) (by rw [q]; rfl))⟩

/-! ### arguments, displays, lists -/
theorem eva_nil : Eva K tNil Γ [] := fun σ R0 H R e E Q k => k [] H R (Gr.refl e) .nil
theorem slot_up {H H' : Hp} (e : Ex H H') : ∀ {ss : List Slot} {vs : List V}, Are K H ss vs → Are K H' ss vs
  | _, _, .nil => .nil
  | s :: _, _, .cons h t => .cons (by
      cases s with
      | un => exact h
      | own i xs => exact h
      | obj o => exact h
      | pin a i xs => exact h
      | dat i x => exact i.mono e h) (slot_up e t)
theorem eva_cons {α : Type} {ip : Py α} {x : α} {tr : TA} {ss : List Slot} (h : Evx K te Γ x) (hr : Eva K tr Γ ss) : Eva K (tCons te tr) Γ (.dat ip x :: ss) := fun σ R0 H R e E Q k =>
  h σ R0 H R e E _ fun v H1 R1 g1 r1 => hr σ R0 H1 R1 g1.inn (E.grow g1) _ fun vs H2 R2 g2 r2 => k (v :: vs) H2 R2 (g1.trans g2) (.cons (ip.mono g2.up r1) r2)
theorem paired_dat {α : Type} {ip : Py α} {H : Hp} : ∀ {xs : List α} {vs : List V}, Are K H (xs.map (Slot.dat ip)) vs → Paired (fun x v => ip.rel K x v H) xs vs
  | [], _, h => by
    cases h
    exact .nil
  | x :: r, _, h => by
    cases h with
    | cons h t => exact .cons h (paired_dat t)
theorem evl_lst {α : Type} {ip : Py α} {xs : List α} {t : TA} (h : Eva K t Γ (xs.map (Slot.dat ip))) (hl : xs.length ≤ 100000) : Evl K (tLst t) Γ xs := fun σ R0 H R e E Q k =>
  h σ R0 H R e E _ fun vs H1 R1 g1 r1 => by
    have r2 := paired_dat r1
    have hl2 := paired_len r2
    refine ⟨sz_of (by omega), fun p hp => ?_⟩
    exact k p vs H1 (upd R1 p (.lst vs)) (g1.trans (Gr.alloc g1.inn hp)) (fresh_back g1.inn hp) (fresh_back g1.keep hp) upd_same r2
theorem evx_tup2 {α β : Type} {ip : Py α} {iq : Py β} {x : α} {y : β} (ha : Evx K ta Γ x) (hb : Evx K tb Γ y) : Evx K (tTup (tCons ta (tCons tb tNil))) Γ (x, y) := fun σ R0 H R e E Q k =>
  ha σ R0 H R e E _ fun u H1 R1 g1 r1 => hb σ R0 H1 R1 g1.inn (E.grow g1) _ fun w H2 R2 g2 r2 => ⟨sz_of (by show 2 ≤ 100000; decide), fun p hp =>
    have f := fresh_back g2.inn hp
    k (.ref p) _ _ (g1.trans (g2.trans (Gr.told g2.inn hp))) ⟨p, u, w, rfl, st_of upd_same, ip.mono (g2.up.trans (Ex.new f)) r1, iq.mono (Ex.new f) r2⟩⟩
theorem evx_tup3 {α β γ : Type} {ip : Py α} {iq : Py β} {ir : Py γ} {x : α} {y : β} {z : γ} (ha : Evx K ta Γ x) (hb : Evx K tb Γ y) (hc : Evx K tc Γ z) : Evx K (tTup (tCons ta (tCons tb (tCons tc tNil)))) Γ (Tri.mk x y z) := fun σ R0 H R e E Q k =>
  ha σ R0 H R e E _ fun u H1 R1 g1 r1 => hb σ R0 H1 R1 g1.inn (E.grow g1) _ fun w H2 R2 g2 r2 => hc σ R0 H2 R2 g2.inn ((E.grow g1).grow g2) _ fun w3 H3 R3 g3 r3 => ⟨sz_of (by show 3 ≤ 100000; decide), fun p hp =>
    have f := fresh_back g3.inn hp
    k (.ref p) _ _ (g1.trans (g2.trans (g3.trans (Gr.told g3.inn hp)))) ⟨p, u, w, w3, rfl, st_of upd_same, ip.mono (g2.up.trans (g3.up.trans (Ex.new f))) r1, iq.mono (g3.up.trans (Ex.new f)) r2, ir.mono (Ex.new f) r3⟩⟩
theorem evl_cat {α : Type} {ip : Py α} {xs ys : List α} (ha : Evx K ta Γ xs) (hb : Evx K tb Γ ys) (hl : xs.length + ys.length ≤ 100000) : Evl K (tOp rCat ta tb) Γ (xs ++ ys) := fun σ R0 H R e E Q k =>
  ha σ R0 H R e E _ fun u H1 R1 g1 r1 => hb σ R0 H1 R1 g1.inn (E.grow g1) _ fun w H2 R2 g2 r2 => by
    obtain ⟨a, vs, rfl, h1, x1⟩ := r1
    obtain ⟨b, ws, rfl, h2, x2⟩ := r2
    have l1 := paired_len x1
    have l2 := paired_len x2
    refine ⟨a, b, vs, ws, rfl, rfl, g2.inn a _ (g2.up a _ h1), g2.inn b _ h2, sz_of (by omega), fun p hp => ?_⟩
    exact k p _ H2 _ (g1.trans (g2.trans (Gr.alloc g2.inn hp))) (fresh_back g2.inn hp) (fresh_back (g1.keep.trans g2.keep) hp) upd_same (paired_app (paired_mono g2.up x1) x2)
theorem paired_flat {α : Type} {F : α → V → Prop} {xs : List α} {vs : List V} (h : Paired F xs vs) : ∀ n : Nat, Paired F (List.replicate n xs).flatten (List.replicate n vs).flatten
  | 0 => .nil
  | n + 1 => by
    rw [List.replicate_succ, List.replicate_succ, List.flatten_cons, List.flatten_cons]
    exact paired_app h (paired_flat h n)
theorem evl_rep {α : Type} {ip : Py α} {xs : List α} {n : Int} (ha : Evx K ta Γ xs) (hb : Evx K tb Γ n) (hn : -1000 ≤ n ∧ n ≤ 100000) (hl : xs.length * n.toNat ≤ 100000) : Evl K (tOp rRep ta tb) Γ (List.replicate n.toNat xs).flatten := fun σ R0 H R e E Q k =>
  ha σ R0 H R e E _ fun u H1 R1 g1 r1 => hb σ R0 H1 R1 g1.inn (E.grow g1) _ fun w H2 R2 g2 r2 => by
    obtain ⟨a, vs, rfl, h1, x1⟩ := r1
    have l1 := paired_len x1
    refine ⟨a, n, vs, rfl, r2, g2.inn a _ (g2.up a _ h1), by omega, by omega, sz_of (by rw [← l1]; exact hl), fun p hp => ?_⟩
    exact k p _ H2 _ (g1.trans (g2.trans (Gr.alloc g2.inn hp))) (fresh_back g2.inn hp) (fresh_back (g1.keep.trans g2.keep) hp) upd_same (paired_flat (paired_mono g2.up x1) _)
theorem evo_none : Evo K tNoPart Γ none := fun σ R0 H R e E Q k => k H R (Gr.refl e)
theorem evo_some {i : Int} (h : Evx K te Γ i) : Evo K (tPart te) Γ (some i) := fun σ R0 H R e E Q k => h σ R0 H R e E _ fun v H1 R1 g1 r1 => ⟨i, r1, k H1 R1 g1⟩
/-- xs[lo:hi] -/
def cut {α : Type} (xs : List α) (lo hi : Option Int) : List α := (xs.drop (HT.sIx xs.length 0 lo)).take (HT.sIx xs.length xs.length hi - HT.sIx xs.length 0 lo)
theorem evl_slice {α : Type} {ip : Py α} {xs : List α} {tl th : TO} {lo hi : Option Int} (ha : Evx K ta Γ xs) (h1 : Evo K tl Γ lo) (h2 : Evo K th Γ hi) : Evl K (tSl (rSlL K) ta tl th) Γ (cut xs lo hi) := fun σ R0 H R e E Q k =>
  ha σ R0 H R e E _ fun u H1 R1 g1 r1 => h1 σ R0 H1 R1 g1.inn (E.grow g1) _ fun H2 R2 g2 => h2 σ R0 H2 R2 g2.inn ((E.grow g1).grow g2) _ fun H3 R3 g3 => by
    obtain ⟨a, vs, rfl, hl, x1⟩ := r1
    have l1 := paired_len x1
    refine ⟨a, vs, rfl, sq_of (g3.inn a _ (g3.up a _ (g2.up a _ hl))), fun p hp => ?_⟩
    refine k p _ H3 _ (g1.trans (g2.trans (g3.trans (Gr.alloc g3.inn hp)))) (fresh_back g3.inn hp) (fresh_back (g1.keep.trans (g2.keep.trans g3.keep)) hp) upd_same ?_
    unfold cut cutV
    rw [l1]
    exact paired_take _ (paired_drop _ (paired_mono (g2.up.trans g3.up) x1))
theorem evx_len {α : Type} {ip : Py α} {xs : List α} (ha : Evx K ta Γ xs) : Evx K (tCB (fun xs H Q => ∃ p ys, xs = [.ref p] ∧ (SqL K H p ys ∨ SqT K H p ys) ∧ Q (.int ys.length) H) (tCons ta tNil)) Γ (xs.length : Int) := fun σ R0 H R e E Q k =>
  ha σ R0 H R e E _ fun u H1 R1 g1 r1 => by
    obtain ⟨a, vs, rfl, hl, x1⟩ := r1
    have l1 := paired_len x1
    refine ⟨a, vs, rfl, Or.inl (sq_of (g1.inn a _ hl)), k _ H1 R1 g1 ?_⟩
    show V.int _ = V.int _
    rw [l1]
theorem evx_lenScr {s : Scr} (ha : Evx K ta Γ s) : Evx K (tCB (fun xs H Q => ∃ p ys, xs = [.ref p] ∧ (SqL K H p ys ∨ SqT K H p ys) ∧ Q (.int ys.length) H) (tCons ta tNil)) Γ (s.ns.length : Int) := fun σ R0 H R e E Q k =>
  ha σ R0 H R e E _ fun u H1 R1 g1 r1 => by
    obtain ⟨a, rfl, hl⟩ := r1
    refine ⟨a, _, rfl, Or.inl (ex_l g1.inn hl), k _ H1 R1 g1 ?_⟩
    show V.int _ = V.int _
    rw [List.length_map]
theorem evx_lenT2 {α β : Type} {ip : Py α} {iq : Py β} {t : α × β} (ha : Evx K ta Γ t) : Evx K (tCB (fun xs H Q => ∃ p ys, xs = [.ref p] ∧ (SqL K H p ys ∨ SqT K H p ys) ∧ Q (.int ys.length) H) (tCons ta tNil)) Γ (2 : Int) := fun σ R0 H R e E Q k =>
  ha σ R0 H R e E _ fun u H1 R1 g1 r1 => by
    obtain ⟨a, x, y, rfl, hl, x1⟩ := r1
    exact ⟨a, _, rfl, Or.inr (ex_t g1.inn hl), k _ H1 R1 g1 rfl⟩
theorem evl_listof {α : Type} {ip : Py α} {xs : List α} (ha : Evx K ta Γ xs) : Evl K (tCB (fun xs H Q => ∃ p ys, xs = [.ref p] ∧ (SqL K H p ys ∨ SqT K H p ys) ∧ ∀ l, H l = none → Q (.ref l) (upd H l (.lst ys))) (tCons ta tNil)) Γ xs := fun σ R0 H R e E Q k =>
  ha σ R0 H R e E _ fun u H1 R1 g1 r1 => by
    obtain ⟨a, vs, rfl, hl, x1⟩ := r1
    refine ⟨a, vs, rfl, Or.inl (sq_of (g1.inn a _ hl)), fun p hp => ?_⟩
    exact k p _ H1 _ (g1.trans (Gr.alloc g1.inn hp)) (fresh_back g1.inn hp) (fresh_back g1.keep hp) upd_same x1
/-- list(range(a, b)) -/
def rng (a b : Int) : List Int := (List.range (b - a).toNat).map fun i => a + ((i : Nat) : Int)
theorem evl_rng2 {a b : Int} (ha : Evx K ta Γ a) (hb : Evx K tb Γ b) (h : -100000 ≤ a ∧ a ≤ 100000 ∧ -100000 ≤ b ∧ b ≤ 100000) : Evl K (tLstRg (tRg2 ta tb)) Γ (rng a b) := fun σ R0 H R e E Q k =>
  ha σ R0 H R e E _ fun u H1 R1 g1 r1 => hb σ R0 H1 R1 g1.inn (E.grow g1) _ fun w H2 R2 g2 r2 => ⟨a, b, r1, r2, ⟨by omega, by omega, by omega, by omega, by omega⟩, fun p hp => by
    refine k p _ H2 _ (g1.trans (g2.trans (Gr.alloc g2.inn hp))) (fresh_back g2.inn hp) (fresh_back (g1.keep.trans g2.keep) hp) upd_same ?_
    have q : rgV a b = (rng a b).map V.int := by
      unfold rgV rng
      rw [List.map_map]
      rfl
    rw [q]
    exact ints_rel _⟩
theorem evl_rng1 {b : Int} (hb : Evx K tb Γ b) (h : -100000 ≤ b ∧ b ≤ 100000) : Evl K (tLstRg (tRg1 tb)) Γ (rng 0 b) := fun σ R0 H R e E Q k =>
  hb σ R0 H R e E _ fun w H2 R2 g2 r2 => ⟨b, r2, ⟨by omega, by omega, by omega, by omega, by omega⟩, fun p hp => by
    refine k p _ H2 _ (g2.trans (Gr.alloc g2.inn hp)) (fresh_back g2.inn hp) (fresh_back g2.keep hp) upd_same ?_
    have q : rgV 0 b = (rng 0 b).map V.int := by
      unfold rgV rng
      rw [List.map_map]
      rfl
    rw [q]
    exact ints_rel _⟩
theorem evx_max2 {i j : Int} (ha : Evx K ta Γ i) (hb : Evx K tb Γ j) : Evx K (tCB (fun xs H Q => ∃ i j, xs = [.int i, .int j] ∧ Q (.int (if j > i then j else i)) H) (tCons ta (tCons tb tNil))) Γ (if j > i then j else i) := fun σ R0 H R e E Q k =>
  ha σ R0 H R e E _ fun u H1 R1 g1 r1 => hb σ R0 H1 R1 g1.inn (E.grow g1) _ fun w H2 R2 g2 r2 => ⟨i, j, by
    have e1 : u = .int i := r1
    have e2 : w = .int j := r2
    rw [e1, e2], k _ H2 R2 (g1.trans g2) rfl⟩
theorem evx_min2 {i j : Int} (ha : Evx K ta Γ i) (hb : Evx K tb Γ j) : Evx K (tCB (fun xs H Q => ∃ i j, xs = [.int i, .int j] ∧ Q (.int (if j < i then j else i)) H) (tCons ta (tCons tb tNil))) Γ (if j < i then j else i) := fun σ R0 H R e E Q k =>
  ha σ R0 H R e E _ fun u H1 R1 g1 r1 => hb σ R0 H1 R1 g1.inn (E.grow g1) _ fun w H2 R2 g2 r2 => ⟨i, j, by
    have e1 : u = .int i := r1
    have e2 : w = .int j := r2
    rw [e1, e2], k _ H2 R2 (g1.trans g2) rfl⟩
theorem flat_ints : ∀ ns : List Int, (ns.map V.int).all flatV = true
  | [] => rfl
  | _ :: r => by
    simp only [List.map_cons, List.all_cons, flat_ints r]
    rfl
theorem inV_ints (i : Int) (ns : List Int) : inV (.int i) (ns.map V.int) = decide (i ∈ ns) := by
  unfold inV
  induction ns with
  | nil => simp
  | cons a r ih =>
    simp only [List.map_cons, List.any_cons, ih]
    have q : eqV (.int a) (.int i) = decide (i = a) := by
      by_cases z : a = i
      · subst z
        simp [eqV]
      · have z' : ¬ i = a := fun y => z y.symm
        simp [eqV, z, z']
    rw [q]
    simp [List.mem_cons]
theorem rv_in {i : Int} {ns : List Int} : Rv K (rIn K false) i ns (decide (i ∈ ns)) := fun u w H R e h1 h2 Q k => by
  obtain ⟨a, rfl, hl⟩ := list_ints h2
  have h1' : u = .int i := h1
  subst h1'
  refine ⟨a, _, rfl, Or.inl (sq_of (e a _ hl)), rfl, flat_ints ns, k _ H R (Gr.refl e) ?_⟩
  show V.bl _ = V.bl _
  rw [inV_ints] <;> rfl
theorem rv_notin {i : Int} {ns : List Int} : Rv K (rIn K true) i ns (!decide (i ∈ ns)) := fun u w H R e h1 h2 Q k => by
  obtain ⟨a, rfl, hl⟩ := list_ints h2
  have h1' : u = .int i := h1
  subst h1'
  refine ⟨a, _, rfl, Or.inl (sq_of (e a _ hl)), rfl, flat_ints ns, k _ H R (Gr.refl e) ?_⟩
  show V.bl _ = V.bl _
  rw [inV_ints] <;> rfl
end
end Dn

namespace Dn
open PySem L2 Dx
/-! ### statements -/
structure Wd where
  K : PySem.W.Frag
  H0 : Hp
  R0 : Hp
  F : Hp
abbrev Wd.fl (W : Wd) (F : Hp) : Wd := ⟨W.K, W.H0, W.R0, F⟩
def Nx (W : Wd) (f : L2.St → Hp → Prop) (Γ : Ctx) : Prop := ∀ (σ : L2.St) (H R : Hp), Ex W.F H → Gr W.H0 W.R0 H R → Env W.K W.R0 H R σ Γ → f σ R
def Go (W : Wd) (t : TS) (D : Ends) (Γ : Ctx) : Prop := Nx W (t D) Γ
def At (W : Wd) (Γ : Ctx) : L2.St → Hp → Prop := fun σ R => ∃ H, Ex W.F H ∧ Gr W.H0 W.R0 H R ∧ Env W.K W.R0 H R σ Γ
theorem nx_at {W : Wd} {Γ : Ctx} : Nx W (At W Γ) Γ := fun σ H R f g E => ⟨H, f, g, E⟩
/-- forgetting -/
inductive LeC : Ctx → Ctx → Prop
  | nil : LeC [] []
  | un {s : Slot} {Γ Δ : Ctx} : LeC Γ Δ → LeC (s :: Γ) (.un :: Δ)
  | eq {s : Slot} {Γ Δ : Ctx} : LeC Γ Δ → LeC (s :: Γ) (s :: Δ)
  | dat {α : Type} {i : Py α} {x y : α} {Γ Δ : Ctx} : x = y → LeC Γ Δ → LeC (.dat i x :: Γ) (.dat i y :: Δ)
  | own {α : Type} {i : Py α} {x y : List α} {Γ Δ : Ctx} : x = y → LeC Γ Δ → LeC (.own i x :: Γ) (.own i y :: Δ)
  | obj {x y : HO} {Γ Δ : Ctx} : x = y → LeC Γ Δ → LeC (.obj x :: Γ) (.obj y :: Δ)
  | pin {a : Addr} {α : Type} {i : Py α} {x y : List α} {Γ Δ : Ctx} : x = y → LeC Γ Δ → LeC (.pin a i x :: Γ) (.pin a i y :: Δ)
theorem LeC.len : ∀ {Γ Δ : Ctx}, LeC Γ Δ → Γ.length = Δ.length
  | _, _, .nil => rfl
  | _, _, .un h => by simp [h.len]
  | _, _, .eq h => by simp [h.len]
  | _, _, .dat _ h => by simp [h.len]
  | _, _, .own _ h => by simp [h.len]
  | _, _, .obj _ h => by simp [h.len]
  | _, _, .pin _ h => by simp [h.len]
theorem LeC.get : ∀ {Γ Δ : Ctx}, LeC Γ Δ → ∀ (j : Nat) (s : Slot), Δ[j]? = some s → s = .un ∨ Γ[j]? = some s
  | _, _, .nil, j, s, h => by simp at h
  | _, _, .un h, 0, s, e => by
    simp at e
    exact .inl e.symm
  | _, _, .eq h, 0, s, e => by
    simp at e
    subst e
    exact .inr rfl
  | _, _, .dat q h, 0, s, e => by
    simp at e
    subst e
    subst q
    exact .inr rfl
  | _, _, .own q h, 0, s, e => by
    simp at e
    subst e
    subst q
    exact .inr rfl
  | _, _, .obj q h, 0, s, e => by
    simp at e
    subst e
    subst q
    exact .inr rfl
  | _, _, .pin q h, 0, s, e => by
    simp at e
    subst e
    subst q
    exact .inr rfl
  | _, _, .un h, j + 1, s, e => by
    rw [List.getElem?_cons_succ] at e ⊢
    exact h.get j s e
  | _, _, .eq h, j + 1, s, e => by
    rw [List.getElem?_cons_succ] at e ⊢
    exact h.get j s e
  | _, _, .dat _ h, j + 1, s, e => by
    rw [List.getElem?_cons_succ] at e ⊢
    exact h.get j s e
  | _, _, .own _ h, j + 1, s, e => by
    rw [List.getElem?_cons_succ] at e ⊢
    exact h.get j s e
  | _, _, .obj _ h, j + 1, s, e => by
    rw [List.getElem?_cons_succ] at e ⊢
    exact h.get j s e
  | _, _, .pin _ h, j + 1, s, e => by
    rw [List.getElem?_cons_succ] at e ⊢
    exact h.get j s e
theorem LeC.isOwn {Γ Δ : Ctx} (l : LeC Γ Δ) {j : Nat} (h : isOwn Δ[j]?) : isOwn Γ[j]? := by
  cases q : Δ[j]? with
  | none =>
    rw [q] at h
    exact h.elim
  | some s =>
    rw [q] at h
    rcases l.get j s q with e | e
    · subst e
      exact h.elim
    · rw [e]
      exact h
theorem Env.le {K : PySem.W.Frag} {R0 H R : Hp} {σ : L2.St} {Γ Δ : Ctx} (E : Env K R0 H R σ Γ) (l : LeC Γ Δ) : Env K R0 H R σ Δ :=
  ⟨E.len.trans l.len, fun j s h => (l.get j s h).elim (fun e => by
    subst e
    trivial) fun e => E.ok j s e, fun i j p n h1 h2 => E.dis i j p n (l.isOwn h1) (l.isOwn h2)⟩
section
variable {W : Wd} {Γ Δ : Ctx} {D : Ends} {t tz tu tw : TS} {ta tb te tl : TE} {tt : TT}
theorem nx_le {f : L2.St → Hp → Prop} (h : Nx W f Δ) (l : LeC Γ Δ) : Nx W f Γ := fun σ H R a b E => h σ H R a b (E.le l)
theorem go_le (h : Go W t D Δ) (l : LeC Γ Δ) : Go W t D Γ := nx_le h l
theorem nx_fl {f : L2.St → Hp → Prop} {F : Hp} (h : Nx W f Γ) (e : Ex W.F F) : Nx (W.fl F) f Γ := fun σ H R a b E => h σ H R (e.trans a) b E
theorem go_fl {F : Hp} (h : Go W t D Γ) (e : Ex W.F F) : Go (W.fl F) t D Γ := nx_fl h e
theorem go_asg {α : Type} [ip : Py α] {x : α} {i : Nat} (h : Evx W.K te Γ x) (k : Go W tz D (Γ.set i (.dat ip x))) : Go W (tSeq (tAsg te (gName i)) tz) D Γ := fun σ H R f g E =>
  h σ W.R0 H R g.inn E _ fun v H' R' g' r => k (σ.set i (some v)) H' R' (f.trans g'.up) (g.trans g') ((E.grow g').setDat r)
theorem go_own {α : Type} [ip : Py α] {xs : List α} {i : Nat} (h : Evl W.K te Γ xs) (k : Go W tz D (Γ.set i (.own ip xs))) : Go W (tSeq (tAsg te (gName i)) tz) D Γ := fun σ H R f g E =>
  h σ W.R0 H R g.inn E _ fun p vs H' R' g' hp hr hl hx => k (σ.set i (some (.ref p))) H' R' (f.trans g'.up) (g.trans g') ((E.grow g').setOwn (fresh_back g.keep hr) hp hl hx fun j q hj e => E.own_ne hj e hr)
theorem go_drop {α : Type} {ip : Py α} {x : α} (h : Evx W.K te Γ x) (k : Go W tz D Γ) : Go W (tSeq (tDrop te) tz) D Γ := fun σ H R f g E =>
  h σ W.R0 H R g.inn E _ fun v H' R' g' r => k σ H' R' (f.trans g'.up) (g.trans g') (E.grow g')
/-- what a return hands back -/
def RetD {α : Type} [ip : Py α] (W : Wd) (D : Ends) (x : α) : Prop := ∀ v H R, Gr W.H0 W.R0 H R → ip.rel W.K x v H → D.rt v R
theorem go_ret {α : Type} {ip : Py α} {x : α} (h : Evx W.K te Γ x) (k : RetD W D x) : Go W (tRet te) D Γ := fun σ H R f g E =>
  h σ W.R0 H R g.inn E _ fun v H' R' g' r => k v H' R' (g.trans g') r
theorem go_ret2 {α : Type} {ip : Py α} {x : α} (h : Evx W.K te Γ x) (k : RetD W D x) : Go W (tSeq (tRet te) tz) D Γ := go_ret (D := { D with nx := tz D }) h k
theorem go_if {b : Bool} (h : Evt W.K tt Γ b) (h1 : b = true → Go W tu { D with nx := tz D } Γ) (h2 : b = false → Go W tw { D with nx := tz D } Γ) : Go W (tSeq (tIfS tt tu tw) tz) D Γ := fun σ H R f g E =>
  h σ W.R0 H R g.inn E _ fun H' R' g' => by
    cases b with
    | true => exact iteT (h1 rfl σ H' R' (f.trans g'.up) (g.trans g') (E.grow g'))
    | false => exact iteF (h2 rfl σ H' R' (f.trans g'.up) (g.trans g') (E.grow g'))
theorem go_next (h : Nx W D.nx Γ) : Go W tNext D Γ := h
theorem go_cont (h : Nx W D.ct Γ) : Go W tCont D Γ := h
theorem go_brk (h : Nx W D.bk Γ) : Go W tBreak D Γ := h
theorem go_cont2 (h : Nx W D.ct Γ) : Go W (tSeq tCont tz) D Γ := h
theorem go_brk2 (h : Nx W D.bk Γ) : Go W (tSeq tBreak tz) D Γ := h
/-- if c: x = e, told by the value x has behind it -/
theorem go_ifset {α : Type} {ip : Py α} {x y : α} {b : Bool} {i : Nat} (hx : Γ[i]? = some (.dat ip x)) (h : Evt W.K tt Γ b) (h1 : b = true → Evx W.K te Γ y) (k : Go W tz D (Γ.set i (.dat ip (if b = true then y else x)))) :
    Go W (tSeq (tIfS tt (tSeq (tAsg te (gName i)) tNext) tNext) tz) D Γ := by
  refine go_if h (fun hb => go_asg (h1 hb) ?_) fun hb => ?_
  · rw [hb, if_pos rfl] at k
    exact k
  · rw [hb, if_neg Bool.false_ne_true] at k
    have hi : i < Γ.length := by
      have := List.getElem?_eq_some_iff.mp hx
      exact this.1
    have e : Γ.set i (.dat ip x) = Γ := by
      apply List.ext_getElem?
      intro j
      by_cases q : i = j
      · subst q
        rw [List.getElem?_set_self hi, hx]
      · rw [List.getElem?_set_ne q]
    rw [e] at k
    exact k

/-! ### a list of one's own -/
theorem Env.mutOwn {K : PySem.W.Frag} {R0 H R : Hp} {σ : L2.St} {α : Type} {ip : Py α} {ys : List α} {i : Nat} {p : Addr} {vs : List V} (E : Env K R0 H R σ Γ) (ho : isOwn Γ[i]?) (hσ : σ[i]? = some (some (.ref p))) (hH : H p = none) (h0 : R0 p = none)
    (hx : Paired (fun x v => ip.rel K x v H) ys vs) : Env K R0 H (upd R p (.lst vs)) σ (Γ.set i (.own ip ys)) := by
  have hi : i < Γ.length := by
    by_cases hl : i < Γ.length
    · exact hl
    · rw [List.getElem?_eq_none (by omega)] at ho
      exact ho.elim
  refine ⟨by rw [List.length_set]; exact E.len, fun j s h => ?_, fun a b q hab ha hb e => ?_⟩
  · by_cases z : i = j
    · subst z
      rw [List.getElem?_set_self hi] at h
      cases h
      exact ⟨p, vs, hσ, hH, h0, upd_same, hx⟩
    · rw [List.getElem?_set_ne z] at h
      have old := E.ok j s h
      cases s with
      | un => trivial
      | dat i' x => exact old
      | own i' zs =>
        obtain ⟨q, ws, h1, h2, h3, h4, h5⟩ := old
        have nq : q ≠ p := fun y => E.dis i j p z ho (by rw [h]; trivial) hσ (by rw [h1, y])
        exact ⟨q, ws, h1, h2, h3, by rw [upd_ne nq]; exact h4, h5⟩
      | obj ob =>
        obtain ⟨q, h1, h2, h3, h4, h5⟩ := old
        have nq : q ≠ p := fun y => E.dis i j p z ho (by rw [h]; trivial) hσ (by rw [h1, y])
        exact ⟨q, h1, h2, h3, by rw [upd_ne nq]; exact h4, h5⟩
      | pin q i' zs =>
        obtain ⟨ws, h1, h2, h3, h4, h5⟩ := old
        have nq : q ≠ p := fun y => E.dis i j p z ho (by rw [h]; trivial) hσ (by rw [h1, y])
        exact ⟨ws, h1, h2, h3, by rw [upd_ne nq]; exact h4, h5⟩
  · have back : ∀ {c : Nat}, isOwn ((Γ.set i (Slot.own ip ys))[c]?) → isOwn Γ[c]? := fun {c} hc => by
      by_cases z : i = c
      · subst z
        exact ho
      · rw [List.getElem?_set_ne z] at hc
        exact hc
    exact E.dis a b q hab (back ha) (back hb) e
theorem Gr.mut {H0 R0 H R : Hp} (g : Gr H0 R0 H R) {p : Addr} {o : HO} (hH : H p = none) (h0 : R0 p = none) : Gr H0 R0 H (upd R p o) :=
  ⟨g.up, Ex.mut g.inn hH, Ex.mut g.keep h0, g.new⟩
/-- own.append(e) -/
theorem go_app {α : Type} [ip : Py α] {xs : List α} {x : α} {i : Nat} (hi : Γ[i]? = some (.own ip xs)) (h : Evx W.K te Γ x) (hl : xs.length < 100000) (k : Go W tz D (Γ.set i (.own ip (xs ++ [x])))) :
    Go W (tSeq (tDrop (tBM W.K "list" rAppend (tVar i) (tCons te tNil))) tz) D Γ := fun σ H R f g E => by
  obtain ⟨p, vs, h1, h2, h3, h4, h5⟩ := E.ok i _ hi
  refine ⟨.ref p, h1, Or.inl ⟨rfl, vs, sq_of h4⟩, h σ W.R0 H R g.inn E _ fun v H' R' g' r => ?_⟩
  have hp' : H' p = none := g'.new p h2 (by rw [h4]; intro z; cases z)
  have l1 := paired_len h5
  refine ⟨p, vs, v, rfl, rfl, g'.keep p _ h4, sz_lt (by omega), ?_⟩
  exact k σ H' (upd R' p (.lst (vs ++ [v]))) (f.trans g'.up) ((g.trans g').mut hp' h3) ((E.grow g').mutOwn (by rw [hi]; trivial) h1 hp' h3 (paired_app (paired_mono g'.up h5) (.cons r .nil)))
/-- own.clear() -/
theorem go_clear {α : Type} {ip : Py α} {xs : List α} {i : Nat} (hi : Γ[i]? = some (.own ip xs)) (k : Go W tz D (Γ.set i (.own ip []))) :
    Go W (tSeq (tDrop (tBM0 W.K "list" rClear (tVar i))) tz) D Γ := fun σ H R f g E => by
  obtain ⟨p, vs, h1, h2, h3, h4, h5⟩ := E.ok i _ hi
  exact ⟨.ref p, h1, Or.inl ⟨rfl, vs, sq_of h4⟩, p, vs, rfl, rfl, h4, k σ H (upd R p (.lst [])) f (g.mut h2 h3) (E.mutOwn (by rw [hi]; trivial) h1 h2 h3 .nil)⟩
/-- own[j] = e -/
theorem go_setL {α : Type} [ip : Py α] {xs : List α} {x : α} {i : Nat} {j : Int} (hi : Γ[i]? = some (.own ip xs)) (h : Evx W.K te Γ x) (hj : Evx W.K tb Γ j) (hl : 0 ≤ j ∧ j < xs.length) (k : Go W tz D (Γ.set i (.own ip (xs.set j.toNat x)))) :
    Go W (tSeq (tAsg te (gSub (tVar i) tb rSetL)) tz) D Γ := fun σ H R f g E => by
  obtain ⟨p, vs, h1, h2, h3, h4, h5⟩ := E.ok i _ hi
  refine h σ W.R0 H R g.inn E _ fun v H1 R1 g1 r1 => ⟨.ref p, h1, hj σ W.R0 H1 R1 g1.inn (E.grow g1) _ fun w H2 R2 g2 r2 => ?_⟩
  have r2' : w = .int j := r2
  subst r2'
  have g12 := g1.trans g2
  have hp2 : H2 p = none := g12.new p h2 (by rw [h4]; intro z; cases z)
  have l1 := paired_len h5
  have e : j = ((j.toNat : Nat) : Int) := by omega
  refine ⟨p, vs, j, j.toNat, rfl, rfl, g12.keep p _ h4, ?_, ?_⟩
  · have q := _root_.Evl.ixN_nat (n := vs.length) (j := j.toNat) (by omega)
    rw [← e] at q
    exact q
  · exact k σ H2 (upd R2 p (.lst (vs.set j.toNat v))) (f.trans g12.up) ((g.trans g12).mut hp2 h3) ((E.grow g12).mutOwn (by rw [hi]; trivial) h1 hp2 h3 (paired_set (ip.mono g2.up r1) _ (paired_mono g12.up h5)))
theorem Env.freeze {K : PySem.W.Frag} {R0 H R : Hp} {σ : L2.St} {α : Type} {ip : Py α} {xs : List α} {i : Nat} {p : Addr} {vs : List V} (E : Env K R0 H R σ Γ) (hi : Γ[i]? = some (.own ip xs)) (hσ : σ[i]? = some (some (.ref p))) (hH : H p = none)
    (hx : Paired (fun x v => ip.rel K x v H) xs vs) : Env K R0 (upd H p (.lst vs)) R σ (Γ.set i (.dat (pyList (ip := ip)) xs)) := by
  have hil : i < Γ.length := (List.getElem?_eq_some_iff.mp hi).1
  have ho : isOwn Γ[i]? := by rw [hi]; trivial
  refine ⟨by rw [List.length_set]; exact E.len, fun j s h => ?_, fun a b q hab ha hb e => ?_⟩
  · by_cases z : i = j
    · subst z
      rw [List.getElem?_set_self hil] at h
      cases h
      exact ⟨.ref p, hσ, p, vs, rfl, upd_same, paired_mono (Ex.new hH) hx⟩
    · rw [List.getElem?_set_ne z] at h
      have old := E.ok j s h
      cases s with
      | un => trivial
      | dat i' x =>
        obtain ⟨v, q1, q2⟩ := old
        exact ⟨v, q1, i'.mono (Ex.new hH) q2⟩
      | own i' zs =>
        obtain ⟨q, ws, h1, h2, h3, h4, h5⟩ := old
        have nq : q ≠ p := fun y => E.dis i j p z ho (by rw [h]; trivial) hσ (by rw [h1, y])
        exact ⟨q, ws, h1, by rw [upd_ne nq]; exact h2, h3, h4, paired_mono (Ex.new hH) h5⟩
      | obj ob =>
        obtain ⟨q, h1, h2, h3, h4, h5⟩ := old
        have nq : q ≠ p := fun y => E.dis i j p z ho (by rw [h]; trivial) hσ (by rw [h1, y])
        exact ⟨q, h1, by rw [upd_ne nq]; exact h2, h3, h4, h5⟩
      | pin q i' zs =>
        obtain ⟨ws, h1, h2, h3, h4, h5⟩ := old
        have nq : q ≠ p := fun y => E.dis i j p z ho (by rw [h]; trivial) hσ (by rw [h1, y])
        exact ⟨ws, h1, by rw [upd_ne nq]; exact h2, h3, h4, paired_mono (Ex.new hH) h5⟩
  · have back : ∀ {c : Nat}, isOwn ((Γ.set i (Slot.dat (pyList (ip := ip)) xs))[c]?) → isOwn Γ[c]? := fun {c} hc => by
      by_cases z : i = c
      · subst z
        exact ho
      · rw [List.getElem?_set_ne z] at hc
        exact hc
    exact E.dis a b q hab (back ha) (back hb) e
/-- nothing will change it any more -/
theorem nx_freeze {α : Type} {ip : Py α} {xs : List α} {f : L2.St → Hp → Prop} (i : Nat) (hi : Γ[i]? = some (.own ip xs)) (k : Nx W f (Γ.set i (.dat (pyList (ip := ip)) xs))) : Nx W f Γ := fun σ H R e g E => by
  obtain ⟨p, vs, h1, h2, h3, h4, h5⟩ := E.ok i _ hi
  have n0 : W.H0 p = none := fresh_back g.up h2
  refine k σ (upd H p (.lst vs)) R (Ex.mut e (fresh_back e h2)) ⟨Ex.mut g.up n0, ex_tell g.inn h4, g.keep, fun b q1 q2 => ?_⟩ (E.freeze hi h1 h2 h5)
  have nb : b ≠ p := fun z => q2 (by rw [z]; exact h3)
  rw [upd_ne nb]
  exact g.new b q1 q2
theorem go_freeze {α : Type} {ip : Py α} {xs : List α} (i : Nat) (hi : Γ[i]? = some (.own ip xs)) (k : Go W t D (Γ.set i (.dat (pyList (ip := ip)) xs))) : Go W t D Γ := nx_freeze i hi k

/-! ### looking into a list of one's own -/
theorem own_look {K : PySem.W.Frag} {R0 H R : Hp} {σ : L2.St} {α : Type} {ip : Py α} {xs : List α} {i : Nat} (E : Env K R0 H R σ Γ) (e : Ex H R) (hi : Γ[i]? = some (.own ip xs)) :
    ∃ Hs, Ex Hs R ∧ Env K R0 Hs R σ (Γ.set i (.dat (pyList (ip := ip)) xs)) ∧ ∀ H' R', Gr Hs R H' R' → ∃ H2, Gr H R H2 R' := by
  obtain ⟨p, vs, h1, h2, h3, h4, h5⟩ := E.ok i _ hi
  refine ⟨upd H p (.lst vs), ex_tell e h4, E.freeze hi h1 h2 h5, fun H' R' g => ⟨fun b => if b = p then none else H' b, fun b o hb => ?_, fun b o hb => ?_, g.keep, fun b q1 q2 => ?_⟩⟩
  · have nb : b ≠ p := fun z => by
      rw [z, h2] at hb
      cases hb
    show Sm o (if b = p then none else H' b)
    rw [if_neg nb]
    exact g.up b o (by rw [upd_ne nb]; exact hb)
  · by_cases nb : b = p
    · have hb' : (if b = p then none else H' b) = some o := hb
      rw [if_pos nb] at hb'
      cases hb'
    · have hb' : (if b = p then none else H' b) = some o := hb
      rw [if_neg nb] at hb'
      exact g.inn b o hb'
  · show (if b = p then none else H' b) = none
    by_cases nb : b = p
    · rw [if_pos nb]
    · rw [if_neg nb]
      exact g.new b (by rw [upd_ne nb]; exact q1) q2
theorem evx_look {K : PySem.W.Frag} {α β : Type} {ip : Py α} {iq : Py β} {sc : Sc β} {xs : List α} {x : β} (i : Nat) (hi : Γ[i]? = some (.own ip xs)) (h : Evx K te (Γ.set i (.dat (pyList (ip := ip)) xs)) x) : Evx K te Γ x := fun σ R0 H R e E Q k => by
  obtain ⟨Hs, es, Es, back⟩ := own_look E e hi
  refine h σ R0 Hs R es Es Q fun v H' R' g r => ?_
  obtain ⟨H2, g2⟩ := back H' R' g
  exact k v H2 R' g2 (sc.free r)
theorem evt_look {K : PySem.W.Frag} {α : Type} {ip : Py α} {xs : List α} {b : Bool} (i : Nat) (hi : Γ[i]? = some (.own ip xs)) (h : Evt K tt (Γ.set i (.dat (pyList (ip := ip)) xs)) b) : Evt K tt Γ b := fun σ R0 H R e E Q k => by
  obtain ⟨Hs, es, Es, back⟩ := own_look E e hi
  refine h σ R0 Hs R es Es Q fun H' R' g => ?_
  obtain ⟨H2, g2⟩ := back H' R' g
  exact k H2 R' g2
/-- own[j], its item told of already -/
theorem evx_ixOwn {K : PySem.W.Frag} {α : Type} {ip : Py α} {xs : List α} {i : Nat} {j : Int} (hi : Γ[i]? = some (.own ip xs)) (hb : Evx K tb Γ j) (h : 0 ≤ j ∧ j < xs.length) : Evx K (tOp (rIxL K) (tVar i) tb) Γ (gt xs j) := fun σ R0 H R e E Q k => by
  obtain ⟨p, vs, h1, h2, h3, h4, h5⟩ := E.ok i _ hi
  refine ⟨.ref p, h1, hb σ R0 H R e E _ fun w H1 R1 g1 r1 => ?_⟩
  obtain ⟨v, hv, hr⟩ := paired_get h5 (gt_get h)
  exact ⟨p, vs, j, v, rfl, r1, sq_of (g1.keep p _ h4), at_int h.1 hv, k v H1 R1 g1 (ip.mono g1.up hr)⟩

/-! ### loops -/
theorem go_forR {n : Int} {j : Nat} {tn : TE} (h : Evx W.K tn Γ n) (hn : 0 ≤ n ∧ n ≤ 100000) (Γs : Nat → Ctx) (h0 : LeC Γ (Γs 0))
    (hs : ∀ (i : Nat) (F : Hp), (i : Int) < n → Ex W.F F → Go (W.fl F) tu { D with nx := At (W.fl F) (Γs (i + 1)), ct := At (W.fl F) (Γs (i + 1)), bk := tz D } ((Γs i).set j (.dat pyInt (i : Int))))
    (hd : Go W tz D (Γs n.toNat)) : Go W (tSeq (tFor (iRng1 (tCons tn tNil)) (gName j) tu) tz) D Γ := fun σ H R f g E =>
  h σ W.R0 H R g.inn E _ fun v H1 R1 g1 r1 => ⟨n, by
      have r1' : v = .int n := r1
      rw [r1'], by omega, by omega, for_range (lo := 0) (n := n.toNat) (fun i => At (W.fl H1) (Γs i)) ⟨H1, Ex.refl H1, g.trans g1, (E.grow g1).le h0⟩ (fun i σ' R' hi p => by
        obtain ⟨H2, e2, g2, E2⟩ := p
        have e0 : (0 : Int) + (i : Int) = (i : Int) := Int.zero_add _
        show tu _ (σ'.set j (some (.int ((0 : Int) + (i : Int))))) R'
        rw [e0]
        exact hs i H1 (by omega) (f.trans g1.up) (σ'.set j (some (.int (i : Int)))) H2 R' e2 g2 (E2.setDat rfl)) (fun σ' R' p => by
        obtain ⟨H2, e2, g2, E2⟩ := p
        exact hd σ' H2 R' ((f.trans g1.up).trans e2) g2 E2)⟩
theorem go_forR2 {a n : Int} {j : Nat} {tm tn : TE} (hA : Evx W.K tm Γ a) (h : Evx W.K tn Γ n) (hn : -100000 ≤ a ∧ a ≤ 100000 ∧ -100000 ≤ n ∧ n ≤ 100000) (Γs : Nat → Ctx) (h0 : LeC Γ (Γs 0))
    (hs : ∀ (i : Nat) (F : Hp), a + (i : Int) < n → Ex W.F F → Go (W.fl F) tu { D with nx := At (W.fl F) (Γs (i + 1)), ct := At (W.fl F) (Γs (i + 1)), bk := tz D } ((Γs i).set j (.dat pyInt (a + (i : Int)))))
    (hd : Go W tz D (Γs (n - a).toNat)) : Go W (tSeq (tFor (iRng2 (tCons tm (tCons tn tNil))) (gName j) tu) tz) D Γ := fun σ H R f g E =>
  hA σ W.R0 H R g.inn E _ fun v0 H0 R0 g0 r0 => h σ W.R0 H0 R0 g0.inn (E.grow g0) _ fun v H1 R1 g1 r1 => ⟨a, n, by
      have r0' : v0 = .int a := r0
      have r1' : v = .int n := r1
      rw [r0', r1'], ⟨by omega, by omega, by omega, by omega⟩, for_range (lo := a) (n := (n - a).toNat) (fun i => At (W.fl H1) (Γs i)) ⟨H1, Ex.refl H1, (g.trans g0).trans g1, ((E.grow g0).grow g1).le h0⟩ (fun i σ' R' hi p => by
        obtain ⟨H2, e2, g2, E2⟩ := p
        exact hs i H1 (by omega) ((f.trans g0.up).trans g1.up) (σ'.set j (some (.int (a + (i : Int))))) H2 R' e2 g2 (E2.setDat rfl)) (fun σ' R' p => by
        obtain ⟨H2, e2, g2, E2⟩ := p
        exact hd σ' H2 R' (((f.trans g0.up).trans g1.up).trans e2) g2 E2)⟩
/-- for x in xs -/
theorem go_forL {α : Type} {ip : Py α} {xs : List α} {j : Nat} (h : Evx W.K tl Γ xs) (Γs : Nat → Ctx) (h0 : LeC Γ (Γs 0))
    (hs : ∀ (i : Nat) (x : α) (F : Hp), xs[i]? = some x → Ex W.F F → Go (W.fl F) tu { D with nx := At (W.fl F) (Γs (i + 1)), ct := At (W.fl F) (Γs (i + 1)), bk := tz D } ((Γs i).set j (.dat ip x)))
    (hd : Go W tz D (Γs xs.length)) : Go W (tSeq (tFor (iList W.K tl) (gName j) tu) tz) D Γ := fun σ H R f g E =>
  h σ W.R0 H R g.inn E _ fun v H1 R1 g1 r1 => by
    obtain ⟨a, vs, rfl, hl, hx⟩ := r1
    have l1 := paired_len hx
    refine ⟨a, rfl, ⟨vs, sq_of (g1.inn a _ hl)⟩, for_list (K := W.K) (a := a) (xs := vs) (fun i => At (W.fl H1) (Γs i)) ⟨H1, Ex.refl H1, g.trans g1, (E.grow g1).le h0⟩ (fun i σ' R' _ p => ?_) (fun i y σ' R' hi p => ?_) (fun σ' R' p => ?_)⟩
    · obtain ⟨H2, e2, g2, E2⟩ := p
      exact sq_of (g2.inn a _ (e2 a _ hl))
    · obtain ⟨H2, e2, g2, E2⟩ := p
      obtain ⟨x, q1, q2⟩ := paired_back hx hi
      exact hs i x H1 q1 (f.trans g1.up) (σ'.set j (some y)) H2 R' e2 g2 (E2.setDat (ip.mono e2 q2))
    · obtain ⟨H2, e2, g2, E2⟩ := p
      rw [← l1] at E2
      exact hd σ' H2 R' ((f.trans g1.up).trans e2) g2 E2
/-- for x, y in pairs -/
theorem go_forP {α β : Type} {ip : Py α} {iq : Py β} {xs : List (α × β)} {j k : Nat} (h : Evx W.K tl Γ xs) (Γs : Nat → Ctx) (h0 : LeC Γ (Γs 0))
    (hs : ∀ (i : Nat) (x : α) (y : β) (F : Hp), xs[i]? = some (x, y) → Ex W.F F → Go (W.fl F) tu { D with nx := At (W.fl F) (Γs (i + 1)), ct := At (W.fl F) (Γs (i + 1)), bk := tz D } (((Γs i).set j (.dat ip x)).set k (.dat iq y)))
    (hd : Go W tz D (Γs xs.length)) : Go W (tSeq (tFor (iList W.K tl) (gTup W.K 2 (gCons (gName j) (gCons (gName k) gNil))) tu) tz) D Γ := fun σ H R f g E =>
  h σ W.R0 H R g.inn E _ fun v H1 R1 g1 r1 => by
    obtain ⟨a, vs, rfl, hl, hx⟩ := r1
    have l1 := paired_len hx
    refine ⟨a, rfl, ⟨vs, sq_of (g1.inn a _ hl)⟩, for_list (K := W.K) (a := a) (xs := vs) (fun i => At (W.fl H1) (Γs i)) ⟨H1, Ex.refl H1, g.trans g1, (E.grow g1).le h0⟩ (fun i σ' R' _ p => ?_) (fun i y σ' R' hi p => ?_) (fun σ' R' p => ?_)⟩
    · obtain ⟨H2, e2, g2, E2⟩ := p
      exact sq_of (g2.inn a _ (e2 a _ hl))
    · obtain ⟨H2, e2, g2, E2⟩ := p
      obtain ⟨⟨x, z⟩, q1, b, u, w, rfl, qt, qx, qz⟩ := paired_back hx hi
      exact ⟨b, [u, w], rfl, ex_t (e2.trans g2.inn) qt, rfl, u, [w], rfl, w, [], rfl, rfl, hs i x z H1 q1 (f.trans g1.up) ((σ'.set j (some u)).set k (some w)) H2 R' e2 g2 ((E2.setDat (ip.mono e2 qx)).setDat (iq.mono e2 qz))⟩
    · obtain ⟨H2, e2, g2, E2⟩ := p
      rw [← l1] at E2
      exact hd σ' H2 R' ((f.trans g1.up).trans e2) g2 E2
/-- while c: a word and a number that falls; the turns' states are told by s -/
theorem go_while {S : Type} (s0 : S) (Γs : S → Ctx) (m : S → Nat) (c : S → Bool) (h0 : LeC Γ (Γs s0)) (I : S → Prop) (i0 : I s0) (hc : ∀ s, I s → Evt W.K tt (Γs s) (c s))
    (hs : ∀ (s : S) (F : Hp), I s → c s = true → Ex W.F F → Go (W.fl F) tu { D with nx := fun σ R => ∃ s', m s' < m s ∧ I s' ∧ At (W.fl F) (Γs s') σ R, ct := fun σ R => ∃ s', m s' < m s ∧ I s' ∧ At (W.fl F) (Γs s') σ R, bk := tz D } (Γs s))
    (hd : ∀ s, I s → c s = false → Go W tz D (Γs s)) : Go W (tSeq (tWhile tt tu) tz) D Γ := fun σ H R f g E =>
  ⟨fun k σ' R' => ∃ s, m s = k ∧ I s ∧ At (W.fl H) (Γs s) σ' R', ⟨m s0, s0, rfl, i0, H, Ex.refl H, g, E.le h0⟩, fun k σ' R' hw => by
    obtain ⟨s, hm, hI, H2, e2, g2, E2⟩ := hw
    refine hc s hI σ' W.R0 H2 R' g2.inn E2 _ fun H3 R3 g3 => ?_
    cases q : c s with
    | true =>
      refine iteT ⟨fun σ2 R2 => ∃ s', m s' < m s ∧ I s' ∧ At (W.fl H) (Γs s') σ2 R2, fun σ2 R2 hn => ?_, hs s H hI q f σ' H3 R3 (e2.trans g3.up) (g2.trans g3) (E2.grow g3)⟩
      obtain ⟨s', h1, h2, h3⟩ := hn
      exact ⟨m s', by omega, s', rfl, h2, h3⟩
    | false => exact iteF (hd s hI q σ' H3 R3 ((f.trans e2).trans g3.up) (g2.trans g3) (E2.grow g3))⟩
theorem nx_turn {S : Type} {Γs : S → Ctx} {m : S → Nat} {I : S → Prop} {s : S} (s' : S) (hm : m s' < m s) (hI : I s') (l : LeC Γ (Γs s')) : Nx W (fun σ R => ∃ s', m s' < m s ∧ I s' ∧ At W (Γs s') σ R) Γ := fun σ H R f g E => ⟨s', hm, hI, H, f, g, E.le l⟩
theorem nx_to (l : LeC Γ Δ) : Nx W (At W Δ) Γ := fun σ H R f g E => ⟨H, f, g, E.le l⟩
end

/-! ### comprehensions -/
theorem wipe_get (σ : L2.St) : ∀ (vs : List Nat) (k : Nat), (L2.wipe σ vs)[k]? = if k ∈ vs then (if k < σ.length then some none else none) else σ[k]?
  | [], k => by simp [L2.wipe]
  | v :: vs, k => by
    show ((L2.wipe σ vs).set v none)[k]? = _
    by_cases q : v = k
    · subst q
      by_cases hl : v < (L2.wipe σ vs).length
      · rw [List.getElem?_set_self hl]
        rw [L2.wipe_length] at hl
        simp [hl]
      · rw [List.getElem?_eq_none (by rw [List.length_set]; omega)]
        rw [L2.wipe_length] at hl
        simp [hl]
    · rw [List.getElem?_set_ne q, wipe_get σ vs k]
      have e : (k ∈ v :: vs) = (k ∈ vs) := by
        have z : ¬ k = v := fun z => q z.symm
        simp [List.mem_cons, z]
      simp only [e]
theorem wipe_set {σ : L2.St} {vs : List Nat} {j : Nat} {o : Option V} (h : j ∈ vs) : L2.wipe ((L2.wipe σ vs).set j o) vs = L2.wipe σ vs := by
  apply List.ext_getElem?
  intro k
  rw [wipe_get, List.length_set, L2.wipe_length]
  by_cases q : k ∈ vs
  · rw [if_pos q, wipe_get, if_pos q]
  · rw [if_neg q]
    have n : j ≠ k := fun z => q (z ▸ h)
    rw [List.getElem?_set_ne n]
/-- what a comprehension of n turns makes -/
def mk {β : Type} (n : Nat) (f : Nat → Bool) (v : Nat → β) : List β := ((List.range n).filter f).map v
theorem mk_yes {β : Type} {n : Nat} {f : Nat → Bool} {v : Nat → β} (h : f n = true) : mk (n + 1) f v = mk n f v ++ [v n] := by
  unfold mk
  rw [List.range_succ, List.filter_append, List.map_append, List.filter_cons, if_pos h] <;> rfl
theorem mk_no {β : Type} {n : Nat} {f : Nat → Bool} {v : Nat → β} (h : f n = false) : mk (n + 1) f v = mk n f v := by
  unfold mk
  rw [List.range_succ, List.filter_append, List.map_append, List.filter_cons, if_neg (by rw [h]; decide)]
  show _ ++ [] = _
  rw [List.append_nil]
theorem mk_len {β : Type} (n : Nat) (f : Nat → Bool) (v : Nat → β) : (mk n f v).length ≤ n := by
  unfold mk
  rw [List.length_map]
  have h := List.length_filter_le f (List.range n)
  rw [List.length_range] at h
  exact h
theorem mk_all {β : Type} (n : Nat) (v : Nat → β) : mk n (fun _ => true) v = (List.range n).map v := by
  unfold mk
  rw [List.filter_eq_self.mpr (fun _ _ => rfl)]
structure Lw {β : Type} (iq : Py β) (K : PySem.W.Frag) (H1 R1 : Hp) (Dl : Addr) (ys : List β) (R : Hp) (H : Hp) : Prop where
  g : Gr H1 R1 H R
  n : H Dl = none
  l : ∃ vs, R Dl = some (.lst vs) ∧ Paired (fun x v => iq.rel K x v H) ys vs
section
variable {K : PySem.W.Frag} {Γ : Ctx} {te tl tn : TE} {tt : TT} {β : Type} [iq : Py β]
theorem lw_start {H1 R1 : Hp} {Dl : Addr} (e : Ex H1 R1) (h : R1 Dl = none) : Lw iq K H1 R1 Dl [] (upd R1 Dl (.lst [])) H1 := ⟨Gr.alloc e h, fresh_back e h, [], upd_same, .nil⟩
theorem lw_turn {H1 R1 H R R0 : Hp} {Dl : Addr} {σ2 : L2.St} {Γ2 : Ctx} {i : Nat} {f : Nat → Bool} {v : Nat → β} (h1 : R1 Dl = none) (p : Lw iq K H1 R1 Dl (mk i f v) R H) (hi : i < 50000) (E : Env K R0 H R σ2 Γ2)
    (ht : Evt K tt Γ2 (f i)) (he : f i = true → Evx K te Γ2 (v i)) :
    tt σ2 R fun b R3 => if b = true then te σ2 R3 fun y R4 => ∃ acc, R4 Dl = some (.lst acc) ∧ acc.length < sizeLine ∧ (∃ H', Lw iq K H1 R1 Dl (mk (i + 1) f v) (upd R4 Dl (.lst (acc ++ [y]))) H') else ∃ H', Lw iq K H1 R1 Dl (mk (i + 1) f v) R3 H' := by
  obtain ⟨g, n, vs, hl, hx⟩ := p
  refine ht σ2 R0 H R g.inn E _ fun H3 R3 g3 => ?_
  have n3 : H3 Dl = none := g3.new Dl n (by rw [hl]; intro z; cases z)
  cases hf : f i with
  | true =>
    refine iteT (he hf σ2 R0 H3 R3 g3.inn (E.grow g3) _ fun y H4 R4 g4 r4 => ?_)
    have hl3 := g3.keep Dl _ hl
    have n4 : H4 Dl = none := g4.new Dl n3 (by rw [hl3]; intro z; cases z)
    have l1 := paired_len hx
    have l2 := mk_len i f v
    refine ⟨vs, g4.keep Dl _ hl3, sz_lt (by omega), H4, ((g.trans g3).trans g4).mut n4 h1, n4, vs ++ [y], upd_same, ?_⟩
    rw [mk_yes hf]
    exact paired_app (paired_mono (g3.up.trans g4.up) hx) (.cons r4 .nil)
  | false =>
    refine iteF ⟨H3, g.trans g3, n3, vs, g3.keep Dl _ hl, ?_⟩
    rw [mk_no hf]
    exact paired_mono g3.up hx
theorem evl_lcR {j : Nat} {ws : List Nat} {n : Int} (f : Nat → Bool) (v : Nat → β) (h : Evx K tn Γ n) (hn : 0 ≤ n ∧ n ≤ 40000) (hj : j ∈ ws)
    (ht : ∀ (i : Nat), (i : Int) < n → Evt K tt ((wipeC Γ ws).set j (.dat pyInt (i : Int))) (f i)) (he : ∀ (i : Nat), (i : Int) < n → f i = true → Evx K te ((wipeC Γ ws).set j (.dat pyInt (i : Int))) (v i)) :
    Evl K (tLc (iRng1 (tCons tn tNil)) (gName j) tt te ws) Γ (mk n.toNat f v) := fun σ R0 H R e E Q k =>
  h σ R0 H R e E _ fun u H1 R1 g1 r1 => ⟨n, by
      have r1' : u = .int n := r1
      rw [r1'], by omega, by omega, fun Dl hD => lc_range (lo := 0) (n := n.toNat) (fun i R' => ∃ H', Lw iq K H1 R1 Dl (mk i f v) R' H') ⟨H1, lw_start g1.inn hD⟩ (fun i R' hi p => by
        obtain ⟨H', p⟩ := p
        have e0 : (0 : Int) + (i : Int) = (i : Int) := Int.zero_add _
        refine ⟨wipe_set hj, ?_⟩
        rw [e0]
        exact lw_turn hD p (by omega) ((((E.grow g1).grow p.g).wipe ws).setDat rfl) (ht i (by omega)) (fun hf => he i (by omega) hf)) (fun R' p => by
        obtain ⟨H', p⟩ := p
        obtain ⟨vs, q1, q2⟩ := p.l
        exact k Dl vs H' R' (g1.trans p.g) p.n (fresh_back g1.keep hD) q1 q2)⟩
theorem evl_lcR2 {j : Nat} {ws : List Nat} {a n : Int} {tm : TE} (f : Nat → Bool) (v : Nat → β) (hA : Evx K tm Γ a) (h : Evx K tn Γ n) (hn : -40000 ≤ a ∧ a ≤ 40000 ∧ -40000 ≤ n ∧ n ≤ 9000) (hj : j ∈ ws) (hz : n - a ≤ 40000)
    (ht : ∀ (i : Nat), a + (i : Int) < n → Evt K tt ((wipeC Γ ws).set j (.dat pyInt (a + (i : Int)))) (f i)) (he : ∀ (i : Nat), a + (i : Int) < n → f i = true → Evx K te ((wipeC Γ ws).set j (.dat pyInt (a + (i : Int)))) (v i)) :
    Evl K (tLc (iRng2 (tCons tm (tCons tn tNil))) (gName j) tt te ws) Γ (mk (n - a).toNat f v) := fun σ R0 H R e E Q k =>
  hA σ R0 H R e E _ fun u0 H0 R0' g0 r0 => h σ R0 H0 R0' g0.inn (E.grow g0) _ fun u H1 R1 g1 r1 => ⟨a, n, by
      have r0' : u0 = .int a := r0
      have r1' : u = .int n := r1
      rw [r0', r1'], ⟨by omega, by omega, by omega, by omega⟩, fun Dl hD => lc_range (lo := a) (n := (n - a).toNat) (fun i R' => ∃ H', Lw iq K H1 R1 Dl (mk i f v) R' H') ⟨H1, lw_start g1.inn hD⟩ (fun i R' hi p => by
        obtain ⟨H', p⟩ := p
        exact ⟨wipe_set hj, lw_turn hD p (by omega) (((((E.grow g0).grow g1).grow p.g).wipe ws).setDat rfl) (ht i (by omega)) (fun hf => he i (by omega) hf)⟩) (fun R' p => by
        obtain ⟨H', p⟩ := p
        obtain ⟨vs, q1, q2⟩ := p.l
        exact k Dl vs H' R' ((g0.trans g1).trans p.g) p.n (fresh_back (g0.keep.trans g1.keep) hD) q1 q2)⟩
/-- over a list; ft, v: by the item's place -/
theorem evl_lcL {α : Type} [ip : Py α] {xs : List α} {j : Nat} {ws : List Nat} (f : Nat → Bool) (v : Nat → β) (h : Evx K tl Γ xs) (hn : xs.length ≤ 40000) (hj : j ∈ ws)
    (ht : ∀ (i : Nat) (x : α), xs[i]? = some x → Evt K tt ((wipeC Γ ws).set j (.dat ip x)) (f i)) (he : ∀ (i : Nat) (x : α), xs[i]? = some x → f i = true → Evx K te ((wipeC Γ ws).set j (.dat ip x)) (v i)) :
    Evl K (tLc (iList K tl) (gName j) tt te ws) Γ (mk xs.length f v) := fun σ R0 H R e E Q k =>
  h σ R0 H R e E _ fun u H1 R1 g1 r1 => by
    obtain ⟨a, vs, rfl, hl, hx⟩ := r1
    have l1 := paired_len hx
    refine ⟨a, rfl, ⟨vs, sq_of (g1.inn a _ hl)⟩, fun Dl hD => lc_list (K := K) (a := a) (xs := vs) (fun i R' => ∃ H', Lw iq K H1 R1 Dl (mk i f v) R' H') ⟨H1, lw_start g1.inn hD⟩ (fun i R' _ p => ?_) (fun i y R' hi p => ?_) (fun R' p => ?_)⟩
    · obtain ⟨H', p⟩ := p
      exact sq_of (p.g.inn a _ (p.g.up a _ hl))
    · obtain ⟨H', p⟩ := p
      obtain ⟨x, q1, q2⟩ := paired_back hx hi
      have hi2 := (List.getElem?_eq_some_iff.mp q1).1
      exact ⟨wipe_set hj, lw_turn hD p (by omega) ((((E.grow g1).grow p.g).wipe ws).setDat (ip.mono p.g.up q2)) (ht i x q1) (fun hf => he i x q1 hf)⟩
    · obtain ⟨H', p⟩ := p
      obtain ⟨zs, q1, q2⟩ := p.l
      rw [← l1] at q2
      exact k Dl zs H' R' (g1.trans p.g) p.n (fresh_back g1.keep hD) q1 q2
end
/-- the same, told by the items -/
theorem mk_list {α β : Type} (xs : List α) (f : α → Bool) (v : α → β) (d : α) : mk xs.length (fun i => f (xs.getD i d)) (fun i => v (xs.getD i d)) = (xs.filter f).map v := by
  have h : ∀ n, n ≤ xs.length → mk n (fun i => f (xs.getD i d)) (fun i => v (xs.getD i d)) = ((xs.take n).filter f).map v := by
    intro n
    induction n with
    | zero => intro _; simp [mk]
    | succ n ih =>
      intro hn
      have hlt : n < xs.length := by omega
      have e : xs.getD n d = xs[n] := by rw [List.getD_eq_getElem?_getD, List.getElem?_eq_getElem hlt] <;> rfl
      rw [List.take_succ_eq_append_getElem hlt, List.filter_append, List.map_append]
      cases q : f xs[n] with
      | true =>
        rw [mk_yes (by show f (xs.getD n d) = true; rw [e, q]), ih (by omega)]
        have e2 : v (xs.getD n d) = v xs[n] := by rw [e]
        rw [e2]
        simp [q]
      | false =>
        rw [mk_no (by show f (xs.getD n d) = false; rw [e, q]), ih (by omega)]
        simp [q]
  rw [h xs.length (Nat.le_refl _), List.take_length]
end Dn

namespace Dn
open PySem PySem.Spec PyProof.Rows L2 Dx
/-! ### defs and their calls -/
theorem okN {P : Program} {w : World} {K : PySem.W.Frag} {mg : Str → Option Value} {base : Heap} {x qual : Str} {st : Stmt} {f : Addr} {fd : FuncData} {N ps : List Str} {k : Nat} {sp : Sp} (F : Fun K x qual st f fd) (S : FnScope N ps (defScope st)) (hlen : ∀ vs H Q E, sp vs H Q E → vs.length = ps.length)
    (hb : ∀ (cdv : Value) (A : Around) (outer : List PySem.Env) (s : Shared) (H : Hp) (vs : List V) (Q : VK) (E : XK), Room k (A.deeper (envOfC qual (defScope st) s.heap.objs.size f cdv)) → sp vs H Q E →
      ∃ t, PSs (cxOf (L2N.CX P w) P w K mg base N qual (defScope st) f cdv A outer s H E) (defBody st) t ∧ t { nx := fun _ H' => Q .non H', rt := Q } (start N vs) H) : FnOk P w K mg base (L2N.CX P w) (k + 1) f fd ps sp := by
  obtain ⟨oc, od, kV, doc, pm, an, cdv, ct, osl, rfl, lk, hcd⟩ := F.ex
  exact fn_of lk hcd S hlen fun A outer s H vs Q E hr hsp => hb cdv A outer s H vs Q E hr hsp
theorem are_len {K : PySem.W.Frag} {H : Hp} : ∀ {ss : List Slot} {vs : List V}, Are K H ss vs → ss.length = vs.length
  | _, _, .nil => rfl
  | _, _, .cons _ t => by simp [are_len t]
theorem are_get {K : PySem.W.Frag} {H : Hp} : ∀ {ss : List Slot} {vs : List V} {j : Nat} {s : Slot}, Are K H ss vs → ss[j]? = some s → ∃ v, vs[j]? = some v ∧ Slot.is K H s v
  | _, _, j, s, .nil, h => by simp at h
  | _, _, 0, s, .cons h t, e => by
    simp at e
    subst e
    exact ⟨_, rfl, h⟩
  | _, _, j + 1, s, .cons h t, e => by
    obtain ⟨v, h1, h2⟩ := are_get t (by simpa using e)
    exact ⟨v, by simpa using h1, h2⟩
theorem Env.start {K : PySem.W.Frag} {R0 H R : Hp} {N : List Str} {ss : List Slot} {vs : List V} {n : Nat} (h : Are K H ss vs) (hn : vs.length = n) : Env K R0 H R (L2.start N vs) (ss ++ List.replicate (N.length - n) Slot.un) := by
  subst hn
  have hl := are_len h
  have noOwn : ∀ j, ¬ isOwn ((ss ++ List.replicate (N.length - vs.length) Slot.un)[j]?) := fun j hj => by
    by_cases q : j < ss.length
    · rw [List.getElem?_append_left q] at hj
      cases z : ss[j]? with
      | none =>
        rw [z] at hj
        exact hj
      | some s =>
        rw [z] at hj
        obtain ⟨v, _, hv⟩ := are_get h z
        cases s with
        | un => exact hj
        | dat i x => exact hj
        | own i xs => exact hv
        | obj o => exact hv
        | pin a i xs => exact hv
    · rw [List.getElem?_append_right (by omega), List.getElem?_replicate] at hj
      split at hj <;> exact hj
  refine ⟨?_, fun j s e => ?_, fun i j p _ hi _ _ => absurd hi (noOwn i)⟩
  · unfold L2.start
    simp [hl]
  · by_cases q : j < ss.length
    · rw [List.getElem?_append_left q] at e
      obtain ⟨v, h1, h2⟩ := are_get h e
      unfold L2.start
      rw [List.getElem?_append_left (by rw [List.length_map]; omega), List.getElem?_map, h1]
      cases s with
      | un => trivial
      | dat i x => exact ⟨v, rfl, h2⟩
      | own i xs => exact h2.elim
      | obj o => exact h2.elim
      | pin a i xs => exact h2.elim
    · rw [List.getElem?_append_right (by omega), List.getElem?_replicate] at e
      split at e
      · cases e
        trivial
      · cases e
/-- a def of 1 that hands back f of its data -/
def sp1 {A0 C : Type} [i0 : Py A0] [ic : Py C] (K : PySem.W.Frag) (pre : A0 → Prop) (f : A0 → C) : Sp := fun vs R Q _ => ∃ (x0 : A0) (v0 : V) (H : Hp), vs = [v0] ∧ Ex H R ∧ i0.rel K x0 v0 H ∧ pre x0 ∧
  ∀ v H' R', Gr H R H' R' → ic.rel K (f x0) v H' → Q v R'
/-- .. and raises C where bad -/
def sx1 {A0 C : Type} [i0 : Py A0] [ic : Py C] (K : PySem.W.Frag) (pre : A0 → Prop) (bad : A0 → Bool) (cls : Addr) (f : A0 → C) : Sp := fun vs R Q E => ∃ (x0 : A0) (v0 : V) (H : Hp), vs = [v0] ∧ Ex H R ∧ i0.rel K x0 v0 H ∧ pre x0 ∧
  (bad x0 = false → ∀ v H' R', Gr H R H' R' → ic.rel K (f x0) v H' → Q v R') ∧ (bad x0 = true → ∀ H' R', Gr H R H' R' → E (.ref cls) none R')
theorem evx_call1 {A0 C : Type} {i0 : Py A0} {ic : Py C} {K : PySem.W.Frag} {Γ : Ctx} {pre : A0 → Prop} {f : A0 → C} {x0 : A0} {t0 : TE} {E0 : XK} (h0 : Evx K t0 Γ x0) (hp : pre x0) : Evx K (tCall (sp1 K pre f) [] E0 (tCons t0 tNil)) Γ (f x0) := fun σ R0 H R e E Q k =>
  h0 σ R0 H R e E _ fun u0 H0 S0 g0 r0 => 
  ⟨x0, u0, H0, rfl, g0.inn, i0.mono (Ex.refl _) r0, hp, fun v H' R' g' r' => k v H' R' (g0.trans g') r'⟩
theorem evx_callx1 {A0 C : Type} {i0 : Py A0} {ic : Py C} {K : PySem.W.Frag} {Γ : Ctx} {pre : A0 → Prop} {bad : A0 → Bool} {cls : Addr} {f : A0 → C} {x0 : A0} {t0 : TE} {E0 : XK} (h0 : Evx K t0 Γ x0) (hp : pre x0) (hb : bad x0 = false) : Evx K (tCall (sx1 K pre bad cls f) [] E0 (tCons t0 tNil)) Γ (f x0) := fun σ R0 H R e E Q k =>
  h0 σ R0 H R e E _ fun u0 H0 S0 g0 r0 => 
  ⟨x0, u0, H0, rfl, g0.inn, i0.mono (Ex.refl _) r0, hp, fun _ v H' R' g' r' => k v H' R' (g0.trans g') r', fun z => by rw [hb] at z; cases z⟩
section
variable {P : Program} {w : World} {K : PySem.W.Frag} {mg : Str → Option Value} {base : Heap}
theorem def1 {A0 C : Type} [i0 : Py A0] [ic : Py C] {x qual : Str} {st : Stmt} {a : Addr} {fd : FuncData} {N ps : List Str} {k : Nat} {pre : A0 → Prop} {f : A0 → C} (F : Fun K x qual st a fd) (S : FnScope N ps (defScope st)) (hps : ps.length = 1) (us : Ctx) (hus : us = List.replicate (N.length - 1) Slot.un)
    (hbody : ∀ (cdv : Value) (A : Around) (outer : List PySem.Env) (s : Shared) (H : Hp) (Q : VK) (E : XK), Room k (A.deeper (envOfC qual (defScope st) s.heap.objs.size a cdv)) →
      ∃ t, PSs (cxOf CX0 P w K mg base N qual (defScope st) a cdv A outer s H E).nox (defBody st) t ∧ ∀ (x0 : A0), pre x0 → ∀ (W : Wd) (D : Ends), W.K = K → (∀ σ R, D.nx σ R = D.rt .non R) → RetD W D (f x0) → Go W t D (.dat i0 x0 :: us)) : FnOk P w K mg base CX0 (k + 1) a fd ps (sp1 K pre f) := by
  refine F.ok S (fun vs H Q E h => ?_) (fun cdv A outer s R vs Q E hr h => ?_)
  · obtain ⟨x0, v0, H, rfl, _⟩ := h
    exact hps.symm
  · obtain ⟨x0, v0, H, rfl, e, r0, hp, q⟩ := h
    obtain ⟨t, h1, h2⟩ := hbody cdv A outer s R Q E hr
    subst hus
    exact ⟨t, h1, h2 x0 hp ⟨K, H, R, H⟩ _ rfl (fun _ _ => rfl) (fun v H' R' g r => q v H' R' g r) _ H R (Ex.refl H) (Gr.refl e) (Env.start (Are.cons (s := Slot.dat i0 x0) r0 Are.nil) rfl)⟩
theorem defx1 {A0 C : Type} [i0 : Py A0] [ic : Py C] {x qual : Str} {st : Stmt} {a : Addr} {fd : FuncData} {N ps : List Str} {k : Nat} {pre : A0 → Prop} {bad : A0 → Bool} {cls : Addr} {f : A0 → C} (F : Fun K x qual st a fd) (S : FnScope N ps (defScope st)) (hps : ps.length = 1) (us : Ctx) (hus : us = List.replicate (N.length - 1) Slot.un)
    (hbody : ∀ (cdv : Value) (A : Around) (outer : List PySem.Env) (s : Shared) (H : Hp) (Q : VK) (E : XK), Room k (A.deeper (envOfC qual (defScope st) s.heap.objs.size a cdv)) →
      ∃ t, PSs (cxOf (L2N.CX P w) P w K mg base N qual (defScope st) a cdv A outer s H E) (defBody st) t ∧ ∀ (x0 : A0), pre x0 → ∀ (W : Wd) (D : Ends), W.K = K → (∀ σ R, D.nx σ R = D.rt .non R) → (bad x0 = false → RetD W D (f x0)) → (bad x0 = true → ∀ H' R', Gr W.H0 W.R0 H' R' → E (.ref cls) none R') → Go W t D (.dat i0 x0 :: us)) : FnOk P w K mg base (L2N.CX P w) (k + 1) a fd ps (sx1 K pre bad cls f) := by
  refine okN F S (fun vs H Q E h => ?_) (fun cdv A outer s R vs Q E hr h => ?_)
  · obtain ⟨x0, v0, H, rfl, _⟩ := h
    exact hps.symm
  · obtain ⟨x0, v0, H, rfl, e, r0, hp, q, qx⟩ := h
    obtain ⟨t, h1, h2⟩ := hbody cdv A outer s R Q E hr
    subst hus
    exact ⟨t, h1, h2 x0 hp ⟨K, H, R, H⟩ _ rfl (fun _ _ => rfl) (fun hb v H' R' g r => q hb v H' R' g r) (fun hb H' R' g => qx hb H' R' g) _ H R (Ex.refl H) (Gr.refl e) (Env.start (Are.cons (s := Slot.dat i0 x0) r0 Are.nil) rfl)⟩
end
/-- a def of 2 that hands back f of its data -/
def sp2 {A0 A1 C : Type} [i0 : Py A0] [i1 : Py A1] [ic : Py C] (K : PySem.W.Frag) (pre : A0 → A1 → Prop) (f : A0 → A1 → C) : Sp := fun vs R Q _ => ∃ (x0 : A0) (x1 : A1) (v0 v1 : V) (H : Hp), vs = [v0, v1] ∧ Ex H R ∧ i0.rel K x0 v0 H ∧ i1.rel K x1 v1 H ∧ pre x0 x1 ∧
  ∀ v H' R', Gr H R H' R' → ic.rel K (f x0 x1) v H' → Q v R'
/-- .. and raises C where bad -/
def sx2 {A0 A1 C : Type} [i0 : Py A0] [i1 : Py A1] [ic : Py C] (K : PySem.W.Frag) (pre : A0 → A1 → Prop) (bad : A0 → A1 → Bool) (cls : Addr) (f : A0 → A1 → C) : Sp := fun vs R Q E => ∃ (x0 : A0) (x1 : A1) (v0 v1 : V) (H : Hp), vs = [v0, v1] ∧ Ex H R ∧ i0.rel K x0 v0 H ∧ i1.rel K x1 v1 H ∧ pre x0 x1 ∧
  (bad x0 x1 = false → ∀ v H' R', Gr H R H' R' → ic.rel K (f x0 x1) v H' → Q v R') ∧ (bad x0 x1 = true → ∀ H' R', Gr H R H' R' → E (.ref cls) none R')
theorem evx_call2 {A0 A1 C : Type} {i0 : Py A0} {i1 : Py A1} {ic : Py C} {K : PySem.W.Frag} {Γ : Ctx} {pre : A0 → A1 → Prop} {f : A0 → A1 → C} {x0 : A0} {x1 : A1} {t0 t1 : TE} {E0 : XK} (h0 : Evx K t0 Γ x0) (h1 : Evx K t1 Γ x1) (hp : pre x0 x1) : Evx K (tCall (sp2 K pre f) [] E0 (tCons t0 (tCons t1 tNil))) Γ (f x0 x1) := fun σ R0 H R e E Q k =>
  h0 σ R0 H R e E _ fun u0 H0 S0 g0 r0 => h1 σ R0 H0 S0 g0.inn (E.grow g0) _ fun u1 H1 S1 g1 r1 => 
  ⟨x0, x1, u0, u1, H1, rfl, g1.inn, i0.mono ((Ex.refl _).trans g1.up) r0, i1.mono (Ex.refl _) r1, hp, fun v H' R' g' r' => k v H' R' ((g0.trans g1).trans g') r'⟩
theorem evx_callx2 {A0 A1 C : Type} {i0 : Py A0} {i1 : Py A1} {ic : Py C} {K : PySem.W.Frag} {Γ : Ctx} {pre : A0 → A1 → Prop} {bad : A0 → A1 → Bool} {cls : Addr} {f : A0 → A1 → C} {x0 : A0} {x1 : A1} {t0 t1 : TE} {E0 : XK} (h0 : Evx K t0 Γ x0) (h1 : Evx K t1 Γ x1) (hp : pre x0 x1) (hb : bad x0 x1 = false) : Evx K (tCall (sx2 K pre bad cls f) [] E0 (tCons t0 (tCons t1 tNil))) Γ (f x0 x1) := fun σ R0 H R e E Q k =>
  h0 σ R0 H R e E _ fun u0 H0 S0 g0 r0 => h1 σ R0 H0 S0 g0.inn (E.grow g0) _ fun u1 H1 S1 g1 r1 => 
  ⟨x0, x1, u0, u1, H1, rfl, g1.inn, i0.mono ((Ex.refl _).trans g1.up) r0, i1.mono (Ex.refl _) r1, hp, fun _ v H' R' g' r' => k v H' R' ((g0.trans g1).trans g') r', fun z => by rw [hb] at z; cases z⟩
section
variable {P : Program} {w : World} {K : PySem.W.Frag} {mg : Str → Option Value} {base : Heap}
theorem def2 {A0 A1 C : Type} [i0 : Py A0] [i1 : Py A1] [ic : Py C] {x qual : Str} {st : Stmt} {a : Addr} {fd : FuncData} {N ps : List Str} {k : Nat} {pre : A0 → A1 → Prop} {f : A0 → A1 → C} (F : Fun K x qual st a fd) (S : FnScope N ps (defScope st)) (hps : ps.length = 2) (us : Ctx) (hus : us = List.replicate (N.length - 2) Slot.un)
    (hbody : ∀ (cdv : Value) (A : Around) (outer : List PySem.Env) (s : Shared) (H : Hp) (Q : VK) (E : XK), Room k (A.deeper (envOfC qual (defScope st) s.heap.objs.size a cdv)) →
      ∃ t, PSs (cxOf CX0 P w K mg base N qual (defScope st) a cdv A outer s H E).nox (defBody st) t ∧ ∀ (x0 : A0) (x1 : A1), pre x0 x1 → ∀ (W : Wd) (D : Ends), W.K = K → (∀ σ R, D.nx σ R = D.rt .non R) → RetD W D (f x0 x1) → Go W t D (.dat i0 x0 :: .dat i1 x1 :: us)) : FnOk P w K mg base CX0 (k + 1) a fd ps (sp2 K pre f) := by
  refine F.ok S (fun vs H Q E h => ?_) (fun cdv A outer s R vs Q E hr h => ?_)
  · obtain ⟨x0, x1, v0, v1, H, rfl, _⟩ := h
    exact hps.symm
  · obtain ⟨x0, x1, v0, v1, H, rfl, e, r0, r1, hp, q⟩ := h
    obtain ⟨t, h1, h2⟩ := hbody cdv A outer s R Q E hr
    subst hus
    exact ⟨t, h1, h2 x0 x1 hp ⟨K, H, R, H⟩ _ rfl (fun _ _ => rfl) (fun v H' R' g r => q v H' R' g r) _ H R (Ex.refl H) (Gr.refl e) (Env.start (Are.cons (s := Slot.dat i0 x0) r0 (Are.cons (s := Slot.dat i1 x1) r1 Are.nil)) rfl)⟩
theorem defx2 {A0 A1 C : Type} [i0 : Py A0] [i1 : Py A1] [ic : Py C] {x qual : Str} {st : Stmt} {a : Addr} {fd : FuncData} {N ps : List Str} {k : Nat} {pre : A0 → A1 → Prop} {bad : A0 → A1 → Bool} {cls : Addr} {f : A0 → A1 → C} (F : Fun K x qual st a fd) (S : FnScope N ps (defScope st)) (hps : ps.length = 2) (us : Ctx) (hus : us = List.replicate (N.length - 2) Slot.un)
    (hbody : ∀ (cdv : Value) (A : Around) (outer : List PySem.Env) (s : Shared) (H : Hp) (Q : VK) (E : XK), Room k (A.deeper (envOfC qual (defScope st) s.heap.objs.size a cdv)) →
      ∃ t, PSs (cxOf (L2N.CX P w) P w K mg base N qual (defScope st) a cdv A outer s H E) (defBody st) t ∧ ∀ (x0 : A0) (x1 : A1), pre x0 x1 → ∀ (W : Wd) (D : Ends), W.K = K → (∀ σ R, D.nx σ R = D.rt .non R) → (bad x0 x1 = false → RetD W D (f x0 x1)) → (bad x0 x1 = true → ∀ H' R', Gr W.H0 W.R0 H' R' → E (.ref cls) none R') → Go W t D (.dat i0 x0 :: .dat i1 x1 :: us)) : FnOk P w K mg base (L2N.CX P w) (k + 1) a fd ps (sx2 K pre bad cls f) := by
  refine okN F S (fun vs H Q E h => ?_) (fun cdv A outer s R vs Q E hr h => ?_)
  · obtain ⟨x0, x1, v0, v1, H, rfl, _⟩ := h
    exact hps.symm
  · obtain ⟨x0, x1, v0, v1, H, rfl, e, r0, r1, hp, q, qx⟩ := h
    obtain ⟨t, h1, h2⟩ := hbody cdv A outer s R Q E hr
    subst hus
    exact ⟨t, h1, h2 x0 x1 hp ⟨K, H, R, H⟩ _ rfl (fun _ _ => rfl) (fun hb v H' R' g r => q hb v H' R' g r) (fun hb H' R' g => qx hb H' R' g) _ H R (Ex.refl H) (Gr.refl e) (Env.start (Are.cons (s := Slot.dat i0 x0) r0 (Are.cons (s := Slot.dat i1 x1) r1 Are.nil)) rfl)⟩
end
/-- a def of 3 that hands back f of its data -/
def sp3 {A0 A1 A2 C : Type} [i0 : Py A0] [i1 : Py A1] [i2 : Py A2] [ic : Py C] (K : PySem.W.Frag) (pre : A0 → A1 → A2 → Prop) (f : A0 → A1 → A2 → C) : Sp := fun vs R Q _ => ∃ (x0 : A0) (x1 : A1) (x2 : A2) (v0 v1 v2 : V) (H : Hp), vs = [v0, v1, v2] ∧ Ex H R ∧ i0.rel K x0 v0 H ∧ i1.rel K x1 v1 H ∧ i2.rel K x2 v2 H ∧ pre x0 x1 x2 ∧
  ∀ v H' R', Gr H R H' R' → ic.rel K (f x0 x1 x2) v H' → Q v R'
/-- .. and raises C where bad -/
def sx3 {A0 A1 A2 C : Type} [i0 : Py A0] [i1 : Py A1] [i2 : Py A2] [ic : Py C] (K : PySem.W.Frag) (pre : A0 → A1 → A2 → Prop) (bad : A0 → A1 → A2 → Bool) (cls : Addr) (f : A0 → A1 → A2 → C) : Sp := fun vs R Q E => ∃ (x0 : A0) (x1 : A1) (x2 : A2) (v0 v1 v2 : V) (H : Hp), vs = [v0, v1, v2] ∧ Ex H R ∧ i0.rel K x0 v0 H ∧ i1.rel K x1 v1 H ∧ i2.rel K x2 v2 H ∧ pre x0 x1 x2 ∧
  (bad x0 x1 x2 = false → ∀ v H' R', Gr H R H' R' → ic.rel K (f x0 x1 x2) v H' → Q v R') ∧ (bad x0 x1 x2 = true → ∀ H' R', Gr H R H' R' → E (.ref cls) none R')
theorem evx_call3 {A0 A1 A2 C : Type} {i0 : Py A0} {i1 : Py A1} {i2 : Py A2} {ic : Py C} {K : PySem.W.Frag} {Γ : Ctx} {pre : A0 → A1 → A2 → Prop} {f : A0 → A1 → A2 → C} {x0 : A0} {x1 : A1} {x2 : A2} {t0 t1 t2 : TE} {E0 : XK} (h0 : Evx K t0 Γ x0) (h1 : Evx K t1 Γ x1) (h2 : Evx K t2 Γ x2) (hp : pre x0 x1 x2) : Evx K (tCall (sp3 K pre f) [] E0 (tCons t0 (tCons t1 (tCons t2 tNil)))) Γ (f x0 x1 x2) := fun σ R0 H R e E Q k =>
  h0 σ R0 H R e E _ fun u0 H0 S0 g0 r0 => h1 σ R0 H0 S0 g0.inn (E.grow g0) _ fun u1 H1 S1 g1 r1 => h2 σ R0 H1 S1 g1.inn ((E.grow g0).grow g1) _ fun u2 H2 S2 g2 r2 => 
  ⟨x0, x1, x2, u0, u1, u2, H2, rfl, g2.inn, i0.mono (((Ex.refl _).trans g1.up).trans g2.up) r0, i1.mono ((Ex.refl _).trans g2.up) r1, i2.mono (Ex.refl _) r2, hp, fun v H' R' g' r' => k v H' R' ((g0.trans (g1.trans g2)).trans g') r'⟩
theorem evx_callx3 {A0 A1 A2 C : Type} {i0 : Py A0} {i1 : Py A1} {i2 : Py A2} {ic : Py C} {K : PySem.W.Frag} {Γ : Ctx} {pre : A0 → A1 → A2 → Prop} {bad : A0 → A1 → A2 → Bool} {cls : Addr} {f : A0 → A1 → A2 → C} {x0 : A0} {x1 : A1} {x2 : A2} {t0 t1 t2 : TE} {E0 : XK} (h0 : Evx K t0 Γ x0) (h1 : Evx K t1 Γ x1) (h2 : Evx K t2 Γ x2) (hp : pre x0 x1 x2) (hb : bad x0 x1 x2 = false) : Evx K (tCall (sx3 K pre bad cls f) [] E0 (tCons t0 (tCons t1 (tCons t2 tNil)))) Γ (f x0 x1 x2) := fun σ R0 H R e E Q k =>
  h0 σ R0 H R e E _ fun u0 H0 S0 g0 r0 => h1 σ R0 H0 S0 g0.inn (E.grow g0) _ fun u1 H1 S1 g1 r1 => h2 σ R0 H1 S1 g1.inn ((E.grow g0).grow g1) _ fun u2 H2 S2 g2 r2 => 
  ⟨x0, x1, x2, u0, u1, u2, H2, rfl, g2.inn, i0.mono (((Ex.refl _).trans g1.up).trans g2.up) r0, i1.mono ((Ex.refl _).trans g2.up) r1, i2.mono (Ex.refl _) r2, hp, fun _ v H' R' g' r' => k v H' R' ((g0.trans (g1.trans g2)).trans g') r', fun z => by rw [hb] at z; cases z⟩
section
variable {P : Program} {w : World} {K : PySem.W.Frag} {mg : Str → Option Value} {base : Heap}
theorem def3 {A0 A1 A2 C : Type} [i0 : Py A0] [i1 : Py A1] [i2 : Py A2] [ic : Py C] {x qual : Str} {st : Stmt} {a : Addr} {fd : FuncData} {N ps : List Str} {k : Nat} {pre : A0 → A1 → A2 → Prop} {f : A0 → A1 → A2 → C} (F : Fun K x qual st a fd) (S : FnScope N ps (defScope st)) (hps : ps.length = 3) (us : Ctx) (hus : us = List.replicate (N.length - 3) Slot.un)
    (hbody : ∀ (cdv : Value) (A : Around) (outer : List PySem.Env) (s : Shared) (H : Hp) (Q : VK) (E : XK), Room k (A.deeper (envOfC qual (defScope st) s.heap.objs.size a cdv)) →
      ∃ t, PSs (cxOf CX0 P w K mg base N qual (defScope st) a cdv A outer s H E).nox (defBody st) t ∧ ∀ (x0 : A0) (x1 : A1) (x2 : A2), pre x0 x1 x2 → ∀ (W : Wd) (D : Ends), W.K = K → (∀ σ R, D.nx σ R = D.rt .non R) → RetD W D (f x0 x1 x2) → Go W t D (.dat i0 x0 :: .dat i1 x1 :: .dat i2 x2 :: us)) : FnOk P w K mg base CX0 (k + 1) a fd ps (sp3 K pre f) := by
  refine F.ok S (fun vs H Q E h => ?_) (fun cdv A outer s R vs Q E hr h => ?_)
  · obtain ⟨x0, x1, x2, v0, v1, v2, H, rfl, _⟩ := h
    exact hps.symm
  · obtain ⟨x0, x1, x2, v0, v1, v2, H, rfl, e, r0, r1, r2, hp, q⟩ := h
    obtain ⟨t, h1, h2⟩ := hbody cdv A outer s R Q E hr
    subst hus
    exact ⟨t, h1, h2 x0 x1 x2 hp ⟨K, H, R, H⟩ _ rfl (fun _ _ => rfl) (fun v H' R' g r => q v H' R' g r) _ H R (Ex.refl H) (Gr.refl e) (Env.start (Are.cons (s := Slot.dat i0 x0) r0 (Are.cons (s := Slot.dat i1 x1) r1 (Are.cons (s := Slot.dat i2 x2) r2 Are.nil))) rfl)⟩
theorem defx3 {A0 A1 A2 C : Type} [i0 : Py A0] [i1 : Py A1] [i2 : Py A2] [ic : Py C] {x qual : Str} {st : Stmt} {a : Addr} {fd : FuncData} {N ps : List Str} {k : Nat} {pre : A0 → A1 → A2 → Prop} {bad : A0 → A1 → A2 → Bool} {cls : Addr} {f : A0 → A1 → A2 → C} (F : Fun K x qual st a fd) (S : FnScope N ps (defScope st)) (hps : ps.length = 3) (us : Ctx) (hus : us = List.replicate (N.length - 3) Slot.un)
    (hbody : ∀ (cdv : Value) (A : Around) (outer : List PySem.Env) (s : Shared) (H : Hp) (Q : VK) (E : XK), Room k (A.deeper (envOfC qual (defScope st) s.heap.objs.size a cdv)) →
      ∃ t, PSs (cxOf (L2N.CX P w) P w K mg base N qual (defScope st) a cdv A outer s H E) (defBody st) t ∧ ∀ (x0 : A0) (x1 : A1) (x2 : A2), pre x0 x1 x2 → ∀ (W : Wd) (D : Ends), W.K = K → (∀ σ R, D.nx σ R = D.rt .non R) → (bad x0 x1 x2 = false → RetD W D (f x0 x1 x2)) → (bad x0 x1 x2 = true → ∀ H' R', Gr W.H0 W.R0 H' R' → E (.ref cls) none R') → Go W t D (.dat i0 x0 :: .dat i1 x1 :: .dat i2 x2 :: us)) : FnOk P w K mg base (L2N.CX P w) (k + 1) a fd ps (sx3 K pre bad cls f) := by
  refine okN F S (fun vs H Q E h => ?_) (fun cdv A outer s R vs Q E hr h => ?_)
  · obtain ⟨x0, x1, x2, v0, v1, v2, H, rfl, _⟩ := h
    exact hps.symm
  · obtain ⟨x0, x1, x2, v0, v1, v2, H, rfl, e, r0, r1, r2, hp, q, qx⟩ := h
    obtain ⟨t, h1, h2⟩ := hbody cdv A outer s R Q E hr
    subst hus
    exact ⟨t, h1, h2 x0 x1 x2 hp ⟨K, H, R, H⟩ _ rfl (fun _ _ => rfl) (fun hb v H' R' g r => q hb v H' R' g r) (fun hb H' R' g => qx hb H' R' g) _ H R (Ex.refl H) (Gr.refl e) (Env.start (Are.cons (s := Slot.dat i0 x0) r0 (Are.cons (s := Slot.dat i1 x1) r1 (Are.cons (s := Slot.dat i2 x2) r2 Are.nil))) rfl)⟩
end
/-- a def of 4 that hands back f of its data -/
def sp4 {A0 A1 A2 A3 C : Type} [i0 : Py A0] [i1 : Py A1] [i2 : Py A2] [i3 : Py A3] [ic : Py C] (K : PySem.W.Frag) (pre : A0 → A1 → A2 → A3 → Prop) (f : A0 → A1 → A2 → A3 → C) : Sp := fun vs R Q _ => ∃ (x0 : A0) (x1 : A1) (x2 : A2) (x3 : A3) (v0 v1 v2 v3 : V) (H : Hp), vs = [v0, v1, v2, v3] ∧ Ex H R ∧ i0.rel K x0 v0 H ∧ i1.rel K x1 v1 H ∧ i2.rel K x2 v2 H ∧ i3.rel K x3 v3 H ∧ pre x0 x1 x2 x3 ∧
  ∀ v H' R', Gr H R H' R' → ic.rel K (f x0 x1 x2 x3) v H' → Q v R'
/-- .. and raises C where bad -/
def sx4 {A0 A1 A2 A3 C : Type} [i0 : Py A0] [i1 : Py A1] [i2 : Py A2] [i3 : Py A3] [ic : Py C] (K : PySem.W.Frag) (pre : A0 → A1 → A2 → A3 → Prop) (bad : A0 → A1 → A2 → A3 → Bool) (cls : Addr) (f : A0 → A1 → A2 → A3 → C) : Sp := fun vs R Q E => ∃ (x0 : A0) (x1 : A1) (x2 : A2) (x3 : A3) (v0 v1 v2 v3 : V) (H : Hp), vs = [v0, v1, v2, v3] ∧ Ex H R ∧ i0.rel K x0 v0 H ∧ i1.rel K x1 v1 H ∧ i2.rel K x2 v2 H ∧ i3.rel K x3 v3 H ∧ pre x0 x1 x2 x3 ∧
  (bad x0 x1 x2 x3 = false → ∀ v H' R', Gr H R H' R' → ic.rel K (f x0 x1 x2 x3) v H' → Q v R') ∧ (bad x0 x1 x2 x3 = true → ∀ H' R', Gr H R H' R' → E (.ref cls) none R')
theorem evx_call4 {A0 A1 A2 A3 C : Type} {i0 : Py A0} {i1 : Py A1} {i2 : Py A2} {i3 : Py A3} {ic : Py C} {K : PySem.W.Frag} {Γ : Ctx} {pre : A0 → A1 → A2 → A3 → Prop} {f : A0 → A1 → A2 → A3 → C} {x0 : A0} {x1 : A1} {x2 : A2} {x3 : A3} {t0 t1 t2 t3 : TE} {E0 : XK} (h0 : Evx K t0 Γ x0) (h1 : Evx K t1 Γ x1) (h2 : Evx K t2 Γ x2) (h3 : Evx K t3 Γ x3) (hp : pre x0 x1 x2 x3) : Evx K (tCall (sp4 K pre f) [] E0 (tCons t0 (tCons t1 (tCons t2 (tCons t3 tNil))))) Γ (f x0 x1 x2 x3) := fun σ R0 H R e E Q k =>
  h0 σ R0 H R e E _ fun u0 H0 S0 g0 r0 => h1 σ R0 H0 S0 g0.inn (E.grow g0) _ fun u1 H1 S1 g1 r1 => h2 σ R0 H1 S1 g1.inn ((E.grow g0).grow g1) _ fun u2 H2 S2 g2 r2 => h3 σ R0 H2 S2 g2.inn (((E.grow g0).grow g1).grow g2) _ fun u3 H3 S3 g3 r3 => 
  ⟨x0, x1, x2, x3, u0, u1, u2, u3, H3, rfl, g3.inn, i0.mono ((((Ex.refl _).trans g1.up).trans g2.up).trans g3.up) r0, i1.mono (((Ex.refl _).trans g2.up).trans g3.up) r1, i2.mono ((Ex.refl _).trans g3.up) r2, i3.mono (Ex.refl _) r3, hp, fun v H' R' g' r' => k v H' R' ((g0.trans (g1.trans (g2.trans g3))).trans g') r'⟩
theorem evx_callx4 {A0 A1 A2 A3 C : Type} {i0 : Py A0} {i1 : Py A1} {i2 : Py A2} {i3 : Py A3} {ic : Py C} {K : PySem.W.Frag} {Γ : Ctx} {pre : A0 → A1 → A2 → A3 → Prop} {bad : A0 → A1 → A2 → A3 → Bool} {cls : Addr} {f : A0 → A1 → A2 → A3 → C} {x0 : A0} {x1 : A1} {x2 : A2} {x3 : A3} {t0 t1 t2 t3 : TE} {E0 : XK} (h0 : Evx K t0 Γ x0) (h1 : Evx K t1 Γ x1) (h2 : Evx K t2 Γ x2) (h3 : Evx K t3 Γ x3) (hp : pre x0 x1 x2 x3) (hb : bad x0 x1 x2 x3 = false) : Evx K (tCall (sx4 K pre bad cls f) [] E0 (tCons t0 (tCons t1 (tCons t2 (tCons t3 tNil))))) Γ (f x0 x1 x2 x3) := fun σ R0 H R e E Q k =>
  h0 σ R0 H R e E _ fun u0 H0 S0 g0 r0 => h1 σ R0 H0 S0 g0.inn (E.grow g0) _ fun u1 H1 S1 g1 r1 => h2 σ R0 H1 S1 g1.inn ((E.grow g0).grow g1) _ fun u2 H2 S2 g2 r2 => h3 σ R0 H2 S2 g2.inn (((E.grow g0).grow g1).grow g2) _ fun u3 H3 S3 g3 r3 => 
  ⟨x0, x1, x2, x3, u0, u1, u2, u3, H3, rfl, g3.inn, i0.mono ((((Ex.refl _).trans g1.up).trans g2.up).trans g3.up) r0, i1.mono (((Ex.refl _).trans g2.up).trans g3.up) r1, i2.mono ((Ex.refl _).trans g3.up) r2, i3.mono (Ex.refl _) r3, hp, fun _ v H' R' g' r' => k v H' R' ((g0.trans (g1.trans (g2.trans g3))).trans g') r', fun z => by rw [hb] at z; cases z⟩
section
variable {P : Program} {w : World} {K : PySem.W.Frag} {mg : Str → Option Value} {base : Heap}
theorem def4 {A0 A1 A2 A3 C : Type} [i0 : Py A0] [i1 : Py A1] [i2 : Py A2] [i3 : Py A3] [ic : Py C] {x qual : Str} {st : Stmt} {a : Addr} {fd : FuncData} {N ps : List Str} {k : Nat} {pre : A0 → A1 → A2 → A3 → Prop} {f : A0 → A1 → A2 → A3 → C} (F : Fun K x qual st a fd) (S : FnScope N ps (defScope st)) (hps : ps.length = 4) (us : Ctx) (hus : us = List.replicate (N.length - 4) Slot.un)
    (hbody : ∀ (cdv : Value) (A : Around) (outer : List PySem.Env) (s : Shared) (H : Hp) (Q : VK) (E : XK), Room k (A.deeper (envOfC qual (defScope st) s.heap.objs.size a cdv)) →
      ∃ t, PSs (cxOf CX0 P w K mg base N qual (defScope st) a cdv A outer s H E).nox (defBody st) t ∧ ∀ (x0 : A0) (x1 : A1) (x2 : A2) (x3 : A3), pre x0 x1 x2 x3 → ∀ (W : Wd) (D : Ends), W.K = K → (∀ σ R, D.nx σ R = D.rt .non R) → RetD W D (f x0 x1 x2 x3) → Go W t D (.dat i0 x0 :: .dat i1 x1 :: .dat i2 x2 :: .dat i3 x3 :: us)) : FnOk P w K mg base CX0 (k + 1) a fd ps (sp4 K pre f) := by
  refine F.ok S (fun vs H Q E h => ?_) (fun cdv A outer s R vs Q E hr h => ?_)
  · obtain ⟨x0, x1, x2, x3, v0, v1, v2, v3, H, rfl, _⟩ := h
    exact hps.symm
  · obtain ⟨x0, x1, x2, x3, v0, v1, v2, v3, H, rfl, e, r0, r1, r2, r3, hp, q⟩ := h
    obtain ⟨t, h1, h2⟩ := hbody cdv A outer s R Q E hr
    subst hus
    exact ⟨t, h1, h2 x0 x1 x2 x3 hp ⟨K, H, R, H⟩ _ rfl (fun _ _ => rfl) (fun v H' R' g r => q v H' R' g r) _ H R (Ex.refl H) (Gr.refl e) (Env.start (Are.cons (s := Slot.dat i0 x0) r0 (Are.cons (s := Slot.dat i1 x1) r1 (Are.cons (s := Slot.dat i2 x2) r2 (Are.cons (s := Slot.dat i3 x3) r3 Are.nil)))) rfl)⟩
theorem defx4 {A0 A1 A2 A3 C : Type} [i0 : Py A0] [i1 : Py A1] [i2 : Py A2] [i3 : Py A3] [ic : Py C] {x qual : Str} {st : Stmt} {a : Addr} {fd : FuncData} {N ps : List Str} {k : Nat} {pre : A0 → A1 → A2 → A3 → Prop} {bad : A0 → A1 → A2 → A3 → Bool} {cls : Addr} {f : A0 → A1 → A2 → A3 → C} (F : Fun K x qual st a fd) (S : FnScope N ps (defScope st)) (hps : ps.length = 4) (us : Ctx) (hus : us = List.replicate (N.length - 4) Slot.un)
    (hbody : ∀ (cdv : Value) (A : Around) (outer : List PySem.Env) (s : Shared) (H : Hp) (Q : VK) (E : XK), Room k (A.deeper (envOfC qual (defScope st) s.heap.objs.size a cdv)) →
      ∃ t, PSs (cxOf (L2N.CX P w) P w K mg base N qual (defScope st) a cdv A outer s H E) (defBody st) t ∧ ∀ (x0 : A0) (x1 : A1) (x2 : A2) (x3 : A3), pre x0 x1 x2 x3 → ∀ (W : Wd) (D : Ends), W.K = K → (∀ σ R, D.nx σ R = D.rt .non R) → (bad x0 x1 x2 x3 = false → RetD W D (f x0 x1 x2 x3)) → (bad x0 x1 x2 x3 = true → ∀ H' R', Gr W.H0 W.R0 H' R' → E (.ref cls) none R') → Go W t D (.dat i0 x0 :: .dat i1 x1 :: .dat i2 x2 :: .dat i3 x3 :: us)) : FnOk P w K mg base (L2N.CX P w) (k + 1) a fd ps (sx4 K pre bad cls f) := by
  refine okN F S (fun vs H Q E h => ?_) (fun cdv A outer s R vs Q E hr h => ?_)
  · obtain ⟨x0, x1, x2, x3, v0, v1, v2, v3, H, rfl, _⟩ := h
    exact hps.symm
  · obtain ⟨x0, x1, x2, x3, v0, v1, v2, v3, H, rfl, e, r0, r1, r2, r3, hp, q, qx⟩ := h
    obtain ⟨t, h1, h2⟩ := hbody cdv A outer s R Q E hr
    subst hus
    exact ⟨t, h1, h2 x0 x1 x2 x3 hp ⟨K, H, R, H⟩ _ rfl (fun _ _ => rfl) (fun hb v H' R' g r => q hb v H' R' g r) (fun hb H' R' g => qx hb H' R' g) _ H R (Ex.refl H) (Gr.refl e) (Env.start (Are.cons (s := Slot.dat i0 x0) r0 (Are.cons (s := Slot.dat i1 x1) r1 (Are.cons (s := Slot.dat i2 x2) r2 (Are.cons (s := Slot.dat i3 x3) r3 Are.nil)))) rfl)⟩
end
/-- a def of 5 that hands back f of its data -/
def sp5 {A0 A1 A2 A3 A4 C : Type} [i0 : Py A0] [i1 : Py A1] [i2 : Py A2] [i3 : Py A3] [i4 : Py A4] [ic : Py C] (K : PySem.W.Frag) (pre : A0 → A1 → A2 → A3 → A4 → Prop) (f : A0 → A1 → A2 → A3 → A4 → C) : Sp := fun vs R Q _ => ∃ (x0 : A0) (x1 : A1) (x2 : A2) (x3 : A3) (x4 : A4) (v0 v1 v2 v3 v4 : V) (H : Hp), vs = [v0, v1, v2, v3, v4] ∧ Ex H R ∧ i0.rel K x0 v0 H ∧ i1.rel K x1 v1 H ∧ i2.rel K x2 v2 H ∧ i3.rel K x3 v3 H ∧ i4.rel K x4 v4 H ∧ pre x0 x1 x2 x3 x4 ∧
  ∀ v H' R', Gr H R H' R' → ic.rel K (f x0 x1 x2 x3 x4) v H' → Q v R'
/-- .. and raises C where bad -/
def sx5 {A0 A1 A2 A3 A4 C : Type} [i0 : Py A0] [i1 : Py A1] [i2 : Py A2] [i3 : Py A3] [i4 : Py A4] [ic : Py C] (K : PySem.W.Frag) (pre : A0 → A1 → A2 → A3 → A4 → Prop) (bad : A0 → A1 → A2 → A3 → A4 → Bool) (cls : Addr) (f : A0 → A1 → A2 → A3 → A4 → C) : Sp := fun vs R Q E => ∃ (x0 : A0) (x1 : A1) (x2 : A2) (x3 : A3) (x4 : A4) (v0 v1 v2 v3 v4 : V) (H : Hp), vs = [v0, v1, v2, v3, v4] ∧ Ex H R ∧ i0.rel K x0 v0 H ∧ i1.rel K x1 v1 H ∧ i2.rel K x2 v2 H ∧ i3.rel K x3 v3 H ∧ i4.rel K x4 v4 H ∧ pre x0 x1 x2 x3 x4 ∧
  (bad x0 x1 x2 x3 x4 = false → ∀ v H' R', Gr H R H' R' → ic.rel K (f x0 x1 x2 x3 x4) v H' → Q v R') ∧ (bad x0 x1 x2 x3 x4 = true → ∀ H' R', Gr H R H' R' → E (.ref cls) none R')
theorem evx_call5 {A0 A1 A2 A3 A4 C : Type} {i0 : Py A0} {i1 : Py A1} {i2 : Py A2} {i3 : Py A3} {i4 : Py A4} {ic : Py C} {K : PySem.W.Frag} {Γ : Ctx} {pre : A0 → A1 → A2 → A3 → A4 → Prop} {f : A0 → A1 → A2 → A3 → A4 → C} {x0 : A0} {x1 : A1} {x2 : A2} {x3 : A3} {x4 : A4} {t0 t1 t2 t3 t4 : TE} {E0 : XK} (h0 : Evx K t0 Γ x0) (h1 : Evx K t1 Γ x1) (h2 : Evx K t2 Γ x2) (h3 : Evx K t3 Γ x3) (h4 : Evx K t4 Γ x4) (hp : pre x0 x1 x2 x3 x4) : Evx K (tCall (sp5 K pre f) [] E0 (tCons t0 (tCons t1 (tCons t2 (tCons t3 (tCons t4 tNil)))))) Γ (f x0 x1 x2 x3 x4) := fun σ R0 H R e E Q k =>
  h0 σ R0 H R e E _ fun u0 H0 S0 g0 r0 => h1 σ R0 H0 S0 g0.inn (E.grow g0) _ fun u1 H1 S1 g1 r1 => h2 σ R0 H1 S1 g1.inn ((E.grow g0).grow g1) _ fun u2 H2 S2 g2 r2 => h3 σ R0 H2 S2 g2.inn (((E.grow g0).grow g1).grow g2) _ fun u3 H3 S3 g3 r3 => h4 σ R0 H3 S3 g3.inn ((((E.grow g0).grow g1).grow g2).grow g3) _ fun u4 H4 S4 g4 r4 => 
  ⟨x0, x1, x2, x3, x4, u0, u1, u2, u3, u4, H4, rfl, g4.inn, i0.mono (((((Ex.refl _).trans g1.up).trans g2.up).trans g3.up).trans g4.up) r0, i1.mono ((((Ex.refl _).trans g2.up).trans g3.up).trans g4.up) r1, i2.mono (((Ex.refl _).trans g3.up).trans g4.up) r2, i3.mono ((Ex.refl _).trans g4.up) r3, i4.mono (Ex.refl _) r4, hp, fun v H' R' g' r' => k v H' R' ((g0.trans (g1.trans (g2.trans (g3.trans g4)))).trans g') r'⟩
theorem evx_callx5 {A0 A1 A2 A3 A4 C : Type} {i0 : Py A0} {i1 : Py A1} {i2 : Py A2} {i3 : Py A3} {i4 : Py A4} {ic : Py C} {K : PySem.W.Frag} {Γ : Ctx} {pre : A0 → A1 → A2 → A3 → A4 → Prop} {bad : A0 → A1 → A2 → A3 → A4 → Bool} {cls : Addr} {f : A0 → A1 → A2 → A3 → A4 → C} {x0 : A0} {x1 : A1} {x2 : A2} {x3 : A3} {x4 : A4} {t0 t1 t2 t3 t4 : TE} {E0 : XK} (h0 : Evx K t0 Γ x0) (h1 : Evx K t1 Γ x1) (h2 : Evx K t2 Γ x2) (h3 : Evx K t3 Γ x3) (h4 : Evx K t4 Γ x4) (hp : pre x0 x1 x2 x3 x4) (hb : bad x0 x1 x2 x3 x4 = false) : Evx K (tCall (sx5 K pre bad cls f) [] E0 (tCons t0 (tCons t1 (tCons t2 (tCons t3 (tCons t4 tNil)))))) Γ (f x0 x1 x2 x3 x4) := fun σ R0 H R e E Q k =>
  h0 σ R0 H R e E _ fun u0 H0 S0 g0 r0 => h1 σ R0 H0 S0 g0.inn (E.grow g0) _ fun u1 H1 S1 g1 r1 => h2 σ R0 H1 S1 g1.inn ((E.grow g0).grow g1) _ fun u2 H2 S2 g2 r2 => h3 σ R0 H2 S2 g2.inn (((E.grow g0).grow g1).grow g2) _ fun u3 H3 S3 g3 r3 => h4 σ R0 H3 S3 g3.inn ((((E.grow g0).grow g1).grow g2).grow g3) _ fun u4 H4 S4 g4 r4 => 
  ⟨x0, x1, x2, x3, x4, u0, u1, u2, u3, u4, H4, rfl, g4.inn, i0.mono (((((Ex.refl _).trans g1.up).trans g2.up).trans g3.up).trans g4.up) r0, i1.mono ((((Ex.refl _).trans g2.up).trans g3.up).trans g4.up) r1, i2.mono (((Ex.refl _).trans g3.up).trans g4.up) r2, i3.mono ((Ex.refl _).trans g4.up) r3, i4.mono (Ex.refl _) r4, hp, fun _ v H' R' g' r' => k v H' R' ((g0.trans (g1.trans (g2.trans (g3.trans g4)))).trans g') r', fun z => by rw [hb] at z; cases z⟩
section
variable {P : Program} {w : World} {K : PySem.W.Frag} {mg : Str → Option Value} {base : Heap}
theorem def5 {A0 A1 A2 A3 A4 C : Type} [i0 : Py A0] [i1 : Py A1] [i2 : Py A2] [i3 : Py A3] [i4 : Py A4] [ic : Py C] {x qual : Str} {st : Stmt} {a : Addr} {fd : FuncData} {N ps : List Str} {k : Nat} {pre : A0 → A1 → A2 → A3 → A4 → Prop} {f : A0 → A1 → A2 → A3 → A4 → C} (F : Fun K x qual st a fd) (S : FnScope N ps (defScope st)) (hps : ps.length = 5) (us : Ctx) (hus : us = List.replicate (N.length - 5) Slot.un)
    (hbody : ∀ (cdv : Value) (A : Around) (outer : List PySem.Env) (s : Shared) (H : Hp) (Q : VK) (E : XK), Room k (A.deeper (envOfC qual (defScope st) s.heap.objs.size a cdv)) →
      ∃ t, PSs (cxOf CX0 P w K mg base N qual (defScope st) a cdv A outer s H E).nox (defBody st) t ∧ ∀ (x0 : A0) (x1 : A1) (x2 : A2) (x3 : A3) (x4 : A4), pre x0 x1 x2 x3 x4 → ∀ (W : Wd) (D : Ends), W.K = K → (∀ σ R, D.nx σ R = D.rt .non R) → RetD W D (f x0 x1 x2 x3 x4) → Go W t D (.dat i0 x0 :: .dat i1 x1 :: .dat i2 x2 :: .dat i3 x3 :: .dat i4 x4 :: us)) : FnOk P w K mg base CX0 (k + 1) a fd ps (sp5 K pre f) := by
  refine F.ok S (fun vs H Q E h => ?_) (fun cdv A outer s R vs Q E hr h => ?_)
  · obtain ⟨x0, x1, x2, x3, x4, v0, v1, v2, v3, v4, H, rfl, _⟩ := h
    exact hps.symm
  · obtain ⟨x0, x1, x2, x3, x4, v0, v1, v2, v3, v4, H, rfl, e, r0, r1, r2, r3, r4, hp, q⟩ := h
    obtain ⟨t, h1, h2⟩ := hbody cdv A outer s R Q E hr
    subst hus
    exact ⟨t, h1, h2 x0 x1 x2 x3 x4 hp ⟨K, H, R, H⟩ _ rfl (fun _ _ => rfl) (fun v H' R' g r => q v H' R' g r) _ H R (Ex.refl H) (Gr.refl e) (Env.start (Are.cons (s := Slot.dat i0 x0) r0 (Are.cons (s := Slot.dat i1 x1) r1 (Are.cons (s := Slot.dat i2 x2) r2 (Are.cons (s := Slot.dat i3 x3) r3 (Are.cons (s := Slot.dat i4 x4) r4 Are.nil))))) rfl)⟩
theorem defx5 {A0 A1 A2 A3 A4 C : Type} [i0 : Py A0] [i1 : Py A1] [i2 : Py A2] [i3 : Py A3] [i4 : Py A4] [ic : Py C] {x qual : Str} {st : Stmt} {a : Addr} {fd : FuncData} {N ps : List Str} {k : Nat} {pre : A0 → A1 → A2 → A3 → A4 → Prop} {bad : A0 → A1 → A2 → A3 → A4 → Bool} {cls : Addr} {f : A0 → A1 → A2 → A3 → A4 → C} (F : Fun K x qual st a fd) (S : FnScope N ps (defScope st)) (hps : ps.length = 5) (us : Ctx) (hus : us = List.replicate (N.length - 5) Slot.un)
    (hbody : ∀ (cdv : Value) (A : Around) (outer : List PySem.Env) (s : Shared) (H : Hp) (Q : VK) (E : XK), Room k (A.deeper (envOfC qual (defScope st) s.heap.objs.size a cdv)) →
      ∃ t, PSs (cxOf (L2N.CX P w) P w K mg base N qual (defScope st) a cdv A outer s H E) (defBody st) t ∧ ∀ (x0 : A0) (x1 : A1) (x2 : A2) (x3 : A3) (x4 : A4), pre x0 x1 x2 x3 x4 → ∀ (W : Wd) (D : Ends), W.K = K → (∀ σ R, D.nx σ R = D.rt .non R) → (bad x0 x1 x2 x3 x4 = false → RetD W D (f x0 x1 x2 x3 x4)) → (bad x0 x1 x2 x3 x4 = true → ∀ H' R', Gr W.H0 W.R0 H' R' → E (.ref cls) none R') → Go W t D (.dat i0 x0 :: .dat i1 x1 :: .dat i2 x2 :: .dat i3 x3 :: .dat i4 x4 :: us)) : FnOk P w K mg base (L2N.CX P w) (k + 1) a fd ps (sx5 K pre bad cls f) := by
  refine okN F S (fun vs H Q E h => ?_) (fun cdv A outer s R vs Q E hr h => ?_)
  · obtain ⟨x0, x1, x2, x3, x4, v0, v1, v2, v3, v4, H, rfl, _⟩ := h
    exact hps.symm
  · obtain ⟨x0, x1, x2, x3, x4, v0, v1, v2, v3, v4, H, rfl, e, r0, r1, r2, r3, r4, hp, q, qx⟩ := h
    obtain ⟨t, h1, h2⟩ := hbody cdv A outer s R Q E hr
    subst hus
    exact ⟨t, h1, h2 x0 x1 x2 x3 x4 hp ⟨K, H, R, H⟩ _ rfl (fun _ _ => rfl) (fun hb v H' R' g r => q hb v H' R' g r) (fun hb H' R' g => qx hb H' R' g) _ H R (Ex.refl H) (Gr.refl e) (Env.start (Are.cons (s := Slot.dat i0 x0) r0 (Are.cons (s := Slot.dat i1 x1) r1 (Are.cons (s := Slot.dat i2 x2) r2 (Are.cons (s := Slot.dat i3 x3) r3 (Are.cons (s := Slot.dat i4 x4) r4 Are.nil))))) rfl)⟩
end
/-- a def of 6 that hands back f of its data -/
def sp6 {A0 A1 A2 A3 A4 A5 C : Type} [i0 : Py A0] [i1 : Py A1] [i2 : Py A2] [i3 : Py A3] [i4 : Py A4] [i5 : Py A5] [ic : Py C] (K : PySem.W.Frag) (pre : A0 → A1 → A2 → A3 → A4 → A5 → Prop) (f : A0 → A1 → A2 → A3 → A4 → A5 → C) : Sp := fun vs R Q _ => ∃ (x0 : A0) (x1 : A1) (x2 : A2) (x3 : A3) (x4 : A4) (x5 : A5) (v0 v1 v2 v3 v4 v5 : V) (H : Hp), vs = [v0, v1, v2, v3, v4, v5] ∧ Ex H R ∧ i0.rel K x0 v0 H ∧ i1.rel K x1 v1 H ∧ i2.rel K x2 v2 H ∧ i3.rel K x3 v3 H ∧ i4.rel K x4 v4 H ∧ i5.rel K x5 v5 H ∧ pre x0 x1 x2 x3 x4 x5 ∧
  ∀ v H' R', Gr H R H' R' → ic.rel K (f x0 x1 x2 x3 x4 x5) v H' → Q v R'
/-- .. and raises C where bad -/
def sx6 {A0 A1 A2 A3 A4 A5 C : Type} [i0 : Py A0] [i1 : Py A1] [i2 : Py A2] [i3 : Py A3] [i4 : Py A4] [i5 : Py A5] [ic : Py C] (K : PySem.W.Frag) (pre : A0 → A1 → A2 → A3 → A4 → A5 → Prop) (bad : A0 → A1 → A2 → A3 → A4 → A5 → Bool) (cls : Addr) (f : A0 → A1 → A2 → A3 → A4 → A5 → C) : Sp := fun vs R Q E => ∃ (x0 : A0) (x1 : A1) (x2 : A2) (x3 : A3) (x4 : A4) (x5 : A5) (v0 v1 v2 v3 v4 v5 : V) (H : Hp), vs = [v0, v1, v2, v3, v4, v5] ∧ Ex H R ∧ i0.rel K x0 v0 H ∧ i1.rel K x1 v1 H ∧ i2.rel K x2 v2 H ∧ i3.rel K x3 v3 H ∧ i4.rel K x4 v4 H ∧ i5.rel K x5 v5 H ∧ pre x0 x1 x2 x3 x4 x5 ∧
  (bad x0 x1 x2 x3 x4 x5 = false → ∀ v H' R', Gr H R H' R' → ic.rel K (f x0 x1 x2 x3 x4 x5) v H' → Q v R') ∧ (bad x0 x1 x2 x3 x4 x5 = true → ∀ H' R', Gr H R H' R' → E (.ref cls) none R')
theorem evx_call6 {A0 A1 A2 A3 A4 A5 C : Type} {i0 : Py A0} {i1 : Py A1} {i2 : Py A2} {i3 : Py A3} {i4 : Py A4} {i5 : Py A5} {ic : Py C} {K : PySem.W.Frag} {Γ : Ctx} {pre : A0 → A1 → A2 → A3 → A4 → A5 → Prop} {f : A0 → A1 → A2 → A3 → A4 → A5 → C} {x0 : A0} {x1 : A1} {x2 : A2} {x3 : A3} {x4 : A4} {x5 : A5} {t0 t1 t2 t3 t4 t5 : TE} {E0 : XK} (h0 : Evx K t0 Γ x0) (h1 : Evx K t1 Γ x1) (h2 : Evx K t2 Γ x2) (h3 : Evx K t3 Γ x3) (h4 : Evx K t4 Γ x4) (h5 : Evx K t5 Γ x5) (hp : pre x0 x1 x2 x3 x4 x5) : Evx K (tCall (sp6 K pre f) [] E0 (tCons t0 (tCons t1 (tCons t2 (tCons t3 (tCons t4 (tCons t5 tNil))))))) Γ (f x0 x1 x2 x3 x4 x5) := fun σ R0 H R e E Q k =>
  h0 σ R0 H R e E _ fun u0 H0 S0 g0 r0 => h1 σ R0 H0 S0 g0.inn (E.grow g0) _ fun u1 H1 S1 g1 r1 => h2 σ R0 H1 S1 g1.inn ((E.grow g0).grow g1) _ fun u2 H2 S2 g2 r2 => h3 σ R0 H2 S2 g2.inn (((E.grow g0).grow g1).grow g2) _ fun u3 H3 S3 g3 r3 => h4 σ R0 H3 S3 g3.inn ((((E.grow g0).grow g1).grow g2).grow g3) _ fun u4 H4 S4 g4 r4 => h5 σ R0 H4 S4 g4.inn (((((E.grow g0).grow g1).grow g2).grow g3).grow g4) _ fun u5 H5 S5 g5 r5 => 
  ⟨x0, x1, x2, x3, x4, x5, u0, u1, u2, u3, u4, u5, H5, rfl, g5.inn, i0.mono ((((((Ex.refl _).trans g1.up).trans g2.up).trans g3.up).trans g4.up).trans g5.up) r0, i1.mono (((((Ex.refl _).trans g2.up).trans g3.up).trans g4.up).trans g5.up) r1, i2.mono ((((Ex.refl _).trans g3.up).trans g4.up).trans g5.up) r2, i3.mono (((Ex.refl _).trans g4.up).trans g5.up) r3, i4.mono ((Ex.refl _).trans g5.up) r4, i5.mono (Ex.refl _) r5, hp, fun v H' R' g' r' => k v H' R' ((g0.trans (g1.trans (g2.trans (g3.trans (g4.trans g5))))).trans g') r'⟩
theorem evx_callx6 {A0 A1 A2 A3 A4 A5 C : Type} {i0 : Py A0} {i1 : Py A1} {i2 : Py A2} {i3 : Py A3} {i4 : Py A4} {i5 : Py A5} {ic : Py C} {K : PySem.W.Frag} {Γ : Ctx} {pre : A0 → A1 → A2 → A3 → A4 → A5 → Prop} {bad : A0 → A1 → A2 → A3 → A4 → A5 → Bool} {cls : Addr} {f : A0 → A1 → A2 → A3 → A4 → A5 → C} {x0 : A0} {x1 : A1} {x2 : A2} {x3 : A3} {x4 : A4} {x5 : A5} {t0 t1 t2 t3 t4 t5 : TE} {E0 : XK} (h0 : Evx K t0 Γ x0) (h1 : Evx K t1 Γ x1) (h2 : Evx K t2 Γ x2) (h3 : Evx K t3 Γ x3) (h4 : Evx K t4 Γ x4) (h5 : Evx K t5 Γ x5) (hp : pre x0 x1 x2 x3 x4 x5) (hb : bad x0 x1 x2 x3 x4 x5 = false) : Evx K (tCall (sx6 K pre bad cls f) [] E0 (tCons t0 (tCons t1 (tCons t2 (tCons t3 (tCons t4 (tCons t5 tNil))))))) Γ (f x0 x1 x2 x3 x4 x5) := fun σ R0 H R e E Q k =>
  h0 σ R0 H R e E _ fun u0 H0 S0 g0 r0 => h1 σ R0 H0 S0 g0.inn (E.grow g0) _ fun u1 H1 S1 g1 r1 => h2 σ R0 H1 S1 g1.inn ((E.grow g0).grow g1) _ fun u2 H2 S2 g2 r2 => h3 σ R0 H2 S2 g2.inn (((E.grow g0).grow g1).grow g2) _ fun u3 H3 S3 g3 r3 => h4 σ R0 H3 S3 g3.inn ((((E.grow g0).grow g1).grow g2).grow g3) _ fun u4 H4 S4 g4 r4 => h5 σ R0 H4 S4 g4.inn (((((E.grow g0).grow g1).grow g2).grow g3).grow g4) _ fun u5 H5 S5 g5 r5 => 
  ⟨x0, x1, x2, x3, x4, x5, u0, u1, u2, u3, u4, u5, H5, rfl, g5.inn, i0.mono ((((((Ex.refl _).trans g1.up).trans g2.up).trans g3.up).trans g4.up).trans g5.up) r0, i1.mono (((((Ex.refl _).trans g2.up).trans g3.up).trans g4.up).trans g5.up) r1, i2.mono ((((Ex.refl _).trans g3.up).trans g4.up).trans g5.up) r2, i3.mono (((Ex.refl _).trans g4.up).trans g5.up) r3, i4.mono ((Ex.refl _).trans g5.up) r4, i5.mono (Ex.refl _) r5, hp, fun _ v H' R' g' r' => k v H' R' ((g0.trans (g1.trans (g2.trans (g3.trans (g4.trans g5))))).trans g') r', fun z => by rw [hb] at z; cases z⟩
section
variable {P : Program} {w : World} {K : PySem.W.Frag} {mg : Str → Option Value} {base : Heap}
theorem def6 {A0 A1 A2 A3 A4 A5 C : Type} [i0 : Py A0] [i1 : Py A1] [i2 : Py A2] [i3 : Py A3] [i4 : Py A4] [i5 : Py A5] [ic : Py C] {x qual : Str} {st : Stmt} {a : Addr} {fd : FuncData} {N ps : List Str} {k : Nat} {pre : A0 → A1 → A2 → A3 → A4 → A5 → Prop} {f : A0 → A1 → A2 → A3 → A4 → A5 → C} (F : Fun K x qual st a fd) (S : FnScope N ps (defScope st)) (hps : ps.length = 6) (us : Ctx) (hus : us = List.replicate (N.length - 6) Slot.un)
    (hbody : ∀ (cdv : Value) (A : Around) (outer : List PySem.Env) (s : Shared) (H : Hp) (Q : VK) (E : XK), Room k (A.deeper (envOfC qual (defScope st) s.heap.objs.size a cdv)) →
      ∃ t, PSs (cxOf CX0 P w K mg base N qual (defScope st) a cdv A outer s H E).nox (defBody st) t ∧ ∀ (x0 : A0) (x1 : A1) (x2 : A2) (x3 : A3) (x4 : A4) (x5 : A5), pre x0 x1 x2 x3 x4 x5 → ∀ (W : Wd) (D : Ends), W.K = K → (∀ σ R, D.nx σ R = D.rt .non R) → RetD W D (f x0 x1 x2 x3 x4 x5) → Go W t D (.dat i0 x0 :: .dat i1 x1 :: .dat i2 x2 :: .dat i3 x3 :: .dat i4 x4 :: .dat i5 x5 :: us)) : FnOk P w K mg base CX0 (k + 1) a fd ps (sp6 K pre f) := by
  refine F.ok S (fun vs H Q E h => ?_) (fun cdv A outer s R vs Q E hr h => ?_)
  · obtain ⟨x0, x1, x2, x3, x4, x5, v0, v1, v2, v3, v4, v5, H, rfl, _⟩ := h
    exact hps.symm
  · obtain ⟨x0, x1, x2, x3, x4, x5, v0, v1, v2, v3, v4, v5, H, rfl, e, r0, r1, r2, r3, r4, r5, hp, q⟩ := h
    obtain ⟨t, h1, h2⟩ := hbody cdv A outer s R Q E hr
    subst hus
    exact ⟨t, h1, h2 x0 x1 x2 x3 x4 x5 hp ⟨K, H, R, H⟩ _ rfl (fun _ _ => rfl) (fun v H' R' g r => q v H' R' g r) _ H R (Ex.refl H) (Gr.refl e) (Env.start (Are.cons (s := Slot.dat i0 x0) r0 (Are.cons (s := Slot.dat i1 x1) r1 (Are.cons (s := Slot.dat i2 x2) r2 (Are.cons (s := Slot.dat i3 x3) r3 (Are.cons (s := Slot.dat i4 x4) r4 (Are.cons (s := Slot.dat i5 x5) r5 Are.nil)))))) rfl)⟩
theorem defx6 {A0 A1 A2 A3 A4 A5 C : Type} [i0 : Py A0] [i1 : Py A1] [i2 : Py A2] [i3 : Py A3] [i4 : Py A4] [i5 : Py A5] [ic : Py C] {x qual : Str} {st : Stmt} {a : Addr} {fd : FuncData} {N ps : List Str} {k : Nat} {pre : A0 → A1 → A2 → A3 → A4 → A5 → Prop} {bad : A0 → A1 → A2 → A3 → A4 → A5 → Bool} {cls : Addr} {f : A0 → A1 → A2 → A3 → A4 → A5 → C} (F : Fun K x qual st a fd) (S : FnScope N ps (defScope st)) (hps : ps.length = 6) (us : Ctx) (hus : us = List.replicate (N.length - 6) Slot.un)
    (hbody : ∀ (cdv : Value) (A : Around) (outer : List PySem.Env) (s : Shared) (H : Hp) (Q : VK) (E : XK), Room k (A.deeper (envOfC qual (defScope st) s.heap.objs.size a cdv)) →
      ∃ t, PSs (cxOf (L2N.CX P w) P w K mg base N qual (defScope st) a cdv A outer s H E) (defBody st) t ∧ ∀ (x0 : A0) (x1 : A1) (x2 : A2) (x3 : A3) (x4 : A4) (x5 : A5), pre x0 x1 x2 x3 x4 x5 → ∀ (W : Wd) (D : Ends), W.K = K → (∀ σ R, D.nx σ R = D.rt .non R) → (bad x0 x1 x2 x3 x4 x5 = false → RetD W D (f x0 x1 x2 x3 x4 x5)) → (bad x0 x1 x2 x3 x4 x5 = true → ∀ H' R', Gr W.H0 W.R0 H' R' → E (.ref cls) none R') → Go W t D (.dat i0 x0 :: .dat i1 x1 :: .dat i2 x2 :: .dat i3 x3 :: .dat i4 x4 :: .dat i5 x5 :: us)) : FnOk P w K mg base (L2N.CX P w) (k + 1) a fd ps (sx6 K pre bad cls f) := by
  refine okN F S (fun vs H Q E h => ?_) (fun cdv A outer s R vs Q E hr h => ?_)
  · obtain ⟨x0, x1, x2, x3, x4, x5, v0, v1, v2, v3, v4, v5, H, rfl, _⟩ := h
    exact hps.symm
  · obtain ⟨x0, x1, x2, x3, x4, x5, v0, v1, v2, v3, v4, v5, H, rfl, e, r0, r1, r2, r3, r4, r5, hp, q, qx⟩ := h
    obtain ⟨t, h1, h2⟩ := hbody cdv A outer s R Q E hr
    subst hus
    exact ⟨t, h1, h2 x0 x1 x2 x3 x4 x5 hp ⟨K, H, R, H⟩ _ rfl (fun _ _ => rfl) (fun hb v H' R' g r => q hb v H' R' g r) (fun hb H' R' g => qx hb H' R' g) _ H R (Ex.refl H) (Gr.refl e) (Env.start (Are.cons (s := Slot.dat i0 x0) r0 (Are.cons (s := Slot.dat i1 x1) r1 (Are.cons (s := Slot.dat i2 x2) r2 (Are.cons (s := Slot.dat i3 x3) r3 (Are.cons (s := Slot.dat i4 x4) r4 (Are.cons (s := Slot.dat i5 x5) r5 Are.nil)))))) rfl)⟩
end
end Dn

/-! Dn, further rules of the text: sorted(set(list)), chains of three, defs and classes in bundles, own errors. -/
namespace Dn
open PySem PySem.Spec PyProof.Rows L2
section
variable {P : Program} {w : World} {A : Around} {E : Value → Shared → Prop} {s : Shared}
/-- the empty set that set.__new__ lays -/
abbrev nilSet (w : World) : Obj := { cls := .type "set", dict := none, data := .set #[] 0 (.fresh 0 0 (!w.params.followText "set-order")) }
/-- set(l), l a list of whole numbers -/
theorem made_set {l : Addr} {arr : Array Value} (ns : List Int) {Qn : Value → Shared → Prop} (calmA : A.handled = none) (isl : s.heap.IsList l arr) (hI : IntsAre arr.toList ns) (room : ns.length + 1 < scanBound)
    (fin : ∀ (g : Heap) (tk c : Nat), SetR w g s.heap.objs.size (fun j => decide (j ∈ ns)) c → (∀ b o, s.heap.get? b = some o → g.get? b = some o) → Qn (.ref s.heap.objs.size) { s with heap := g, toks := tk }) :
    wpAny (model P w) A (call (.type "set") [.ref l]) Qn E s := by
  have sizes : arr.size = ns.length := by
    have q := IntsAre.length hI
    rw [Array.length_toList] at q
    exact q
  obtain ⟨mc, mt, mro⟩ := F.called_set.mro
  have f1 := F.called_set.made
  have f2 := F.called_set.sub
  have f3 := F.called_set.notType
  have f4 := F.called_set.canCreate
  have f5 := F.typeCall_set_1 (.ref l)
  refine wpAny_call (codeAny_of_tree ?_)
  show wpAny _ _ (callAny (.type "set") _) _ _ _
  refine wpAny_pure ⟨Code.quiet_builtin _ (by decide +kernel), codeAny_builtin F.entry_type_call ?_⟩
  rw [Around.under_plain (weight_type_call_type "set" [.ref l] []) rfl]
  repeat (any_goals (first | assumption | wp_step))
  refine codeAny_mono (code_set_led1 (.ref l) (E := E) (Q₁ := fun v t => v = .ref s.heap.objs.size ∧ t = { s with heap := s.heap.push (nilSet w) }) ⟨rfl, rfl⟩) fun r t hr => ?_
  match r, hr with
  | .error e, hr => exact hr
  | .ok .next, hr => exact hr.elim
  | .ok .brk, hr => exact hr.elim
  | .ok .cont, hr => exact hr.elim
  | .ok (.ret v), hr =>
    obtain ⟨ev, et⟩ := hr
    subst ev
    subst et
    have gotS : (s.heap.push (nilSet w)).get? s.heap.objs.size = some (nilSet w) := Heap.get?_push_size _ rfl
    have tyS : Shared.TypeIs { s with heap := s.heap.push (nilSet w) } (.ref s.heap.objs.size) "set" := ⟨_, gotS, rfl⟩
    have i1 := F.called_set.init.lookup
    have i2 := F.called_set.init.bind (.ref s.heap.objs.size)
    repeat (any_goals (first | assumption | wp_step))
    refine codeAny_mono (codeAny_call_builtin (R := wants (fun v t => v = .none ∧ ∃ g tk c, t = { s with heap := g, toks := tk } ∧ SetR w g s.heap.objs.size (fun j => decide (j ∈ ns)) c ∧ ∀ b o, s.heap.get? b = some o → g.get? b = some o) E)
      F.called_set.init.plain F.entry_set_init (check_set_init_1 tyS ?_)) fun r2 t2 hr2 => ?_
    · obtain ⟨ob, hob, kl, cap, dat⟩ := isl
      obtain ⟨c0, d0, da0, sl0⟩ := ob
      simp only at kl dat
      subst kl
      subst dat
      have hob1 : (s.heap.push (nilSet w)).get? l = some { cls := .type "list", dict := d0, data := .seq arr cap, slots := sl0 } := Heap.get?_push_of_some _ hob
      have notSet := F.sub_list_set
      have notFrozen := F.sub_list_frozenset
      have notDict : (Value.type "list" == Value.type "dict") = false := by decide
      have isl1 : (s.heap.push (nilSet w)).IsList l arr := ⟨_, hob1, rfl, cap, rfl⟩
      have before : l < s.heap.objs.size := Heap.lt_size hob
      unfold Builtin.«set.__init__» noKeywords Builtin.Frozenset.updateFrom
      generalize walk : pyIter = itr
      wp_walk
      subst walk
      refine wpAny_pyIter_list isl1 ?_
      refine wpAny_bind (wpAny_runValue ?_)
      have calm3 : A.in1.in1.in1.handled = none := by simp [calmA]
      have apart : l ≠ (s.heap.push (nilSet w)).objs.size := by
        rw [Heap.size_push]
        exact Nat.ne_of_lt (Nat.lt_succ_of_lt before)
      have outS : s.heap.objs.size ∉ [(s.heap.push (nilSet w)).objs.size, l] := by
        rw [Heap.size_push]
        simp only [List.mem_cons, List.mem_singleton, List.not_mem_nil, or_false, not_or]
        exact ⟨Nat.ne_of_lt (Nat.lt_succ_self _), Nat.ne_of_gt before⟩
      have each : ∀ (i : Nat) (v : Value), arr[i]? = some v → ∃ k t, ns[i]? = some k ∧ v = .int k t := fun i v hv => by
        have hi : i < ns.length := by
          rw [← sizes]
          exact (Array.getElem?_eq_some_iff.mp hv).1
        obtain ⟨t, e⟩ := PyProof.Rows.IntsAre.int_at hI i v (by rw [Array.getElem?_toList]; exact hv)
        refine ⟨ns[i], t, List.getElem?_eq_getElem hi, ?_⟩
        rw [e, List.getD_eq_getElem?_getD, List.getElem?_eq_getElem hi] <;> rfl
      refine set_update_ints ((Walks.list calm3 _ l apart arr).toS) s.heap.objs.size outS ns sizes room each (arr.size - 0) 0 _ (by omega) (Nat.zero_le _)
        ⟨⟨_, Heap.get?_push_size _ rfl, rfl, rfl⟩, (isl1.push _)⟩ ⟨0, Nat.le_refl 0, setR_new_at (Heap.get?_push_of_some _ gotS)⟩ ?_
      intro t c moved _ full
      obtain ⟨g, gs, dr, tk, os⟩ := t
      have e1 : gs = s.gens := moved.gens
      have e2 : dr = s.drawn := moved.drawn
      have e3 : os = s.os := moved.os
      subst e1
      subst e2
      subst e3
      show wpAny _ _ _ _ _ _
      refine wpAny_pure ?_
      show wpAny _ _ (ret Value.none) _ _ _
      refine wpAny_pure ⟨rfl, g, tk, c, rfl, full, fun b o e => ?_⟩
      have lt : b < s.heap.objs.size := Heap.lt_size e
      have n2 : b ≠ (s.heap.push (nilSet w)).objs.size := by
        rw [Heap.size_push]
        exact Nat.ne_of_lt (Nat.lt_succ_of_lt lt)
      exact moved.heap b o (by simp only [List.mem_cons, List.mem_singleton, List.not_mem_nil, or_false, not_or]; exact ⟨Nat.ne_of_lt lt, n2⟩) (Heap.get?_push_of_some _ (Heap.get?_push_of_some _ e))
    · match r2, hr2 with
      | .error e, hr2 => exact hr2
      | .ok .next, hr2 => exact hr2.elim
      | .ok .brk, hr2 => exact hr2.elim
      | .ok .cont, hr2 => exact hr2.elim
      | .ok (.ret v), hr2 =>
        obtain ⟨ev, g, tk, c, et, full, kept⟩ := hr2
        subst ev
        subst et
        repeat (any_goals (first | assumption | wp_step))
        exact fin _ _ _ full kept
end
end Dn

namespace Dn
open PySem PySem.Spec PyProof.Rows L2 Dx
/-! ### a rising list of the same whole numbers, and there is but one -/
theorem nodup_small : ∀ (m : Nat) (l : List Int), l.Nodup → (∀ k ∈ l, 0 ≤ k ∧ k < (m : Int)) → l.length ≤ m
  | 0, [], _, _ => Nat.le_refl _
  | 0, k :: _, _, h => by
    have := h k List.mem_cons_self
    omega
  | m + 1, l, hn, h => by
    have h1 := nodup_small m (l.erase (m : Int)) (hn.erase _) fun k hk => by
      have q := (hn.mem_erase_iff.mp hk)
      have := h k q.2
      have : k ≠ (m : Int) := q.1
      omega
    by_cases q : (m : Int) ∈ l
    · have e := List.length_erase_of_mem q
      omega
    · rw [List.erase_of_not_mem q] at h1
      omega
theorem rising_one : ∀ {xs ys : List Int}, xs.Pairwise (· < ·) → ys.Pairwise (· < ·) → (∀ k, k ∈ xs ↔ k ∈ ys) → xs = ys
  | [], [], _, _, _ => rfl
  | [], y :: _, _, _, h => absurd ((h y).mpr List.mem_cons_self) (by simp)
  | x :: _, [], _, _, h => absurd ((h x).mp List.mem_cons_self) (by simp)
  | x :: xs, y :: ys, hx, hy, h => by
    rw [List.pairwise_cons] at hx hy
    have e : x = y := by
      rcases List.mem_cons.mp ((h x).mp List.mem_cons_self) with q | q
      · exact q
      · have h1 := hy.1 x q
        rcases List.mem_cons.mp ((h y).mpr List.mem_cons_self) with z | z
        · exact z.symm
        · have h2 := hx.1 y z
          omega
    subst e
    have t := rising_one hx.2 hy.2 fun k => ⟨fun hk => by
      rcases List.mem_cons.mp ((h k).mp (List.mem_cons_of_mem _ hk)) with z | z
      · have := hx.1 k hk
        omega
      · exact z, fun hk => by
      rcases List.mem_cons.mp ((h k).mpr (List.mem_cons_of_mem _ hk)) with z | z
      · have := hy.1 k hk
        omega
      · exact z⟩
    rw [t]
theorem ints_of_vals : ∀ {ns : List Int} {us : List Value}, Vals (ns.map V.int) us → IntsAre us ns
  | [], _, h => by
    cases h
    exact .nil
  | n :: ns, _, h => by
    cases h with
    | cons r t =>
      obtain ⟨k, rfl⟩ := r
      exact .cons n k (ints_of_vals t)
/-- the members, rising -/
def rise (ns : List Int) : List Int := ((List.range 63).filter fun k => decide (((k : Nat) : Int) ∈ ns)).map fun k => ((k : Nat) : Int)
theorem rise_up (ns : List Int) : (rise ns).Pairwise (· < ·) := by
  unfold rise
  rw [List.pairwise_map]
  refine (List.Pairwise.sublist List.filter_sublist (List.pairwise_lt_range (n := 63))).imp ?_
  intro a b h
  omega
theorem rise_mem {ns : List Int} (h : ∀ k ∈ ns, 0 ≤ k ∧ k < 63) (k : Int) : k ∈ rise ns ↔ k ∈ ns := by
  unfold rise
  rw [List.mem_map]
  constructor
  · rintro ⟨j, hj, rfl⟩
    exact of_decide_eq_true (List.mem_filter.mp hj).2
  · intro hk
    have := h k hk
    refine ⟨k.toNat, List.mem_filter.mpr ⟨List.mem_range.mpr (by omega), ?_⟩, by omega⟩
    have e : ((k.toNat : Nat) : Int) = k := by omega
    rw [e]
    exact decide_eq_true hk
section
variable {X : Cx}
/-- set(xs), sorted(s), s a set of whole numbers from 0 on below 63 -/
def rSetOf (K : PySem.W.Frag) (w : World) : List V → Hp → VK → Prop := fun vs H Q => ∃ (l : Addr) (ns : List Int), vs = [.ref l] ∧ SqL K H l (ns.map V.int) ∧ ns.length ≤ 4000 ∧ ∀ (c : Nat) (z : Addr), H z = none → Q (.ref z) (upd H z (SetO w z (fun j => decide (j ∈ ns)) c))
def rSortOf (w : World) : List V → Hp → VK → Prop := fun vs H Q => ∃ (z : Addr) (ns : List Int) (c : Nat), vs = [V.ref z] ∧ H z = some (SetO w z (fun j => decide (j ∈ ns)) c) ∧ (∀ k ∈ ns, 0 ≤ k ∧ k < 63) ∧ ∀ p, H p = none → Q (.ref p) (upd H p (.lst ((rise ns).map V.int)))
theorem call_setof (hc : X.calm = true) : CallR X (.type "set") (rSetOf X.K X.w) := by
  intro pins s σ H vs us Q I r h
  obtain ⟨l, ns, rfl, hq, hl, k⟩ := h
  rw [Vals.ref1 r]
  obtain ⟨its, r, pl, hz⟩ := I.list hq
  have hi : IntsAre its ns := ints_of_vals r
  refine made_set (arr := its.toArray) ns (I.ok.hd hc) pl.isList (by simpa using hi) (by unfold scanBound; omega) fun g tk c R kept => ?_
  exact ⟨.ref _, upd H s.heap.objs.size (SetO X.w s.heap.objs.size (fun j => decide (j ∈ ns)) c), I.laid (t' := tk) kept (Nat.le_refl _) (setO_new R), rfl, k c _ (I.hok.fresh (Nat.le_refl _))⟩
theorem call_sortof (hc : X.calm = true) : CallR X (.builtin "sorted") (rSortOf X.w) := by
  intro pins s σ H vs us Q I r h
  obtain ⟨z, ns, c, rfl, hz, hs, k⟩ := h
  have R := setO_get I hz
  have hc64 : c < 64 := by
    obtain ⟨o, es, ep, t, _, _, _, _, nd, hm, _, _, hn, _⟩ := R
    have q := nodup_small 63 _ nd fun k hk => by
      have q2 : decide (k ∈ ns) = true := (hm k).mpr hk
      exact hs k (of_decide_eq_true q2)
    rw [List.length_map, Array.length_toList] at q
    omega
  refine cr_sortedSet hc pins s σ H [V.ref z] us Q I r ⟨z, _, c, rfl, hz, hc64, fun ms p h1 h2 _ hp => ?_⟩
  have e : ms = rise ns := rising_one h1 (rise_up ns) fun j => by rw [h2 j, decide_eq_true_iff, rise_mem hs]
  rw [e]
  exact k p hp
/-- sorted(set(xs)) -/
def tSortSet (K : PySem.W.Frag) (w : World) (ta : TE) : TE := tCB (rSortOf w) (tCons (tCB (rSetOf K w) (tCons ta tNil)) tNil)
theorem boot_sorted' : bootBuiltins "sorted" = some (.builtin "sorted") := by decide +kernel
theorem pe_sortset {a : Expr} {ta : TE} {p p2 q pos : Pos} (hc : X.calm = true) (hg : Gl X "sorted") (hm : X.mg "sorted" = none) (hg2 : Gl X "set") (hm2 : X.mg "set" = none) (ha : PE X a ta)
    (na : starEach [a] X.env = (false, eval a X.env) :: starEach [] X.env := by rfl) : PE X (.Call (.Name "sorted" p) [.Call (.Name "set" p2) [a] [] q] [] pos) (tSortSet X.K X.w ta) :=
  pe_callB (call_sortof hc) hg hm boot_sorted' (pa_cons (pe_callTy (call_setof hc) hg2 hm2 boot_set (pa_cons ha pa_nil (hs := na)) (he := na)) pa_nil)
theorem evl_sortset {K : PySem.W.Frag} {w : World} {Γ : Ctx} {ta : TE} {ns : List Int} (ha : Evx K ta Γ ns) (hl : ns.length ≤ 4000) (hs : ∀ k ∈ ns, 0 ≤ k ∧ k < 63) : Evl K (tSortSet K w ta) Γ (rise ns) := fun σ R0 H R e E Q k =>
  ha σ R0 H R e E _ fun v H1 R1 g1 r1 => by
    obtain ⟨a, rfl, h1⟩ := list_ints r1
    refine ⟨a, ns, rfl, sq_of (g1.inn a _ h1), hl, fun c z hz => ⟨z, ns, c, rfl, upd_same, hs, fun p hp => ?_⟩⟩
    have ga := Gr.alloc (o := SetO w z (fun j => decide (j ∈ ns)) c) g1.inn hz
    have gb := Gr.alloc (o := HO.lst ((rise ns).map V.int)) ga.inn hp
    exact k p _ H1 _ (g1.trans (ga.trans gb)) (fresh_back ga.inn hp) (fresh_back (g1.keep.trans ga.keep) hp) upd_same (ints_rel _)

theorem cmul_r {i j : Int} (h : -(2 ^ 64) < j ∧ j < 2 ^ 64) : CMul i j := .inr h
theorem cmul_l {i j : Int} (h : -(2 ^ 64) < i ∧ i < 2 ^ 64) : CMul i j := .inl h
theorem cpow_of {i j : Int} (h : 0 ≤ j ∧ j ≤ 1000000 ∧ i.natAbs < 2 ^ 64) : CPow i j := h
theorem go_fall {W : Wd} {t : TS} {D : Ends} {Γ : Ctx} (h : Go W t D Γ) : Go W tNext { D with nx := t D } Γ := h
/-! ### chains of three -/
def tChain3 (r r' r'' : R2) (ta tb tc td : TE) : TE := fun σ H Q => ta σ H fun x H1 => tb σ H1 fun y H2 => r x y H2 fun z H3 => ∃ k, z = .bl k ∧
  (if k = true then tc σ H3 fun x2 H4 => r' y x2 H4 fun z2 H5 => ∃ k2, z2 = .bl k2 ∧ (if k2 = true then td σ H5 fun x3 H6 => r'' x2 x3 H6 Q else Q (.bl false) H5) else Q (.bl false) H3)
theorem pt_chain3 {o1 o2 o3 : CmpOp} {r1 r2 r3 : R2} {a b c d : Expr} {ta tb tc td : TE} {pos : Pos} (h1 : OpR X (compareOp o1) r1) (h2 : OpR X (compareOp o2) r2) (h3 : OpR X (compareOp o3) r3) (ha : PE X a ta) (hb : PE X b tb) (hc : PE X c tc) (hd : PE X d td)
    (hm : lastMarks [o1, o2, o3] [b, c, d] = false := by with_unfolding_all rfl) : PT X (.Compare a [o1, o2, o3] [b, c, d] pos) (tTest (tChain3 r1 r2 r3 ta tb tc td)) := by
  refine ⟨fun pins s σ H Q I hq => ?_⟩
  refine isTrue_chain (thn (ha.run pins s σ H _ I hq) fun v s1 ⟨x, H1, I1, q1, w1⟩ => test_link (thn (hb.run pins s1 σ H1 _ I1 w1) fun u s2 ⟨y, H2, I2, q2, w2⟩ =>
    thn (h1 pins s2 σ H2 x y v u _ I2 q1 q2 w2) fun t s3 ⟨z, H3, I3, q3, k, e, w3⟩ => ?_)) hm
  subst e
  cases q3
  refine wpAny_truthy_bool ?_
  cases k with
  | false =>
    obtain ⟨k', e', q'⟩ := w3
    cases e'
    exact ite_ff ⟨H3, I3, q'⟩
  | true =>
    refine ite_tt (test_link (thn (hc.run pins s3 σ H3 _ I3 w3) fun u4 s4 ⟨y4, H4, I4, q4, w4⟩ => thn (h2 pins s4 σ H4 y y4 u u4 _ I4 q2 q4 w4) fun t5 s5 ⟨z5, H5, I5, q5, k5, e5, w5⟩ => ?_))
    subst e5
    cases q5
    refine wpAny_truthy_bool ?_
    cases k5 with
    | false =>
      obtain ⟨k', e', q'⟩ := w5
      cases e'
      exact ite_ff ⟨H5, I5, q'⟩
    | true =>
      refine ite_tt (test_last (thn (hd.run pins s5 σ H5 _ I5 w5) fun u6 s6 ⟨y6, H6, I6, q6, w6⟩ => thn (h3 pins s6 σ H6 y4 y6 u4 u6 _ I6 q4 q6 w6) fun t7 s7 ⟨z7, H7, I7, q7, k7, e7, w7⟩ => ?_))
      subst e7
      cases q7
      exact wpAny_truthy_bool ⟨H7, I7, w7⟩
theorem evx_chain3 {K : PySem.W.Frag} {Γ : Ctx} {ta tb tc td : TE} {g g' g'' : Int → Int → Bool} {i j l m : Int} (ha : Evx K ta Γ i) (hb : Evx K tb Γ j) (hc : g i j = true → Evx K tc Γ l) (hd : Evx K td Γ m) :
    Evx K (tChain3 (rI0 fun i j => .bl (g i j)) (rI0 fun i j => .bl (g' i j)) (rI0 fun i j => .bl (g'' i j)) ta tb tc td) Γ (g i j && g' j l && g'' l m) := fun σ R0 H R e E Q k =>
  ha σ R0 H R e E _ fun u H1 R1 g1 r1 => hb σ R0 H1 R1 g1.inn (E.grow g1) _ fun w H2 R2 g2 r2 => ⟨i, j, r1, r2, g i j, rfl, by
    cases q : g i j with
    | true => exact iteT (hc q σ R0 H2 R2 g2.inn ((E.grow g1).grow g2) _ fun z H3 R3 g3 r3 => ⟨j, l, r2, r3, g' j l, rfl, by
        cases q2 : g' j l with
        | true => exact iteT (hd σ R0 H3 R3 g3.inn (((E.grow g1).grow g2).grow g3) _ fun z4 H4 R4 g4 r4 => ⟨l, m, r3, r4, k _ H4 R4 (g1.trans (g2.trans (g3.trans g4))) (by rw [q, q2]; rfl)⟩)
        | false => exact iteF (k _ H3 R3 (g1.trans (g2.trans g3)) (by rw [q, q2]; rfl))⟩)
    | false => exact iteF (k _ H2 R2 (g1.trans g2) (by rw [q]; rfl))⟩

/-! ### defs and methods that may be called, in bundles -/
structure Cl (P : Program) (w : World) (K : PySem.W.Frag) (mg : Str → Option Value) (base : Heap) (CX : CXT) (k : Nat) (x : Str) (ps : List Str) (sp : Sp) : Prop where
  ex : ∃ (f : Addr) (fd : FuncData), FnOk P w K mg base CX k f fd ps sp ∧ mg x = some (.ref f) ∧ PySem.W.keepIn K (.ref f) = true ∧ Binds K fd ps []
/-- a def of the module as it stands behind the top -/
structure Df (K : PySem.W.Frag) (mg : Str → Option Value) (x qual : Str) (st : Stmt) (ps : List Str) : Prop where
  ex : ∃ (f : Addr) (fd : FuncData), Fun K x qual st f fd ∧ mg x = some (.ref f) ∧ Binds K fd ps []
theorem Df.cl {P : Program} {w : World} {K : PySem.W.Frag} {mg : Str → Option Value} {base : Heap} {CX : CXT} {k : Nat} {x qual : Str} {st : Stmt} {ps : List Str} {sp : Sp} (d : Df K mg x qual st ps) (h : ∀ f fd, Fun K x qual st f fd → FnOk P w K mg base CX k f fd ps sp) : Cl P w K mg base CX k x ps sp := by
  obtain ⟨f, fd, F, hm, hb⟩ := d.ex
  exact ⟨f, fd, h f fd F, hm, F.kp, hb⟩
theorem passN {X : Cx} : Passes (L2N.CX X.prog X.w) X E0 := fun _ _ _ _ _ _ _ h => by
  obtain ⟨_, _, _, _, _, _, _, _, _, _, _, _, z⟩ := h
  exact z.elim
section
variable {CX : CXT} {j k : Nat} {x m : Str} {ps : List Str} {sp : Sp} {E : XK} {p apos pos : Pos} {e o : Expr} {es : List Expr} {ta : TE} {t : TA}
theorem pe_cl (c : Cl X.prog X.w X.K X.mg X.base CX j x ps sp) (hr : Room k X.A) (hg : Gl X x) (hx : Passes CX X E) (ha : PA X (e :: es) t) (hk : j ≤ k := by decide) (hdb : (x == ("__debug__" : Str)) = false := by decide)
    (he : starEach (e :: es) X.env = (false, eval e X.env) :: starEach es X.env := by rfl) (hpl : (backTo pos (starEach es X.env)).any (·.1) = false := by rfl) : PE X (.Call (.Name x p) (e :: es) [] pos) (tCall sp [] E t) := by
  obtain ⟨f, fd, F, hm, kp, hb⟩ := c.ex
  exact pe_call F (hr.mono hk) hg hm kp hb .nil hx ha hdb he hpl
/-- a method of the class at C -/
structure Mt (P : Program) (w : World) (K : PySem.W.Frag) (mg : Str → Option Value) (base : Heap) (CX : CXT) (k : Nat) (C : Addr) (m : Str) (ps : List Str) (sp : Sp) : Prop where
  ex : ∃ (f : Addr) (fd : FuncData), Cls K C ∧ Meth K C m f ∧ FnOk P w K mg base CX k f fd ps sp ∧ Binds K fd ps []
theorem pe_mtc {C : Addr} {pl : Sem Bool} (c : Mt X.prog X.w X.K X.mg X.base CX j C m ps sp) (hr : Room k X.A) (ho : PE X o ta) (hx : Passes CX X E) (ha : PA X (e :: es) t) (hk : j ≤ k := by decide)
    (hst : starEach (e :: es) X.env = (false, eval e X.env) :: starEach es X.env := by rfl) (hpl : (backTo pos (starEach es X.env)).any (·.1) = false := by rfl)
    (ht : eval (.Call (.Attribute o m apos) (e :: es) [] pos) X.env = (do
      let ov ← eval o X.env
      standAt apos.atName
      let (f, first) ← holding [ov] (getMethod ov m pl)
      callWith pos f first (backTo pos (starEach (e :: es) X.env)) (backToKw pos (keywordEach [] X.env))) := by rfl) : PE X (.Call (.Attribute o m apos) (e :: es) [] pos) (tMeth C m sp [] E ta t) := by
  obtain ⟨f, fd, cl, me, F, hb⟩ := c.ex
  exact pe_meth ho cl me F (hr.mono hk) hb .nil hx ha hst hpl ht
theorem pe_mtc0 {C : Addr} {pl : Sem Bool} (c : Mt X.prog X.w X.K X.mg X.base CX j C m ps sp) (hr : Room k X.A) (ho : PE X o ta) (hx : Passes CX X E) (hk : j ≤ k := by decide)
    (ht : eval (.Call (.Attribute o m apos) [] [] pos) X.env = (do
      let ov ← eval o X.env
      standAt apos.atName
      let (f, first) ← holding [ov] (getMethod ov m pl)
      callWith pos f first (backTo pos (starEach [] X.env)) (backToKw pos (keywordEach [] X.env))) := by rfl) : PE X (.Call (.Attribute o m apos) [] [] pos) (tMeth C m sp [] E ta tNil) := by
  obtain ⟨f, fd, cl, me, F, hb⟩ := c.ex
  exact pe_meth0 ho cl me F (hr.mono hk) hb .nil hx ht
/-- an own class that is called -/
structure Mc (P : Program) (w : World) (K : PySem.W.Frag) (mg : Str → Option Value) (base : Heap) (CX : CXT) (k : Nat) (x : Str) (C : Addr) (ps : List Str) (sp : Sp) : Prop where
  ex : ∃ (f : Addr) (fd : FuncData), Mk K C f ∧ FnOk P w K mg base CX k f fd ps sp ∧ mg x = some (.ref C) ∧ Binds K fd ps []
theorem pe_mkc {C : Addr} (c : Mc X.prog X.w X.K X.mg X.base CX j x C ps sp) (hr : Room k X.A) (hg : Gl X x) (hx : Passes CX X E) (ha : PA X (e :: es) t) (hk : j + 1 ≤ k := by decide) (hdb : (x == ("__debug__" : Str)) = false := by decide)
    (he : starEach (e :: es) X.env = (false, eval e X.env) :: starEach es X.env := by rfl) (hpl : (backTo pos (starEach es X.env)).any (·.1) = false := by rfl) : PE X (.Call (.Name x p) (e :: es) [] pos) (tMake C sp [] E t) := by
  obtain ⟨f, fd, M, F, hm, hb⟩ := c.ex
  exact pe_make M F (hr.mono hk) hg hm hb .nil hx ha hdb he hpl
end
/-- the built-in names that the text does not hide -/
structure Gb (mg : Str → Option Value) : Prop where
  nb : ∀ x ∈ (["len", "range", "list", "sorted", "set", "isinstance", "max", "min", "str", "int", "bool", "tuple", "ValueError", "reversed", "enumerate", "zip", "sum", "any", "all", "abs", "dict"] : List Str), mg x = none
section
variable {mg : Str → Option Value}
theorem Gb.len (T : Gb mg) : mg "len" = none := T.nb _ (by decide +kernel)
theorem Gb.range (T : Gb mg) : mg "range" = none := T.nb _ (by decide +kernel)
theorem Gb.list (T : Gb mg) : mg "list" = none := T.nb _ (by decide +kernel)
theorem Gb.sorted (T : Gb mg) : mg "sorted" = none := T.nb _ (by decide +kernel)
theorem Gb.set (T : Gb mg) : mg "set" = none := T.nb _ (by decide +kernel)
theorem Gb.isinstance (T : Gb mg) : mg "isinstance" = none := T.nb _ (by decide +kernel)
theorem Gb.max (T : Gb mg) : mg "max" = none := T.nb _ (by decide +kernel)
theorem Gb.min (T : Gb mg) : mg "min" = none := T.nb _ (by decide +kernel)
theorem Gb.str (T : Gb mg) : mg "str" = none := T.nb _ (by decide +kernel)
theorem Gb.int (T : Gb mg) : mg "int" = none := T.nb _ (by decide +kernel)
theorem Gb.bool (T : Gb mg) : mg "bool" = none := T.nb _ (by decide +kernel)
theorem Gb.tuple (T : Gb mg) : mg "tuple" = none := T.nb _ (by decide +kernel)
theorem Gb.ValueError (T : Gb mg) : mg "ValueError" = none := T.nb _ (by decide +kernel)
theorem Gb.reversed (T : Gb mg) : mg "reversed" = none := T.nb _ (by decide +kernel)
theorem Gb.enumerate (T : Gb mg) : mg "enumerate" = none := T.nb _ (by decide +kernel)
theorem Gb.zip (T : Gb mg) : mg "zip" = none := T.nb _ (by decide +kernel)
theorem Gb.sum (T : Gb mg) : mg "sum" = none := T.nb _ (by decide +kernel)
theorem Gb.any (T : Gb mg) : mg "any" = none := T.nb _ (by decide +kernel)
theorem Gb.all (T : Gb mg) : mg "all" = none := T.nb _ (by decide +kernel)
theorem Gb.abs (T : Gb mg) : mg "abs" = none := T.nb _ (by decide +kernel)
theorem Gb.dict (T : Gb mg) : mg "dict" = none := T.nb _ (by decide +kernel)
end
/-! ### own errors -/
/-- the class of an own error, over ValueError, without an __init__ -/
structure Ec (K : PySem.W.Frag) (mg : Str → Option Value) (x : Str) (C : Addr) : Prop where
  g : mg x = some (.ref C)
  q : PySem.W.excIn K C [.type "ValueError", .type "Exception", .type "BaseException", .type "object"] "ValueError.__new__" = true
  k : PySem.W.keepIn K (.ref C) = true
  r : PySem.W.subIn K (.ref C) (.type "BaseException") = some true
  ty : PySem.W.typeIn K (.ref C) = some (.type "type")
  hd : PySem.W.hasDictIn K C = true
section
variable {C : Addr} {x m : Str} {j : Nat} {p p2 pos : Pos} {e : Expr} {ta : TE}
theorem Ec.made (c : Ec X.K X.mg x C) (hg : Gl X x) (hdb : (x == ("__debug__" : Str)) = false := by decide) : L2N.PMk X (.Call (.Name x p) [.Constant (.str m) j p2] [] pos) (fun _ H Q => Q (.ref C) none H) :=
  L2N.pmk_own PySem.F.excBase_ValueError c.q c.g c.k (raises_own c.r c.ty) hg hdb
theorem Ec.made1 (c : Ec X.K X.mg x C) (hg : Gl X x) (he : PE X e ta) (hs : starEach [e] X.env = (false, eval e X.env) :: starEach [] X.env := by rfl) (hdb : (x == ("__debug__" : Str)) = false := by decide) :
    L2N.PMk X (.Call (.Name x p) [e] [] pos) (fun σ H Q => ta σ H fun _ H1 => Q (.ref C) none H1) := by
  intro pins s σ H Q I h
  refine wpAny_Call_Name_kw (ld_glob I hg c.g ?_ hdb)
  refine PySem.W.callWith_K (h₀ := X.base) I.ok.mod.kin c.k ?_ hs (by rfl)
  rw [hs]
  show wpAny _ _ (spliced ((false, eval e X.env) :: backTo pos (starEach [] X.env))) _ _ s
  refine Calls.spliced_cons (thn (he.run pins s σ H _ I h) fun u t hu => ?_)
  obtain ⟨v, H1, I1, rv, q1⟩ := hu
  refine Calls.spliced_nil ⟨I1.kIn, ?_⟩
  show wpAny _ _ (call (.ref C) [u]) _ _ _
  obtain ⟨bm, N, nm, qn, bs, hdct, sn, sub, ab, col, dd, k0, k1, k2, k3, k5, mN, hC, hN, hni, tail⟩ := exc_obj I1.kIn c.q
  refine wpAny_call_exc_subT PySem.F.excBase_ValueError tail hC hN hni (fun h' a made => ?_) (by show 1 ≤ sizeLine; rw [sizeLine_eq]; omega)
  exact L2N.mk_of I1 made (raises_own c.r c.ty) q1 (I1.hok.gone made.new)
end
end

/-! ### displays, item by item -/
def Evs {α : Type} [ip : Py α] (K : PySem.W.Frag) (ta : TA) (Γ : Ctx) (xs : List α) : Prop := Eva K ta Γ (xs.map (Slot.dat ip))
section
variable {K : PySem.W.Frag} {Γ : Ctx} {te : TE} {tr : TA} {α : Type} {ip : Py α}
theorem evs_nil : Evs K tNil Γ ([] : List α) := eva_nil
theorem evs_cons {x : α} {xs : List α} (h : Evx K te Γ x) (t : Evs K tr Γ xs) : Evs K (tCons te tr) Γ (x :: xs) := eva_cons h t
theorem evl_disp {xs : List α} (h : Evs K tr Γ xs) (hl : xs.length ≤ 100000) : Evl K (tLst tr) Γ xs := evl_lst h hl
end
/-! ### what a def hands back, told otherwise -/
theorem go_retI {W : Wd} {D : Ends} {Γ : Ctx} {te : TE} {α : Type} {ip : Py α} {x y : α} {tz : TS} (h : Evx W.K te Γ x) (e : x = y) (k : RetD W D y) : Go W (tSeq (tRet te) tz) D Γ := go_ret2 (evx_is h e) k
theorem go_ifp {W : Wd} {D : Ends} {Γ : Ctx} {tt : TT} {tu tw tz : TS} {b : Bool} (p : Prop) [Decidable p] (h : Evt W.K tt Γ b) (e : b = decide p) (h1 : p → Go W tu { D with nx := tz D } Γ) (h2 : ¬ p → Go W tw { D with nx := tz D } Γ) : Go W (tSeq (tIfS tt tu tw) tz) D Γ :=
  go_if h (fun hb => h1 (of_decide_eq_true (e ▸ hb))) (fun hb => h2 (of_decide_eq_false (e ▸ hb)))
/-- an if without an else that always leaves -/
theorem go_ifr {W : Wd} {D : Ends} {Γ : Ctx} {tt : TT} {tu tz : TS} {b : Bool} (p : Prop) [Decidable p] (h : Evt W.K tt Γ b) (e : b = decide p) (h1 : p → Go W tu { D with nx := tz D } Γ) (h2 : ¬ p → Go W tz D Γ) : Go W (tSeq (tIfS tt tu tNext) tz) D Γ :=
  go_ifp p h e h1 h2

/-- two ways that meet -/
theorem go_ifj {W : Wd} {D : Ends} {Γ : Ctx} {tt : TT} {tu tw tz : TS} {b : Bool} (Γm : Ctx) (p : Prop) [Decidable p] (h : Evt W.K tt Γ b) (e : b = decide p) (h1 : p → ∀ D' : Ends, Nx W D'.nx Γm → Go W tu D' Γ) (h2 : ¬ p → ∀ D' : Ends, Nx W D'.nx Γm → Go W tw D' Γ) (k : Go W tz D Γm) :
    Go W (tSeq (tIfS tt tu tw) tz) D Γ := go_ifp p h e (fun hp => h1 hp { D with nx := tz D } k) (fun hp => h2 hp { D with nx := tz D } k)
theorem go_end {W : Wd} {D : Ends} {Γ Δ : Ctx} (h : Nx W D.nx Δ) (l : LeC Γ Δ) : Go W tNext D Γ := nx_le h l
/-- the end of a turn -/
theorem go_turn {W : Wd} {D : Ends} {Γ Δ : Ctx} (l : LeC Γ Δ) : Go W tNext { D with nx := At W Δ } Γ := nx_to l
section
variable {K : PySem.W.Frag} {Γ : Ctx} {te tl : TE} {tt : TT} {α β : Type} [ip : Py α] [iq : Py β]
/-- a comprehension over a list, by its items -/
theorem evl_lcX {xs : List α} {j : Nat} {ws : List Nat} (f : α → Bool) (v : α → β) (h : Evx K tl Γ xs) (hn : xs.length ≤ 40000) (hj : j ∈ ws)
    (ht : ∀ x ∈ xs, Evt K tt ((wipeC Γ ws).set j (.dat ip x)) (f x)) (he : ∀ x ∈ xs, f x = true → Evx K te ((wipeC Γ ws).set j (.dat ip x)) (v x)) :
    Evl K (tLc (iList K tl) (gName j) tt te ws) Γ ((xs.filter f).map v) := by
  have q : ∀ {i : Nat} {x : α}, xs[i]? = some x → xs.getD i ip.dflt = x := fun {i x} hx => by
    rw [List.getD_eq_getElem?_getD, hx]
    rfl
  refine evl_is (evl_lcL (xs := xs) (fun i => f (xs.getD i ip.dflt)) (fun i => v (xs.getD i ip.dflt)) h hn hj (fun i x hx => ?_) (fun i x hx hf => ?_)) (mk_list xs f v ip.dflt)
  · show Evt K tt _ (f (xs.getD i ip.dflt))
    rw [q hx]
    exact ht x (List.mem_of_getElem? hx)
  · have hf' : f (xs.getD i ip.dflt) = true := hf
    show Evx K te _ (v (xs.getD i ip.dflt))
    rw [q hx] at hf' ⊢
    have hf := hf'
    exact he x (List.mem_of_getElem? hx) hf
theorem evl_lcM {xs : List α} {j : Nat} {ws : List Nat} (v : α → β) (h : Evx K tl Γ xs) (hn : xs.length ≤ 40000) (hj : j ∈ ws) (he : ∀ x ∈ xs, Evx K te ((wipeC Γ ws).set j (.dat ip x)) (v x)) :
    Evl K (tLc (iList K tl) (gName j) tYes te ws) Γ (xs.map v) := by
  have t := evl_lcX (tt := tYes) (fun _ => true) v h hn hj (fun _ _ => evt_yes) (fun x hx _ => he x hx)
  rw [List.filter_eq_self.mpr (fun _ _ => rfl)] at t
  exact t
/-- over a range, without a test -/
theorem evl_lcN {tn : TE} {j : Nat} {ws : List Nat} {n : Int} (v : Nat → β) (h : Evx K tn Γ n) (hn : 0 ≤ n ∧ n ≤ 40000) (hj : j ∈ ws) (he : ∀ (i : Nat), (i : Int) < n → Evx K te ((wipeC Γ ws).set j (.dat pyInt (i : Int))) (v i)) :
    Evl K (tLc (iRng1 (tCons tn tNil)) (gName j) tYes te ws) Γ ((List.range n.toNat).map v) :=
  evl_is (evl_lcR (tt := tYes) (fun _ => true) v h hn hj (fun _ _ => evt_yes) (fun i hi _ => he i hi)) (mk_all _ _)
end

/-! ### the rules that speak of the written part, with its name -/
section
variable {X : Cx} (K : PySem.W.Frag) (hK : X.K = K := by rfl)
include hK
theorem ix_listK : IxR X (rIxL K) := hK ▸ ix_list
theorem ix_tupK : IxR X (rIxT K) := hK ▸ ix_tup
theorem sl_listK : SlR X (rSlL K) := hK ▸ sl_list
theorem sl_tupK : SlR X (rSlT K) := hK ▸ sl_tup
theorem call_len_seqK : CallR X (.builtin "len") (fun xs H Q => ∃ p ys, xs = [.ref p] ∧ (SqL K H p ys ∨ SqT K H p ys) ∧ Q (.int ys.length) H) := hK ▸ call_len_seq
theorem call_list_ofK : CallR X (.type "list") (fun xs H Q => ∃ p ys, xs = [.ref p] ∧ (SqL K H p ys ∨ SqT K H p ys) ∧ ∀ l, H l = none → Q (.ref l) (upd H l (.lst ys))) := hK ▸ call_list_of
theorem op_in_seqK : OpR X (compareOp .In) (rIn K false) := hK ▸ op_in_seq
theorem op_notIn_seqK : OpR X (compareOp .NotIn) (rIn K true) := hK ▸ op_notIn_seq
theorem op_eqDK (hu : X.A.units + 64 < cLine) : OpR X (compareOp .Eq) (rEqD K) := hK ▸ op_eqD hu
theorem op_neDK (hu : X.A.units + 64 < cLine) : OpR X (compareOp .NotEq) (rNeD K) := hK ▸ op_neD hu
theorem call_isiKn : CallR X (.builtin "isinstance") (rIsi K) := hK ▸ call_isi
theorem cr_sortedIK : CallR X (.builtin "sorted") (rSortedI K) := hK ▸ cr_sortedI
theorem cr_sumK (hc : X.calm = true) : CallR X (.builtin "sum") (rSum K) := hK ▸ cr_sum hc
theorem cr_maxK (hc : X.calm = true) : CallR X (.builtin "max") (rMax K) := hK ▸ cr_max hc
theorem cr_minK (hc : X.calm = true) : CallR X (.builtin "min") (rMin K) := hK ▸ cr_min hc
theorem pi_listK {tg l : Expr} {tl : TE} (hl : PE X l tl) : PI X tg l (iList K tl) := hK ▸ pi_list hl
theorem pi_tupK {tg l : Expr} {tl : TE} (hl : PE X l tl) : PI X tg l (iTup K tl) := hK ▸ pi_tup hl
theorem pg_tupK {es : List Expr} {k : Nat} {t : TGs} {n : Nat} {pos : Pos} (hc : X.calm = true) (h : PGs X es t) (hn : (assignEach es X.env).length = n := by rfl) (hst : (assignEach es X.env).findIdx? (·.1) = none := by rfl) :
    PG X (.Tuple es k pos) (gTup K n t) := hK ▸ pg_tup hc h hn hst
theorem pe_fldK {e : Expr} {ta : TE} {f : Str} {pos : Pos} (he : PE X e ta) (hb : attributeBase e f X.env (eval e X.env) = eval e X.env) : PE X (.Attribute e f pos) (tFld K ta f) := hK ▸ pe_fld he hb
theorem ps_fldK {o value : Expr} {ta tv : TE} {f : Str} {pos pos' : Pos} (ha : PE X o ta) (hv : PE X value tv) (hs : swapsWith value (some (.Attribute o f pos')) pos.line X.env = pure false) :
    PS X (.Assign [.Attribute o f pos'] value pos) (sFld K ta tv f) := hK ▸ ps_fld ha hv hs
theorem pe_sortsetK (w : World) (hw : X.w = w) {a : Expr} {ta : TE} {p p2 q pos : Pos} (hc : X.calm = true) (hg : Gl X "sorted") (hm : X.mg "sorted" = none) (hg2 : Gl X "set") (hm2 : X.mg "set" = none) (ha : PE X a ta)
    (na : starEach [a] X.env = (false, eval a X.env) :: starEach [] X.env := by rfl) : PE X (.Call (.Name "sorted" p) [.Call (.Name "set" p2) [a] [] q] [] pos) (tSortSet K w ta) := hK ▸ hw ▸ pe_sortset hc hg hm hg2 hm2 ha na
theorem pe_bmK {T id : String} {name : Str} {r : V → List V → Hp → VK → Prop} {o e : Expr} {es : List Expr} {to : TE} {t : TA} {apos cpos : Pos} (pa : PlainAttrs T) (slot : PySem.Slot T name id) (hty : typeOf (.builtin id) = pure (.type "method_descriptor")) (hm : MtR X id r) (ho : PE X o to) (ha : PA X (e :: es) t)
    (hbase : attributeBase o name X.env (eval o X.env) = eval o X.env := by rfl)
    (hfew : ((backTo cpos (starEach (e :: es) X.env)).all (fun x => !x.1) && (backToKw cpos (keywordEach [] X.env)).all (fun x => x.1.isSome)
      && decide ((e :: es).length + ([] : List Keyword).length + (if ([] : List Keyword).isEmpty then 0 else 1) < 30)) = true := by rfl)
    (hline : (apos.endLine == cpos.line) = true := by rfl) (hs : starEach (e :: es) X.env = (false, eval e X.env) :: starEach es X.env := by rfl) (hplain : (backTo cpos (starEach es X.env)).any (·.1) = false := by rfl) :
    PE X (.Call (.Attribute o name apos) (e :: es) [] cpos) (tBM K T r to t) := hK ▸ pe_bm pa slot hty hm ho ha hbase hfew hline hs hplain
theorem pe_bm0K {T id : String} {name : Str} {r : V → List V → Hp → VK → Prop} {o : Expr} {to : TE} {apos cpos : Pos} (pa : PlainAttrs T) (slot : PySem.Slot T name id) (hty : typeOf (.builtin id) = pure (.type "method_descriptor")) (hm : MtR X id r) (ho : PE X o to)
    (hbase : attributeBase o name X.env (eval o X.env) = eval o X.env := by rfl) (hline : (apos.endLine == cpos.line) = true := by rfl) : PE X (.Call (.Attribute o name apos) [] [] cpos) (tBM0 K T r to) := hK ▸ pe_bm0 pa slot hty hm ho hbase hline
end
end Dn

/-! Dn: a list of lists of whole numbers, all of one's own, each of which may grow. -/
namespace Dn
open PySem PySem.Spec PyProof.Rows L2 Dx
structure NestQ (R0 H R : Hp) (p : Addr) (qs : List Addr) (xss : List (List Int)) : Prop where
  hp : H p = none
  rp : R0 p = none
  lp : R p = some (.lst (qs.map V.ref))
  nd : qs.Nodup
  np : p ∉ qs
  ln : qs.length = xss.length
  it : ∀ (k : Nat) (q : Addr) (xs : List Int), qs[k]? = some q → xss[k]? = some xs → H q = none ∧ R0 q = none ∧ R q = some (.lst (xs.map V.int))
def Nest (R0 H R : Hp) (p : Addr) (xss : List (List Int)) : Prop := ∃ qs, NestQ R0 H R p qs xss
theorem NestQ.grow {R0 H R H' R' : Hp} {p : Addr} {qs : List Addr} {xss : List (List Int)} (n : NestQ R0 H R p qs xss) (g : Gr H R H' R') : NestQ R0 H' R' p qs xss :=
  ⟨g.new p n.hp (by rw [n.lp]; intro z; cases z), n.rp, g.keep p _ n.lp, n.nd, n.np, n.ln, fun k q xs h1 h2 => by
    obtain ⟨a, b, c⟩ := n.it k q xs h1 h2
    exact ⟨g.new q a (by rw [c]; intro z; cases z), b, g.keep q _ c⟩⟩
def NoOwn (Γ : Ctx) : Prop := ∀ s ∈ Γ, ¬ isOwn (some s)
theorem NoOwn.at {Γ : Ctx} (h : NoOwn Γ) (j : Nat) : ¬ isOwn Γ[j]? := fun z => by
  cases q : Γ[j]? with
  | none =>
    rw [q] at z
    exact z
  | some s =>
    rw [q] at z
    exact h s (List.mem_of_getElem? q) z
theorem NoOwn.nil : NoOwn [] := fun s hs => by simp at hs
theorem NoOwn.un {Γ : Ctx} (h : NoOwn Γ) : NoOwn (.un :: Γ) := fun s hs => by
  rcases List.mem_cons.mp hs with q | q
  · rw [q]
    exact fun z => z
  · exact h s q
theorem NoOwn.dat {α : Type} {i : Py α} {x : α} {Γ : Ctx} (h : NoOwn Γ) : NoOwn (.dat i x :: Γ) := fun s hs => by
  rcases List.mem_cons.mp hs with q | q
  · rw [q]
    exact fun z => z
  · exact h s q
/-- without lists of one's own the heap may change behind what is known -/
theorem Env.behind {K : PySem.W.Frag} {R0 H R R' : Hp} {σ : L2.St} {Γ : Ctx} (E : Env K R0 H R σ Γ) (n : NoOwn Γ) : Env K R0 H R' σ Γ :=
  ⟨E.len, fun j s h => by
    have o := E.ok j s h
    cases s with
    | un => trivial
    | dat i x => exact o
    | own i xs => exact absurd trivial (n _ (List.mem_of_getElem? h))
    | obj o => exact absurd trivial (n _ (List.mem_of_getElem? h))
    | pin a i xs => exact absurd trivial (n _ (List.mem_of_getElem? h)), E.dis⟩
theorem Env.more {K : PySem.W.Frag} {R0 H H' R : Hp} {σ : L2.St} {Γ : Ctx} (E : Env K R0 H R σ Γ) (n : NoOwn Γ) (e : Ex H H') : Env K R0 H' R σ Γ :=
  ⟨E.len, fun j s h => by
    have o := E.ok j s h
    cases s with
    | un => trivial
    | dat i x =>
      obtain ⟨v, h1, h2⟩ := o
      exact ⟨v, h1, i.mono e h2⟩
    | own i xs => exact absurd trivial (n _ (List.mem_of_getElem? h))
    | obj o => exact absurd trivial (n _ (List.mem_of_getElem? h))
    | pin a i xs => exact absurd trivial (n _ (List.mem_of_getElem? h)), E.dis⟩
def GoN (W : Wd) (i : Nat) (t : TS) (D : Ends) (Γ : Ctx) (xss : List (List Int)) : Prop :=
  ∀ (σ : L2.St) (H R : Hp) (p : Addr), Ex W.F H → Gr W.H0 W.R0 H R → Env W.K W.R0 H R σ Γ → σ[i]? = some (some (.ref p)) → Nest W.R0 H R p xss → t D σ R
def AtN (W : Wd) (i : Nat) (Γ : Ctx) (xss : List (List Int)) : L2.St → Hp → Prop := fun σ R => ∃ H p, Ex W.F H ∧ Gr W.H0 W.R0 H R ∧ Env W.K W.R0 H R σ Γ ∧ σ[i]? = some (some (.ref p)) ∧ Nest W.R0 H R p xss
section
variable {W : Wd} {Γ Δ : Ctx} {D : Ends} {t tz tu tw : TS} {te tl tn : TE} {tt : TT} {i : Nat} {xss : List (List Int)}
theorem gon_end {yss : List (List Int)} (l : LeC Γ Δ) (e : xss = yss) : GoN W i tNext { D with nx := AtN W i Δ yss } Γ xss := fun σ H R p a b E s n => ⟨H, p, a, b, E.le l, s, e ▸ n⟩
theorem gon_to {yss : List (List Int)} (hf : ∀ σ R, AtN W i Δ yss σ R → D.nx σ R) (l : LeC Γ Δ) (e : xss = yss) : GoN W i tNext D Γ xss := fun σ H R p a b E s n => hf σ R ⟨H, p, a, b, E.le l, s, e ▸ n⟩
theorem gon_fall (h : GoN W i t D Γ xss) : GoN W i tNext { D with nx := t D } Γ xss := h
/-- [[] for _ in range(n)] -/
theorem gon_init {n : Int} {j : Nat} {ws : List Nat} (hΓ : NoOwn Γ) (h : Evx W.K tn Γ n) (hn : 0 ≤ n ∧ n ≤ 40000) (hj : j ∈ ws) (hi : i < Γ.length) (k : GoN W i tz D (Γ.set i .un) (List.replicate n.toNat [])) :
    Go W (tSeq (tAsg (tLc (iRng1 (tCons tn tNil)) (gName j) tYes (tLst tNil) ws) (gName i)) tz) D Γ := fun σ H R f g E =>
  h σ W.R0 H R g.inn E _ fun u H1 R1 g1 r1 => ⟨n, by
      have r1' : u = .int n := r1
      rw [r1'], by omega, by omega, fun Dl hD => lc_range (lo := 0) (n := n.toNat) (fun m R' => Gr H1 R1 H1 R' ∧ ∃ qs : List Addr, R' Dl = some (.lst (qs.map V.ref)) ∧ qs.length = m ∧ qs.Nodup ∧ Dl ∉ qs ∧ ∀ q ∈ qs, R1 q = none ∧ R' q = some (.lst []))
        ⟨Gr.alloc g1.inn hD, [], upd_same, rfl, List.nodup_nil, by simp, fun q hq => by simp at hq⟩ (fun m R' hm p => by
        obtain ⟨gr, qs, h1, h2, h3, h4, h5⟩ := p
        refine ⟨wipe_set hj, ?_⟩
        simp only [tYes, ↓reduceIte]
        refine ⟨Nat.zero_le _, fun q hq => ⟨qs.map V.ref, ?_, sz_lt (by rw [List.length_map]; omega), ?_⟩⟩
        · have ne : Dl ≠ q := ne_of_none h1 hq
          rw [upd_ne ne]
          exact h1
        · have ne : Dl ≠ q := ne_of_none h1 hq
          have nq : q ∉ qs := fun z => by
            have := (h5 q z).2
            rw [hq] at this
            cases this
          refine ⟨?_, qs ++ [q], ?_, by simp [h2], ?_, ?_, fun z hz => ?_⟩
          · have ga := gr.trans (Gr.alloc (o := HO.lst []) gr.inn hq)
            exact ga.mut (fresh_back g1.inn hD) hD
          · rw [upd_same, List.map_append]
            rfl
          · rw [List.nodup_append]
            refine ⟨h3, by simp, fun a ha b hb e => ?_⟩
            rw [List.mem_singleton.mp hb] at e
            rw [e] at ha
            exact nq ha
          · intro z
            rcases List.mem_append.mp z with z | z
            · exact h4 z
            · exact ne (List.mem_singleton.mp z)
          · rcases List.mem_append.mp hz with y | y
            · have ya := h5 z y
              have n1 : z ≠ Dl := fun e => h4 (e ▸ y)
              have n2 : z ≠ q := fun e => nq (e ▸ y)
              exact ⟨ya.1, by rw [upd_ne n1, upd_ne n2]; exact ya.2⟩
            · rw [List.mem_singleton.mp y]
              exact ⟨fresh_back gr.keep hq, by rw [upd_ne ne.symm, upd_same]⟩) (fun R' p => by
        obtain ⟨gr, qs, h1, h2, h3, h4, h5⟩ := p
        have hlen : i < σ.length := by rw [E.len]; exact hi
        refine k (σ.set i (some (.ref Dl))) H1 R' Dl (f.trans g1.up) (g.trans (g1.trans gr)) ((E.grow (g1.trans gr)).setUn) (List.getElem?_set_self hlen) ⟨qs, fresh_back g1.inn hD, fresh_back (g.keep.trans g1.keep) hD, h1, h3, h4, by simp [h2], fun m q xs q1 q2 => ?_⟩
        have hm := h5 q (List.mem_of_getElem? q1)
        have e : xs = [] := by
          rw [List.getElem?_replicate] at q2
          split at q2
          · cases q2
            rfl
          · cases q2
        rw [e]
        exact ⟨fresh_back g1.inn hm.1, fresh_back (g.keep.trans g1.keep) hm.1, hm.2⟩)⟩
/-- the k-th of the lists -/
theorem NestQ.look {R0 H R : Hp} {p : Addr} {qs : List Addr} (n : NestQ R0 H R p qs xss) {a : Int} (h : 0 ≤ a ∧ a < xss.length) : ∃ q, qs[a.toNat]? = some q ∧ atI (qs.map V.ref) a = some (V.ref q) ∧ H q = none ∧ R0 q = none ∧ R q = some (.lst ((gt xss a).map V.int)) := by
  have hq : a.toNat < qs.length := by
    have := n.ln
    omega
  have e1 := List.getElem?_eq_getElem hq
  have e2 := gt_get (ip := pyList (α := Int)) (xs := xss) (i := a) h
  obtain ⟨z1, z2, z3⟩ := n.it a.toNat _ _ e1 e2
  exact ⟨_, e1, at_int h.1 (by rw [List.getElem?_map, e1] <;> rfl), z1, z2, z3⟩
/-- if x not in nest[a]: .. -/
theorem gon_ifnot {tx ta : TE} {x a : Int} (hx : Evx W.K tx Γ x) (ha : Evx W.K ta Γ a) (h : 0 ≤ a ∧ a < xss.length) (h1 : x ∉ gt xss a → GoN W i tu { D with nx := tz D } Γ xss) (h2 : x ∈ gt xss a → GoN W i tw { D with nx := tz D } Γ xss) :
    GoN W i (tSeq (tIfS (tTest (tOp (rIn W.K true) tx (tOp (rIxL W.K) (tVar i) ta))) tu tw) tz) D Γ xss := fun σ H R p f g E hs n => by
  obtain ⟨qs, n⟩ := n
  refine hx σ W.R0 H R g.inn E _ fun v H1 R1 g1 r1 => ⟨.ref p, hs, ha σ W.R0 H1 R1 g1.inn (E.grow g1) _ fun u H2 R2 g2 r2 => ?_⟩
  have r1' : v = .int x := r1
  have r2' : u = .int a := r2
  subst r1'
  subst r2'
  have n2 := (n.grow g1).grow g2
  obtain ⟨q, q1, q2, q3, q4, q5⟩ := n2.look h
  refine ⟨p, _, a, .ref q, rfl, rfl, sq_of n2.lp, q2, q, _, rfl, Or.inl (sq_of q5), rfl, flat_ints _, _, rfl, ?_⟩
  have E2 := (E.grow g1).grow g2
  rw [inV_ints]
  by_cases c : x ∈ gt xss a
  · have eb : (if true = true then !decide (x ∈ gt xss a) else decide (x ∈ gt xss a)) = false := by simp [c]
    rw [eb]
    exact iteF (h2 c σ H2 R2 p ((f.trans g1.up).trans g2.up) ((g.trans g1).trans g2) E2 hs ⟨qs, n2⟩)
  · have eb : (if true = true then !decide (x ∈ gt xss a) else decide (x ∈ gt xss a)) = true := by simp [c]
    rw [eb]
    exact iteT (h1 c σ H2 R2 p ((f.trans g1.up).trans g2.up) ((g.trans g1).trans g2) E2 hs ⟨qs, n2⟩)
/-- nest[a].append(x) -/
theorem gon_app {tx ta : TE} {x a : Int} (hΓ : NoOwn Γ) (ha : Evx W.K ta Γ a) (hx : Evx W.K tx Γ x) (h : 0 ≤ a ∧ a < xss.length) (hl : (gt xss a).length < 100000) (k : GoN W i tz D Γ (xss.set a.toNat (gt xss a ++ [x]))) :
    GoN W i (tSeq (tDrop (tBM W.K "list" rAppend (tOp (rIxL W.K) (tVar i) ta) (tCons tx tNil))) tz) D Γ xss := fun σ H R p f g E hs n => by
  obtain ⟨qs, n⟩ := n
  refine ⟨.ref p, hs, ha σ W.R0 H R g.inn E _ fun u H1 R1 g1 r1 => ?_⟩
  have r1' : u = .int a := r1
  subst r1'
  have n1 := n.grow g1
  obtain ⟨q, q1, q2, q3, q4, q5⟩ := n1.look h
  refine ⟨p, _, a, .ref q, rfl, rfl, sq_of n1.lp, q2, Or.inl ⟨rfl, _, sq_of q5⟩, hx σ W.R0 H1 R1 g1.inn (E.grow g1) _ fun v H2 R2 g2 r2 => ?_⟩
  have r2' : v = .int x := r2
  subst r2'
  have q5' := g2.keep q _ q5
  have q3' : H2 q = none := g2.new q q3 (by rw [q5]; intro z; cases z)
  have n2 := n1.grow g2
  have npq : p ≠ q := fun z => n2.np (z ▸ List.mem_of_getElem? q1)
  refine ⟨q, _, .int x, rfl, rfl, q5', sz_lt (by rw [List.length_map]; exact hl), ?_⟩
  refine k σ H2 _ p ((f.trans g1.up).trans g2.up) (((g.trans g1).trans g2).mut q3' q4) (((E.grow g1).grow g2).behind hΓ) hs ⟨qs, n2.hp, n2.rp, by rw [upd_ne npq]; exact n2.lp, n2.nd, n2.np, by rw [List.length_set]; exact n2.ln, fun m z ys z1 z2 => ?_⟩
  by_cases c : a.toNat = m
  · subst c
    rw [q1] at z1
    cases z1
    rw [List.getElem?_set_self (by omega)] at z2
    cases z2
    exact ⟨q3', q4, by rw [upd_same, List.map_append]; rfl⟩
  · rw [List.getElem?_set_ne c] at z2
    obtain ⟨w1, w2, w3⟩ := n2.it m z ys z1 z2
    have nz : z ≠ q := fun e => by
      subst e
      obtain ⟨l1, e1⟩ := List.getElem?_eq_some_iff.mp z1
      obtain ⟨l2, e2⟩ := List.getElem?_eq_some_iff.mp q1
      have := (List.getElem_inj n2.nd).mp (e2.trans e1.symm)
      omega
    exact ⟨w1, w2, by rw [upd_ne nz]; exact w3⟩
/-- for x, y in pairs, the nest growing -/
theorem gon_forP {xs : List (Int × Int)} {j k : Nat} (hjk : i ≠ j ∧ i ≠ k) (h : Evx W.K tl Γ xs) (Γ1 : Ctx) (S : Nat → List (List Int)) (h0 : LeC Γ Γ1) (e0 : xss = S 0)
    (hs : ∀ (m : Nat) (x y : Int) (F : Hp), xs[m]? = some (x, y) → Ex W.F F → GoN (W.fl F) i tu { D with nx := AtN (W.fl F) i Γ1 (S (m + 1)), ct := AtN (W.fl F) i Γ1 (S (m + 1)), bk := tz D } ((Γ1.set j (.dat pyInt x)).set k (.dat pyInt y)) (S m))
    (hd : GoN W i tz D Γ1 (S xs.length)) : GoN W i (tSeq (tFor (iList W.K tl) (gTup W.K 2 (gCons (gName j) (gCons (gName k) gNil))) tu) tz) D Γ xss := fun σ H R p f g E hσ n =>
  h σ W.R0 H R g.inn E _ fun v H1 R1 g1 r1 => by
    obtain ⟨a, vs, rfl, hl, hx⟩ := r1
    have l1 := paired_len hx
    obtain ⟨qs, n⟩ := n
    refine ⟨a, rfl, ⟨vs, sq_of (g1.inn a _ hl)⟩, for_list (K := W.K) (a := a) (xs := vs) (fun m => AtN (W.fl H1) i Γ1 (S m)) ⟨H1, p, Ex.refl H1, g.trans g1, (E.grow g1).le h0, hσ, e0 ▸ ⟨qs, n.grow g1⟩⟩ (fun m σ' R' _ pv => ?_) (fun m y σ' R' hm pv => ?_) (fun σ' R' pv => ?_)⟩
    · obtain ⟨H2, p2, e2, g2, E2, s2, n2⟩ := pv
      exact sq_of (g2.inn a _ (e2 a _ hl))
    · obtain ⟨H2, p2, e2, g2, E2, s2, n2⟩ := pv
      obtain ⟨⟨x, z⟩, q1, b, u, w, rfl, qt, qx, qz⟩ := paired_back hx hm
      refine ⟨b, [u, w], rfl, ex_t (e2.trans g2.inn) qt, rfl, u, [w], rfl, w, [], rfl, rfl, hs m x z H1 q1 (f.trans g1.up) ((σ'.set j (some u)).set k (some w)) H2 R' p2 e2 g2 ((E2.setDat (pyInt.mono e2 qx)).setDat (pyInt.mono e2 qz)) ?_ n2⟩
      rw [List.getElem?_set_ne (Ne.symm hjk.2), List.getElem?_set_ne (Ne.symm hjk.1)]
      exact s2
    · obtain ⟨H2, p2, e2, g2, E2, s2, n2⟩ := pv
      rw [← l1] at n2
      exact hd σ' H2 R' p2 ((f.trans g1.up).trans e2) g2 E2 s2 n2
/-- the nest will not change any more -/
theorem gon_freeze (hΓ : NoOwn Γ) (hi : i < Γ.length) (k : Go W t D (Γ.set i (.dat (pyList (ip := pyList (ip := pyInt))) xss))) : GoN W i t D Γ xss := fun σ H R p f g E hσ n => by
  obtain ⟨qs, n⟩ := n
  -- what is told of from now on
  have old : ∀ b o, H b = some o → b ≠ p ∧ b ∉ qs := by
    intro b o hb
    constructor
    · intro z
      rw [z, n.hp] at hb
      cases hb
    · intro z
      obtain ⟨m, hm, e⟩ := List.mem_iff_getElem.mp z
      have h2 : m < xss.length := by rw [← n.ln]; exact hm
      have q := (n.it m b _ (by rw [List.getElem?_eq_getElem hm, e]) (List.getElem?_eq_getElem h2)).1
      rw [q] at hb
      cases hb
  have r0 : ∀ b, b = p ∨ b ∈ qs → W.R0 b = none := fun b hb => by
    rcases hb with z | z
    · rw [z]
      exact n.rp
    · obtain ⟨m, hm, e⟩ := List.mem_iff_getElem.mp z
      have h2 : m < xss.length := by rw [← n.ln]; exact hm
      exact (n.it m b _ (by rw [List.getElem?_eq_getElem hm, e]) (List.getElem?_eq_getElem h2)).2.1
  let H' : Hp := fun b => if b = p ∨ b ∈ qs then R b else H b
  have eH : Ex H H' := fun b o hb => by
    have q := old b o hb
    refine Sm.of ?_
    show (if b = p ∨ b ∈ qs then R b else H b) = some o
    rw [if_neg (fun z => z.elim q.1 q.2)]
    exact hb
  have eR : Ex H' R := fun b o hb => by
    have hb' : (if b = p ∨ b ∈ qs then R b else H b) = some o := hb
    split at hb'
    · exact Sm.of hb'
    · exact g.inn b o hb'
  have gr : Gr W.H0 W.R0 H' R := ⟨g.up.trans eH, eR, g.keep, fun b q1 q2 => by
    show (if b = p ∨ b ∈ qs then R b else H b) = none
    rw [if_neg (fun z => q2 (r0 b z))]
    exact g.new b q1 q2⟩
  refine k σ H' R (f.trans eH) gr ?_
  have E2 := E.more hΓ eH
  have cell : (pyList (ip := pyList (ip := pyInt))).rel W.K xss (.ref p) H' := by
    refine ⟨p, qs.map V.ref, rfl, ?_, ?_⟩
    · show (if p = p ∨ p ∈ qs then R p else H p) = _
      rw [if_pos (.inl rfl)]
      exact n.lp
    · have all : ∀ (qs' : List Addr) (yss : List (List Int)), qs'.length = yss.length → (∀ (k : Nat) (q : Addr) (ys : List Int), qs'[k]? = some q → yss[k]? = some ys → H' q = some (.lst (ys.map V.int))) → Paired (fun x u => (pyList (ip := pyInt)).rel W.K x u H') yss (qs'.map V.ref) := by
        intro qs'
        induction qs' with
        | nil =>
          intro yss hl _
          cases yss with
          | nil => exact .nil
          | cons y ys => simp at hl
        | cons q qs' ih =>
          intro yss hl hh
          cases yss with
          | nil => simp at hl
          | cons y ys =>
            refine .cons ⟨q, _, rfl, hh 0 q y rfl rfl, ints_rel y⟩ (ih ys (by simpa using hl) fun k z zs h1 h2 => hh (k + 1) z zs (by simpa using h1) (by simpa using h2))
      refine all qs xss n.ln fun k q ys h1 h2 => ?_
      show (if q = p ∨ q ∈ qs then R q else H q) = _
      rw [if_pos (.inr (List.mem_of_getElem? h1))]
      exact (n.it k q ys h1 h2).2.2
  have noS : NoOwn (Γ.set i (.dat (pyList (ip := pyList (ip := pyInt))) xss)) := fun s hs => by
    rcases List.mem_or_eq_of_mem_set hs with q | q
    · exact hΓ s q
    · rw [q]
      exact fun z => z
  refine ⟨by rw [List.length_set]; exact E2.len, fun j s h => ?_, fun a b q _ ha _ _ => absurd ha (noS.at a)⟩
  by_cases c : i = j
  · subst c
    rw [List.getElem?_set_self hi] at h
    cases h
    exact ⟨.ref p, hσ, cell⟩
  · rw [List.getElem?_set_ne c] at h
    exact E2.ok j s h
end
end Dn

/-! Dn: expressions that may raise; lists of one's own as results; isinstance; == of data; errors that are held. -/
namespace Dn
open PySem PySem.Spec PyProof.Rows L2 Dx
/-! ### what may raise -/
def Evz (W : Wd) {α : Type} [ip : Py α] (te : TE) (Γ : Ctx) (b : Bool) (x : α) (X : L2.St → Hp → Prop) : Prop :=
  ∀ (σ : L2.St) (H R : Hp), Ex W.F H → Gr W.H0 W.R0 H R → Env W.K W.R0 H R σ Γ → ∀ Q : VK, (b = false → ∀ v H' R', Gr H R H' R' → ip.rel W.K x v H' → Q v R') → (b = true → ∀ H' R', Gr H R H' R' → X σ R') → te σ R Q
section
variable {W : Wd} {Γ : Ctx} {D : Ends} {te : TE} {tz : TS} {α : Type} {ip : Py α} {x : α} {b : Bool} {X : L2.St → Hp → Prop}
theorem evz_of (h : Evx W.K te Γ x) : Evz W te Γ false x X := fun σ H R f g E Q k _ => h σ W.R0 H R g.inn E Q (k rfl)
theorem nx_grow {f : L2.St → Hp → Prop} {σ : L2.St} {H R H' R' : Hp} (n : Nx W f Γ) (a : Ex W.F H) (g : Gr W.H0 W.R0 H R) (E : Env W.K W.R0 H R σ Γ) (g' : Gr H R H' R') : f σ R' := n σ H' R' (a.trans g'.up) (g.trans g') (E.grow g')
theorem go_dropz (h : Evz W te Γ b x X) (hx : b = true → Nx W X Γ) (k : b = false → Go W tz D Γ) : Go W (tSeq (tDrop te) tz) D Γ := fun σ H R f g E =>
  h σ H R f g E _ (fun hb v H' R' g' r => k hb σ H' R' (f.trans g'.up) (g.trans g') (E.grow g')) fun hb H' R' g' => nx_grow (hx hb) f g E g'
theorem go_asgz {i : Nat} (h : Evz W te Γ b x X) (hx : b = true → Nx W X Γ) (k : b = false → Go W tz D (Γ.set i (.dat ip x))) : Go W (tSeq (tAsg te (gName i)) tz) D Γ := fun σ H R f g E =>
  h σ H R f g E _ (fun hb v H' R' g' r => k hb (σ.set i (some v)) H' R' (f.trans g'.up) (g.trans g') ((E.grow g').setDat r)) fun hb H' R' g' => nx_grow (hx hb) f g E g'
theorem go_retz (h : Evz W te Γ b x X) (hx : b = true → Nx W X Γ) (k : b = false → RetD W D x) : Go W (tSeq (tRet te) tz) D Γ := fun σ H R f g E =>
  h σ H R f g E _ (fun hb v H' R' g' r => k hb v H' R' (g.trans g') r) fun hb H' R' g' => nx_grow (hx hb) f g E g'
/-- what is wished of an error does not ask for the slots -/
theorem nx_const {E : XK} {c : Value} (h : ∀ H' R', Gr W.H0 W.R0 H' R' → E c none R') : Nx W (fun _ R => E c none R) Γ := fun σ H R _ g _ => h H R g
/-- raise -/
theorem go_raise {E : XK} {cls : Addr} {t : L2.St → Hp → XK → Prop} (ht : ∀ σ R (Q : XK), Q (.ref cls) none R → t σ R Q) (hx : ∀ H' R', Gr W.H0 W.R0 H' R' → E (.ref cls) none R') : Go W (tSeq (fun _ σ H => t σ H fun cls d H' => E cls d H') tz) D Γ := fun σ H R f g _ => ht σ R _ (hx H R g)
theorem go_raise1 {E : XK} {cls : Addr} (h : Evx W.K te Γ x) (hx : ∀ H' R', Gr W.H0 W.R0 H' R' → E (.ref cls) none R') : Go W (tSeq (fun _ σ H => te σ H fun _ H1 => E (.ref cls) none H1) tz) D Γ := fun σ H R f g e =>
  h σ W.R0 H R g.inn e _ fun v H' R' g' _ => hx H' R' (g.trans g')
end
theorem own_res {α : Type} {ip : Py α} {K : PySem.W.Frag} {H R H' R' : Hp} {xs : List α} {Q : VK} {p : Addr} {ys : List V} (q : ∀ v H' R', Gr H R H' R' → (pyList (ip := ip)).rel K xs v H' → Q v R') (g : Gr H R H' R') (hp : H' p = none) (hr : R p = none) (hl : R' p = some (.lst ys)) (hx : Paired (fun x v => ip.rel K x v H') xs ys) : Q (.ref p) R' := by
  refine q (.ref p) (upd H' p (.lst ys)) R' ⟨g.up.trans (Ex.new hp), ex_tell g.inn hl, g.keep, fun b h1 h2 => ?_⟩ ⟨p, ys, rfl, upd_same, paired_mono (Ex.new hp) hx⟩
  have q : b ≠ p := fun z => h2 (by rw [z]; exact hr)
  rw [upd_ne q]
  exact g.new b h1 h2
/-- what a return of a list of one's own hands back -/
def RetL {α : Type} [ip : Py α] (W : Wd) (D : Ends) (xs : List α) : Prop := ∀ p ys H R, Gr W.H0 W.R0 H R → H p = none → W.R0 p = none → R p = some (.lst ys) → Paired (fun x v => ip.rel W.K x v H) xs ys → D.rt (.ref p) R
theorem RetD.l {α : Type} {ip : Py α} {W : Wd} {D : Ends} {xs : List α} (k : RetD (ip := pyList (ip := ip)) W D xs) : RetL W D xs := fun p ys H R g hp hr hl hx => own_res (Q := D.rt) (fun v H' R' g' r => k v H' R' g' r) g hp hr hl hx
theorem go_retL {W : Wd} {Γ : Ctx} {D : Ends} {te : TE} {tz : TS} {α : Type} {ip : Py α} {xs ys : List α} (h : Evl W.K te Γ xs) (e : xs = ys) (k : RetL W D ys) : Go W (tSeq (tRet te) tz) D Γ := fun σ H R f g E =>
  h σ W.R0 H R g.inn E _ fun p vs H' R' g' q1 q2 q3 q4 => k p vs H' R' (g.trans g') q1 (fresh_back g.keep q2) q3 (e ▸ q4)
theorem go_retO {W : Wd} {Γ : Ctx} {D : Ends} {i : Nat} {tz : TS} {α : Type} {ip : Py α} {xs ys : List α} (hi : Γ[i]? = some (.own ip xs)) (e : xs = ys) (k : RetL W D ys) : Go W (tSeq (tRet (tVar i)) tz) D Γ := fun σ H R f g E => by
  obtain ⟨p, vs, h1, h2, h3, h4, h5⟩ := E.ok i _ hi
  exact ⟨.ref p, h1, k p vs H R g h2 h3 h4 (e ▸ h5)⟩
/-- f(..).append(e), and what was appended to is gone -/
theorem go_appTemp {W : Wd} {Γ : Ctx} {D : Ends} {te ta : TE} {tz : TS} {α : Type} {ip : Py α} {xs : List α} {x : α} (h : Evl W.K te Γ xs) (hx : Evx W.K ta Γ x) (hl : xs.length < 100000) (k : Go W tz D Γ) : Go W (tSeq (tDrop (tBM W.K "list" rAppend te (tCons ta tNil))) tz) D Γ := fun σ H R f g E =>
  h σ W.R0 H R g.inn E _ fun p vs H1 R1 g1 q1 q2 q3 q4 => ⟨.inl ⟨rfl, _, sq_of q3⟩, hx σ W.R0 H1 R1 g1.inn (E.grow g1) _ fun u H2 R2 g2 r2 => by
    have hp2 : H2 p = none := g2.new p q1 (by rw [q3]; intro z; cases z)
    refine ⟨p, vs, u, rfl, rfl, g2.keep p _ q3, sz_lt (by rw [← paired_len q4]; exact hl), ?_⟩
    have gm := Gr.mut (o := HO.lst (vs ++ [u])) (g1.trans g2) hp2 q2
    exact k σ H2 _ ((f.trans g1.up).trans g2.up) (g.trans gm) (E.grow gm)⟩
theorem evz_call1 {A0 C : Type} {i0 : Py A0} {ic : Py C} {W : Wd} {Γ : Ctx} {pre : A0 → Prop} {bad : A0 → Bool} {cls : Addr} {f : A0 → C} {x0 : A0} {t0 : TE} {E : L2.St → XK} (h0 : Evx W.K t0 Γ x0) (hp : pre x0) : Evz W (tCallS (sx1 W.K pre bad cls f) E (tCons t0 tNil)) Γ (bad x0) (f x0) (fun σ R => E σ (.ref cls) none R) := fun σ H R ff gg EE Q k kx =>
  h0 σ W.R0 H R gg.inn EE _ fun u0 H0 S0 g0 r0 => 
  ⟨x0, u0, H0, rfl, g0.inn, i0.mono (Ex.refl _) r0, hp, fun hb v H' R' g' r' => k hb v H' R' (g0.trans g') r', fun hb H' R' g' => kx hb H' R' (g0.trans g')⟩
/-- .. that hands back a new list, the caller's own -/
def sl1 {A0 C : Type} [i0 : Py A0] [ic : Py C] (K : PySem.W.Frag) (pre : A0 → Prop) (f : A0 → List C) : Sp := fun vs R Q _ => ∃ (x0 : A0) (v0 : V) (H : Hp), vs = [v0] ∧ Ex H R ∧ i0.rel K x0 v0 H ∧ pre x0 ∧
  ∀ p ys H' R', Gr H R H' R' → H' p = none → R p = none → R' p = some (.lst ys) → Paired (fun x v => ic.rel K x v H') (f x0) ys → Q (.ref p) R'
def sxl1 {A0 C : Type} [i0 : Py A0] [ic : Py C] (K : PySem.W.Frag) (pre : A0 → Prop) (bad : A0 → Bool) (cls : Addr) (f : A0 → List C) : Sp := fun vs R Q E => ∃ (x0 : A0) (v0 : V) (H : Hp), vs = [v0] ∧ Ex H R ∧ i0.rel K x0 v0 H ∧ pre x0 ∧
  (bad x0 = false → ∀ p ys H' R', Gr H R H' R' → H' p = none → R p = none → R' p = some (.lst ys) → Paired (fun x v => ic.rel K x v H') (f x0) ys → Q (.ref p) R') ∧ (bad x0 = true → ∀ H' R', Gr H R H' R' → E (.ref cls) none R')
theorem sl_sp1 {A0 C : Type} {i0 : Py A0} {ic : Py C} {K : PySem.W.Frag} {pre : A0 → Prop} {f : A0 → List C} (vs : List V) (R : Hp) (Q : VK) (E : XK) : sp1 K pre f vs R Q E → sl1 K pre f vs R Q E := fun ⟨x0, v0, H, e0, e, r0, hp, q⟩ =>
  ⟨x0, v0, H, e0, e, r0, hp, fun p ys H' R' g hp hr hl hx => own_res q g hp hr hl hx⟩
theorem sxl_sx1 {A0 C : Type} {i0 : Py A0} {ic : Py C} {K : PySem.W.Frag} {pre : A0 → Prop} {bad : A0 → Bool} {cls : Addr} {f : A0 → List C} (vs : List V) (R : Hp) (Q : VK) (E : XK) : sx1 K pre bad cls f vs R Q E → sxl1 K pre bad cls f vs R Q E := fun ⟨x0, v0, H, e0, e, r0, hp, q, qx⟩ =>
  ⟨x0, v0, H, e0, e, r0, hp, fun hb p ys H' R' g hp hr hl hx => own_res (q hb) g hp hr hl hx, qx⟩
theorem evl_call1 {A0 C : Type} {i0 : Py A0} {ic : Py C} {K : PySem.W.Frag} {Γ : Ctx} {pre : A0 → Prop} {f : A0 → List C} {x0 : A0} {t0 : TE} {E0 : XK} (h0 : Evx K t0 Γ x0) (hp : pre x0) : Evl K (tCall (sl1 K pre f) [] E0 (tCons t0 tNil)) Γ (f x0) := fun σ R0 H R e E Q k =>
  h0 σ R0 H R e E _ fun u0 H0 S0 g0 r0 => 
  ⟨x0, u0, H0, rfl, g0.inn, i0.mono (Ex.refl _) r0, hp, fun p ys H' R' g' q1 q2 q3 q4 => k p ys H' R' (g0.trans g') q1 (fresh_back g0.keep q2) q3 q4⟩
theorem evl_callx1 {A0 C : Type} {i0 : Py A0} {ic : Py C} {K : PySem.W.Frag} {Γ : Ctx} {pre : A0 → Prop} {bad : A0 → Bool} {cls : Addr} {f : A0 → List C} {x0 : A0} {t0 : TE} {E0 : XK} (h0 : Evx K t0 Γ x0) (hp : pre x0) (hb : bad x0 = false) : Evl K (tCall (sxl1 K pre bad cls f) [] E0 (tCons t0 tNil)) Γ (f x0) := fun σ R0 H R e E Q k =>
  h0 σ R0 H R e E _ fun u0 H0 S0 g0 r0 => 
  ⟨x0, u0, H0, rfl, g0.inn, i0.mono (Ex.refl _) r0, hp, fun _ p ys H' R' g' q1 q2 q3 q4 => k p ys H' R' (g0.trans g') q1 (fresh_back g0.keep q2) q3 q4, fun z => by rw [hb] at z; cases z⟩
section
variable {P : Program} {w : World} {K : PySem.W.Frag} {mg : Str → Option Value} {base : Heap}
theorem defl1 {A0 C : Type} [i0 : Py A0] [ic : Py C] {x qual : Str} {st : Stmt} {a : Addr} {fd : FuncData} {N ps : List Str} {k : Nat} {pre : A0 → Prop} {f : A0 → List C} (F : Fun K x qual st a fd) (S : FnScope N ps (defScope st)) (hps : ps.length = 1) (us : Ctx) (hus : us = List.replicate (N.length - 1) Slot.un)
    (hbody : ∀ (cdv : Value) (A : Around) (outer : List PySem.Env) (s : Shared) (H : Hp) (Q : VK) (E : XK), Room k (A.deeper (envOfC qual (defScope st) s.heap.objs.size a cdv)) →
      ∃ t, PSs (cxOf CX0 P w K mg base N qual (defScope st) a cdv A outer s H E).nox (defBody st) t ∧ ∀ (x0 : A0), pre x0 → ∀ (W : Wd) (D : Ends), W.K = K → (∀ σ R, D.nx σ R = D.rt .non R) → RetL W D (f x0) → Go W t D (.dat i0 x0 :: us)) : FnOk P w K mg base CX0 (k + 1) a fd ps (sl1 K pre f) := by
  refine F.ok S (fun vs H Q E h => ?_) (fun cdv A outer s R vs Q E hr h => ?_)
  · obtain ⟨x0, v0, H, rfl, _⟩ := h
    exact hps.symm
  · obtain ⟨x0, v0, H, rfl, e, r0, hp, q⟩ := h
    obtain ⟨t, h1, h2⟩ := hbody cdv A outer s R Q E hr
    subst hus
    exact ⟨t, h1, h2 x0 hp ⟨K, H, R, H⟩ _ rfl (fun _ _ => rfl) (fun p ys H' R' g q1 q2 q3 q4 => q p ys H' R' g q1 q2 q3 q4) _ H R (Ex.refl H) (Gr.refl e) (Env.start (Are.cons (s := Slot.dat i0 x0) r0 Are.nil) rfl)⟩
theorem deflx1 {A0 C : Type} [i0 : Py A0] [ic : Py C] {x qual : Str} {st : Stmt} {a : Addr} {fd : FuncData} {N ps : List Str} {k : Nat} {pre : A0 → Prop} {bad : A0 → Bool} {cls : Addr} {f : A0 → List C} (F : Fun K x qual st a fd) (S : FnScope N ps (defScope st)) (hps : ps.length = 1) (us : Ctx) (hus : us = List.replicate (N.length - 1) Slot.un)
    (hbody : ∀ (cdv : Value) (A : Around) (outer : List PySem.Env) (s : Shared) (H : Hp) (Q : VK) (E : XK), Room k (A.deeper (envOfC qual (defScope st) s.heap.objs.size a cdv)) →
      ∃ t, PSs (cxOf (L2N.CX P w) P w K mg base N qual (defScope st) a cdv A outer s H E) (defBody st) t ∧ ∀ (x0 : A0), pre x0 → ∀ (W : Wd) (D : Ends), W.K = K → (∀ σ R, D.nx σ R = D.rt .non R) → (bad x0 = false → RetL W D (f x0)) → (bad x0 = true → ∀ H' R', Gr W.H0 W.R0 H' R' → E (.ref cls) none R') → Go W t D (.dat i0 x0 :: us)) : FnOk P w K mg base (L2N.CX P w) (k + 1) a fd ps (sxl1 K pre bad cls f) := by
  refine okN F S (fun vs H Q E h => ?_) (fun cdv A outer s R vs Q E hr h => ?_)
  · obtain ⟨x0, v0, H, rfl, _⟩ := h
    exact hps.symm
  · obtain ⟨x0, v0, H, rfl, e, r0, hp, q, qx⟩ := h
    obtain ⟨t, h1, h2⟩ := hbody cdv A outer s R Q E hr
    subst hus
    exact ⟨t, h1, h2 x0 hp ⟨K, H, R, H⟩ _ rfl (fun _ _ => rfl) (fun hb p ys H' R' g q1 q2 q3 q4 => q hb p ys H' R' g q1 q2 q3 q4) (fun hb H' R' g => qx hb H' R' g) _ H R (Ex.refl H) (Gr.refl e) (Env.start (Are.cons (s := Slot.dat i0 x0) r0 Are.nil) rfl)⟩
end
theorem evz_call2 {A0 A1 C : Type} {i0 : Py A0} {i1 : Py A1} {ic : Py C} {W : Wd} {Γ : Ctx} {pre : A0 → A1 → Prop} {bad : A0 → A1 → Bool} {cls : Addr} {f : A0 → A1 → C} {x0 : A0} {x1 : A1} {t0 t1 : TE} {E : L2.St → XK} (h0 : Evx W.K t0 Γ x0) (h1 : Evx W.K t1 Γ x1) (hp : pre x0 x1) : Evz W (tCallS (sx2 W.K pre bad cls f) E (tCons t0 (tCons t1 tNil))) Γ (bad x0 x1) (f x0 x1) (fun σ R => E σ (.ref cls) none R) := fun σ H R ff gg EE Q k kx =>
  h0 σ W.R0 H R gg.inn EE _ fun u0 H0 S0 g0 r0 => h1 σ W.R0 H0 S0 g0.inn (EE.grow g0) _ fun u1 H1 S1 g1 r1 => 
  ⟨x0, x1, u0, u1, H1, rfl, g1.inn, i0.mono ((Ex.refl _).trans g1.up) r0, i1.mono (Ex.refl _) r1, hp, fun hb v H' R' g' r' => k hb v H' R' ((g0.trans g1).trans g') r', fun hb H' R' g' => kx hb H' R' ((g0.trans g1).trans g')⟩
/-- .. that hands back a new list, the caller's own -/
def sl2 {A0 A1 C : Type} [i0 : Py A0] [i1 : Py A1] [ic : Py C] (K : PySem.W.Frag) (pre : A0 → A1 → Prop) (f : A0 → A1 → List C) : Sp := fun vs R Q _ => ∃ (x0 : A0) (x1 : A1) (v0 v1 : V) (H : Hp), vs = [v0, v1] ∧ Ex H R ∧ i0.rel K x0 v0 H ∧ i1.rel K x1 v1 H ∧ pre x0 x1 ∧
  ∀ p ys H' R', Gr H R H' R' → H' p = none → R p = none → R' p = some (.lst ys) → Paired (fun x v => ic.rel K x v H') (f x0 x1) ys → Q (.ref p) R'
def sxl2 {A0 A1 C : Type} [i0 : Py A0] [i1 : Py A1] [ic : Py C] (K : PySem.W.Frag) (pre : A0 → A1 → Prop) (bad : A0 → A1 → Bool) (cls : Addr) (f : A0 → A1 → List C) : Sp := fun vs R Q E => ∃ (x0 : A0) (x1 : A1) (v0 v1 : V) (H : Hp), vs = [v0, v1] ∧ Ex H R ∧ i0.rel K x0 v0 H ∧ i1.rel K x1 v1 H ∧ pre x0 x1 ∧
  (bad x0 x1 = false → ∀ p ys H' R', Gr H R H' R' → H' p = none → R p = none → R' p = some (.lst ys) → Paired (fun x v => ic.rel K x v H') (f x0 x1) ys → Q (.ref p) R') ∧ (bad x0 x1 = true → ∀ H' R', Gr H R H' R' → E (.ref cls) none R')
theorem sl_sp2 {A0 A1 C : Type} {i0 : Py A0} {i1 : Py A1} {ic : Py C} {K : PySem.W.Frag} {pre : A0 → A1 → Prop} {f : A0 → A1 → List C} (vs : List V) (R : Hp) (Q : VK) (E : XK) : sp2 K pre f vs R Q E → sl2 K pre f vs R Q E := fun ⟨x0, x1, v0, v1, H, e0, e, r0, r1, hp, q⟩ =>
  ⟨x0, x1, v0, v1, H, e0, e, r0, r1, hp, fun p ys H' R' g hp hr hl hx => own_res q g hp hr hl hx⟩
theorem sxl_sx2 {A0 A1 C : Type} {i0 : Py A0} {i1 : Py A1} {ic : Py C} {K : PySem.W.Frag} {pre : A0 → A1 → Prop} {bad : A0 → A1 → Bool} {cls : Addr} {f : A0 → A1 → List C} (vs : List V) (R : Hp) (Q : VK) (E : XK) : sx2 K pre bad cls f vs R Q E → sxl2 K pre bad cls f vs R Q E := fun ⟨x0, x1, v0, v1, H, e0, e, r0, r1, hp, q, qx⟩ =>
  ⟨x0, x1, v0, v1, H, e0, e, r0, r1, hp, fun hb p ys H' R' g hp hr hl hx => own_res (q hb) g hp hr hl hx, qx⟩
theorem evl_call2 {A0 A1 C : Type} {i0 : Py A0} {i1 : Py A1} {ic : Py C} {K : PySem.W.Frag} {Γ : Ctx} {pre : A0 → A1 → Prop} {f : A0 → A1 → List C} {x0 : A0} {x1 : A1} {t0 t1 : TE} {E0 : XK} (h0 : Evx K t0 Γ x0) (h1 : Evx K t1 Γ x1) (hp : pre x0 x1) : Evl K (tCall (sl2 K pre f) [] E0 (tCons t0 (tCons t1 tNil))) Γ (f x0 x1) := fun σ R0 H R e E Q k =>
  h0 σ R0 H R e E _ fun u0 H0 S0 g0 r0 => h1 σ R0 H0 S0 g0.inn (E.grow g0) _ fun u1 H1 S1 g1 r1 => 
  ⟨x0, x1, u0, u1, H1, rfl, g1.inn, i0.mono ((Ex.refl _).trans g1.up) r0, i1.mono (Ex.refl _) r1, hp, fun p ys H' R' g' q1 q2 q3 q4 => k p ys H' R' ((g0.trans g1).trans g') q1 (fresh_back (g0.trans g1).keep q2) q3 q4⟩
theorem evl_callx2 {A0 A1 C : Type} {i0 : Py A0} {i1 : Py A1} {ic : Py C} {K : PySem.W.Frag} {Γ : Ctx} {pre : A0 → A1 → Prop} {bad : A0 → A1 → Bool} {cls : Addr} {f : A0 → A1 → List C} {x0 : A0} {x1 : A1} {t0 t1 : TE} {E0 : XK} (h0 : Evx K t0 Γ x0) (h1 : Evx K t1 Γ x1) (hp : pre x0 x1) (hb : bad x0 x1 = false) : Evl K (tCall (sxl2 K pre bad cls f) [] E0 (tCons t0 (tCons t1 tNil))) Γ (f x0 x1) := fun σ R0 H R e E Q k =>
  h0 σ R0 H R e E _ fun u0 H0 S0 g0 r0 => h1 σ R0 H0 S0 g0.inn (E.grow g0) _ fun u1 H1 S1 g1 r1 => 
  ⟨x0, x1, u0, u1, H1, rfl, g1.inn, i0.mono ((Ex.refl _).trans g1.up) r0, i1.mono (Ex.refl _) r1, hp, fun _ p ys H' R' g' q1 q2 q3 q4 => k p ys H' R' ((g0.trans g1).trans g') q1 (fresh_back (g0.trans g1).keep q2) q3 q4, fun z => by rw [hb] at z; cases z⟩
section
variable {P : Program} {w : World} {K : PySem.W.Frag} {mg : Str → Option Value} {base : Heap}
theorem defl2 {A0 A1 C : Type} [i0 : Py A0] [i1 : Py A1] [ic : Py C] {x qual : Str} {st : Stmt} {a : Addr} {fd : FuncData} {N ps : List Str} {k : Nat} {pre : A0 → A1 → Prop} {f : A0 → A1 → List C} (F : Fun K x qual st a fd) (S : FnScope N ps (defScope st)) (hps : ps.length = 2) (us : Ctx) (hus : us = List.replicate (N.length - 2) Slot.un)
    (hbody : ∀ (cdv : Value) (A : Around) (outer : List PySem.Env) (s : Shared) (H : Hp) (Q : VK) (E : XK), Room k (A.deeper (envOfC qual (defScope st) s.heap.objs.size a cdv)) →
      ∃ t, PSs (cxOf CX0 P w K mg base N qual (defScope st) a cdv A outer s H E).nox (defBody st) t ∧ ∀ (x0 : A0) (x1 : A1), pre x0 x1 → ∀ (W : Wd) (D : Ends), W.K = K → (∀ σ R, D.nx σ R = D.rt .non R) → RetL W D (f x0 x1) → Go W t D (.dat i0 x0 :: .dat i1 x1 :: us)) : FnOk P w K mg base CX0 (k + 1) a fd ps (sl2 K pre f) := by
  refine F.ok S (fun vs H Q E h => ?_) (fun cdv A outer s R vs Q E hr h => ?_)
  · obtain ⟨x0, x1, v0, v1, H, rfl, _⟩ := h
    exact hps.symm
  · obtain ⟨x0, x1, v0, v1, H, rfl, e, r0, r1, hp, q⟩ := h
    obtain ⟨t, h1, h2⟩ := hbody cdv A outer s R Q E hr
    subst hus
    exact ⟨t, h1, h2 x0 x1 hp ⟨K, H, R, H⟩ _ rfl (fun _ _ => rfl) (fun p ys H' R' g q1 q2 q3 q4 => q p ys H' R' g q1 q2 q3 q4) _ H R (Ex.refl H) (Gr.refl e) (Env.start (Are.cons (s := Slot.dat i0 x0) r0 (Are.cons (s := Slot.dat i1 x1) r1 Are.nil)) rfl)⟩
theorem deflx2 {A0 A1 C : Type} [i0 : Py A0] [i1 : Py A1] [ic : Py C] {x qual : Str} {st : Stmt} {a : Addr} {fd : FuncData} {N ps : List Str} {k : Nat} {pre : A0 → A1 → Prop} {bad : A0 → A1 → Bool} {cls : Addr} {f : A0 → A1 → List C} (F : Fun K x qual st a fd) (S : FnScope N ps (defScope st)) (hps : ps.length = 2) (us : Ctx) (hus : us = List.replicate (N.length - 2) Slot.un)
    (hbody : ∀ (cdv : Value) (A : Around) (outer : List PySem.Env) (s : Shared) (H : Hp) (Q : VK) (E : XK), Room k (A.deeper (envOfC qual (defScope st) s.heap.objs.size a cdv)) →
      ∃ t, PSs (cxOf (L2N.CX P w) P w K mg base N qual (defScope st) a cdv A outer s H E) (defBody st) t ∧ ∀ (x0 : A0) (x1 : A1), pre x0 x1 → ∀ (W : Wd) (D : Ends), W.K = K → (∀ σ R, D.nx σ R = D.rt .non R) → (bad x0 x1 = false → RetL W D (f x0 x1)) → (bad x0 x1 = true → ∀ H' R', Gr W.H0 W.R0 H' R' → E (.ref cls) none R') → Go W t D (.dat i0 x0 :: .dat i1 x1 :: us)) : FnOk P w K mg base (L2N.CX P w) (k + 1) a fd ps (sxl2 K pre bad cls f) := by
  refine okN F S (fun vs H Q E h => ?_) (fun cdv A outer s R vs Q E hr h => ?_)
  · obtain ⟨x0, x1, v0, v1, H, rfl, _⟩ := h
    exact hps.symm
  · obtain ⟨x0, x1, v0, v1, H, rfl, e, r0, r1, hp, q, qx⟩ := h
    obtain ⟨t, h1, h2⟩ := hbody cdv A outer s R Q E hr
    subst hus
    exact ⟨t, h1, h2 x0 x1 hp ⟨K, H, R, H⟩ _ rfl (fun _ _ => rfl) (fun hb p ys H' R' g q1 q2 q3 q4 => q hb p ys H' R' g q1 q2 q3 q4) (fun hb H' R' g => qx hb H' R' g) _ H R (Ex.refl H) (Gr.refl e) (Env.start (Are.cons (s := Slot.dat i0 x0) r0 (Are.cons (s := Slot.dat i1 x1) r1 Are.nil)) rfl)⟩
end
theorem evz_call3 {A0 A1 A2 C : Type} {i0 : Py A0} {i1 : Py A1} {i2 : Py A2} {ic : Py C} {W : Wd} {Γ : Ctx} {pre : A0 → A1 → A2 → Prop} {bad : A0 → A1 → A2 → Bool} {cls : Addr} {f : A0 → A1 → A2 → C} {x0 : A0} {x1 : A1} {x2 : A2} {t0 t1 t2 : TE} {E : L2.St → XK} (h0 : Evx W.K t0 Γ x0) (h1 : Evx W.K t1 Γ x1) (h2 : Evx W.K t2 Γ x2) (hp : pre x0 x1 x2) : Evz W (tCallS (sx3 W.K pre bad cls f) E (tCons t0 (tCons t1 (tCons t2 tNil)))) Γ (bad x0 x1 x2) (f x0 x1 x2) (fun σ R => E σ (.ref cls) none R) := fun σ H R ff gg EE Q k kx =>
  h0 σ W.R0 H R gg.inn EE _ fun u0 H0 S0 g0 r0 => h1 σ W.R0 H0 S0 g0.inn (EE.grow g0) _ fun u1 H1 S1 g1 r1 => h2 σ W.R0 H1 S1 g1.inn ((EE.grow g0).grow g1) _ fun u2 H2 S2 g2 r2 => 
  ⟨x0, x1, x2, u0, u1, u2, H2, rfl, g2.inn, i0.mono (((Ex.refl _).trans g1.up).trans g2.up) r0, i1.mono ((Ex.refl _).trans g2.up) r1, i2.mono (Ex.refl _) r2, hp, fun hb v H' R' g' r' => k hb v H' R' ((g0.trans (g1.trans g2)).trans g') r', fun hb H' R' g' => kx hb H' R' ((g0.trans (g1.trans g2)).trans g')⟩
/-- .. that hands back a new list, the caller's own -/
def sl3 {A0 A1 A2 C : Type} [i0 : Py A0] [i1 : Py A1] [i2 : Py A2] [ic : Py C] (K : PySem.W.Frag) (pre : A0 → A1 → A2 → Prop) (f : A0 → A1 → A2 → List C) : Sp := fun vs R Q _ => ∃ (x0 : A0) (x1 : A1) (x2 : A2) (v0 v1 v2 : V) (H : Hp), vs = [v0, v1, v2] ∧ Ex H R ∧ i0.rel K x0 v0 H ∧ i1.rel K x1 v1 H ∧ i2.rel K x2 v2 H ∧ pre x0 x1 x2 ∧
  ∀ p ys H' R', Gr H R H' R' → H' p = none → R p = none → R' p = some (.lst ys) → Paired (fun x v => ic.rel K x v H') (f x0 x1 x2) ys → Q (.ref p) R'
def sxl3 {A0 A1 A2 C : Type} [i0 : Py A0] [i1 : Py A1] [i2 : Py A2] [ic : Py C] (K : PySem.W.Frag) (pre : A0 → A1 → A2 → Prop) (bad : A0 → A1 → A2 → Bool) (cls : Addr) (f : A0 → A1 → A2 → List C) : Sp := fun vs R Q E => ∃ (x0 : A0) (x1 : A1) (x2 : A2) (v0 v1 v2 : V) (H : Hp), vs = [v0, v1, v2] ∧ Ex H R ∧ i0.rel K x0 v0 H ∧ i1.rel K x1 v1 H ∧ i2.rel K x2 v2 H ∧ pre x0 x1 x2 ∧
  (bad x0 x1 x2 = false → ∀ p ys H' R', Gr H R H' R' → H' p = none → R p = none → R' p = some (.lst ys) → Paired (fun x v => ic.rel K x v H') (f x0 x1 x2) ys → Q (.ref p) R') ∧ (bad x0 x1 x2 = true → ∀ H' R', Gr H R H' R' → E (.ref cls) none R')
theorem sl_sp3 {A0 A1 A2 C : Type} {i0 : Py A0} {i1 : Py A1} {i2 : Py A2} {ic : Py C} {K : PySem.W.Frag} {pre : A0 → A1 → A2 → Prop} {f : A0 → A1 → A2 → List C} (vs : List V) (R : Hp) (Q : VK) (E : XK) : sp3 K pre f vs R Q E → sl3 K pre f vs R Q E := fun ⟨x0, x1, x2, v0, v1, v2, H, e0, e, r0, r1, r2, hp, q⟩ =>
  ⟨x0, x1, x2, v0, v1, v2, H, e0, e, r0, r1, r2, hp, fun p ys H' R' g hp hr hl hx => own_res q g hp hr hl hx⟩
theorem sxl_sx3 {A0 A1 A2 C : Type} {i0 : Py A0} {i1 : Py A1} {i2 : Py A2} {ic : Py C} {K : PySem.W.Frag} {pre : A0 → A1 → A2 → Prop} {bad : A0 → A1 → A2 → Bool} {cls : Addr} {f : A0 → A1 → A2 → List C} (vs : List V) (R : Hp) (Q : VK) (E : XK) : sx3 K pre bad cls f vs R Q E → sxl3 K pre bad cls f vs R Q E := fun ⟨x0, x1, x2, v0, v1, v2, H, e0, e, r0, r1, r2, hp, q, qx⟩ =>
  ⟨x0, x1, x2, v0, v1, v2, H, e0, e, r0, r1, r2, hp, fun hb p ys H' R' g hp hr hl hx => own_res (q hb) g hp hr hl hx, qx⟩
theorem evl_call3 {A0 A1 A2 C : Type} {i0 : Py A0} {i1 : Py A1} {i2 : Py A2} {ic : Py C} {K : PySem.W.Frag} {Γ : Ctx} {pre : A0 → A1 → A2 → Prop} {f : A0 → A1 → A2 → List C} {x0 : A0} {x1 : A1} {x2 : A2} {t0 t1 t2 : TE} {E0 : XK} (h0 : Evx K t0 Γ x0) (h1 : Evx K t1 Γ x1) (h2 : Evx K t2 Γ x2) (hp : pre x0 x1 x2) : Evl K (tCall (sl3 K pre f) [] E0 (tCons t0 (tCons t1 (tCons t2 tNil)))) Γ (f x0 x1 x2) := fun σ R0 H R e E Q k =>
  h0 σ R0 H R e E _ fun u0 H0 S0 g0 r0 => h1 σ R0 H0 S0 g0.inn (E.grow g0) _ fun u1 H1 S1 g1 r1 => h2 σ R0 H1 S1 g1.inn ((E.grow g0).grow g1) _ fun u2 H2 S2 g2 r2 => 
  ⟨x0, x1, x2, u0, u1, u2, H2, rfl, g2.inn, i0.mono (((Ex.refl _).trans g1.up).trans g2.up) r0, i1.mono ((Ex.refl _).trans g2.up) r1, i2.mono (Ex.refl _) r2, hp, fun p ys H' R' g' q1 q2 q3 q4 => k p ys H' R' ((g0.trans (g1.trans g2)).trans g') q1 (fresh_back (g0.trans (g1.trans g2)).keep q2) q3 q4⟩
theorem evl_callx3 {A0 A1 A2 C : Type} {i0 : Py A0} {i1 : Py A1} {i2 : Py A2} {ic : Py C} {K : PySem.W.Frag} {Γ : Ctx} {pre : A0 → A1 → A2 → Prop} {bad : A0 → A1 → A2 → Bool} {cls : Addr} {f : A0 → A1 → A2 → List C} {x0 : A0} {x1 : A1} {x2 : A2} {t0 t1 t2 : TE} {E0 : XK} (h0 : Evx K t0 Γ x0) (h1 : Evx K t1 Γ x1) (h2 : Evx K t2 Γ x2) (hp : pre x0 x1 x2) (hb : bad x0 x1 x2 = false) : Evl K (tCall (sxl3 K pre bad cls f) [] E0 (tCons t0 (tCons t1 (tCons t2 tNil)))) Γ (f x0 x1 x2) := fun σ R0 H R e E Q k =>
  h0 σ R0 H R e E _ fun u0 H0 S0 g0 r0 => h1 σ R0 H0 S0 g0.inn (E.grow g0) _ fun u1 H1 S1 g1 r1 => h2 σ R0 H1 S1 g1.inn ((E.grow g0).grow g1) _ fun u2 H2 S2 g2 r2 => 
  ⟨x0, x1, x2, u0, u1, u2, H2, rfl, g2.inn, i0.mono (((Ex.refl _).trans g1.up).trans g2.up) r0, i1.mono ((Ex.refl _).trans g2.up) r1, i2.mono (Ex.refl _) r2, hp, fun _ p ys H' R' g' q1 q2 q3 q4 => k p ys H' R' ((g0.trans (g1.trans g2)).trans g') q1 (fresh_back (g0.trans (g1.trans g2)).keep q2) q3 q4, fun z => by rw [hb] at z; cases z⟩
section
variable {P : Program} {w : World} {K : PySem.W.Frag} {mg : Str → Option Value} {base : Heap}
theorem defl3 {A0 A1 A2 C : Type} [i0 : Py A0] [i1 : Py A1] [i2 : Py A2] [ic : Py C] {x qual : Str} {st : Stmt} {a : Addr} {fd : FuncData} {N ps : List Str} {k : Nat} {pre : A0 → A1 → A2 → Prop} {f : A0 → A1 → A2 → List C} (F : Fun K x qual st a fd) (S : FnScope N ps (defScope st)) (hps : ps.length = 3) (us : Ctx) (hus : us = List.replicate (N.length - 3) Slot.un)
    (hbody : ∀ (cdv : Value) (A : Around) (outer : List PySem.Env) (s : Shared) (H : Hp) (Q : VK) (E : XK), Room k (A.deeper (envOfC qual (defScope st) s.heap.objs.size a cdv)) →
      ∃ t, PSs (cxOf CX0 P w K mg base N qual (defScope st) a cdv A outer s H E).nox (defBody st) t ∧ ∀ (x0 : A0) (x1 : A1) (x2 : A2), pre x0 x1 x2 → ∀ (W : Wd) (D : Ends), W.K = K → (∀ σ R, D.nx σ R = D.rt .non R) → RetL W D (f x0 x1 x2) → Go W t D (.dat i0 x0 :: .dat i1 x1 :: .dat i2 x2 :: us)) : FnOk P w K mg base CX0 (k + 1) a fd ps (sl3 K pre f) := by
  refine F.ok S (fun vs H Q E h => ?_) (fun cdv A outer s R vs Q E hr h => ?_)
  · obtain ⟨x0, x1, x2, v0, v1, v2, H, rfl, _⟩ := h
    exact hps.symm
  · obtain ⟨x0, x1, x2, v0, v1, v2, H, rfl, e, r0, r1, r2, hp, q⟩ := h
    obtain ⟨t, h1, h2⟩ := hbody cdv A outer s R Q E hr
    subst hus
    exact ⟨t, h1, h2 x0 x1 x2 hp ⟨K, H, R, H⟩ _ rfl (fun _ _ => rfl) (fun p ys H' R' g q1 q2 q3 q4 => q p ys H' R' g q1 q2 q3 q4) _ H R (Ex.refl H) (Gr.refl e) (Env.start (Are.cons (s := Slot.dat i0 x0) r0 (Are.cons (s := Slot.dat i1 x1) r1 (Are.cons (s := Slot.dat i2 x2) r2 Are.nil))) rfl)⟩
theorem deflx3 {A0 A1 A2 C : Type} [i0 : Py A0] [i1 : Py A1] [i2 : Py A2] [ic : Py C] {x qual : Str} {st : Stmt} {a : Addr} {fd : FuncData} {N ps : List Str} {k : Nat} {pre : A0 → A1 → A2 → Prop} {bad : A0 → A1 → A2 → Bool} {cls : Addr} {f : A0 → A1 → A2 → List C} (F : Fun K x qual st a fd) (S : FnScope N ps (defScope st)) (hps : ps.length = 3) (us : Ctx) (hus : us = List.replicate (N.length - 3) Slot.un)
    (hbody : ∀ (cdv : Value) (A : Around) (outer : List PySem.Env) (s : Shared) (H : Hp) (Q : VK) (E : XK), Room k (A.deeper (envOfC qual (defScope st) s.heap.objs.size a cdv)) →
      ∃ t, PSs (cxOf (L2N.CX P w) P w K mg base N qual (defScope st) a cdv A outer s H E) (defBody st) t ∧ ∀ (x0 : A0) (x1 : A1) (x2 : A2), pre x0 x1 x2 → ∀ (W : Wd) (D : Ends), W.K = K → (∀ σ R, D.nx σ R = D.rt .non R) → (bad x0 x1 x2 = false → RetL W D (f x0 x1 x2)) → (bad x0 x1 x2 = true → ∀ H' R', Gr W.H0 W.R0 H' R' → E (.ref cls) none R') → Go W t D (.dat i0 x0 :: .dat i1 x1 :: .dat i2 x2 :: us)) : FnOk P w K mg base (L2N.CX P w) (k + 1) a fd ps (sxl3 K pre bad cls f) := by
  refine okN F S (fun vs H Q E h => ?_) (fun cdv A outer s R vs Q E hr h => ?_)
  · obtain ⟨x0, x1, x2, v0, v1, v2, H, rfl, _⟩ := h
    exact hps.symm
  · obtain ⟨x0, x1, x2, v0, v1, v2, H, rfl, e, r0, r1, r2, hp, q, qx⟩ := h
    obtain ⟨t, h1, h2⟩ := hbody cdv A outer s R Q E hr
    subst hus
    exact ⟨t, h1, h2 x0 x1 x2 hp ⟨K, H, R, H⟩ _ rfl (fun _ _ => rfl) (fun hb p ys H' R' g q1 q2 q3 q4 => q hb p ys H' R' g q1 q2 q3 q4) (fun hb H' R' g => qx hb H' R' g) _ H R (Ex.refl H) (Gr.refl e) (Env.start (Are.cons (s := Slot.dat i0 x0) r0 (Are.cons (s := Slot.dat i1 x1) r1 (Are.cons (s := Slot.dat i2 x2) r2 Are.nil))) rfl)⟩
end
theorem evz_call4 {A0 A1 A2 A3 C : Type} {i0 : Py A0} {i1 : Py A1} {i2 : Py A2} {i3 : Py A3} {ic : Py C} {W : Wd} {Γ : Ctx} {pre : A0 → A1 → A2 → A3 → Prop} {bad : A0 → A1 → A2 → A3 → Bool} {cls : Addr} {f : A0 → A1 → A2 → A3 → C} {x0 : A0} {x1 : A1} {x2 : A2} {x3 : A3} {t0 t1 t2 t3 : TE} {E : L2.St → XK} (h0 : Evx W.K t0 Γ x0) (h1 : Evx W.K t1 Γ x1) (h2 : Evx W.K t2 Γ x2) (h3 : Evx W.K t3 Γ x3) (hp : pre x0 x1 x2 x3) : Evz W (tCallS (sx4 W.K pre bad cls f) E (tCons t0 (tCons t1 (tCons t2 (tCons t3 tNil))))) Γ (bad x0 x1 x2 x3) (f x0 x1 x2 x3) (fun σ R => E σ (.ref cls) none R) := fun σ H R ff gg EE Q k kx =>
  h0 σ W.R0 H R gg.inn EE _ fun u0 H0 S0 g0 r0 => h1 σ W.R0 H0 S0 g0.inn (EE.grow g0) _ fun u1 H1 S1 g1 r1 => h2 σ W.R0 H1 S1 g1.inn ((EE.grow g0).grow g1) _ fun u2 H2 S2 g2 r2 => h3 σ W.R0 H2 S2 g2.inn (((EE.grow g0).grow g1).grow g2) _ fun u3 H3 S3 g3 r3 => 
  ⟨x0, x1, x2, x3, u0, u1, u2, u3, H3, rfl, g3.inn, i0.mono ((((Ex.refl _).trans g1.up).trans g2.up).trans g3.up) r0, i1.mono (((Ex.refl _).trans g2.up).trans g3.up) r1, i2.mono ((Ex.refl _).trans g3.up) r2, i3.mono (Ex.refl _) r3, hp, fun hb v H' R' g' r' => k hb v H' R' ((g0.trans (g1.trans (g2.trans g3))).trans g') r', fun hb H' R' g' => kx hb H' R' ((g0.trans (g1.trans (g2.trans g3))).trans g')⟩
/-- .. that hands back a new list, the caller's own -/
def sl4 {A0 A1 A2 A3 C : Type} [i0 : Py A0] [i1 : Py A1] [i2 : Py A2] [i3 : Py A3] [ic : Py C] (K : PySem.W.Frag) (pre : A0 → A1 → A2 → A3 → Prop) (f : A0 → A1 → A2 → A3 → List C) : Sp := fun vs R Q _ => ∃ (x0 : A0) (x1 : A1) (x2 : A2) (x3 : A3) (v0 v1 v2 v3 : V) (H : Hp), vs = [v0, v1, v2, v3] ∧ Ex H R ∧ i0.rel K x0 v0 H ∧ i1.rel K x1 v1 H ∧ i2.rel K x2 v2 H ∧ i3.rel K x3 v3 H ∧ pre x0 x1 x2 x3 ∧
  ∀ p ys H' R', Gr H R H' R' → H' p = none → R p = none → R' p = some (.lst ys) → Paired (fun x v => ic.rel K x v H') (f x0 x1 x2 x3) ys → Q (.ref p) R'
def sxl4 {A0 A1 A2 A3 C : Type} [i0 : Py A0] [i1 : Py A1] [i2 : Py A2] [i3 : Py A3] [ic : Py C] (K : PySem.W.Frag) (pre : A0 → A1 → A2 → A3 → Prop) (bad : A0 → A1 → A2 → A3 → Bool) (cls : Addr) (f : A0 → A1 → A2 → A3 → List C) : Sp := fun vs R Q E => ∃ (x0 : A0) (x1 : A1) (x2 : A2) (x3 : A3) (v0 v1 v2 v3 : V) (H : Hp), vs = [v0, v1, v2, v3] ∧ Ex H R ∧ i0.rel K x0 v0 H ∧ i1.rel K x1 v1 H ∧ i2.rel K x2 v2 H ∧ i3.rel K x3 v3 H ∧ pre x0 x1 x2 x3 ∧
  (bad x0 x1 x2 x3 = false → ∀ p ys H' R', Gr H R H' R' → H' p = none → R p = none → R' p = some (.lst ys) → Paired (fun x v => ic.rel K x v H') (f x0 x1 x2 x3) ys → Q (.ref p) R') ∧ (bad x0 x1 x2 x3 = true → ∀ H' R', Gr H R H' R' → E (.ref cls) none R')
theorem sl_sp4 {A0 A1 A2 A3 C : Type} {i0 : Py A0} {i1 : Py A1} {i2 : Py A2} {i3 : Py A3} {ic : Py C} {K : PySem.W.Frag} {pre : A0 → A1 → A2 → A3 → Prop} {f : A0 → A1 → A2 → A3 → List C} (vs : List V) (R : Hp) (Q : VK) (E : XK) : sp4 K pre f vs R Q E → sl4 K pre f vs R Q E := fun ⟨x0, x1, x2, x3, v0, v1, v2, v3, H, e0, e, r0, r1, r2, r3, hp, q⟩ =>
  ⟨x0, x1, x2, x3, v0, v1, v2, v3, H, e0, e, r0, r1, r2, r3, hp, fun p ys H' R' g hp hr hl hx => own_res q g hp hr hl hx⟩
theorem sxl_sx4 {A0 A1 A2 A3 C : Type} {i0 : Py A0} {i1 : Py A1} {i2 : Py A2} {i3 : Py A3} {ic : Py C} {K : PySem.W.Frag} {pre : A0 → A1 → A2 → A3 → Prop} {bad : A0 → A1 → A2 → A3 → Bool} {cls : Addr} {f : A0 → A1 → A2 → A3 → List C} (vs : List V) (R : Hp) (Q : VK) (E : XK) : sx4 K pre bad cls f vs R Q E → sxl4 K pre bad cls f vs R Q E := fun ⟨x0, x1, x2, x3, v0, v1, v2, v3, H, e0, e, r0, r1, r2, r3, hp, q, qx⟩ =>
  ⟨x0, x1, x2, x3, v0, v1, v2, v3, H, e0, e, r0, r1, r2, r3, hp, fun hb p ys H' R' g hp hr hl hx => own_res (q hb) g hp hr hl hx, qx⟩
theorem evl_call4 {A0 A1 A2 A3 C : Type} {i0 : Py A0} {i1 : Py A1} {i2 : Py A2} {i3 : Py A3} {ic : Py C} {K : PySem.W.Frag} {Γ : Ctx} {pre : A0 → A1 → A2 → A3 → Prop} {f : A0 → A1 → A2 → A3 → List C} {x0 : A0} {x1 : A1} {x2 : A2} {x3 : A3} {t0 t1 t2 t3 : TE} {E0 : XK} (h0 : Evx K t0 Γ x0) (h1 : Evx K t1 Γ x1) (h2 : Evx K t2 Γ x2) (h3 : Evx K t3 Γ x3) (hp : pre x0 x1 x2 x3) : Evl K (tCall (sl4 K pre f) [] E0 (tCons t0 (tCons t1 (tCons t2 (tCons t3 tNil))))) Γ (f x0 x1 x2 x3) := fun σ R0 H R e E Q k =>
  h0 σ R0 H R e E _ fun u0 H0 S0 g0 r0 => h1 σ R0 H0 S0 g0.inn (E.grow g0) _ fun u1 H1 S1 g1 r1 => h2 σ R0 H1 S1 g1.inn ((E.grow g0).grow g1) _ fun u2 H2 S2 g2 r2 => h3 σ R0 H2 S2 g2.inn (((E.grow g0).grow g1).grow g2) _ fun u3 H3 S3 g3 r3 => 
  ⟨x0, x1, x2, x3, u0, u1, u2, u3, H3, rfl, g3.inn, i0.mono ((((Ex.refl _).trans g1.up).trans g2.up).trans g3.up) r0, i1.mono (((Ex.refl _).trans g2.up).trans g3.up) r1, i2.mono ((Ex.refl _).trans g3.up) r2, i3.mono (Ex.refl _) r3, hp, fun p ys H' R' g' q1 q2 q3 q4 => k p ys H' R' ((g0.trans (g1.trans (g2.trans g3))).trans g') q1 (fresh_back (g0.trans (g1.trans (g2.trans g3))).keep q2) q3 q4⟩
theorem evl_callx4 {A0 A1 A2 A3 C : Type} {i0 : Py A0} {i1 : Py A1} {i2 : Py A2} {i3 : Py A3} {ic : Py C} {K : PySem.W.Frag} {Γ : Ctx} {pre : A0 → A1 → A2 → A3 → Prop} {bad : A0 → A1 → A2 → A3 → Bool} {cls : Addr} {f : A0 → A1 → A2 → A3 → List C} {x0 : A0} {x1 : A1} {x2 : A2} {x3 : A3} {t0 t1 t2 t3 : TE} {E0 : XK} (h0 : Evx K t0 Γ x0) (h1 : Evx K t1 Γ x1) (h2 : Evx K t2 Γ x2) (h3 : Evx K t3 Γ x3) (hp : pre x0 x1 x2 x3) (hb : bad x0 x1 x2 x3 = false) : Evl K (tCall (sxl4 K pre bad cls f) [] E0 (tCons t0 (tCons t1 (tCons t2 (tCons t3 tNil))))) Γ (f x0 x1 x2 x3) := fun σ R0 H R e E Q k =>
  h0 σ R0 H R e E _ fun u0 H0 S0 g0 r0 => h1 σ R0 H0 S0 g0.inn (E.grow g0) _ fun u1 H1 S1 g1 r1 => h2 σ R0 H1 S1 g1.inn ((E.grow g0).grow g1) _ fun u2 H2 S2 g2 r2 => h3 σ R0 H2 S2 g2.inn (((E.grow g0).grow g1).grow g2) _ fun u3 H3 S3 g3 r3 => 
  ⟨x0, x1, x2, x3, u0, u1, u2, u3, H3, rfl, g3.inn, i0.mono ((((Ex.refl _).trans g1.up).trans g2.up).trans g3.up) r0, i1.mono (((Ex.refl _).trans g2.up).trans g3.up) r1, i2.mono ((Ex.refl _).trans g3.up) r2, i3.mono (Ex.refl _) r3, hp, fun _ p ys H' R' g' q1 q2 q3 q4 => k p ys H' R' ((g0.trans (g1.trans (g2.trans g3))).trans g') q1 (fresh_back (g0.trans (g1.trans (g2.trans g3))).keep q2) q3 q4, fun z => by rw [hb] at z; cases z⟩
section
variable {P : Program} {w : World} {K : PySem.W.Frag} {mg : Str → Option Value} {base : Heap}
theorem defl4 {A0 A1 A2 A3 C : Type} [i0 : Py A0] [i1 : Py A1] [i2 : Py A2] [i3 : Py A3] [ic : Py C] {x qual : Str} {st : Stmt} {a : Addr} {fd : FuncData} {N ps : List Str} {k : Nat} {pre : A0 → A1 → A2 → A3 → Prop} {f : A0 → A1 → A2 → A3 → List C} (F : Fun K x qual st a fd) (S : FnScope N ps (defScope st)) (hps : ps.length = 4) (us : Ctx) (hus : us = List.replicate (N.length - 4) Slot.un)
    (hbody : ∀ (cdv : Value) (A : Around) (outer : List PySem.Env) (s : Shared) (H : Hp) (Q : VK) (E : XK), Room k (A.deeper (envOfC qual (defScope st) s.heap.objs.size a cdv)) →
      ∃ t, PSs (cxOf CX0 P w K mg base N qual (defScope st) a cdv A outer s H E).nox (defBody st) t ∧ ∀ (x0 : A0) (x1 : A1) (x2 : A2) (x3 : A3), pre x0 x1 x2 x3 → ∀ (W : Wd) (D : Ends), W.K = K → (∀ σ R, D.nx σ R = D.rt .non R) → RetL W D (f x0 x1 x2 x3) → Go W t D (.dat i0 x0 :: .dat i1 x1 :: .dat i2 x2 :: .dat i3 x3 :: us)) : FnOk P w K mg base CX0 (k + 1) a fd ps (sl4 K pre f) := by
  refine F.ok S (fun vs H Q E h => ?_) (fun cdv A outer s R vs Q E hr h => ?_)
  · obtain ⟨x0, x1, x2, x3, v0, v1, v2, v3, H, rfl, _⟩ := h
    exact hps.symm
  · obtain ⟨x0, x1, x2, x3, v0, v1, v2, v3, H, rfl, e, r0, r1, r2, r3, hp, q⟩ := h
    obtain ⟨t, h1, h2⟩ := hbody cdv A outer s R Q E hr
    subst hus
    exact ⟨t, h1, h2 x0 x1 x2 x3 hp ⟨K, H, R, H⟩ _ rfl (fun _ _ => rfl) (fun p ys H' R' g q1 q2 q3 q4 => q p ys H' R' g q1 q2 q3 q4) _ H R (Ex.refl H) (Gr.refl e) (Env.start (Are.cons (s := Slot.dat i0 x0) r0 (Are.cons (s := Slot.dat i1 x1) r1 (Are.cons (s := Slot.dat i2 x2) r2 (Are.cons (s := Slot.dat i3 x3) r3 Are.nil)))) rfl)⟩
theorem deflx4 {A0 A1 A2 A3 C : Type} [i0 : Py A0] [i1 : Py A1] [i2 : Py A2] [i3 : Py A3] [ic : Py C] {x qual : Str} {st : Stmt} {a : Addr} {fd : FuncData} {N ps : List Str} {k : Nat} {pre : A0 → A1 → A2 → A3 → Prop} {bad : A0 → A1 → A2 → A3 → Bool} {cls : Addr} {f : A0 → A1 → A2 → A3 → List C} (F : Fun K x qual st a fd) (S : FnScope N ps (defScope st)) (hps : ps.length = 4) (us : Ctx) (hus : us = List.replicate (N.length - 4) Slot.un)
    (hbody : ∀ (cdv : Value) (A : Around) (outer : List PySem.Env) (s : Shared) (H : Hp) (Q : VK) (E : XK), Room k (A.deeper (envOfC qual (defScope st) s.heap.objs.size a cdv)) →
      ∃ t, PSs (cxOf (L2N.CX P w) P w K mg base N qual (defScope st) a cdv A outer s H E) (defBody st) t ∧ ∀ (x0 : A0) (x1 : A1) (x2 : A2) (x3 : A3), pre x0 x1 x2 x3 → ∀ (W : Wd) (D : Ends), W.K = K → (∀ σ R, D.nx σ R = D.rt .non R) → (bad x0 x1 x2 x3 = false → RetL W D (f x0 x1 x2 x3)) → (bad x0 x1 x2 x3 = true → ∀ H' R', Gr W.H0 W.R0 H' R' → E (.ref cls) none R') → Go W t D (.dat i0 x0 :: .dat i1 x1 :: .dat i2 x2 :: .dat i3 x3 :: us)) : FnOk P w K mg base (L2N.CX P w) (k + 1) a fd ps (sxl4 K pre bad cls f) := by
  refine okN F S (fun vs H Q E h => ?_) (fun cdv A outer s R vs Q E hr h => ?_)
  · obtain ⟨x0, x1, x2, x3, v0, v1, v2, v3, H, rfl, _⟩ := h
    exact hps.symm
  · obtain ⟨x0, x1, x2, x3, v0, v1, v2, v3, H, rfl, e, r0, r1, r2, r3, hp, q, qx⟩ := h
    obtain ⟨t, h1, h2⟩ := hbody cdv A outer s R Q E hr
    subst hus
    exact ⟨t, h1, h2 x0 x1 x2 x3 hp ⟨K, H, R, H⟩ _ rfl (fun _ _ => rfl) (fun hb p ys H' R' g q1 q2 q3 q4 => q hb p ys H' R' g q1 q2 q3 q4) (fun hb H' R' g => qx hb H' R' g) _ H R (Ex.refl H) (Gr.refl e) (Env.start (Are.cons (s := Slot.dat i0 x0) r0 (Are.cons (s := Slot.dat i1 x1) r1 (Are.cons (s := Slot.dat i2 x2) r2 (Are.cons (s := Slot.dat i3 x3) r3 Are.nil)))) rfl)⟩
end
end Dn

/-! Dn: calls that may raise, isinstance, == of data, errors that are held and defs that are told of them. -/
namespace Dn
open PySem PySem.Spec PyProof.Rows L2 Dx
section
variable {X : Cx} {W : WX} {j k : Nat} {x m : Str} {ps : List Str} {sp : Sp} {p apos pos : Pos} {e o : Expr} {es : List Expr} {ta : TE} {t : TA}
theorem passAtN (tk : L2N.Takes X W) (σ : L2.St) : PassesAt (L2N.CX X.prog X.w) X σ (WE W σ) := fun _ _ _ _ _ I c => tk _ _ (L2N.XE.of_call I (fun _ _ _ h => h) c)
theorem pe_clS (c : Cl X.prog X.w X.K X.mg X.base (L2N.CX X.prog X.w) j x ps sp) (hr : Room k X.A) (hg : Gl X x) (tk : L2N.Takes X W) (ha : PA X (e :: es) t) (hk : j ≤ k := by decide) (hdb : (x == ("__debug__" : Str)) = false := by decide)
    (he : starEach (e :: es) X.env = (false, eval e X.env) :: starEach es X.env := by rfl) (hpl : (backTo pos (starEach es X.env)).any (·.1) = false := by rfl) : PE X (.Call (.Name x p) (e :: es) [] pos) (tCallS sp (WE W) t) := by
  obtain ⟨f, fd, F, hm, kp, hb⟩ := c.ex
  exact pe_callS F (hr.mono hk) hg hm kp hb (passAtN tk) ha hdb he hpl
theorem pe_mtcS {C : Addr} {pl : Sem Bool} (c : Mt X.prog X.w X.K X.mg X.base (L2N.CX X.prog X.w) j C m ps sp) (hr : Room k X.A) (ho : PE X o ta) (tk : L2N.Takes X W) (ha : PA X (e :: es) t) (hk : j ≤ k := by decide)
    (hst : starEach (e :: es) X.env = (false, eval e X.env) :: starEach es X.env := by rfl) (hpl : (backTo pos (starEach es X.env)).any (·.1) = false := by rfl)
    (ht : eval (.Call (.Attribute o m apos) (e :: es) [] pos) X.env = (do
      let ov ← eval o X.env
      standAt apos.atName
      let (f, first) ← holding [ov] (getMethod ov m pl)
      callWith pos f first (backTo pos (starEach (e :: es) X.env)) (backToKw pos (keywordEach [] X.env))) := by rfl) : PE X (.Call (.Attribute o m apos) (e :: es) [] pos) (L2H.tMethH C m sp (WE W) ta t) := by
  obtain ⟨f, fd, cl, me, F, hb⟩ := c.ex
  refine ⟨fun pins s σ H Q I h => PySem.W.methodCall_KW (pl := pl) (thn (ho.run pins s σ H _ I h) fun u s1 hu => ?_) ht⟩
  obtain ⟨y, H1, I1, ry, a, dx, fs, rfl, ea, l, q⟩ := hu
  cases (show u = Value.ref a from ry)
  exact getmeth_ok I1 ea cl me l (PySem.W.callWith_K (first := [.ref a]) (h₀ := X.base) I.ok.mod.kin me.kp (thn (ha.run pos pins s1 σ H1 _ I1 q) fun us s2 h2 => by
    obtain ⟨vs, H2, I2, r2, q2⟩ := h2
    exact ⟨I2.kIn, run_fnS (us := .ref a :: us) (vs := .ref a :: vs) F (hr.mono hk) hb (passAtN tk σ) I2 (.cons rfl r2) q2⟩) hst hpl)
end
/-! ### isinstance -/
class PyT (α : Type) [ip : Py α] (t : outParam String) : Prop where
  ty : ∀ {K : PySem.W.Frag} {x : α} {v : V} {H : Hp}, ip.rel K x v H → TyX K H v (.type t)
instance tInt : PyT Int "int" := ⟨fun {K x v H} h => by
  have h' : v = .int x := h
  subst h'
  exact .base (.int _)⟩
instance tBool : PyT Bool "bool" := ⟨fun {K x v H} h => by
  have h' : v = .bl x := h
  subst h'
  exact .base (.bl _)⟩
instance tStr : PyT Str "str" := ⟨fun {K x v H} h => by
  have h' : v = .str x := h
  subst h'
  exact .base (.str _)⟩
instance tList {α : Type} [ip : Py α] : PyT (List α) "list" := ⟨fun {K x v H} h => by
  obtain ⟨a, vs, rfl, h2, _⟩ := h
  exact .base (.lst h2)⟩
theorem ty_sqT {K : PySem.W.Frag} {H : Hp} {a : Addr} {xs : List V} (h : SqT K H a xs) : TyX K H (.ref a) (.type "tuple") := by
  rcases h with h | ⟨o, its, n, h1, h2, _⟩
  · rcases h with h | ⟨o, h⟩
    · exact .base (.tup h)
    · exact .fTuple h
  · exact .kTuple h1 h2
instance tPair {α β : Type} [ip : Py α] [iq : Py β] : PyT (α × β) "tuple" := ⟨fun {K x v H} h => by
  obtain ⟨a, u, w, rfl, h2, _⟩ := h
  exact ty_sqT h2⟩
instance tTri {α β γ : Type} [ip : Py α] [iq : Py β] [ir : Py γ] : PyT (Tri α β γ) "tuple" := ⟨fun {K x v H} h => by
  obtain ⟨a, u, w, z, rfl, h2, _⟩ := h
  exact ty_sqT h2⟩
theorem evx_isi {K : PySem.W.Frag} {Γ : Ctx} {te : TE} {α : Type} {ip : Py α} {x : α} {t n : String} {b : Bool} (hT : PyT α t) (h : Evx K te Γ x) (hk : kitB t n = some b) : Evx K (tCB (rIsi K) (tCons te (tCons (tC (.ty n)) tNil))) Γ b := fun σ R0 H R e E Q k =>
  h σ R0 H R e E _ fun v H1 R1 g1 r1 => ⟨v, .ty n, .type t, .type n, b, rfl, .ty n, hT.ty (ip.mono g1.inn r1), kit_ty hk, k _ H1 R1 g1 rfl⟩
/-! ### == and != of data -/
class PyD (α : Type) [ip : Py α] [DecidableEq α] (n : outParam Nat) where
  d : α → PyData
  dp : ∀ {K : PySem.W.Frag} {x : α} {v : V} {H : Hp}, ip.rel K x v H → Dp K H v (d x)
  lay : ∀ x : α, (d x).canLay0 = true
  dep : ∀ x : α, (d x).depth ≤ n
  eqv : ∀ x y : α, PyData.eqv (d x) (d y) = decide (x = y)
instance dInt : PyD Int 0 where
  d := .int
  dp := fun {K x v H} h => by
    have h' : v = .int x := h
    subst h'
    exact .int _
  lay := fun _ => rfl
  dep := fun _ => Nat.le_refl _
  eqv := fun x y => rfl
instance dBool : PyD Bool 0 where
  d := .bool
  dp := fun {K x v H} h => by
    have h' : v = .bl x := h
    subst h'
    exact .bl _
  lay := fun _ => rfl
  dep := fun _ => Nat.le_refl _
  eqv := fun x y => rfl
section
variable {α β : Type} [ip : Py α] [iq : Py β] [da : DecidableEq α] [db : DecidableEq β] {n m : Nat} [pa : PyD α n] [pb : PyD β m]
theorem dp_all {K : PySem.W.Frag} {H : Hp} : ∀ {xs : List α} {vs : List V}, Paired (fun x v => ip.rel K x v H) xs vs → DpAll K H vs (xs.map pa.d)
  | _, _, .nil => .nil
  | _, _, .cons h t => .cons (pa.dp h) (dp_all t)
theorem lay_all : ∀ xs : List α, PyData.canLayAll0 (xs.map pa.d) = true
  | [] => rfl
  | x :: xs => by
    show ((pa.d x).canLay0 && PyData.canLayAll0 (xs.map pa.d)) = true
    rw [pa.lay, lay_all xs]
    rfl
theorem dep_all : ∀ xs : List α, PyData.depthAll (xs.map pa.d) ≤ n
  | [] => Nat.zero_le _
  | x :: xs => by
    show max (pa.d x).depth (PyData.depthAll (xs.map pa.d)) ≤ n
    have h1 := pa.dep x
    have h2 := dep_all xs
    omega
theorem eqv_all : ∀ xs ys : List α, PyData.eqvAll (xs.map pa.d) (ys.map pa.d) = decide (xs = ys)
  | [], [] => rfl
  | [], _ :: _ => rfl
  | _ :: _, [] => rfl
  | x :: xs, y :: ys => by
    show (PyData.eqv (pa.d x) (pa.d y) && PyData.eqvAll (xs.map pa.d) (ys.map pa.d)) = _
    rw [pa.eqv, eqv_all xs ys]
    by_cases h1 : x = y
    · by_cases h2 : xs = ys
      · simp [h1, h2]
      · simp [h1, h2]
    · simp [h1]
instance dList : PyD (List α) (n + 1) where
  d xs := .list (xs.map pa.d)
  dp := fun {K x v H} h => by
    obtain ⟨a, vs, rfl, h2, h3⟩ := h
    exact .lst (sq_of h2) (dp_all h3)
  lay := lay_all
  dep := fun xs => Nat.succ_le_succ (dep_all xs)
  eqv := eqv_all
instance dPair : PyD (α × β) (max n m + 1) where
  d t := .tuple [pa.d t.1, pb.d t.2]
  dp := fun {K x v H} h => by
    obtain ⟨a, u, w, rfl, h2, h3, h4⟩ := h
    exact .tup h2 (.cons (pa.dp h3) (.cons (pb.dp h4) .nil))
  lay := fun t => by
    show ((pa.d t.1).canLay0 && ((pb.d t.2).canLay0 && true)) = true
    rw [pa.lay, pb.lay]
    rfl
  dep := fun t => by
    have h1 := pa.dep t.1
    have h2 := pb.dep t.2
    show max (pa.d t.1).depth (max (pb.d t.2).depth 0) + 1 ≤ _
    omega
  eqv := fun s t => by
    obtain ⟨s1, s2⟩ := s
    obtain ⟨t1, t2⟩ := t
    show (PyData.eqv (pa.d s1) (pa.d t1) && (PyData.eqv (pb.d s2) (pb.d t2) && true)) = _
    rw [pa.eqv, pb.eqv, Bool.and_true]
    by_cases h1 : s1 = t1
    · by_cases h2 : s2 = t2
      · simp [h1, h2]
      · simp [h1, h2]
    · simp [h1]
theorem shaped_of {n : Nat} {pa : PyD α n} (hn : n ≤ 64) (x : α) : SeqAt.shaped (pa.d x) = true := by
  unfold SeqAt.shaped
  rw [pa.lay, decide_eq_true (Nat.le_trans (pa.dep x) hn)]
  rfl
theorem rv_eqD {n : Nat} {K : PySem.W.Frag} {x y : α} (pa : PyD α n) (hn : n ≤ 64) : Rv K (rEqD K) x y (decide (x = y)) := fun u w H R e h1 h2 Q k =>
  ⟨pa.d x, pa.d y, pa.dp (ip.mono e h1), pa.dp (ip.mono e h2), shaped_of hn x, shaped_of hn y, by rw [pa.eqv]; exact k _ H R (Gr.refl e) rfl⟩
theorem rv_neD {n : Nat} {K : PySem.W.Frag} {x y : α} (pa : PyD α n) (hn : n ≤ 64) : Rv K (rNeD K) x y (!decide (x = y)) := fun u w H R e h1 h2 Q k =>
  ⟨pa.d x, pa.d y, pa.dp (ip.mono e h1), pa.dp (ip.mono e h2), shaped_of hn x, shaped_of hn y, by rw [pa.eqv]; exact k _ H R (Gr.refl e) rfl⟩
end
/-! ### errors that a suite holds -/
structure ErrV where
  a : Addr
instance pyErr : Py ErrV := ⟨fun _ x v _ => v = .ref x.a, fun _ h => h, ⟨0⟩⟩
def rIsE2 (K : PySem.W.Frag) (cls : Value) (d : Option Addr) (a : Addr) : List V → Hp → VK → Prop := fun xs H Q =>
  ∃ (D : Addr) (c : V) (cv : Value) (b : Bool), cls = .ref D ∧ d = none ∧ ExcC K D ∧ xs = [.ref a, c] ∧ ClsV c cv ∧ PySem.W.kitOne K (.ref D) cv = some b ∧ Q (.bl b) H
theorem call_isE2 {X : Cx} {a : Addr} {oe : Obj} {cls : Value} {d : Option Addr} (hp : (a, oe) ∈ X.pn) (hz : L2N.Zn cls d oe) (hf : ∃ vs, oe.data = .fields vs) : CallR X (.builtin "isinstance") (rIsE2 X.K cls d a) := by
  intro pins s σ H xs us Q I r h
  obtain ⟨D, c, cv, b, rfl, rfl, C, rfl, hcv, e, q⟩ := h
  obtain ⟨vs, hv⟩ := hf
  rcases r with _ | ⟨rx, _ | ⟨rt, rr⟩⟩
  cases rr
  cases rx
  have ec := hcv.eq rt
  subst ec
  have hget := (I.pin (a, oe) (List.mem_append_left _ hp)).1
  have J : PySem.W.InstAt s.heap a oe D none := by
    obtain ⟨oc, od, oda, osl⟩ := oe
    obtain ⟨h1, h2, h3⟩ := hz
    dsimp only at h1 h2 hv
    subst h1 h2 hv
    exact ⟨hget, rfl, rfl, trivial⟩
  exact PySem.W.kia_one (PySem.W.handS_kitx_exc C.hg C.hk C.hs C.hd C.ha C.hn C.ht C.hm) I.kIn J e (fun z => nomatch z) fun tk => ⟨.bl b, H, I.kept (t' := tk) fun _ _ z => z, rfl, q⟩
theorem evx_isE {K : PySem.W.Frag} {Γ : Ctx} {te : TE} {a D : Addr} {c : V} {cv : Value} {b : Bool} (C : ExcC K D) (h : Evx K te Γ (⟨a⟩ : ErrV)) (hc : ClsV c cv) (hk : PySem.W.kitOne K (.ref D) cv = some b) : Evx K (tCB (rIsE2 K (.ref D) none a) (tCons te (tCons (tC c) tNil))) Γ b := fun σ R0 H R e E Q k =>
  h σ R0 H R e E _ fun v H1 R1 g1 r1 => by
    have r1' : v = .ref a := r1
    subst r1'
    exact ⟨D, c, cv, b, rfl, rfl, C, rfl, hc, hk, k _ H1 R1 g1 rfl⟩
end Dn

/-! Dn: try with a named first clause that takes what comes; what a suite reads; defs that are told of a held error. -/
namespace Dn
open PySem PySem.Spec PyProof.Rows L2 Dx
/-- the exits of a suite with a name at slot i: the name is gone behind it -/
def forget (i : Nat) (D : Ends) : Ends := { nx := fun τ G => D.nx (τ.set i none) G, rt := D.rt, bk := fun τ G => D.bk (τ.set i none) G, ct := fun τ G => D.ct (τ.set i none) G }
/-- the wish: the first clause fits -/
def wFirst (K : PySem.W.Frag) (c : Value) (i : Nat) (ts : Addr → Value → Option Addr → TS) (D : Ends) : WX := fun cls d τ G =>
  PySem.W.exmOne K cls c = some true ∧ ∀ a, G a = none → ts a cls d (forget i D) (τ.set i (some (.ref a))) G
section
variable {X : Cx} {x n : Str} {c : Value} {i : Nat} {body suite : List Stmt} {b0 : Stmt} {rest : List ExceptHandler} {np pos pos' : Pos} {tb : WX → TS} {ts : Addr → Value → Option Addr → TS}
theorem ps_try_first (hst : X.stack = X.env :: X.outer) (hfl : X.env.frame = some X.env.locals) (nd : X.N.Nodup) (hi : X.N[i]? = some n) (lo : X.env.kindOf n = some .local) (hc : Names X x c)
    (hbody : ∀ (W : WX) (pn : List (Addr × Obj)) (xe : Value → Shared → Prop), L2N.Takes (X.tr pn xe) W → PassesOwn (model X.prog X.w) X.A X.env xe → PSs (X.tr pn xe) body (tb W))
    (hsuite : ∀ (a : Addr) (oe : Obj) (cls : Value) (d : Option Addr) (pn : List (Addr × Obj)), L2N.Zn cls d oe → (∃ vs, oe.data = .fields vs) → PSs (X.suite a ((a, oe) :: pn)) (b0 :: suite) (ts a cls d)) :
    PS X (.Try body (.ExceptHandler (some (.Name x np)) (some n) (b0 :: suite) pos' :: rest) [] [] pos) (fun D τ G => tb (wFirst X.K c i ts D) D τ G) := by
  refine ⟨fun pins s τ G D I wish => ?_⟩
  have xok := I.ok
  refine wpAny_Try_except (wpAny_mono ((hbody _ (X.pn ++ pins)
    (fun e q1 => wpAny (model X.prog X.w) X.A (noteFrame e X.env) (fun _ q2 => wpAny (model X.prog X.w) X.A (setFlight e none)
      (fun _ q3 => wpAny (model X.prog X.w) X.A (handleBy e X.env (.ExceptHandler (some (.Name x np)) (some n) (b0 :: suite) pos' :: rest)) (SP X pins D) X.xe q3) X.xe q2) X.xe q1)
    (fun u q air => ?_) PassesOwn.looking).run [] s τ G D (I.toTry _) wish) (fun f q fin => ?_) (fun _ _ z => z))
  · obtain ⟨a, B, sI, p2, τ2, G2, cls, d, rfl, J0, gr, upw, sk, fresh, eos, gens, fits, take⟩ := air
    have J : Inv X pins τ2 G2 sI := J0.ofTry xok
    show wpAny (model X.prog X.w) X.A (noteFrame (.ref a) X.env) _ _ _
    refine L2N.Sky.land L2N.Zn.steady (by rw [xok.frames, hst]) hfl (hst ▸ sk) fun h3 fly u3 => ?_
    have K3 : Inv X pins τ2 G2 { q with heap := h3 } := J.landed gr fly.1 (upw.trans u3) eos gens
    obtain ⟨oe, vs, ge, ze, de⟩ := fly.there
    have off : a ∉ frs (X.env :: X.outer) := fun hm => by
      obtain ⟨_, o2, g2, nf⟩ := fly.2.2.1.mem hm
      rw [ge] at g2
      cases g2
      exact nf _ de
    have offL : a ≠ X.env.locals := fun z => off (List.mem_filterMap.mpr ⟨X.env, List.mem_cons_self, by rw [hfl, z]⟩)
    have offF : a ∉ X.fs := fun hm => by
      obtain ⟨e, he, qe⟩ := List.mem_filterMap.mp hm
      exact off (List.mem_filterMap.mpr ⟨e, List.mem_cons_of_mem _ he, qe⟩)
    have T3 := K3.suite ge de fresh offL offF
    refine wpAny_handleBy_cons (codeAny_handlers_test ?_) (by intro z; cases z)
    have lk : PySem.W.Looks (model X.prog X.w) h3 (typeOf (.ref a)) cls := fun _ _ _ _ kk hq => wpAny_typeOf_ref (kk _ _ ge) (by rw [ze.1]; exact hq)
    have lm := PySem.W.exm_one (M := model X.prog X.w) K3.kIn lk fits
    have nameOf : ∀ {Q E : Value → Shared → Prop}, Q c { q with heap := h3 } → wpAny (model X.prog X.w) (X.A.mark (some (.ref a))) (eval (.Name x np) X.env) Q E { q with heap := h3 } := fun {Q E} hq => by
      rcases hc with ⟨hg, nb, hm | ⟨hm, hv, nn⟩⟩
      · exact ld_glob (X := X.suite a ((a, oe) :: (X.pn ++ pins))) T3 hg hm hq nb
      · exact ld_blt (X := X.suite a ((a, oe) :: (X.pn ++ pins))) T3 hg hm hv hq nn nb
    refine nameOf (lm.here (codeAny_handlers_suite_as (HandSPX.lands_againZ fly fun h4 fly4 u4 => ?_)))
    obtain ⟨oe4, vs4, ge4, ze4, de4⟩ := fly4.there
    have K4 : Inv X pins τ2 G2 { q with heap := h4 } := J.landed gr fly4.1 ((upw.trans u3).trans u4) eos gens
    refine store_ok (X := X.suite a ((a, oe4) :: (X.pn ++ pins))) (v := .ref a) (K4.suite ge4 de4 fresh offL offF) nd hi (.inl lo) rfl (fun s5 T5 => ?_) (.inr lo)
    refine wpAny_mono ((hsuite a oe4 cls d (X.pn ++ pins) ze4 ⟨_, de4⟩).run [] s5 _ G2 _ T5 (take a fresh)) (fun f s6 fin => ?_) (fun _ _ z => z.elim)
    have goes : ∀ {τ6 : L2.St} {G6 : Hp} {Q : Shared → Prop}, Inv (X.suite a ((a, oe4) :: (X.pn ++ pins))) [] τ6 G6 s6 → (∀ s7, Inv X pins (τ6.set i none) G6 s7 → Q s7) →
        wpAny (model X.prog X.w) X.A (do bindName X.env n .none; unbindBehindTheSuite X.env n pos') (fun _ s7 => Q s7) X.xe s6 := fun T6 hq => gone_ok (T6.unsuite xok) nd hi lo hq
    cases f with
    | ret u =>
      obtain ⟨v6, τ6, G6, T6, r6, w6⟩ := fin
      exact goes T6 fun s7 J7 => ⟨v6, _, G6, J7, r6, w6⟩
    | next =>
      obtain ⟨τ6, G6, T6, w6⟩ := fin
      exact goes T6 fun s7 J7 => ⟨_, G6, J7, w6⟩
    | brk =>
      obtain ⟨τ6, G6, T6, w6⟩ := fin
      exact goes T6 fun s7 J7 => ⟨_, G6, J7, w6⟩
    | cont =>
      obtain ⟨τ6, G6, T6, w6⟩ := fin
      exact goes T6 fun s7 J7 => ⟨_, G6, J7, w6⟩
  · cases f with
    | ret u =>
      obtain ⟨v, τ2, G2, J2, r2, w2⟩ := fin
      exact ⟨v, τ2, G2, J2.ofTry xok, r2, w2⟩
    | next =>
      obtain ⟨τ2, G2, J2, w2⟩ := fin
      exact wpAny_execs_nil ⟨τ2, G2, J2.ofTry xok, w2⟩
    | brk =>
      obtain ⟨τ2, G2, J2, w2⟩ := fin
      exact ⟨τ2, G2, J2.ofTry xok, w2⟩
    | cont =>
      obtain ⟨τ2, G2, J2, w2⟩ := fin
      exact ⟨τ2, G2, J2.ofTry xok, w2⟩
end
section
variable {W : Wd} {Γ : Ctx} {D : Ends} {tb : WX → TS} {tz : TS} {ts : Addr → Value → Option Addr → TS} {c : Value} {i : Nat} {cls : Addr}
theorem go_tryf (h : Go W (tb (wFirst W.K c i ts { D with nx := tz D })) { D with nx := tz D } Γ) : Go W (tSeq (fun D τ G => tb (wFirst W.K c i ts D) D τ G) tz) D Γ := h
theorem nx_first {D : Ends} (he : PySem.W.exmOne W.K (.ref cls) c = some true) (h : ∀ a, Go W (ts a (.ref cls) none) (forget i D) (Γ.set i (.dat pyErr ⟨a⟩))) : Nx W (fun σ R => WE (wFirst W.K c i ts D) σ (.ref cls) none R) Γ := fun σ H R f g E =>
  ⟨he, fun a _ => h a _ H R f g (E.setDat (ip := pyErr) (x := (⟨a⟩ : ErrV)) rfl)⟩
end
/-! ### a def that is told of the error that its caller's suite holds -/
abbrev SpP := Addr × Obj → Sp
structure FnP (P : Program) (w : World) (K : PySem.W.Frag) (mg : Str → Option Value) (base : Heap) (k : Nat) (f : Addr) (fd : FuncData) (ps : List Str) (sp : SpP) : Prop where
  len : ∀ p vs H Q E, sp p vs H Q E → vs.length = ps.length
  run : ∀ (A : Around) (outer : List PySem.Env) (s : Shared) (H : Hp) (args : Args) (us : List Value) (vs : List V) (Q : VK) (E : XK) (p : Addr × Obj), L2H.RoomH k A → L2H.Hot1 A p → L2H.PinOk outer H s p → Env0 P w K mg base A outer s H → BindsTo s fd args (ps.zip us) → Vals vs us → sp p vs H Q E →
    codeAny (model P w) A (.call (.ref f) args) (CR CX0 outer P w H s Q E) s
theorem fnp_of {P : Program} {w : World} {K : PySem.W.Frag} {mg : Str → Option Value} {base : Heap} {x qual : Str} {st : Stmt} {f : Addr} {fd : FuncData} {N ps : List Str} {k : Nat} {sp : SpP} (F : Fun K x qual st f fd) (S : FnScope N ps (defScope st)) (len : ∀ p vs H Q E, sp p vs H Q E → vs.length = ps.length)
    (hbody : ∀ (cdv : Value) (A : Around) (outer : List PySem.Env) (s : Shared) (H : Hp) (vs : List V) (Q : VK) (E : XK) (p : Addr × Obj), L2H.Hot1 A p → L2H.RoomH k (A.deeper (envOfC qual (defScope st) s.heap.objs.size f cdv)) → sp p vs H Q E →
      ∃ t, PSs (L2H.cxH CX0 P w K mg base N qual (defScope st) f cdv A outer s H E p) (defBody st) t ∧ t { nx := fun _ H' => Q .non H', rt := Q } (L2.start N vs) H) : FnP P w K mg base (k + 1) f fd ps sp := by
  obtain ⟨oc, od, kV, doc, pm, an, cdv, ct, osl, rfl, lk, hcd⟩ := F.ex
  refine ⟨len, fun A outer s H args us vs Q E p hr hot hpin e0 hb r hsp => ?_⟩
  have hl := len p _ _ _ _ hsp
  have hkind : ∀ y ∈ ps.zip us, (defScope st).names.lookup y.1 = some .local ∨ ((defScope st).names.lookup y.1 = some .cell ∧ ((cellsFrom (s.heap.objs.size + 1) (defScope st).names []).lookup y.1).isSome = true) := by
    rintro ⟨y, v⟩ hy
    rcases S.par y (List.of_mem_zip hy).1 with z | z
    · exact .inl z
    · exact .inr ⟨z, PySem.W.cellsFrom_some _ _ _ (.inl z)⟩
  have kin : K.In s.heap := e0.mod.kin.keeps fun b o e => (e0.bs b o e).1
  refine codeAny_call_function hr.depth (kin _ _ lk) rfl S.co S.gen rfl (PySem.W.codeRec_of kin hcd) (hb _ _ _ _ (wpAny_newFunctionEnv_cells S.kind hkind fun env he s1 made => ?_))
  subst he
  refine ⟨(e0.mod.nolimit.keeps fun b o e => (e0.bs b o e).1).keeps made.toInCall.keep, codeAny_func ?_⟩
  obtain ⟨t, ht, hq⟩ := hbody cdv A outer s H vs Q E p hot (hr.deeper _) hsp
  refine wpAny_mono (ht.run [] s1 (L2.start N vs) H _ (L2H.inv_startH S hpin e0 hl r made) hq) (fun fl s2 hs => ?_) fun _ _ z => z
  cases fl with
  | ret u =>
    obtain ⟨v, σ2, H2, J, rv, hv⟩ := hs
    exact ⟨v, H2, J.os, J.bare, J.base, J.hok, rv, hv⟩
  | next =>
    obtain ⟨σ2, H2, J, hv⟩ := hs
    exact ⟨V.non, H2, J.os, J.bare, J.base, J.hok, rfl, hv⟩
  | brk =>
    obtain ⟨_, _, _, z⟩ := hs
    exact z.elim
  | cont =>
    obtain ⟨_, _, _, z⟩ := hs
    exact z.elim
structure ClP (P : Program) (w : World) (K : PySem.W.Frag) (mg : Str → Option Value) (base : Heap) (k : Nat) (x : Str) (ps : List Str) (sp : SpP) : Prop where
  ex : ∃ (f : Addr) (fd : FuncData), FnP P w K mg base k f fd ps sp ∧ mg x = some (.ref f) ∧ PySem.W.keepIn K (.ref f) = true ∧ Binds K fd ps []
theorem Df.clP {P : Program} {w : World} {K : PySem.W.Frag} {mg : Str → Option Value} {base : Heap} {k : Nat} {x qual : Str} {st : Stmt} {ps : List Str} {sp : SpP} (d : Df K mg x qual st ps) (h : ∀ f fd, Fun K x qual st f fd → FnP P w K mg base k f fd ps sp) : ClP P w K mg base k x ps sp := by
  obtain ⟨f, fd, F, hm, hb⟩ := d.ex
  exact ⟨f, fd, h f fd F, hm, F.kp, hb⟩
theorem hot_of {X : Cx} {a : Addr} {oe : Obj} {cls : Value} {d : Option Addr} {pn : List (Addr × Obj)} (hz : L2N.Zn cls d oe) (hf : ∃ vs, oe.data = .fields vs) : L2H.Hot1 (X.suite a ((a, oe) :: pn)).A (a, oe) := by
  obtain ⟨vs, hv⟩ := hf
  exact ⟨rfl, vs, hv, hz.2.2 vs hv⟩
theorem roomH_suite {X : Cx} {k : Nat} {a : Addr} {q : List (Addr × Obj)} (r : Room k X.A) : L2H.RoomH k (X.suite a q).A := ⟨r.dp, r.un⟩
section
variable {X : Cx} {j k : Nat} {x : Str} {ps : List Str} {sp : SpP} {p pos : Pos} {e : Expr} {es : List Expr} {t : TA} {q : Addr × Obj} {r : List V → Hp → VK → Prop}
theorem pe_clP (cv : ∀ vs H Q, r vs H Q → sp q vs H Q E0) (c : ClP X.prog X.w X.K X.mg X.base j x ps sp) (hot : L2H.Hot1 X.A q) (hq : q ∈ X.pn) (hr : L2H.RoomH k X.A) (hg : Gl X x) (ha : PA X (e :: es) t) (hk : j ≤ k := by decide) (hdb : (x == ("__debug__" : Str)) = false := by decide)
    (he : starEach (e :: es) X.env = (false, eval e X.env) :: starEach es X.env := by rfl) (hpl : (backTo pos (starEach es X.env)).any (·.1) = false := by rfl) : PE X (.Call (.Name x p) (e :: es) [] pos) (tCB r t) := by
  obtain ⟨f, fd, F, hm, kp, hb⟩ := c.ex
  refine ⟨fun pins s σ H Q I h => wpAny_Call_Name_kw (ld_glob I hg hm (PySem.W.callWith_K (h₀ := X.base) I.ok.mod.kin kp (thn (ha.run pos pins s σ H _ I h) fun us s1 hu => ?_) he hpl) hdb)⟩
  obtain ⟨vs, H1, I1, rr, w⟩ := hu
  have w := cv _ _ _ w
  refine ⟨I1.kIn, ?_⟩
  have hl : us.length = ps.length := by rw [← rr.length]; exact F.len _ _ _ _ _ w
  have b := hb s1 us I1.kIn (by rw [List.append_nil]; exact hl)
  rw [List.append_nil] at b
  have P1 := I1.pin q (List.mem_append_left _ hq)
  refine wpAny_call (codeAny_mono (F.run X.A X.stack s1 H1 ⟨us, []⟩ us vs Q E0 q (hr.mono hk) hot ⟨P1.1, P1.2.1, fun hm => (List.mem_cons.mp (I1.stkSub q.1 hm)).elim P1.2.2.1 P1.2.2.2.1, P1.2.2.2.2⟩ I1.env0 b rr w) fun r2 s2 hs => ?_)
  cases r2 with
  | error e => exact hs.elim
  | ok fl =>
    cases fl with
    | ret u => exact I1.after hs
    | next => exact hs.elim
    | brk => exact hs.elim
    | cont => exact hs.elim
end
/-- isinstance by several classes: g says for each class of error -/
def spE1 (K : PySem.W.Frag) (good : Addr → Prop) (g : Addr → Bool) : SpP := fun p vs R Q _ => ∃ (D : Addr) (H : Hp), L2N.Zn (.ref D) none p.2 ∧ (∃ fs, p.2.data = .fields fs) ∧ good D ∧ vs = [.ref p.1] ∧ Ex H R ∧ ∀ H' R', Gr H R H' R' → Q (.bl (g D)) R'
theorem defP1 {P : Program} {w : World} {K : PySem.W.Frag} {mg : Str → Option Value} {base : Heap} {x qual : Str} {st : Stmt} {a : Addr} {fd : FuncData} {N ps : List Str} {k : Nat} {good : Addr → Prop} {g : Addr → Bool} (F : Fun K x qual st a fd) (S : FnScope N ps (defScope st)) (hps : ps.length = 1) (us : Ctx) (hus : us = List.replicate (N.length - 1) Slot.un)
    (hbody : ∀ (cdv : Value) (A : Around) (outer : List PySem.Env) (s : Shared) (H : Hp) (E : XK) (p : Addr × Obj) (D : Addr), L2N.Zn (.ref D) none p.2 → (∃ fs, p.2.data = .fields fs) → good D →
      ∃ t, PSs (L2H.cxH CX0 P w K mg base N qual (defScope st) a cdv A outer s H E p) (defBody st) t ∧ ∀ (W : Wd) (E : Ends), W.K = K → RetD W E (g D) → Go W t E (.dat pyErr ⟨p.1⟩ :: us)) : FnP P w K mg base (k + 1) a fd ps (spE1 K good g) := by
  refine fnp_of F S (fun p vs H Q E h => ?_) (fun cdv A outer s R vs Q E p hot hr h => ?_)
  · obtain ⟨D, H, _, _, _, rfl, _⟩ := h
    exact hps.symm
  · obtain ⟨D, H, hz, hf, gd, rfl, e, q⟩ := h
    obtain ⟨t, h1, h2⟩ := hbody cdv A outer s R E p D hz hf gd
    subst hus
    exact ⟨t, h1, h2 ⟨K, H, R, H⟩ _ rfl (fun v H' R' gr r => by
      have r' : v = .bl (g D) := r
      subst r'
      exact q H' R' gr) _ H R (Ex.refl H) (Gr.refl e) (Env.start (Are.cons (s := Slot.dat pyErr (⟨p.1⟩ : ErrV)) (show Slot.is K H (.dat pyErr ⟨p.1⟩) (.ref p.1) from rfl) Are.nil) rfl)⟩
def rHeld (good : Addr → Prop) (g : Addr → Bool) (cls : Value) (d : Option Addr) (a : Addr) : List V → Hp → VK → Prop := fun xs R Q => ∃ (D : Addr) (H : Hp), cls = .ref D ∧ d = none ∧ good D ∧ xs = [.ref a] ∧ Ex H R ∧ ∀ H' R', Gr H R H' R' → Q (.bl (g D)) R'
theorem held_sp {K : PySem.W.Frag} {good : Addr → Prop} {g : Addr → Bool} {cls : Value} {d : Option Addr} {a : Addr} {oe : Obj} (hz : L2N.Zn cls d oe) (hf : ∃ fs, oe.data = .fields fs) (vs : List V) (H : Hp) (Q : VK) : rHeld good g cls d a vs H Q → spE1 K good g (a, oe) vs H Q E0 := by
  rintro ⟨D, G, rfl, rfl, gd, rfl, e, q⟩
  exact ⟨D, G, hz, hf, gd, rfl, e, q⟩
theorem evx_held {K : PySem.W.Frag} {Γ : Ctx} {te : TE} {a D : Addr} {good : Addr → Prop} {g : Addr → Bool} (h : Evx K te Γ (⟨a⟩ : ErrV)) (hg : good D) : Evx K (tCB (rHeld good g (.ref D) none a) (tCons te tNil)) Γ (g D) := fun σ R0 H R e E Q k =>
  h σ R0 H R e E _ fun v H1 R1 g1 r1 => by
    have r1' : v = .ref a := r1
    subst r1'
    exact ⟨D, H1, rfl, rfl, hg, rfl, g1.inn, fun H' R' g' => k _ H' R' (g1.trans g') rfl⟩
end Dn

/-! Dn: comprehensions with two clauses; comprehensions of lists of one's own. -/
namespace Dn
open PySem PySem.Spec PyProof.Rows L2 Dx
/-- the members of the rows below i, and of row k the first m -/
def flat2 {β : Type} (row : Nat → List β) (i : Nat) : List β := (List.range i).flatMap row
theorem flat2_succ {β : Type} (row : Nat → List β) (i : Nat) : flat2 row (i + 1) = flat2 row i ++ row i := by
  unfold flat2
  rw [List.range_succ, List.flatMap_append]
  simp
section
variable {K : PySem.W.Frag} {Γ : Ctx} {te tl tn : TE} {tt : TT} {α β : Type} [ip : Py α] [iq : Py β]
theorem lw_step {H1 R1 H R R0 : Hp} {Dl : Addr} {σ2 : L2.St} {Γ2 : Ctx} {ys : List β} {b : Bool} {x : β} (h1 : R1 Dl = none) (p : Lw iq K H1 R1 Dl ys R H) (hl : ys.length < 100000) (E : Env K R0 H R σ2 Γ2)
    (ht : Evt K tt Γ2 b) (he : b = true → Evx K te Γ2 x) (Nx : Hp → Prop) (hN : ∀ R' H', Ex H H' → Lw iq K H1 R1 Dl (if b = true then ys ++ [x] else ys) R' H' → Nx R') :
    tt σ2 R fun b' R3 => if b' = true then te σ2 R3 fun y R4 => ∃ acc, R4 Dl = some (.lst acc) ∧ acc.length < sizeLine ∧ Nx (upd R4 Dl (.lst (acc ++ [y]))) else Nx R3 := by
  obtain ⟨g, n, vs, hv, hx⟩ := p
  refine ht σ2 R0 H R g.inn E _ fun H3 R3 g3 => ?_
  have n3 : H3 Dl = none := g3.new Dl n (by rw [hv]; intro z; cases z)
  cases b with
  | true =>
    refine iteT (he rfl σ2 R0 H3 R3 g3.inn (E.grow g3) _ fun y H4 R4 g4 r4 => ?_)
    have hv3 := g3.keep Dl _ hv
    have n4 : H4 Dl = none := g4.new Dl n3 (by rw [hv3]; intro z; cases z)
    have l1 := paired_len hx
    exact ⟨vs, g4.keep Dl _ hv3, sz_lt (by omega), hN _ H4 (g3.up.trans g4.up) ⟨((g.trans g3).trans g4).mut n4 h1, n4, vs ++ [y], upd_same, paired_app (paired_mono (g3.up.trans g4.up) hx) (.cons r4 .nil)⟩⟩
  | false => exact iteF (hN _ H3 g3.up ⟨g.trans g3, n3, vs, g3.keep Dl _ hv, paired_mono g3.up hx⟩)
/-- [v(k, x) for k in range(n) for x in xs(k) if f(k, x)] -/
theorem evl_lc2RL {j j1 : Nat} {ws ws1 : List Nat} {n : Int} (xs : Nat → List α) (f : Nat → α → Bool) (v : Nat → α → β) (h : Evx K tn Γ n) (hn : 0 ≤ n ∧ n ≤ 40000) (hj : j ∈ ws) (hj1 : j1 ∈ ws1)
    (htl : ∀ i, i ≤ n.toNat → (flat2 (fun k => ((xs k).filter (f k)).map (v k)) i).length ≤ 50000) (hxl : ∀ k : Nat, (k : Int) < n → (xs k).length ≤ 40000)
    (hx : ∀ k : Nat, (k : Int) < n → Evx K tl ((wipeC Γ ws).set j (.dat pyInt (k : Int))) (xs k))
    (ht : ∀ (k : Nat) (x : α), (k : Int) < n → x ∈ xs k → Evt K tt ((wipeC ((wipeC Γ ws).set j (.dat pyInt (k : Int))) ws1).set j1 (.dat ip x)) (f k x))
    (he : ∀ (k : Nat) (x : α), (k : Int) < n → x ∈ xs k → f k x = true → Evx K te ((wipeC ((wipeC Γ ws).set j (.dat pyInt (k : Int))) ws1).set j1 (.dat ip x)) (v k x)) :
    Evl K (tLc2 (iRng1 (tCons tn tNil)) (gName j) tYes (iList K tl) (gName j1) tt te ws ws1) Γ (flat2 (fun k => ((xs k).filter (f k)).map (v k)) n.toNat) := fun σ R0 H R e E Q k =>
  h σ R0 H R e E _ fun u H1 R1 g1 r1 => ⟨n, by
    have r1' : u = .int n := r1
    rw [r1'], by omega, by omega, fun Dl hD => by
    refine ⟨fun i m R' => m = n.toNat - i ∧ i ≤ n.toNat ∧ ∃ H', Lw iq K H1 R1 Dl (flat2 (fun k => ((xs k).filter (f k)).map (v k)) i) R' H', ⟨n.toNat, by omega, Nat.zero_le _, H1, lw_start g1.inn hD⟩, ?_⟩
    rintro i m R2 ⟨rfl, hi, H2, p⟩
    by_cases hlt : i < n.toNat
    · refine .inr ⟨(show i < n.toNat from hlt), fun R' => ∃ H', Lw iq K H1 R1 Dl (flat2 (fun k => ((xs k).filter (f k)).map (v k)) (i + 1)) R' H', fun R' q => ⟨n.toNat - (i + 1), by omega, rfl, hlt, q⟩, fun x R' y => ?_⟩
      obtain ⟨rfl, y⟩ := y
      have y' : x = .int ((0 : Int) + (i : Int)) := y
      rw [Int.zero_add] at y'
      subst y'
      refine ⟨wipe_set hj, ?_⟩
      simp only [tYes, ↓reduceIte]
      have hin : (i : Int) < n := by omega
      have E2 : Env K R0 H2 R' (((wipe σ ws).set j (some (.int (i : Int))))) ((wipeC Γ ws).set j (.dat pyInt (i : Int))) := (((E.grow g1).grow p.g).wipe ws).setDat rfl
      refine hx i hin _ R0 H2 R' p.g.inn E2 _ fun a4 H4 R4 g4 r4 => ?_
      obtain ⟨a, vs, rfl, hl, hp⟩ := r4
      have l1 := paired_len hp
      refine ⟨a, rfl, ⟨vs, sq_of (g4.inn a _ hl)⟩, ?_⟩
      refine ⟨fun c m R' => m = (xs i).length - c ∧ c ≤ (xs i).length ∧ ∃ H', Ex H4 H' ∧ Lw iq K H1 R1 Dl (flat2 (fun k => ((xs k).filter (f k)).map (v k)) i ++ (((xs i).take c).filter (f i)).map (v i)) R' H', ⟨(xs i).length, by omega, Nat.zero_le _, H4, Ex.refl H4, ?_⟩, ?_⟩
      · obtain ⟨g, nn, ws2, q1, q2⟩ := p
        refine ⟨g.trans g4, g4.new Dl nn (by rw [q1]; intro z; cases z), ws2, g4.keep Dl _ q1, ?_⟩
        simpa using paired_mono g4.up q2
      · rintro c m R5 ⟨rfl, hc, H5, e5, p5⟩
        by_cases hcl : c < (xs i).length
        · have gx := List.getElem?_eq_getElem hcl
          obtain ⟨w0, w1, w2⟩ := paired_get hp gx
          refine .inr ⟨⟨vs, w0, sq_of (p5.g.inn a _ (e5 a _ hl)), w1⟩, fun R' => ∃ H', Ex H4 H' ∧ Lw iq K H1 R1 Dl (flat2 (fun k => ((xs k).filter (f k)).map (v k)) i ++ (((xs i).take (c + 1)).filter (f i)).map (v i)) R' H', fun R' q => ⟨(xs i).length - (c + 1), by omega, rfl, hcl, q⟩, fun z R' y => ?_⟩
          obtain ⟨rfl, y⟩ := y
          have zz : z = w0 := by
            have := y vs (sq_of (p5.g.inn a _ (e5 a _ hl)))
            rw [w1] at this
            cases this
            rfl
          subst zz
          refine ⟨wipe_set hj1, ?_⟩
          have hm : (xs i)[c] ∈ xs i := List.getElem_mem hcl
          have E5 : Env K R0 H5 R' ((wipe ((wipe σ ws).set j (some (.int (i : Int)))) ws1).set j1 (some z)) ((wipeC ((wipeC Γ ws).set j (.dat pyInt (i : Int))) ws1).set j1 (.dat ip (xs i)[c])) := by
            refine Env.setDat (Env.wipe ?_ ws1) (ip.mono e5 w2)
            exact ((((E.grow g1).grow p5.g).wipe ws).setDat rfl)
          have hlen1 := htl (i + 1) (by omega)
          rw [flat2_succ] at hlen1
          have sub : ((((xs i).take c).filter (f i)).map (v i)).length ≤ (((xs i).filter (f i)).map (v i)).length := by
            rw [List.length_map, List.length_map]
            exact ((List.take_sublist c (xs i)).filter (f i)).length_le
          refine lw_step hD p5 (by rw [List.length_append] at hlen1 ⊢; omega) E5 (ht i _ hin hm) (he i _ hin hm) _ fun R6 H6 e6 p6 => ⟨H6, e5.trans e6, ?_⟩
          have et : (xs i).take (c + 1) = (xs i).take c ++ [(xs i)[c]] := List.take_succ_eq_append_getElem hcl
          rw [et, List.filter_append, List.map_append]
          cases q : f i (xs i)[c] with
          | true =>
            rw [q] at p6
            have e1 : [(xs i)[c]].filter (f i) = [(xs i)[c]] := by simp [q]
            rw [e1, ← List.append_assoc]
            exact p6
          | false =>
            rw [q] at p6
            have e1 : [(xs i)[c]].filter (f i) = [] := by simp [q]
            rw [e1, List.map_nil, List.append_nil]
            exact p6
        · have ec : c = (xs i).length := by omega
          subst ec
          refine .inl ⟨⟨vs, sq_of (p5.g.inn a _ (e5 a _ hl)), by omega⟩, H5, ?_⟩
          rw [flat2_succ]
          rw [List.take_length] at p5
          exact p5
    · have ei : i = n.toNat := by omega
      subst ei
      obtain ⟨vs, q1, q2⟩ := p.l
      exact .inl ⟨(show n.toNat ≤ n.toNat from Nat.le_refl _), k Dl vs H2 R2 (g1.trans p.g) p.n (fresh_back g1.keep hD) q1 q2⟩⟩
end
/-! ### [f(..) for k in range(n)], each a list of one's own -/
section
variable {W : Wd} {Γ : Ctx} {D : Ends} {tz : TS} {te tn : TE} {i : Nat}
theorem gon_lc {n : Int} {j : Nat} {ws : List Nat} (v : Nat → List Int) (hΓ : NoOwn Γ) (h : Evx W.K tn Γ n) (hn : 0 ≤ n ∧ n ≤ 40000) (hj : j ∈ ws) (hi : i < Γ.length)
    (he : ∀ k : Nat, (k : Int) < n → Evl W.K te ((wipeC Γ ws).set j (.dat pyInt (k : Int))) (v k)) (k : GoN W i tz D (Γ.set i .un) ((List.range n.toNat).map v)) :
    Go W (tSeq (tAsg (tLc (iRng1 (tCons tn tNil)) (gName j) tYes te ws) (gName i)) tz) D Γ := fun σ H R f g E =>
  h σ W.R0 H R g.inn E _ fun u H1 R1 g1 r1 => ⟨n, by
      have r1' : u = .int n := r1
      rw [r1'], by omega, by omega, fun Dl hD => lc_range (lo := 0) (n := n.toNat) (fun m R' => ∃ H' : Hp, Gr H1 R1 H' R' ∧ H' Dl = none ∧ ∃ qs : List Addr, R' Dl = some (.lst (qs.map V.ref)) ∧ qs.length = m ∧ qs.Nodup ∧ Dl ∉ qs ∧ ∀ (c : Nat) (q : Addr), qs[c]? = some q → R1 q = none ∧ H' q = none ∧ R' q = some (.lst ((v c).map V.int)))
        ⟨H1, Gr.alloc g1.inn hD, fresh_back g1.inn hD, [], upd_same, rfl, List.nodup_nil, by simp, fun c q hq => by simp at hq⟩ (fun m R' hm p => by
        obtain ⟨H', gr, nD, qs, h1, h2, h3, h4, h5⟩ := p
        refine ⟨wipe_set hj, ?_⟩
        simp only [tYes, ↓reduceIte]
        have E2 : Env W.K W.R0 H' R' ((wipe σ ws).set j (some (.int ((0 : Int) + (m : Int))))) ((wipeC Γ ws).set j (.dat pyInt (m : Int))) := (((E.grow g1).grow gr).wipe ws).setDat (by rw [Int.zero_add]; rfl)
        refine he m (by omega) _ W.R0 H' R' gr.inn E2 _ fun q ys H3 R3 g3 q1 q2 q3 q4 => ?_
        have hD3 := g3.keep Dl _ h1
        have nD3 : H3 Dl = none := g3.new Dl nD (by rw [h1]; intro z; cases z)
        have ne : Dl ≠ q := ne_of_none h1 q2
        have nq : q ∉ qs := fun z => by
          obtain ⟨c, hc, ec⟩ := List.mem_iff_getElem.mp z
          have := (h5 c q (by rw [List.getElem?_eq_getElem hc, ec])).2.2
          rw [q2] at this
          cases this
        have ey : ys = (v m).map V.int := ints_vals q4
        refine ⟨qs.map V.ref, hD3, sz_lt (by rw [List.length_map]; omega), H3, (gr.trans g3).mut nD3 hD, nD3, qs ++ [q], ?_, by simp [h2], ?_, ?_, fun c z hz => ?_⟩
        · rw [upd_same, List.map_append]
          rfl
        · rw [List.nodup_append]
          refine ⟨h3, by simp, fun a ha b hb e => ?_⟩
          rw [List.mem_singleton.mp hb] at e
          rw [e] at ha
          exact nq ha
        · intro z
          rcases List.mem_append.mp z with z | z
          · exact h4 z
          · exact ne (List.mem_singleton.mp z)
        · by_cases hc : c < qs.length
          · rw [List.getElem?_append_left hc] at hz
            have ya := h5 c z hz
            have n1 : z ≠ Dl := fun e => h4 (e ▸ List.mem_of_getElem? hz)
            exact ⟨ya.1, g3.new z ya.2.1 (by rw [ya.2.2]; intro y; cases y), by rw [upd_ne n1]; exact g3.keep z _ ya.2.2⟩
          · rw [List.getElem?_append_right (by omega)] at hz
            have e0 : c - qs.length = 0 := by
              cases w0 : c - qs.length with
              | zero => rfl
              | succ w =>
                rw [w0] at hz
                simp at hz
            have ec : c = m := by omega
            rw [e0] at hz
            have ez : z = q := by
              have : q = z := by simpa using hz
              exact this.symm
            rw [ez, ec]
            exact ⟨fresh_back gr.keep q2, q1, by rw [upd_ne ne.symm, q3, ey]⟩) (fun R' p => by
        obtain ⟨H', gr, nD, qs, h1, h2, h3, h4, h5⟩ := p
        have hlen : i < σ.length := by rw [E.len]; exact hi
        refine k (σ.set i (some (.ref Dl))) H' R' Dl ((f.trans g1.up).trans gr.up) (g.trans (g1.trans gr)) ((E.grow (g1.trans gr)).setUn) (List.getElem?_set_self hlen) ⟨qs, nD, fresh_back (g.keep.trans g1.keep) hD, h1, h3, h4, by simp [h2], fun m q xs q1 q2 => ?_⟩
        have hm := h5 m q q1
        have hl : m < qs.length := (List.getElem?_eq_some_iff.mp q1).1
        have e : xs = v m := by
          rw [List.getElem?_map, List.getElem?_range (by omega)] at q2
          simpa using q2.symm
        rw [e]
        exact ⟨hm.2.1, fresh_back (g.keep.trans g1.keep) hm.1, hm.2.2⟩)⟩
end
end Dn

/-! Dn: loops that come to know something; texts put together. -/
namespace Dn
open PySem PySem.Spec PyProof.Rows L2 Dx
def AtI (W : Wd) (p : Prop) (Γ : Ctx) : L2.St → Hp → Prop := fun σ R => p ∧ At W Γ σ R
section
variable {W : Wd} {Γ Δ : Ctx} {D : Ends} {tz tu : TS} {tl tn : TE}
theorem go_endI {p : Prop} (hp : p) (l : LeC Γ Δ) : Go W tNext { D with nx := AtI W p Δ } Γ := fun σ H R f g E => ⟨hp, H, f, g, E.le l⟩
theorem nx_atI {p : Prop} (hp : p) : Nx W (AtI W p Γ) Γ := fun σ H R f g E => ⟨hp, H, f, g, E⟩
theorem go_forRI {n : Int} {j : Nat} (I : Nat → Prop) (i0 : I 0) (h : Evx W.K tn Γ n) (hn : 0 ≤ n ∧ n ≤ 100000) (Γs : Nat → Ctx) (h0 : LeC Γ (Γs 0))
    (hs : ∀ (i : Nat) (F : Hp), (i : Int) < n → I i → Ex W.F F → Go (W.fl F) tu { D with nx := AtI (W.fl F) (I (i + 1)) (Γs (i + 1)), ct := AtI (W.fl F) (I (i + 1)) (Γs (i + 1)), bk := tz D } ((Γs i).set j (.dat pyInt (i : Int))))
    (hd : I n.toNat → Go W tz D (Γs n.toNat)) : Go W (tSeq (tFor (iRng1 (tCons tn tNil)) (gName j) tu) tz) D Γ := fun σ H R f g E =>
  h σ W.R0 H R g.inn E _ fun v H1 R1 g1 r1 => ⟨n, by
      have r1' : v = .int n := r1
      rw [r1'], by omega, by omega, for_range (lo := 0) (n := n.toNat) (fun i => AtI (W.fl H1) (I i) (Γs i)) ⟨i0, H1, Ex.refl H1, g.trans g1, (E.grow g1).le h0⟩ (fun i σ' R' hi p => by
        obtain ⟨hI, H2, e2, g2, E2⟩ := p
        have e0 : (0 : Int) + (i : Int) = (i : Int) := Int.zero_add _
        show tu _ (σ'.set j (some (.int ((0 : Int) + (i : Int))))) R'
        rw [e0]
        exact hs i H1 (by omega) hI (f.trans g1.up) (σ'.set j (some (.int (i : Int)))) H2 R' e2 g2 (E2.setDat rfl)) (fun σ' R' p => by
        obtain ⟨hI, H2, e2, g2, E2⟩ := p
        exact hd hI σ' H2 R' ((f.trans g1.up).trans e2) g2 E2)⟩
theorem go_forLI {α : Type} {ip : Py α} {xs : List α} {j : Nat} (I : Nat → Prop) (i0 : I 0) (h : Evx W.K tl Γ xs) (Γs : Nat → Ctx) (h0 : LeC Γ (Γs 0))
    (hs : ∀ (i : Nat) (x : α) (F : Hp), xs[i]? = some x → I i → Ex W.F F → Go (W.fl F) tu { D with nx := AtI (W.fl F) (I (i + 1)) (Γs (i + 1)), ct := AtI (W.fl F) (I (i + 1)) (Γs (i + 1)), bk := tz D } ((Γs i).set j (.dat ip x)))
    (hd : I xs.length → Go W tz D (Γs xs.length)) : Go W (tSeq (tFor (iList W.K tl) (gName j) tu) tz) D Γ := fun σ H R f g E =>
  h σ W.R0 H R g.inn E _ fun v H1 R1 g1 r1 => by
    obtain ⟨a, vs, rfl, hl, hx⟩ := r1
    have l1 := paired_len hx
    refine ⟨a, rfl, ⟨vs, sq_of (g1.inn a _ hl)⟩, for_list (K := W.K) (a := a) (xs := vs) (fun i => AtI (W.fl H1) (I i) (Γs i)) ⟨i0, H1, Ex.refl H1, g.trans g1, (E.grow g1).le h0⟩ (fun i σ' R' _ p => ?_) (fun i y σ' R' hi p => ?_) (fun σ' R' p => ?_)⟩
    · obtain ⟨hI, H2, e2, g2, E2⟩ := p
      exact sq_of (g2.inn a _ (e2 a _ hl))
    · obtain ⟨hI, H2, e2, g2, E2⟩ := p
      obtain ⟨x, q1, q2⟩ := paired_back hx hi
      exact hs i x H1 q1 hI (f.trans g1.up) (σ'.set j (some y)) H2 R' e2 g2 (E2.setDat (ip.mono e2 q2))
    · obtain ⟨hI, H2, e2, g2, E2⟩ := p
      rw [← l1] at E2 hI
      exact hd hI σ' H2 R' ((f.trans g1.up).trans e2) g2 E2
theorem go_forPI {α β : Type} {ip : Py α} {iq : Py β} {xs : List (α × β)} {j k : Nat} (I : Nat → Prop) (i0 : I 0) (h : Evx W.K tl Γ xs) (Γs : Nat → Ctx) (h0 : LeC Γ (Γs 0))
    (hs : ∀ (i : Nat) (x : α) (y : β) (F : Hp), xs[i]? = some (x, y) → I i → Ex W.F F → Go (W.fl F) tu { D with nx := AtI (W.fl F) (I (i + 1)) (Γs (i + 1)), ct := AtI (W.fl F) (I (i + 1)) (Γs (i + 1)), bk := tz D } (((Γs i).set j (.dat ip x)).set k (.dat iq y)))
    (hd : I xs.length → Go W tz D (Γs xs.length)) : Go W (tSeq (tFor (iList W.K tl) (gTup W.K 2 (gCons (gName j) (gCons (gName k) gNil))) tu) tz) D Γ := fun σ H R f g E =>
  h σ W.R0 H R g.inn E _ fun v H1 R1 g1 r1 => by
    obtain ⟨a, vs, rfl, hl, hx⟩ := r1
    have l1 := paired_len hx
    refine ⟨a, rfl, ⟨vs, sq_of (g1.inn a _ hl)⟩, for_list (K := W.K) (a := a) (xs := vs) (fun i => AtI (W.fl H1) (I i) (Γs i)) ⟨i0, H1, Ex.refl H1, g.trans g1, (E.grow g1).le h0⟩ (fun i σ' R' _ p => ?_) (fun i y σ' R' hi p => ?_) (fun σ' R' p => ?_)⟩
    · obtain ⟨hI, H2, e2, g2, E2⟩ := p
      exact sq_of (g2.inn a _ (e2 a _ hl))
    · obtain ⟨hI, H2, e2, g2, E2⟩ := p
      obtain ⟨⟨x, z⟩, q1, b, u, w, rfl, qt, qx, qz⟩ := paired_back hx hi
      exact ⟨b, [u, w], rfl, ex_t (e2.trans g2.inn) qt, rfl, u, [w], rfl, w, [], rfl, rfl, hs i x z H1 q1 hI (f.trans g1.up) ((σ'.set j (some u)).set k (some w)) H2 R' e2 g2 ((E2.setDat (ip.mono e2 qx)).setDat (iq.mono e2 qz))⟩
    · obtain ⟨hI, H2, e2, g2, E2⟩ := p
      rw [← l1] at E2 hI
      exact hd hI σ' H2 R' ((f.trans g1.up).trans e2) g2 E2
end
/-! ### texts put together -/
inductive EvJ (K : PySem.W.Frag) (Γ : Ctx) : List TE → List Str → Prop
  | nil : EvJ K Γ [] []
  | cons {t : TE} {ts : List TE} {s : Str} {ss : List Str} (h : Evx K t Γ s) (r : EvJ K Γ ts ss) : EvJ K Γ (t :: ts) (s :: ss)
theorem evj_run {K : PySem.W.Frag} {Γ : Ctx} {ts : List TE} {ss : List Str} (h : EvJ K Γ ts ss) : ∀ (acc : Str), (∀ m, m ≤ ss.length → ((ss.take m).foldl (· ++ ·) acc).length ≤ 100000) → ∀ (σ : L2.St) (R0 H R : Hp), Ex H R → Env K R0 H R σ Γ →
    ∀ Q : Str → Hp → Prop, (∀ H' R', Gr H R H' R' → Q (ss.foldl (· ++ ·) acc) R') → tJs ts acc σ R Q := by
  induction h with
  | nil => exact fun acc _ σ R0 H R e E Q k => k H R (Gr.refl e)
  | @cons t ts s ss h r ih =>
    intro acc hl σ R0 H R e E Q k
    refine h σ R0 H R e E _ fun v H1 R1 g1 r1 => ⟨s, r1, ?_, ih (acc ++ s) (fun m hm => ?_) σ R0 H1 R1 g1.inn (E.grow g1) Q fun H' R' g' => k H' R' (g1.trans g')⟩
    · have := hl 1 (by simp)
      have z : (acc ++ s).length ≤ 100000 := by simpa using this
      rw [sizeLine_eq]
      omega
    · have := hl (m + 1) (by simp; omega)
      simpa using this
theorem evx_js {K : PySem.W.Frag} {Γ : Ctx} {ts : List TE} {ss : List Str} (h : EvJ K Γ ts ss) (hl : ∀ m, m ≤ ss.length → ((ss.take m).foldl (· ++ ·) Str.empty).length ≤ 100000) :
    Evx K (fun σ H Q => tJs ts Str.empty σ H fun out H1 => Q (.str out) H1) Γ (ss.foldl (· ++ ·) Str.empty) := fun σ R0 H R e E Q k =>
  evj_run h Str.empty hl σ R0 H R e E _ fun H' R' g' => k _ H' R' g' rfl
theorem evx_fmtI {K : PySem.W.Frag} {Γ : Ctx} {te : TE} {i : Int} (h : Evx K te Γ i) (hi : i.natAbs.log2 < 1920) : Evx K (tFmt te) Γ (Str.ofString (toString i)) := fun σ R0 H R e E Q k =>
  h σ R0 H R e E _ fun v H1 R1 g1 r1 => .inr ⟨i, r1, hi, k _ H1 R1 g1 rfl⟩
theorem evx_fmtS {K : PySem.W.Frag} {Γ : Ctx} {te : TE} {z : Str} (h : Evx K te Γ z) (hz : z.length ≤ 100000) : Evx K (tFmt te) Γ z := fun σ R0 H R e E Q k =>
  h σ R0 H R e E _ fun v H1 R1 g1 r1 => .inl ⟨z, r1, by rw [sizeLine_eq]; omega, k _ H1 R1 g1 rfl⟩
/-- a constant of the module, a whole number -/
theorem pe_gint {X : Cx} {x : Str} {i : Int} {pos : Pos} (g : ∃ t, X.mg x = some (.int i t)) (hg : Gl X x) (hd : (x == ("__debug__" : Str)) = false := by decide) : PE X (.Name x pos) (tC (.int i)) := by
  obtain ⟨t, h⟩ := g
  exact pe_glob hg h ⟨_, rfl⟩ hd
end Dn

/-! Dn: more of lists of lists of one's own; isinstance of what is known. -/
namespace Dn
open PySem PySem.Spec PyProof.Rows L2 Dx
theorem nest_look {K : PySem.W.Frag} {R0 H R : Hp} {σ : L2.St} {Γ : Ctx} {p : Addr} {qs : List Addr} {xss : List (List Int)} {i : Nat} (E : Env K R0 H R σ Γ) (hΓ : NoOwn Γ) (e : Ex H R) (hi : i < Γ.length) (hσ : σ[i]? = some (some (.ref p))) (n : NestQ R0 H R p qs xss) :
    ∃ Hs, Ex Hs R ∧ Env K R0 Hs R σ (Γ.set i (.dat (pyList (ip := pyList (ip := pyInt))) xss)) ∧ ∀ H' R', Gr Hs R H' R' → ∃ H2, Gr H R H2 R' := by
  have mem : ∀ b, b ∈ qs → ∃ (m : Nat) (ys : List Int), qs[m]? = some b ∧ xss[m]? = some ys := fun b z => by
    obtain ⟨m, hm, ee⟩ := List.mem_iff_getElem.mp z
    have h2 : m < xss.length := by rw [← n.ln]; exact hm
    exact ⟨m, xss[m], by rw [List.getElem?_eq_getElem hm, ee], List.getElem?_eq_getElem h2⟩
  have old : ∀ b o, H b = some o → ¬ (b = p ∨ b ∈ qs) := by
    rintro b o hb (z | z)
    · rw [z, n.hp] at hb
      cases hb
    · obtain ⟨m, ys, q1, q2⟩ := mem b z
      rw [(n.it m b ys q1 q2).1] at hb
      cases hb
  have eH : Ex H (fun b => if b = p ∨ b ∈ qs then R b else H b) := fun b o hb => by
    refine Sm.of ?_
    show (if b = p ∨ b ∈ qs then R b else H b) = some o
    rw [if_neg (old b o hb)]
    exact hb
  have eR : Ex (fun b => if b = p ∨ b ∈ qs then R b else H b) R := fun b o hb => by
    have hb' : (if b = p ∨ b ∈ qs then R b else H b) = some o := hb
    split at hb'
    · exact Sm.of hb'
    · exact e b o hb'
  refine ⟨_, eR, ?_, fun H' R' g => ⟨fun b => if b = p ∨ b ∈ qs then none else H' b, fun b o hb => ?_, fun b o hb => ?_, g.keep, fun b q1 q2 => ?_⟩⟩
  · have E2 := E.more hΓ eH
    have cell : (pyList (ip := pyList (ip := pyInt))).rel K xss (.ref p) (fun b => if b = p ∨ b ∈ qs then R b else H b) := by
      refine ⟨p, qs.map V.ref, rfl, ?_, ?_⟩
      · show (if p = p ∨ p ∈ qs then R p else H p) = _
        rw [if_pos (.inl rfl)]
        exact n.lp
      · have all : ∀ (qs' : List Addr) (yss : List (List Int)), qs'.length = yss.length → (∀ (k : Nat) (q : Addr) (ys : List Int), qs'[k]? = some q → yss[k]? = some ys → (fun b => if b = p ∨ b ∈ qs then R b else H b) q = some (.lst (ys.map V.int))) →
            Paired (fun x u => (pyList (ip := pyInt)).rel K x u (fun b => if b = p ∨ b ∈ qs then R b else H b)) yss (qs'.map V.ref) := by
          intro qs'
          induction qs' with
          | nil =>
            intro yss hl _
            cases yss with
            | nil => exact .nil
            | cons y ys => simp at hl
          | cons q qs' ih =>
            intro yss hl hh
            cases yss with
            | nil => simp at hl
            | cons y ys => exact .cons ⟨q, _, rfl, hh 0 q y rfl rfl, ints_rel y⟩ (ih ys (by simpa using hl) fun k z zs h1 h2 => hh (k + 1) z zs (by simpa using h1) (by simpa using h2))
        refine all qs xss n.ln fun k q ys h1 h2 => ?_
        show (if q = p ∨ q ∈ qs then R q else H q) = _
        rw [if_pos (.inr (List.mem_of_getElem? h1))]
        exact (n.it k q ys h1 h2).2.2
    have noS : NoOwn (Γ.set i (.dat (pyList (ip := pyList (ip := pyInt))) xss)) := fun s hs => by
      rcases List.mem_or_eq_of_mem_set hs with q | q
      · exact hΓ s q
      · rw [q]
        exact fun z => z
    refine ⟨by rw [List.length_set]; exact E2.len, fun j s h => ?_, fun a b q _ ha _ _ => absurd ha (noS.at a)⟩
    by_cases c : i = j
    · subst c
      rw [List.getElem?_set_self hi] at h
      cases h
      exact ⟨.ref p, hσ, cell⟩
    · rw [List.getElem?_set_ne c] at h
      exact E2.ok j s h
  · show Sm o (if b = p ∨ b ∈ qs then none else H' b)
    rw [if_neg (old b o hb)]
    refine g.up b o ?_
    show (if b = p ∨ b ∈ qs then R b else H b) = some o
    rw [if_neg (old b o hb)]
    exact hb
  · have hb' : (if b = p ∨ b ∈ qs then none else H' b) = some o := hb
    split at hb'
    · cases hb'
    · exact g.inn b o hb'
  · show (if b = p ∨ b ∈ qs then none else H' b) = none
    by_cases z : b = p ∨ b ∈ qs
    · rw [if_pos z]
    · rw [if_neg z]
      refine g.new b ?_ q2
      show (if b = p ∨ b ∈ qs then R b else H b) = none
      rw [if_neg z]
      exact q1
section
variable {W : Wd} {Γ Δ : Ctx} {D : Ends} {t tz tu tw : TS} {te tn : TE} {tt : TT} {i : Nat} {xss : List (List Int)}
theorem gon_asg {α : Type} [ip : Py α] {x : α} {j : Nat} (hij : j ≠ i) (h : Evx W.K te Γ x) (k : GoN W i tz D (Γ.set j (.dat ip x)) xss) : GoN W i (tSeq (tAsg te (gName j)) tz) D Γ xss := fun σ H R p f g E s n => by
  obtain ⟨qs, n⟩ := n
  refine h σ W.R0 H R g.inn E _ fun v H' R' g' r => k (σ.set j (some v)) H' R' p (f.trans g'.up) (g.trans g') ((E.grow g').setDat r) ?_ ⟨qs, n.grow g'⟩
  rw [List.getElem?_set_ne hij]
  exact s
theorem gon_if {b : Bool} (hΓ : NoOwn Γ) (hi : i < Γ.length) (h : Evt W.K tt (Γ.set i (.dat (pyList (ip := pyList (ip := pyInt))) xss)) b) (h1 : b = true → GoN W i tu { D with nx := tz D } Γ xss) (h2 : b = false → GoN W i tw { D with nx := tz D } Γ xss) : GoN W i (tSeq (tIfS tt tu tw) tz) D Γ xss := fun σ H R p f g E s n => by
  obtain ⟨qs, n⟩ := n
  obtain ⟨Hs, e1, E1, back⟩ := nest_look E hΓ g.inn hi s n
  refine h σ W.R0 Hs R e1 E1 _ fun H' R' g' => ?_
  obtain ⟨H2, g2⟩ := back H' R' g'
  cases b with
  | true => exact iteT (h1 rfl σ H2 R' p (f.trans g2.up) (g.trans g2) (E.grow g2) s ⟨qs, n.grow g2⟩)
  | false => exact iteF (h2 rfl σ H2 R' p (f.trans g2.up) (g.trans g2) (E.grow g2) s ⟨qs, n.grow g2⟩)
/-- for k in range(n), the nest changing -/
theorem gon_forR {n : Int} {j : Nat} (hij : i ≠ j) (h : Evx W.K tn Γ n) (hn : 0 ≤ n ∧ n ≤ 100000) (Γs : Nat → Ctx) (S : Nat → List (List Int)) (h0 : LeC Γ (Γs 0)) (e0 : xss = S 0)
    (hs : ∀ (m : Nat) (F : Hp), (m : Int) < n → Ex W.F F → GoN (W.fl F) i tu { D with nx := AtN (W.fl F) i (Γs (m + 1)) (S (m + 1)), ct := AtN (W.fl F) i (Γs (m + 1)) (S (m + 1)), bk := tz D } ((Γs m).set j (.dat pyInt (m : Int))) (S m))
    (hd : GoN W i tz D (Γs n.toNat) (S n.toNat)) : GoN W i (tSeq (tFor (iRng1 (tCons tn tNil)) (gName j) tu) tz) D Γ xss := fun σ H R p f g E hσ nq =>
  h σ W.R0 H R g.inn E _ fun v H1 R1 g1 r1 => ⟨n, by
      obtain ⟨qs, nq⟩ := nq
      have r1' : v = .int n := r1
      rw [r1'], by omega, by omega, for_range (lo := 0) (n := n.toNat) (fun m => AtN (W.fl H1) i (Γs m) (S m)) (by
        obtain ⟨qs, nq⟩ := nq
        exact ⟨H1, p, Ex.refl H1, g.trans g1, (E.grow g1).le h0, hσ, e0 ▸ ⟨qs, nq.grow g1⟩⟩) (fun m σ' R' hm pv => by
        obtain ⟨H2, p2, e2, g2, E2, s2, n2⟩ := pv
        have e0 : (0 : Int) + (m : Int) = (m : Int) := Int.zero_add _
        show tu _ (σ'.set j (some (.int ((0 : Int) + (m : Int))))) R'
        rw [e0]
        refine hs m H1 (by omega) (f.trans g1.up) (σ'.set j (some (.int (m : Int)))) H2 R' p2 e2 g2 (E2.setDat rfl) ?_ n2
        rw [List.getElem?_set_ne (Ne.symm hij)]
        exact s2) (fun σ' R' pv => by
        obtain ⟨H2, p2, e2, g2, E2, s2, n2⟩ := pv
        exact hd σ' H2 R' p2 ((f.trans g1.up).trans e2) g2 E2 s2 n2)⟩
theorem gon_ret {α : Type} [ip : Py α] {x : α} (h : Evx W.K te Γ x) (k : RetD W D x) : GoN W i (tSeq (tRet te) tz) D Γ xss := fun σ H R p f g E _ _ =>
  h σ W.R0 H R g.inn E _ fun v H' R' g' r => k v H' R' (g.trans g') r
end
/-! ### isinstance, told of -/
theorem k_ii : kitB "int" "int" = some true := by decide +kernel
theorem k_ib : kitB "int" "bool" = some false := by decide +kernel
theorem k_bb : kitB "bool" "bool" = some true := by decide +kernel
theorem k_bi : kitB "bool" "int" = some true := by decide +kernel
theorem k_ll : kitB "list" "list" = some true := by decide +kernel
theorem k_tt : kitB "tuple" "tuple" = some true := by decide +kernel
theorem k_ss : kitB "str" "str" = some true := by decide +kernel
theorem evx_isk {K : PySem.W.Frag} {Γ : Ctx} {te : TE} {α : Type} {ip : Py α} {x : α} {t n : String} {b : Bool} (h : Evx K te Γ x) (hT : PyT α t) (hk : kitB t n = some b) : Evx K (tCB (rIsi K) (tCons te (tCons (tC (.ty n)) tNil))) Γ b := evx_isi hT h hk
/-- a test that is known to fail: the suite is not run -/
theorem go_skip {W : Wd} {D : Ends} {Γ : Ctx} {tt : TT} {tu tz : TS} {b : Bool} (h : Evt W.K tt Γ b) (e : b = false) (k : Go W tz D Γ) : Go W (tSeq (tIfS tt tu tNext) tz) D Γ := go_ifr False h (by rw [e]; rfl) (fun z => z.elim) fun _ => k
end Dn
namespace Dn
open L2
theorem go_try0 {W : Wd} {D : Ends} {Γ : Ctx} {t tz : TS} (h : Nx W (t { D with nx := tz D }) Γ) : Go W (tSeq t tz) D Γ := h
end Dn

namespace Dn
open PySem PySem.Spec PyProof.Rows L2
theorem call_isE2K {X : Cx} {a : Addr} {oe : Obj} {cls : Value} {d : Option Addr} (K : PySem.W.Frag) (hp : (a, oe) ∈ X.pn) (hz : L2N.Zn cls d oe) (hf : ∃ vs, oe.data = .fields vs) (hK : X.K = K := by rfl) : CallR X (.builtin "isinstance") (rIsE2 K cls d a) := hK ▸ call_isE2 hp hz hf
end Dn

/-! Dn: results that share nothing with what was there. -/
namespace Dn
open PySem PySem.Spec PyProof.Rows L2 Dx
/-- what is told of and was not there -/
def newp (R H : Hp) : Hp := fun b => if R b = none then H b else none
theorem newp_le {R H : Hp} : Ex (newp R H) H := fun b o h => by
  have h' : (if R b = none then H b else none) = some o := h
  split at h'
  · exact Sm.of h'
  · cases h'
theorem newp_up {R H H' : Hp} (e : Ex H H') : Ex (newp R H) (newp R H') := fun b o h => by
  have h' : (if R b = none then H b else none) = some o := h
  show Sm o (if R b = none then H' b else none)
  split at h'
  · rename_i q
    rw [if_pos q]
    exact e b o h'
  · cases h'
theorem newp_old {R R' H : Hp} (e : Ex R R') : Ex (newp R' H) (newp R H) := fun b o h => by
  have h' : (if R' b = none then H b else none) = some o := h
  show Sm o (if R b = none then H b else none)
  split at h'
  · rename_i q
    rw [if_pos (fresh_back e q)]
    exact Sm.of h'
  · cases h'
theorem newp_get {R H : Hp} {b : Addr} {o : HO} (h1 : R b = none) (h2 : H b = some o) : newp R H b = some o := by
  show (if R b = none then H b else none) = some o
  rw [if_pos h1]
  exact h2
def Evf {α : Type} [ip : Py α] (K : PySem.W.Frag) (te : TE) (Γ : Ctx) (x : α) : Prop :=
  ∀ (σ : L2.St) (R0 H R : Hp), Ex H R → Env K R0 H R σ Γ → ∀ Q : VK, (∀ v H' R', Gr H R H' R' → ip.rel K x v (newp R H') → Q v R') → te σ R Q
section
variable {K : PySem.W.Frag} {Γ : Ctx} {te tl : TE} {α : Type} {ip : Py α} {x : α}
theorem evx_ofF (h : Evf K te Γ x) : Evx K te Γ x := fun σ R0 H R e E Q k => h σ R0 H R e E Q fun v H' R' g r => k v H' R' g (ip.mono newp_le r)
theorem evf_is {y : α} (h : Evf K te Γ x) (e : x = y) : Evf K te Γ y := e ▸ h
/-- one's own list is handed, and is one's own behind it -/
theorem evx_lookF {β : Type} {iq : Py β} {xs : List β} (i : Nat) (hi : Γ[i]? = some (.own iq xs)) (h : Evf K te (Γ.set i (.dat (pyList (ip := iq)) xs)) x) : Evx K te Γ x := fun σ R0 H R e E Q k => by
  obtain ⟨p, vs, h1, h2, h3, h4, h5⟩ := E.ok i _ hi
  refine h σ R0 (upd H p (.lst vs)) R (ex_tell e h4) (E.freeze hi h1 h2 h5) Q fun v H' R' g r => ?_
  have sub : Ex (newp R H') (fun b => if b = p then none else H' b) := fun b o hb => by
    have hb' : (if R b = none then H' b else none) = some o := hb
    show Sm o (if b = p then none else H' b)
    split at hb'
    · rename_i q
      have nb : b ≠ p := fun z => by
        rw [z, h4] at q
        cases q
      rw [if_neg nb]
      exact Sm.of hb'
    · cases hb'
  refine k v (fun b => if b = p then none else H' b) R' ⟨fun b o hb => ?_, fun b o hb => ?_, g.keep, fun b q1 q2 => ?_⟩ (ip.mono sub r)
  · have nb : b ≠ p := fun z => by
      rw [z, h2] at hb
      cases hb
    show Sm o (if b = p then none else H' b)
    rw [if_neg nb]
    exact g.up b o (by rw [upd_ne nb]; exact hb)
  · have hb' : (if b = p then none else H' b) = some o := hb
    split at hb'
    · cases hb'
    · exact g.inn b o hb'
  · show (if b = p then none else H' b) = none
    by_cases z : b = p
    · rw [if_pos z]
    · rw [if_neg z]
      exact g.new b (by rw [upd_ne z]; exact q1) q2
/-- [f(x) for x in xs], each a new list -/
theorem evf_lcM {xs : List α} {j : Nat} {ws : List Nat} (v : α → List Int) (h : Evx K tl Γ xs) (hn : xs.length ≤ 40000) (hj : j ∈ ws) (he : ∀ x ∈ xs, Evl K te ((wipeC Γ ws).set j (.dat ip x)) (v x)) :
    Evf K (tLc (iList K tl) (gName j) tYes te ws) Γ (xs.map v) := fun σ R0 H R e E Q k =>
  h σ R0 H R e E _ fun u H1 R1 g1 r1 => by
    obtain ⟨a, vs, rfl, hl, hx⟩ := r1
    have l1 := paired_len hx
    refine ⟨a, rfl, ⟨vs, sq_of (g1.inn a _ hl)⟩, fun Dl hD => lc_list (K := K) (a := a) (xs := vs) (fun m R' => ∃ H' : Hp, Gr H1 R1 H' R' ∧ H' Dl = none ∧ ∃ qs : List V, R' Dl = some (.lst qs) ∧ Paired (fun ys u => (pyList (ip := pyInt)).rel K ys u (newp R1 H')) ((xs.take m).map v) qs) ⟨H1, Gr.alloc g1.inn hD, fresh_back g1.inn hD, [], upd_same, .nil⟩ (fun m R' _ p => ?_) (fun m y R' hm p => ?_) (fun R' p => ?_)⟩
    · obtain ⟨H', gr, _⟩ := p
      exact sq_of (gr.inn a _ (gr.up a _ hl))
    · obtain ⟨H', gr, nD, qs, h1, h2⟩ := p
      obtain ⟨x, q1, q2⟩ := paired_back hx hm
      refine ⟨wipe_set hj, ?_⟩
      simp only [tYes, ↓reduceIte]
      have E2 : Env K R0 H' R' ((L2.wipe σ ws).set j (some y)) ((wipeC Γ ws).set j (.dat ip x)) := (((E.grow g1).grow gr).wipe ws).setDat (ip.mono gr.up q2)
      refine he x (List.mem_of_getElem? q1) _ R0 H' R' gr.inn E2 _ fun q zs H3 R3 g3 z1 z2 z3 z4 => ?_
      have hD3 := g3.keep Dl _ h1
      have nD3 : H3 Dl = none := g3.new Dl nD (by rw [h1]; intro z; cases z)
      have ne : Dl ≠ q := ne_of_none h1 z2
      have hlen := paired_len h2
      have hmx := (List.getElem?_eq_some_iff.mp q1).1
      refine ⟨qs, hD3, sz_lt (by rw [← hlen, List.length_map, List.length_take]; omega), upd H3 q (.lst zs), ?_, by rw [upd_ne ne]; exact nD3, qs ++ [.ref q], upd_same, ?_⟩
      · have ga : Gr H' R' (upd H3 q (.lst zs)) R3 := ⟨g3.up.trans (Ex.new z1), ex_tell g3.inn z3, g3.keep, fun b w1 w2 => by
          have nb : b ≠ q := fun z => w2 (by rw [z]; exact z2)
          rw [upd_ne nb]
          exact g3.new b w1 w2⟩
        exact (gr.trans ga).mut (by rw [upd_ne ne]; exact nD3) hD
      · have et : (xs.take (m + 1)).map v = (xs.take m).map v ++ [v x] := by
          obtain ⟨hlt, hx2⟩ := List.getElem?_eq_some_iff.mp q1
          rw [List.take_succ_eq_append_getElem hlt, List.map_append, hx2]
          rfl
        rw [et]
        refine paired_app (paired_imp (fun ys u r => (pyList (ip := pyInt)).mono (newp_up (g3.up.trans (Ex.new z1))) r) h2) (.cons ⟨q, zs, rfl, newp_get (fresh_back gr.keep z2) upd_same, z4⟩ .nil)
    · obtain ⟨H', gr, nD, qs, h1, h2⟩ := p
      rw [← l1, List.take_length] at h2
      have R1D : R Dl = none := fresh_back g1.keep hD
      refine k (.ref Dl) (upd H' Dl (.lst qs)) R' ⟨(g1.up.trans gr.up).trans (Ex.new nD), ex_tell gr.inn h1, g1.keep.trans gr.keep, fun b w1 w2 => ?_⟩ ⟨Dl, qs, rfl, newp_get R1D upd_same, paired_imp (fun ys u r => (pyList (ip := pyInt)).mono ((newp_old g1.keep).trans (newp_up (Ex.new nD))) r) h2⟩
      have nb : b ≠ Dl := fun z => w2 (by rw [z]; exact R1D)
      rw [upd_ne nb]
      exact (g1.trans gr).new b w1 w2
end
/-- what a return of something new hands back -/
def RetF {α : Type} [ip : Py α] (W : Wd) (D : Ends) (x : α) : Prop := ∀ v H R, Gr W.H0 W.R0 H R → ip.rel W.K x v (newp W.R0 H) → D.rt v R
theorem go_retF {W : Wd} {Γ : Ctx} {D : Ends} {te : TE} {tz : TS} {α : Type} {ip : Py α} {x y : α} (h : Evf W.K te Γ x) (e : x = y) (k : RetF W D y) : Go W (tSeq (tRet te) tz) D Γ := fun σ H R f g E =>
  h σ W.R0 H R g.inn E _ fun v H' R' g' r => k v H' R' (g.trans g') (e ▸ ip.mono (newp_old g.keep) r)
section
variable {A0 A1 C : Type} [i0 : Py A0] [i1 : Py A1] [ic : Py C]
def spf2 (K : PySem.W.Frag) (pre : A0 → A1 → Prop) (f : A0 → A1 → C) : Sp := fun vs R Q _ => ∃ (x0 : A0) (x1 : A1) (v0 v1 : V) (H : Hp), vs = [v0, v1] ∧ Ex H R ∧ i0.rel K x0 v0 H ∧ i1.rel K x1 v1 H ∧ pre x0 x1 ∧
  ∀ v H' R', Gr H R H' R' → ic.rel K (f x0 x1) v (newp R H') → Q v R'
def sxf2 (K : PySem.W.Frag) (pre : A0 → A1 → Prop) (bad : A0 → A1 → Bool) (cls : Addr) (f : A0 → A1 → C) : Sp := fun vs R Q E => ∃ (x0 : A0) (x1 : A1) (v0 v1 : V) (H : Hp), vs = [v0, v1] ∧ Ex H R ∧ i0.rel K x0 v0 H ∧ i1.rel K x1 v1 H ∧ pre x0 x1 ∧
  (bad x0 x1 = false → ∀ v H' R', Gr H R H' R' → ic.rel K (f x0 x1) v (newp R H') → Q v R') ∧ (bad x0 x1 = true → ∀ H' R', Gr H R H' R' → E (.ref cls) none R')
theorem evf_call2 {K : PySem.W.Frag} {Γ : Ctx} {pre : A0 → A1 → Prop} {f : A0 → A1 → C} {x0 : A0} {x1 : A1} {t0 t1 : TE} {E0 : XK} (h0 : Evx K t0 Γ x0) (h1 : Evx K t1 Γ x1) (hp : pre x0 x1) : Evf K (tCall (spf2 K pre f) [] E0 (tCons t0 (tCons t1 tNil))) Γ (f x0 x1) := fun σ R0 H R e E Q k =>
  h0 σ R0 H R e E _ fun u0 H0 S0 g0 r0 => h1 σ R0 H0 S0 g0.inn (E.grow g0) _ fun u1 H1 S1 g1 r1 =>
  ⟨x0, x1, u0, u1, H1, rfl, g1.inn, i0.mono g1.up r0, r1, hp, fun v H' R' g' r' => k v H' R' ((g0.trans g1).trans g') (ic.mono (newp_old (g0.trans g1).keep) r')⟩
theorem evf_callx2 {K : PySem.W.Frag} {Γ : Ctx} {pre : A0 → A1 → Prop} {bad : A0 → A1 → Bool} {cls : Addr} {f : A0 → A1 → C} {x0 : A0} {x1 : A1} {t0 t1 : TE} {E0 : XK} (h0 : Evx K t0 Γ x0) (h1 : Evx K t1 Γ x1) (hp : pre x0 x1) (hb : bad x0 x1 = false) : Evf K (tCall (sxf2 K pre bad cls f) [] E0 (tCons t0 (tCons t1 tNil))) Γ (f x0 x1) := fun σ R0 H R e E Q k =>
  h0 σ R0 H R e E _ fun u0 H0 S0 g0 r0 => h1 σ R0 H0 S0 g0.inn (E.grow g0) _ fun u1 H1 S1 g1 r1 =>
  ⟨x0, x1, u0, u1, H1, rfl, g1.inn, i0.mono g1.up r0, r1, hp, fun _ v H' R' g' r' => k v H' R' ((g0.trans g1).trans g') (ic.mono (newp_old (g0.trans g1).keep) r'), fun z => by rw [hb] at z; cases z⟩
theorem evz_callf2 {W : Wd} {Γ : Ctx} {pre : A0 → A1 → Prop} {bad : A0 → A1 → Bool} {cls : Addr} {f : A0 → A1 → C} {x0 : A0} {x1 : A1} {t0 t1 : TE} {E : L2.St → XK} (h0 : Evx W.K t0 Γ x0) (h1 : Evx W.K t1 Γ x1) (hp : pre x0 x1) : Evz W (tCallS (sxf2 W.K pre bad cls f) E (tCons t0 (tCons t1 tNil))) Γ (bad x0 x1) (f x0 x1) (fun σ R => E σ (.ref cls) none R) := fun σ H R ff gg EE Q k kx =>
  h0 σ W.R0 H R gg.inn EE _ fun u0 H0 S0 g0 r0 => h1 σ W.R0 H0 S0 g0.inn (EE.grow g0) _ fun u1 H1 S1 g1 r1 =>
  ⟨x0, x1, u0, u1, H1, rfl, g1.inn, i0.mono g1.up r0, r1, hp, fun hb v H' R' g' r' => k hb v H' R' ((g0.trans g1).trans g') (ic.mono newp_le r'), fun hb H' R' g' => kx hb H' R' ((g0.trans g1).trans g')⟩
variable {P : Program} {w : World} {K : PySem.W.Frag} {mg : Str → Option Value} {base : Heap} {x qual : Str} {st : Stmt} {a : Addr} {fd : FuncData} {N ps : List Str} {k : Nat} {pre : A0 → A1 → Prop} {bad : A0 → A1 → Bool} {cls : Addr} {f : A0 → A1 → C}
theorem deff2 (F : Fun K x qual st a fd) (S : FnScope N ps (defScope st)) (hps : ps.length = 2) (us : Ctx) (hus : us = List.replicate (N.length - 2) Slot.un)
    (hbody : ∀ (cdv : Value) (A : Around) (outer : List PySem.Env) (s : Shared) (H : Hp) (Q : VK) (E : XK), Room k (A.deeper (envOfC qual (defScope st) s.heap.objs.size a cdv)) →
      ∃ t, PSs (cxOf CX0 P w K mg base N qual (defScope st) a cdv A outer s H E).nox (defBody st) t ∧ ∀ (x0 : A0) (x1 : A1), pre x0 x1 → ∀ (W : Wd) (D : Ends), W.K = K → (∀ σ R, D.nx σ R = D.rt .non R) → RetF W D (f x0 x1) → Go W t D (.dat i0 x0 :: .dat i1 x1 :: us)) : FnOk P w K mg base CX0 (k + 1) a fd ps (spf2 K pre f) := by
  refine F.ok S (fun vs H Q E h => ?_) (fun cdv A outer s R vs Q E hr h => ?_)
  · obtain ⟨x0, x1, v0, v1, H, rfl, _⟩ := h
    exact hps.symm
  · obtain ⟨x0, x1, v0, v1, H, rfl, e, r0, r1, hp, q⟩ := h
    obtain ⟨t, h1, h2⟩ := hbody cdv A outer s R Q E hr
    subst hus
    exact ⟨t, h1, h2 x0 x1 hp ⟨K, H, R, H⟩ _ rfl (fun _ _ => rfl) (fun v H' R' g r => q v H' R' g r) _ H R (Ex.refl H) (Gr.refl e) (Env.start (Are.cons (s := Slot.dat i0 x0) r0 (Are.cons (s := Slot.dat i1 x1) r1 Are.nil)) rfl)⟩
theorem deffx2 (F : Fun K x qual st a fd) (S : FnScope N ps (defScope st)) (hps : ps.length = 2) (us : Ctx) (hus : us = List.replicate (N.length - 2) Slot.un)
    (hbody : ∀ (cdv : Value) (A : Around) (outer : List PySem.Env) (s : Shared) (H : Hp) (Q : VK) (E : XK), Room k (A.deeper (envOfC qual (defScope st) s.heap.objs.size a cdv)) →
      ∃ t, PSs (cxOf (L2N.CX P w) P w K mg base N qual (defScope st) a cdv A outer s H E) (defBody st) t ∧ ∀ (x0 : A0) (x1 : A1), pre x0 x1 → ∀ (W : Wd) (D : Ends), W.K = K → (∀ σ R, D.nx σ R = D.rt .non R) → (bad x0 x1 = false → RetF W D (f x0 x1)) → (bad x0 x1 = true → ∀ H' R', Gr W.H0 W.R0 H' R' → E (.ref cls) none R') → Go W t D (.dat i0 x0 :: .dat i1 x1 :: us)) : FnOk P w K mg base (L2N.CX P w) (k + 1) a fd ps (sxf2 K pre bad cls f) := by
  refine okN F S (fun vs H Q E h => ?_) (fun cdv A outer s R vs Q E hr h => ?_)
  · obtain ⟨x0, x1, v0, v1, H, rfl, _⟩ := h
    exact hps.symm
  · obtain ⟨x0, x1, v0, v1, H, rfl, e, r0, r1, hp, q, qx⟩ := h
    obtain ⟨t, h1, h2⟩ := hbody cdv A outer s R Q E hr
    subst hus
    exact ⟨t, h1, h2 x0 x1 hp ⟨K, H, R, H⟩ _ rfl (fun _ _ => rfl) (fun hb v H' R' g r => q hb v H' R' g r) (fun hb H' R' g => qx hb H' R' g) _ H R (Ex.refl H) (Gr.refl e) (Env.start (Are.cons (s := Slot.dat i0 x0) r0 (Are.cons (s := Slot.dat i1 x1) r1 Are.nil)) rfl)⟩
end
end Dn

/-! Dn: what stands in the written part, in bundles. -/
namespace Dn
open PySem PySem.Spec PyProof.Rows L2
/-- a def of the text in the written part -/
structure Dk (K : PySem.W.Frag) (x qual : Str) (st : Stmt) : Prop where
  ex : ∃ (A : Addr) (oc : Value) (od an : Option Addr) (kV doc pm cdv ct : Value) (osl : Array (Option Value)), PySem.W.nsIn K mainGlobals x = some (some (.ref A)) ∧
    K.lookup A = some ⟨oc, od, .func (PySem.W.fnOf x qual (defArgs st) (defBody st) (defScope st) .none kV doc pm an cdv ct), osl⟩ ∧ PySem.W.codeIn K cdv qual = true ∧ PySem.W.keepIn K (.ref A) = true
theorem dk_mk {K : PySem.W.Frag} {x qual : Str} {st : Stmt} {A : Addr} {oc : Value} {od an : Option Addr} {kV doc pm cdv ct : Value} {osl : Array (Option Value)} (a : PySem.W.nsIn K mainGlobals x = some (some (.ref A)))
    (l : K.lookup A = some ⟨oc, od, .func (PySem.W.fnOf x qual (defArgs st) (defBody st) (defScope st) .none kV doc pm an cdv ct), osl⟩) (c : PySem.W.codeIn K cdv qual = true) (k : PySem.W.keepIn K (.ref A) = true) : Dk K x qual st := ⟨_, _, _, _, _, _, _, _, _, _, a, l, c, k⟩
theorem Dk.df {K : PySem.W.Frag} {mg : Str → Option Value} {h : Heap} {x qual : Str} {st : Stmt} {ps : List Str} (d : Dk K x qual st) (X : K.In h) (G : h.Ns mainGlobals mg)
    (hb : ∀ (kV doc pm : Value) (an : Option Addr) (cdv ct : Value) (us : List Value), us.length = ps.length → bindArgs (PySem.W.fnOf x qual (defArgs st) (defBody st) (defScope st) .none kV doc pm an cdv ct) ⟨us, []⟩ = pure (ps.zip us)) : Df K mg x qual st ps := by
  obtain ⟨A, oc, od, an, kV, doc, pm, cdv, ct, osl, a, l, c, k⟩ := d.ex
  have F := fun_mk (st := st) l c k
  exact ⟨A, _, F, PySem.W.mg_of X G a, F.binds hb⟩
/-- a method -/
structure Mtk (K : PySem.W.Frag) (C : Addr) (m qual : Str) (st : Stmt) : Prop where
  ex : ∃ (A : Addr) (oc : Value) (od an : Option Addr) (kV doc pm cdv ct : Value) (osl : Array (Option Value)), PySem.W.findIn K (.ref C) m = some (some (.ref A)) ∧ PySem.W.isFn K (.ref A) = true ∧
    K.lookup A = some ⟨oc, od, .func (PySem.W.fnOf m qual (defArgs st) (defBody st) (defScope st) .none kV doc pm an cdv ct), osl⟩ ∧ PySem.W.codeIn K cdv qual = true ∧ PySem.W.keepIn K (.ref A) = true
theorem mtk_mk {K : PySem.W.Frag} {C : Addr} {m qual : Str} {st : Stmt} {A : Addr} {oc : Value} {od an : Option Addr} {kV doc pm cdv ct : Value} {osl : Array (Option Value)} (a : PySem.W.findIn K (.ref C) m = some (some (.ref A))) (i : PySem.W.isFn K (.ref A) = true)
    (l : K.lookup A = some ⟨oc, od, .func (PySem.W.fnOf m qual (defArgs st) (defBody st) (defScope st) .none kV doc pm an cdv ct), osl⟩) (c : PySem.W.codeIn K cdv qual = true) (k : PySem.W.keepIn K (.ref A) = true) : Mtk K C m qual st := ⟨_, _, _, _, _, _, _, _, _, _, a, i, l, c, k⟩
theorem Mtk.mt {P : Program} {w : World} {K : PySem.W.Frag} {mg : Str → Option Value} {base : Heap} {CX : CXT} {k : Nat} {C : Addr} {m qual : Str} {st : Stmt} {ps : List Str} {sp : Sp} (d : Mtk K C m qual st) (cl : Cls K C)
    (hb : ∀ (kV doc pm : Value) (an : Option Addr) (cdv ct : Value) (us : List Value), us.length = ps.length → bindArgs (PySem.W.fnOf m qual (defArgs st) (defBody st) (defScope st) .none kV doc pm an cdv ct) ⟨us, []⟩ = pure (ps.zip us))
    (h : ∀ f fd, Fun K m qual st f fd → FnOk P w K mg base CX k f fd ps sp) : Mt P w K mg base CX k C m ps sp := by
  obtain ⟨A, oc, od, an, kV, doc, pm, cdv, ct, osl, a, i, l, c, kk⟩ := d.ex
  have F := fun_mk (st := st) l c kk
  exact ⟨A, _, cl, ⟨a, i, kk⟩, h _ _ F, F.binds hb⟩
theorem Mtk.mc {P : Program} {w : World} {K : PySem.W.Frag} {mg : Str → Option Value} {base : Heap} {CX : CXT} {k : Nat} {C : Addr} {x qual : Str} {st : Stmt} {ps : List Str} {sp : Sp} (d : Mtk K C "__init__" qual st) (gx : mg x = some (.ref C)) (mk : PySem.W.makesIn K C = true) (kc : PySem.W.keepIn K (.ref C) = true)
    (hb : ∀ (kV doc pm : Value) (an : Option Addr) (cdv ct : Value) (us : List Value), us.length = ps.length → bindArgs (PySem.W.fnOf "__init__" qual (defArgs st) (defBody st) (defScope st) .none kV doc pm an cdv ct) ⟨us, []⟩ = pure (ps.zip us))
    (h : ∀ f fd, Fun K "__init__" qual st f fd → FnOk P w K mg base CX k f fd ps sp) : Mc P w K mg base CX k x C ps sp := by
  obtain ⟨A, oc, od, an, kV, doc, pm, cdv, ct, osl, a, i, l, c, kk⟩ := d.ex
  have F := fun_mk (st := st) l c kk
  exact ⟨A, _, ⟨mk, a, i, kc⟩, h _ _ F, gx, F.binds hb⟩
/-- an own error -/
structure Exk (K : PySem.W.Frag) (x : Str) (C : Addr) : Prop where
  g : PySem.W.nsIn K mainGlobals x = some (some (.ref C))
  q : PySem.W.excIn K C [.type "ValueError", .type "Exception", .type "BaseException", .type "object"] "ValueError.__new__" = true
  k : PySem.W.keepIn K (.ref C) = true
  r : PySem.W.subIn K (.ref C) (.type "BaseException") = some true
  ty : PySem.W.typeIn K (.ref C) = some (.type "type")
  hd : PySem.W.hasDictIn K C = true
theorem Exk.ec {K : PySem.W.Frag} {mg : Str → Option Value} {h : Heap} {x : Str} {C : Addr} (e : Exk K x C) (X : K.In h) (G : h.Ns mainGlobals mg) : Ec K mg x C := ⟨PySem.W.mg_of X G e.g, e.q, e.k, e.r, e.ty, e.hd⟩
theorem Exk.exm {K : PySem.W.Frag} {x : Str} {C : Addr} {cls : Value} {b : Bool} (e : Exk K x C) (h : PySem.W.subIn K cls (.ref C) = some b) : PySem.W.exmOne K cls (.ref C) = some b := PySem.W.exm_ref e.r e.hd e.ty h
theorem Exk.kit {K : PySem.W.Frag} {x : Str} {C : Addr} {cls : Value} {b : Bool} (e : Exk K x C) (h : PySem.W.subIn K cls (.ref C) = some b) (ne : (cls == Value.ref C) = false) : PySem.W.kitOne K cls (.ref C) = some b := by
  have q := e.exm h
  unfold PySem.W.exmOne at q
  rw [e.r] at q
  unfold PySem.W.kitOne
  rw [ne]
  simpa using q
theorem kit_type {K : PySem.W.Frag} {D : Addr} {T : String} {b : Bool} (h : PySem.W.subIn K (.ref D) (.type T) = some b) (hm : PySem.W.kitMeta T = true) : PySem.W.kitOne K (.ref D) (.type T) = some b := by
  unfold PySem.W.kitOne PySem.W.kitCls
  rw [if_neg (by intro z; cases (beq_iff_eq.mp z))]
  show (if PySem.W.kitMeta T = true then PySem.W.subIn K (.ref D) (.type T) else none) = _
  rw [if_pos hm]
  exact h
theorem gb_mk {K : PySem.W.Frag} {mg : Str → Option Value} {h : Heap} (X : K.In h) (G : h.Ns mainGlobals mg)
    (z : ∀ x ∈ (["len", "range", "list", "sorted", "set", "isinstance", "max", "min", "str", "int", "bool", "tuple", "ValueError", "reversed", "enumerate", "zip", "sum", "any", "all", "abs", "dict"] : List Str), PySem.W.nsIn K mainGlobals x = some none) : Gb mg := ⟨fun x hx => PySem.W.mg_none_of X G (z x hx)⟩
theorem all_nil {p : Str → Prop} : ∀ x ∈ ([] : List Str), p x := fun x hx => by cases hx
theorem all_cons {p : Str → Prop} {y : Str} {ys : List Str} (h : p y) (t : ∀ x ∈ ys, p x) : ∀ x ∈ (y :: ys), p x := fun x hx => by
  rcases List.mem_cons.mp hx with rfl | hx
  · exact h
  · exact t x hx
end Dn

/-! DnR: a list comprehension whose element may raise. -/
namespace DnR
open PySem PySem.Spec PyProof.Rows L2

section
variable {M : Model} {A : Around} {E : Value → Shared → Prop} {s : Shared} {env : Env}
/-- behind the block: the list, or the error that flies on from this frame -/
def PostR (M : Model) (A : Around) (E : Value → Shared → Prop) (env : Env) (Q : Value → Shared → Prop) (acc : Value) (C : Addr) : Result → Shared → Prop
  | .ok _, z => ∃ m, z.heap.Ns C m ∧ ∀ g, Heap.SameBut C z.heap g → Q acc { z with heap := g }
  | .error x, z => ∃ m, z.heap.Ns C m ∧ ∀ g, Heap.SameBut C z.heap g → ∀ ce : Env, ce.frame = env.frame → wpAny M A (passOn "comprehension.variables-let-go" x ce : Sem Value) (fun _ _ => False) E { z with heap := g }

theorem comp_r {e : Expr} {scope : Scope} {pos : Pos} {newAcc first : Sem Value} {g : Comprehension} {gs : List Comprehension} {cl : List (Str × Addr)} {Q : Value → Shared → Prop}
    (hcl : clausesOf e = g :: gs) (hfold : ∀ x, foldedSetIterable g.iter env x = pure x) (hclo : closureFor scope env = pure cl) (hkd : scope.kind = .function) (hnm : ∀ x ∈ scope.names, x.2 = .local → scope.names.lookup x.1 = some .local)
    (h : wpAny M A first (fun x s1 => wpAny M A (pyIter x) (fun it s2 => wpAny M A newAcc (fun acc s3 =>
      codeAny M A (.compStart e 0 it acc (compEnvC scope (cellsFrom (s3.heap.objs.size + 1) scope.names cl) s3.heap.objs.size env)) (PostR M A E env Q acc s3.heap.objs.size)
        { s3 with heap := pushCells (s3.heap.push { cls := .type "dict", data := .dict #[] }) scope.names }) E s2) E s1) E s) :
    wpAny M A (comprehension e scope env pos newAcc false first none) Q E s := by
  unfold comprehension
  rw [hclo, hcl]
  have id2 : ∀ (u : Value) (z : Shared), E u z → E u z := fun _ _ z => z
  refine wpAny_bind (wpAny_mono h (fun x s1 h1 => ?_) id2)
  refine wpAny_bind (wpAny_standAt (wpAny_bind (wpAny_of_eq (hfold x) ?_)))
  refine wpAny_bind (wpAny_holding (wpAny_mono h1 (fun it s2 h2 => ?_) id2))
  refine wpAny_standIf (wpAny_bind (wpAny_mono h2 (fun acc s3 h3 => ?_) id2))
  refine wpAny_bind (wpAny_pure (wpAny_bind (newEnv_comp ?_)))
  dsimp only
  have loc : ∀ x ∈ (scope.names.filter fun x => (x.2 == .local || x.2 == .cell) && x.1 != (".0" : Str)).reverse, x.2 = .local →
      Env.kindOf (compEnvC scope (cellsFrom (s3.heap.objs.size + 1) scope.names cl) s3.heap.objs.size env) x.1 = some .local := fun x hx hl =>
    lookup_relabel_local (hnm x (List.mem_filter.mp (List.mem_reverse.mp hx)).1 hl)
  refine wpAny_holding (wpAny_bind (wpAny_attempt (wpAny_holding (wpAny_run (codeAny_mono h3 fun r s' hr => ?_)))))
  cases r with
  | ok f =>
    obtain ⟨m, hn, k⟩ := hr
    exact wpAny_bind (wpAny_holding (wpAny_comp_letGo (cenv := compEnvC scope (cellsFrom (s3.heap.objs.size + 1) scope.names cl) s3.heap.objs.size env) hkd _ s' m loc hn fun g _ _ sb => wpAny_pure (k g sb)))
  | error x =>
    obtain ⟨m, hn, k⟩ := hr
    exact wpAny_bind (wpAny_holding (wpAny_comp_letGo (cenv := compEnvC scope (cellsFrom (s3.heap.objs.size + 1) scope.names cl) s3.heap.objs.size env) hkd _ s' m loc hn fun g _ _ sb =>
      wpAny_mono (k g sb (compEnvC scope (cellsFrom (s3.heap.objs.size + 1) scope.names cl) s3.heap.objs.size env) rfl) (fun _ _ z => z.elim) id2))
end

theorem inv_xe {X : Cx} {pins : List (Addr × Obj)} {σ : L2.St} {H : Hp} {s : Shared} (q : Value → Shared → Prop) (I : Inv X pins σ H s) : Inv { X with xe := q } pins σ H s :=
  ⟨⟨I.ok.mod, I.ok.kind, I.ok.glob, I.ok.blt, I.ok.above, I.ok.inj, I.ok.has, I.ok.cab, I.ok.hd, I.ok.frames, I.ok.stk, I.ok.exf, I.ok.bs, I.ok.bsz, I.ok.noex, I.ok.exfs, I.ok.funs, I.ok.frf⟩, I.os, I.bare, I.base, I.loc, I.cell, I.free, I.freeC, I.pin, I.hok, I.len⟩
theorem inv_ex {X : Cx} {pins : List (Addr × Obj)} {σ : L2.St} {H : Hp} {s : Shared} {q : Value → Shared → Prop} (I : Inv { X with xe := q } pins σ H s) : Inv X pins σ H s :=
  ⟨⟨I.ok.mod, I.ok.kind, I.ok.glob, I.ok.blt, I.ok.above, I.ok.inj, I.ok.has, I.ok.cab, I.ok.hd, I.ok.frames, I.ok.stk, I.ok.exf, I.ok.bs, I.ok.bsz, I.ok.noex, I.ok.exfs, I.ok.funs, I.ok.frf⟩, I.os, I.bare, I.base, I.loc, I.cell, I.free, I.freeC, I.pin, I.hok, I.len⟩
theorem frames_on {h g base B : Heap} : ∀ {l : List Env}, h.FunFrames base l → (∀ b ∈ frs l, B.get? b = none) → (∀ b ∈ frs l, g.get? b = h.get? b) → g.FunFrames B l
  | [], _, _, _ => trivial
  | v :: l, ⟨hk, ⟨L, o, hf, _, ho, hd⟩, hr⟩, n, e => by
    have m : L ∈ frs (v :: l) := List.mem_filterMap.mpr ⟨v, List.mem_cons_self, hf⟩
    have up : ∀ b, b ∈ frs l → b ∈ frs (v :: l) := fun b hb => by
      obtain ⟨y, hy, q⟩ := List.mem_filterMap.mp hb
      exact List.mem_filterMap.mpr ⟨y, List.mem_cons_of_mem _ hy, q⟩
    exact ⟨hk, ⟨L, o, hf, n L m, (e L m).trans ho, hd⟩, frames_on hr (fun b hb => n b (up b hb)) fun b hb => e b (up b hb)⟩

section
variable {X : Cx} {pins : List (Addr × Obj)} {σ : L2.St} {H : Hp} {s : Shared}
/-- an error of the block, held by this frame, is in the def's air -/
theorem xe_held {s' : Shared} {W : WX} {fp : List Addr} {a : Addr} {B : Heap} {H' : Hp} {cls : Value} {d : Option Addr} (I : Inv X pins σ H s)
    (hfp : ∀ b ∈ fp, (b ∈ X.ex ∨ X.s_0.heap.objs.size ≤ b) ∧ b ≠ X.env.locals ∧ (∀ x c, X.env.cells.lookup x = some c → c ≠ b) ∧ ∀ p ∈ X.pn ++ pins, p.1 ≠ b)
    (hh : HandSPX.HeldZ B X.stack a (L2N.Zn cls d) X.env.locals s'.heap) (hok : HOk X.prog X.w H' B)
    (keep : ∀ b o, s.heap.get? b = some o → H b = none → b ∉ frs X.stack → b ∉ fp → B.get? b = some o)
    (slot : ∀ b o, s.heap.get? b = some o → b ∈ frs X.stack → ∃ sl, s'.heap.get? b = some { o with slots := sl })
    (free : ∀ b o, s.heap.get? b = some o → H b = none → b ∉ fp → H' b = none)
    (there : ∀ b o, s.heap.get? b = some o → b ∉ frs X.stack → b ∉ fp → ∃ o', B.get? b = some o')
    (tups : ∀ b xs, H b = some (.tup xs) → H' b = some (.tup xs)) (frzs : ∀ b o u, H b = some (.frz o u) → H' b = some (.frz o u)) (tbls : ∀ b ps, H b = some (.tbl ps) → ∃ more, H' b = some (.tbl (ps ++ more)))
    (na : H' a = none) (os : s'.os = s.os) (ag : AllBare s'.gens) (hw : W cls d σ H') : L2N.XE X W (.ref a) s' := by
  have st : B.StaysIn s'.heap := hh.1
  obtain ⟨G, g1, g2⟩ := restrict s'.heap fun b => (B.get? b).isSome || decide (b ∈ frs X.stack)
  have inB : ∀ b o, B.get? b = some o → G.get? b = some o := fun b o e => by
    have z := g1 b (by rw [e]; rfl)
    rw [z]
    exact st b o e
  have inF : ∀ b, b ∈ frs X.stack → G.get? b = s'.heap.get? b := fun b hb => g1 b (by rw [decide_eq_true hb, Bool.or_true])
  have back : ∀ b o, G.get? b = some o → s'.heap.get? b = some o ∧ ((B.get? b).isSome = true ∨ b ∈ frs X.stack) := fun b o e => by
    by_cases q : ((B.get? b).isSome || decide (b ∈ frs X.stack)) = true
    · rw [g1 b q] at e
      rw [Bool.or_eq_true, decide_eq_true_eq] at q
      exact ⟨e, q⟩
    · rw [g2 b (by simpa using q)] at e
      cases e
  refine ⟨a, B, { s with heap := G, gens := s'.gens, drawn := s'.drawn, toks := s'.toks }, pins, σ, H', cls, d, rfl, ?_, fun b o e nb => ?_, Heap.UpToSlots.of_keeps fun b o e => (back b o e).1, .inr (.inr hh), na, os, ag, hw⟩
  · refine I.call (ch := fp) ⟨fun b o e n nb nf => inB b o (keep b o e n nb nf), fun b o e _ hb _ => ?_, fun b o e n nf => free b o e n nf, fun b o e nf => ?_, tups, frzs, tbls⟩ (hok.kept inB) ag hfp
    · obtain ⟨sl, q⟩ := slot b o e hb
      exact ⟨sl, (inF b hb).trans q⟩
    · by_cases hb : b ∈ frs X.stack
      · obtain ⟨sl, q⟩ := slot b o e hb
        exact ⟨_, (inF b hb).trans q⟩
      · obtain ⟨o', q⟩ := there b o e hb nf
        exact ⟨o', inB b o' q⟩
  · obtain ⟨e1, q | q⟩ := back b o e
    · obtain ⟨o', z⟩ := Option.isSome_iff_exists.mp q
      have y := st b o' z
      rw [e1] at y
      cases y
      exact z
    · exact absurd q nb
theorem note_same {e : Value} {v v' : Env} (h : v.frame = v'.frame) : noteFrame e v = noteFrame e v' := by
  unfold noteFrame PySem.frameOf
  rw [h]
/-- what the block wishes of an error: noted, let go, passed on -/
theorem passes_blk {W : WX} {EX : XK} {scope : Scope} {own : List (Str × Nat)} {fp : List Addr} {cl : List (Str × Addr)} {acc : Value} {Qf : Value → Shared → Prop} (tk : L2N.Takes X W) (hst : X.stack = X.env :: X.outer) (hf : X.env.frame = some X.env.locals) (hW : ∀ cls d H, EX cls d H → W cls d σ H)
    (I : Inv X pins σ H s) (f3 : ∀ b ∈ fp, FpOk X pins H b ∧ b < s.heap.objs.size) (q : Value → Shared → Prop)
    (hq : ∀ u z, wpAny (model X.prog X.w) X.A (noteFrame u (compEnvC scope cl s.heap.objs.size X.env)) (fun _ z' => PostR (model X.prog X.w) X.A X.xe X.env Qf acc s.heap.objs.size (.error u) z') (fun e z' => PostR (model X.prog X.w) X.A X.xe X.env Qf acc s.heap.objs.size (.error e) z') z → q u z) :
    Passes (L2N.CX X.prog X.w) { X.blk s H scope (compEnvC scope cl s.heap.objs.size X.env) fp with xe := q } EX := by
  intro pins' σ' H1 s1 u s2 I1 c
  obtain ⟨a, B, H2, cls, d, rfl, fl, hok, ub, na, os, ag, hE⟩ := c
  refine hq _ _ ?_
  rw [note_same (e := .ref a) (v := compEnvC scope cl s.heap.objs.size X.env) (v' := X.env) rfl]
  have hfr : X.A.frames = some (X.env :: X.outer) := by
    rw [I.ok.frames, hst]
  have fl : HandSPX.FlyingZ B X.stack a (L2N.Zn cls d) s2.heap := fl
  have flc : HandSPX.FlyingZ B (X.env :: X.outer) a (L2N.Zn cls d) s2.heap := hst ▸ fl
  have ub : UB (frs X.stack) H1 H2 s1.heap B s2.heap := ub
  have base : Un (frs X.stack) fp H H1 s.heap s1.heap := I1.base
  refine PXN.looks_onZ L2N.Zn.steady hfr hf flc fun h1 hh up => ?_
  have hh : HandSPX.HeldZ B X.stack a (L2N.Zn cls d) X.env.locals h1 := hst ▸ hh
  obtain ⟨m, hns, _⟩ := I1.loc
  have hns : s1.heap.Ns s.heap.objs.size m := hns
  obtain ⟨oC, es, ep, hoC, rC⟩ := hns
  have frlt : ∀ b ∈ frs X.stack, b < s.heap.objs.size := fun b hb => by
    obtain ⟨_, o, ho, _⟩ := I.stack.mem hb
    exact Heap.lt_size ho
  have nC : s.heap.objs.size ∉ frs X.stack := fun hb => Nat.lt_irrefl _ (frlt _ hb)
  have H1C : H1 s.heap.objs.size = none := I1.free
  have BC : B.get? s.heap.objs.size = some oC := ub.keep _ _ hoC H1C nC
  have h1C : h1.get? s.heap.objs.size = some oC := hh.1 _ _ BC
  refine ⟨m, ⟨oC, es, ep, h1C, rC⟩, fun g sb ce hce => ?_⟩
  have sbn : ∀ b, b ≠ s.heap.objs.size → g.get? b = h1.get? b := fun b hb => sb.2 b hb
  generalize hB : PySem.W.hideAll B [s.heap.objs.size] = B1
  have b1 : ∀ b o, b ≠ s.heap.objs.size → B.get? b = some o → B1.get? b = some o := fun b o hb e => by
    rw [← hB]
    exact PySem.W.hideAll_get _ e (by simpa using hb)
  have b2 : ∀ b o, B1.get? b = some o → B.get? b = some o ∧ b ≠ s.heap.objs.size := fun b o e => by
    rw [← hB] at e
    refine ⟨PySem.W.of_hideAll _ e, fun z => ?_⟩
    rw [z, PySem.W.hideAll_none _ (by simp)] at e
    cases e
  have b3 : ∀ b, B.get? b = none → B1.get? b = none := fun b e => by
    cases z : B1.get? b with
    | none => rfl
    | some o =>
      have y := (b2 b o z).1
      rw [e] at y
      cases y
  obtain ⟨hst1, hBa, hff, oe, vs, T, oT, ts, he, hz, hd, hv1, hnT, hTe, hT, hdT, ht3⟩ := hh
  have ne_of : ∀ b, B.get? b = none → b ≠ s.heap.objs.size := fun b e z => by
    rw [z, BC] at e
    cases e
  have stg : B1.StaysIn g := fun b o e => (sbn b (b2 b o e).2).trans (hst1 b o (b2 b o e).1)
  have ffg : g.FunFrames B1 X.stack := frames_on hff (fun b hb => b3 b (hff.mem hb).1) fun b hb => sbn b (fun z => nC (z ▸ hb))
  have trg : HandSPX.TracedZ g B1 a (L2N.Zn cls d) (rawInt X.env.locals) := ⟨oe, vs, T, oT, ts, (sbn a (ne_of a hBa)).trans he, hz, hd, hv1, b3 T hnT, hTe, (sbn T (ne_of T hnT)).trans hT, hdT, ht3⟩
  unfold PySem.passOn
  refine wpAny_bind (wpAny_field ((sbn a (ne_of a hBa)).trans he) hd hv1 ?_)
  rw [if_neg (by simp)]
  refine wpAny_bind ?_
  rw [hce, hf]
  refine HandSPX.setFlight_anyZ stg ffg trg fun h2 k1 k2 k3 k4 => ?_
  refine wpAny_throw (tk _ _ (xe_held (fp := fp) (B := B1) (H' := H2) (cls := cls) (d := d) I (fun b hb => ?_) ⟨k1, b3 a hBa, k2, k3⟩ (fun b o e => ?_) (fun b o e n nb nf => ?_) (fun b o e hb => ?_) (fun b o e n nf => ?_) (fun b o e nb nf => ?_) (fun b xs e => ?_) (fun b o xs e => ?_) (fun b ps e => ?_) na ?_ ag (hW _ _ _ hE)))
  · obtain ⟨⟨_, e1, e2, e3, e4, e5⟩, _⟩ := f3 b hb
    exact ⟨e3, e1, e4, e5⟩
  · have nb : H2 s.heap.objs.size = none := ub.free _ _ hoC H1C
    have ne : b ≠ s.heap.objs.size := fun z => by
      rw [z, nb] at e
      cases e
    refine (hok b o e).stay (fun c w hc y => b1 c w ?_ y) (fun _ y => y) fun _ _ y => y
    rcases hc with z | z
    · rw [z]
      exact ne
    · intro y
      rw [y, nb] at z
      cases z
  · exact b1 b o (Nat.ne_of_lt (Heap.lt_size e)) (ub.keep b o (base.keep b o e n nb nf) (base.free b o e n nf) nb)
  · have hfpn : b ∉ fp := fun z => (List.mem_cons.mp (I.stkSub b hb)).elim (f3 b z).1.2.1 (f3 b z).1.2.2.1
    obtain ⟨_, o9, ho9, hnf⟩ := I.stack.mem hb
    rw [e] at ho9
    cases ho9
    obtain ⟨s4, e4⟩ := base.slot b o e (I.stkFree b hb) hb hfpn
    obtain ⟨s5, e5⟩ := ub.slot b _ e4 hb
    obtain ⟨s6, e6⟩ := up b _ e5 hnf
    obtain ⟨s7, e7⟩ := k4 b _ ((sbn b (fun z => nC (z ▸ hb))).trans e6) hnf
    exact ⟨s7, e7⟩
  · obtain ⟨o', e1⟩ := base.there b o e nf
    exact ub.free b o' e1 (base.free b o e n nf)
  · obtain ⟨o', e1⟩ := base.there b o e nf
    obtain ⟨o2, e2⟩ := ub.there b o' e1 nb
    exact ⟨o2, b1 b o2 (Nat.ne_of_lt (Heap.lt_size e)) e2⟩
  · exact ub.tups b xs (base.tups b xs e)
  · exact ub.frzs b o xs (base.frzs b o xs e)
  · obtain ⟨m1, e1⟩ := base.tbls b ps e
    obtain ⟨m2, e2⟩ := ub.tbls b _ e1
    exact ⟨m1 ++ m2, by rw [e2, Array.append_assoc]⟩
  · have o1 : s1.os = s.os := I1.os
    exact os.trans o1
end
section
variable {X : Cx}
/-- the block with its wish -/
abbrev bq (X : Cx) (s : Shared) (H : Hp) (scope : Scope) (C : Addr) (cl : List (Str × Addr)) (fp : List Addr) (q : Value → Shared → Prop) : Cx := { X.blk s H scope (compEnvC scope cl C X.env) fp with xe := q }
/-- what the block wishes of an error -/
def Wish (X : Cx) (scope : Scope) (cl : List (Str × Addr)) (C : Addr) (Qf : Value → Shared → Prop) (acc : Value) : Value → Shared → Prop :=
  notedBy (model X.prog X.w) X.A (compEnvC scope cl C X.env) fun e z => PostR (model X.prog X.w) X.A X.xe X.env Qf acc C (.error e) z
theorem lc_r {pins : List (Addr × Obj)} {s : Shared} {σ : L2.St} {H : Hp} {Q : VK} {elt tg iter : Expr} {ifs : List Expr} {scope : Scope} {own : List (Str × Nat)} {pos pos' : Pos} {wi : TI} {g : TG} {tt : TT} {te : TE} {Qf : Value → Shared → Prop} {W : WX} {EX : XK}
    (tk : L2N.Takes X W) (hst : X.stack = X.env :: X.outer) (hfr : X.env.frame = some X.env.locals) (hW : ∀ cls d H, EX cls d H → W cls d σ H)
    (hc : X.calm = true) (hN : X.N.Nodup) (I : Inv X pins σ H s) (hi : PI X tg iter wi) (ok : BlkOk X.N X.env.scope scope own)
    (hg : ∀ s H C cl fp q, PG (bq X s H scope C cl fp q) tg g) (ht : ∀ s H C cl fp q, PTs (bq X s H scope C cl fp q) ifs tt)
    (he : ∀ s H C cl fp q, Passes (L2N.CX X.prog X.w) (bq X s H scope C cl fp q) EX → PE (bq X s H scope C cl fp q) elt te) (hs : ∀ x, foldedSetIterable iter X.env x = pure x)
    (h : tLc wi g tt te (own.map (·.2)) σ H Q)
    (hend : ∀ D C s' m H', Inv X pins σ H' s' → Q (.ref D) H' → s'.heap.Ns C m → FpOk X pins H' C → PostR (model X.prog X.w) X.A X.xe X.env Qf (.ref D) C (.ok .next) s') :
    wpAny (model X.prog X.w) X.A (comprehension (.ListComp elt [⟨tg, iter, ifs, 0⟩] scope pos) scope X.env pos' (newList []) false (eval iter X.env) none) Qf X.xe s := by
  have caps : ∀ y ∈ scope.names, y.2 = .free → ∃ c, X.env.cells.lookup y.1 = some c := fun y hy e => I.ok.has _ (ok.free y hy e)
  refine comp_r rfl hs (closure_ok caps) ok.kind (fun y hy e => (ok.uniq y hy).trans (congrArg some e)) (thn (hi.run pins s σ H _ I h) fun xv s1 hx => thn hx fun itv s2 h2 => ?_)
  obtain ⟨it, fp, tn, J, H2, e, I2, T, st2, f2, q⟩ := h2
  subst e
  refine wpAny_newObj_type ?_ (Nat.zero_le sizeLine)
  generalize hD : s2.heap.objs.size = D
  have hDn : H2 D = none := I2.hok.fresh (Nat.le_of_eq hD)
  obtain ⟨Wt, ⟨m0, w0⟩, turn⟩ := q D hDn
  generalize hs3 : ({ s2 with heap := s2.heap.push { cls := .type "list", data := .seq ([] : List Value).toArray } } : Shared) = s3
  have h3 : s3.heap = s2.heap.push { cls := .type "list", data := .seq ([] : List Value).toArray } := by rw [← hs3]
  have kp2 : ∀ b o, s2.heap.get? b = some o → s3.heap.get? b = some o := fun b o e => by
    rw [h3]
    exact Heap.get?_push_of_some _ e
  have I3 : Inv X pins σ (upd H2 D (.lst [])) s3 := by
    subst hs3
    exact I2.laid (t' := s2.toks) kp2 (Nat.le_of_eq hD) ⟨Nat.zero_le _, [], 0, .nil, by rw [← hD]; exact Heap.get?_push_size _ rfl⟩
  have f3 : ∀ b ∈ fp, FpOk X pins (upd H2 D (.lst [])) b ∧ b < s3.heap.objs.size := fun b hb => by
    obtain ⟨o, e, _⟩ := T.obj _ _ st2 b hb
    have lt := Heap.lt_size e
    have nD : b ≠ D := by
      rw [← hD]
      exact Nat.ne_of_lt lt
    exact ⟨⟨by rw [upd_ne nD]; exact (f2 b hb).1, (f2 b hb).2⟩, by rw [h3, Heap.size_push]; exact Nat.lt_succ_of_lt lt⟩
  have st3 : tn 0 s3.heap := T.keep _ _ _ st2 fun b _ o e => kp2 b o e
  have nfp : ∀ b ∈ fp, (upd H2 D (.lst [])) b = none := fun b hb => (f3 b hb).1.1
  generalize hH3 : upd H2 D (.lst []) = H3 at I3 f3 w0 nfp
  have B0 := block_start I3 ok hN f3
  generalize hcl : cellsFrom (s3.heap.objs.size + 1) scope.names (cloFrom X.env.cells scope.names []) = cl at B0 ⊢
  have I4 := inv_xe (Wish X scope cl s3.heap.objs.size Qf (.ref D)) B0
  have pass := passes_blk (own := own) (cl := cl) (scope := scope) (acc := .ref D) (Qf := Qf) tk hst hfr hW I3 f3 (Wish X scope cl s3.heap.objs.size Qf (.ref D)) (fun u z y => y)
  have pg := hg s3 H3 s3.heap.objs.size cl fp (Wish X scope cl s3.heap.objs.size Qf (.ref D))
  have pt := ht s3 H3 s3.heap.objs.size cl fp (Wish X scope cl s3.heap.objs.size Qf (.ref D))
  have pe := he s3 H3 s3.heap.objs.size cl fp (Wish X scope cl s3.heap.objs.size Qf (.ref D)) pass
  have back : ∀ {σ' : L2.St} {H' : Hp} {z : Shared}, Inv (bq X s3 H3 scope s3.heap.objs.size cl fp (Wish X scope cl s3.heap.objs.size Qf (.ref D))) [] σ' H' z → Inv X pins σ H' z ∧ H' s3.heap.objs.size = none ∧ ∃ m, z.heap.Ns s3.heap.objs.size m := fun {σ' H' z} J => by
    have os : z.os = s3.os := J.os
    have un : Un (frs X.stack) fp H3 H' s3.heap z.heap := J.base
    refine ⟨I3.call' (ch := fp) os un J.hok J.bare fun b hb => ?_, J.free, ?_⟩
    · obtain ⟨⟨_, e1, _, e3, e4, e5⟩, _⟩ := f3 b hb
      exact ⟨e3, e1, e4, e5⟩
    · obtain ⟨m, hn, _⟩ := J.loc
      exact ⟨m, hn⟩
  generalize hs4 : ({ s3 with heap := pushCells (s3.heap.push { cls := .type "dict", data := .dict #[] }) scope.names } : Shared) = s4 at I4
  have st4 : tn 0 s4.heap := T.keep _ _ _ st3 fun b _ o e => by
    rw [← hs4]
    exact pushCells_keeps _ _ _ _ (Heap.get?_push_of_some _ e)
  have mayTurn : ∀ {σ' : L2.St} {H' : Hp} {z : Shared}, Inv (bq X s3 H3 scope s3.heap.objs.size cl fp (Wish X scope cl s3.heap.objs.size Qf (.ref D))) [] σ' H' z → (∀ b ∈ fp, H' b = none) → ∀ b ∈ fp, FpOk (bq X s3 H3 scope s3.heap.objs.size cl fp (Wish X scope cl s3.heap.objs.size Qf (.ref D))) [] H' b := fun {σ' H' z} J hn b hb =>
    ⟨hn b hb, (J.ok.exf b hb).1, J.ok.exfs b hb, .inl hb, fun x c e => (J.ok.exf b hb).2 x c e, fun p hp => absurd (show p ∈ ([] : List (Addr × Obj)) ++ [] from hp) (by simp)⟩
  have run : codeAny (model X.prog X.w) X.A (.compLoop (.ListComp elt [⟨tg, iter, ifs, 0⟩] scope pos) 0 (.ref it) (.ref D) (compEnvC scope cl s3.heap.objs.size X.env)) (PostR (model X.prog X.w) X.A X.xe X.env Qf (.ref D) s3.heap.objs.size) s4 := by
    refine compLoop_any (fun n z => ∃ i H', Inv (bq X s3 H3 scope s3.heap.objs.size cl fp (Wish X scope cl s3.heap.objs.size Qf (.ref D))) [] (wipe σ (own.map (·.2))) H' z ∧ tn i z.heap ∧ (∀ b ∈ fp, H' b = none) ∧ Wt i n H') (fun n s5 hI => ?_) m0 ⟨0, H3, I4, st4, nfp, w0⟩
    obtain ⟨i, H5, I5, st5, n5, w5⟩ := hI
    rcases turn i n H5 w5 with ⟨stop, done⟩ | ⟨go, Nx, next, step⟩
    · have td := T.done (bq X s3 H3 scope s3.heap.objs.size cl fp (Wish X scope cl s3.heap.objs.size Qf (.ref D))) rfl rfl rfl hc i [] s5 _ H5 (fun _ _ => False) I5 (mayTurn I5 n5) st5 stop
      refine thnF td fun r s6 ⟨hr, I6⟩ => ?_
      subst hr
      obtain ⟨I7, nC, m, hn⟩ := back I6
      exact hend D s3.heap.objs.size s6 m H5 I7 done hn (I3.fpOk (Nat.le_refl _) nC)
    · have ti := T.item (bq X s3 H3 scope s3.heap.objs.size cl fp (Wish X scope cl s3.heap.objs.size Qf (.ref D))) rfl rfl rfl hc i [] s5 _ H5 (fun _ _ => False) I5 (mayTurn I5 n5) st5 go
      refine thnF ti fun r s6 ⟨u, hr, h6⟩ => ?_
      subst hr
      refine thnF h6 fun _ s7 ⟨x, H7, I7, r7, y7, st7, n7⟩ => ?_
      have J7 := I7.pinned (mayTurn I7 n7) (T.obj _ _ st7)
      refine thn (pg.run _ s7 _ H7 x u _ J7 r7 (step x H7 y7)) fun _ s8 ⟨σ8, H8, I8, hw8, q8⟩ => ?_
      refine thn (pt.run _ s8 σ8 H8 _ I8 q8) fun b s9 ⟨H9, I9, q9⟩ => ?_
      have turned : ∀ {z : Shared} {H' : Hp}, Inv (bq X s3 H3 scope s3.heap.objs.size cl fp (Wish X scope cl s3.heap.objs.size Qf (.ref D))) ([] ++ pinsAt fp s7.heap) σ8 H' z → Nx H' →
          ∃ m, m < n ∧ ∃ i H', Inv (bq X s3 H3 scope s3.heap.objs.size cl fp (Wish X scope cl s3.heap.objs.size Qf (.ref D))) [] (wipe σ (own.map (·.2))) H' z ∧ tn i z.heap ∧ (∀ b ∈ fp, H' b = none) ∧ Wt i m H' := fun {z H'} J nx => by
        obtain ⟨m', hm, w'⟩ := next H' nx
        have kept : ∀ b ∈ fp, ∀ o, s7.heap.get? b = some o → z.heap.get? b = some o ∧ H' b = none := fun b hb o e =>
          have y := J.pin (b, o) (List.mem_append_right _ (List.mem_append_right _ (mem_pinsAt hb e)))
          ⟨y.1, y.2.1⟩
        refine ⟨m', hm, i + 1, H', (J.unpinned (pins := [])).weak (by rw [← hw8, wipe_length]) (fun j v e => (wipe_some (hw8 ▸ e)).1), T.keep _ _ _ st7 fun b hb o e => (kept b hb o e).1, fun b hb => ?_, w'⟩
        obtain ⟨o, e, _⟩ := T.obj _ _ st7 b hb
        exact (kept b hb o e).2
      cases b with
      | false =>
        rw [if_neg Bool.false_ne_true] at q9 ⊢
        exact turned I9 q9
      | true =>
        rw [if_pos rfl] at q9 ⊢
        refine thn (pe.run _ s9 σ8 H9 _ I9 q9) fun z s10 ⟨yv, H10, I10, r10, acc, hD10, hz10, nx⟩ => ?_
        exact app_ok (X := bq X s3 H3 scope s3.heap.objs.size cl fp (Wish X scope cl s3.heap.objs.size Qf (.ref D))) I10 hD10 hz10 r10 fun s11 I11 => turned I11 nx
  exact codeAny_compStart_list run (T.self X.A 0 _ _ _ st4 run)
/-- as a value -/
theorem pe_lcR {elt tg iter : Expr} {ifs : List Expr} {scope : Scope} {own : List (Str × Nat)} {pos : Pos} {wi : TI} {g : TG} {tt : TT} {te : TE} {W : WX} {EX : XK}
    (tk : L2N.Takes X W) (hst : X.stack = X.env :: X.outer) (hfr : X.env.frame = some X.env.locals) (hW : ∀ cls d σ H, EX cls d H → W cls d σ H)
    (hc : X.calm = true) (hN : X.N.Nodup) (hi : PI X tg iter wi) (ok : BlkOk X.N X.env.scope scope own)
    (hg : ∀ s H C cl fp q, PG (bq X s H scope C cl fp q) tg g) (ht : ∀ s H C cl fp q, PTs (bq X s H scope C cl fp q) ifs tt)
    (he : ∀ s H C cl fp q, Passes (L2N.CX X.prog X.w) (bq X s H scope C cl fp q) EX → PE (bq X s H scope C cl fp q) elt te) (hs : ∀ x, foldedSetIterable iter X.env x = pure x := by intro _; rfl) :
    PE X (.ListComp elt [⟨tg, iter, ifs, 0⟩] scope pos) (tLc wi g tt te (own.map (·.2))) := by
  refine ⟨fun pins s σ H Q I h => ?_⟩
  rw [eval_ListComp]
  refine lc_r tk hst hfr (fun cls d H => hW cls d σ H) hc hN I hi ok hg ht he hs h fun D C s' m H' I' q hn f => ⟨m, hn, fun g sb => ?_⟩
  obtain ⟨f0, f1, _, f3, f4, f5⟩ := f
  exact ⟨.ref D, H', I'.turned (t' := s'.toks) (fun b o hb e => (sb.2 b hb).trans e) f0 f1 f3 f4 f5, rfl, q⟩
end
end DnR

/-! Gn: what the law's own defs make of the script: mirrors, and what is known of them. -/
namespace Gn
open PySem L2 Dn
theorem foldl_take {α β : Type} {xs : List α} {f : β → α → β} {a : β} {i : Nat} {x : α} (h : xs[i]? = some x) : (xs.take (i + 1)).foldl f a = f ((xs.take i).foldl f a) x := by
  obtain ⟨hi, e⟩ := List.getElem?_eq_some_iff.mp h
  rw [List.take_succ_eq_append_getElem hi, List.foldl_append, e]
  rfl
theorem foldl_range {β : Type} {f : β → Nat → β} {a : β} (i : Nat) : (List.range (i + 1)).foldl f a = f ((List.range i).foldl f a) i := by
  rw [List.range_succ, List.foldl_append]
  rfl
def cellAt (s : Scr) (k : Int) : Int := if k < (s.ns.length : Int) then gt s.ns k else 0
def mixed (c k : Int) : Int := (c + 101 * k) * 48271 % 1000003
theorem mixed_range (c k : Int) : 0 ≤ mixed c k ∧ mixed c k < 1000003 := by
  unfold mixed
  omega
/-- the rows of a web in the making: row k names points ahead of k, few enough -/
def RowsOk (n : Nat) (rows : List (List Int)) : Prop := rows.length = n ∧ ∀ (k : Nat) (r : List Int), rows[k]? = some r → r.length ≤ k ∧ ∀ x ∈ r, 0 ≤ x ∧ x < (k : Int)
theorem rowsOk_nil : RowsOk 0 [] := ⟨rfl, fun k r h => by simp at h⟩
theorem RowsOk.snoc {n : Nat} {rows : List (List Int)} (h : RowsOk n rows) {r : List Int} (hl : r.length ≤ n) (hr : ∀ x ∈ r, 0 ≤ x ∧ x < (n : Int)) : RowsOk (n + 1) (rows ++ [r]) := by
  refine ⟨by simp [h.1], fun k q e => ?_⟩
  by_cases c : k < rows.length
  · rw [List.getElem?_append_left c] at e
    exact h.2 k q e
  · rw [List.getElem?_append_right (by omega)] at e
    have hk : k = n := by
      have := (List.getElem?_eq_some_iff.mp e).1
      simp at this
      have := h.1
      omega
    subst hk
    rw [h.1, Nat.sub_self] at e
    cases e
    exact ⟨hl, hr⟩
theorem RowsOk.map {n : Nat} {f : Nat → List Int} (h : ∀ k, k < n → (f k).length ≤ k ∧ ∀ x ∈ f k, 0 ≤ x ∧ x < (k : Int)) : RowsOk n ((List.range n).map f) := by
  refine ⟨by simp, fun k r e => ?_⟩
  rw [List.getElem?_map] at e
  have hk : k < n := by
    by_cases c : k < n
    · exact c
    · rw [List.getElem?_eq_none (by simpa using c)] at e
      cases e
  rw [List.getElem?_range hk] at e
  cases e
  exact h k hk

/-! ### _law_earlier -/
/-- the points that a mate was tied to, some of them -/
def mateStep (mate ring : Int) (st : List Int × Int) (one : Int) : List Int × Int := (if st.2 % 3 > 0 ∧ (mate ≥ ring ∨ (st.1.length : Int) < 2) then st.1 ++ [one] else st.1, st.2 / 3)
def mateFold (mate ring : Int) (left : Int) (row : List Int) : List Int × Int := row.foldl (mateStep mate ring) ([mate], left)
theorem mate_fold (mate ring : Int) : ∀ (row : List Int) (st : List Int × Int) (lim : Nat) (top : Int), st.1.length ≤ lim → (∀ x ∈ st.1, 0 ≤ x ∧ x < top) → (∀ x ∈ row, 0 ≤ x ∧ x < top) →
    (row.foldl (mateStep mate ring) st).1.length ≤ lim + row.length ∧ ∀ x ∈ (row.foldl (mateStep mate ring) st).1, 0 ≤ x ∧ x < top
  | [], st, lim, top, h1, h2, _ => ⟨by simpa using h1, h2⟩
  | a :: r, st, lim, top, h1, h2, h3 => by
    have ha := h3 a List.mem_cons_self
    have s1 : (mateStep mate ring st a).1.length ≤ lim + 1 ∧ ∀ x ∈ (mateStep mate ring st a).1, 0 ≤ x ∧ x < top := by
      unfold mateStep
      dsimp only
      split
      · refine ⟨by rw [List.length_append]; simp; omega, fun x hx => ?_⟩
        rcases List.mem_append.mp hx with q | q
        · exact h2 x q
        · rw [List.mem_singleton.mp q]
          exact ha
      · exact ⟨by omega, h2⟩
    have t := mate_fold mate ring r (mateStep mate ring st a) (lim + 1) top s1.1 s1.2 fun x hx => h3 x (List.mem_cons_of_mem _ hx)
    refine ⟨?_, t.2⟩
    have := t.1
    simp only [List.foldl_cons, List.length_cons]
    omega
def earlierRow (s : Scr) (ring : Int) (rows : List (List Int)) (k : Int) : List Int :=
  if 0 < k ∧ k < ring then (if k = ring - 1 then [0, k - 1] else [k - 1])
  else if k > 0 ∧ mixed (cellAt s (3 + k)) k % 9 ≠ 8 then
    (mateFold (mixed (cellAt s (3 + k)) k / 9 % k) ring (mixed (cellAt s (3 + k)) k / 9 / k) (gt rows (mixed (cellAt s (3 + k)) k / 9 % k))).1
  else []
def earlier (s : Scr) (n : Nat) (ring : Int) : List (List Int) := (List.range n).foldl (fun rows (k : Nat) => rows ++ [earlierRow s ring rows (k : Int)]) []
theorem earlier_succ (s : Scr) (n : Nat) (ring : Int) : earlier s (n + 1) ring = earlier s n ring ++ [earlierRow s ring (earlier s n ring) (n : Int)] := foldl_range n
/-- ring is 0 or at least 4 -/
theorem earlier_ok (s : Scr) (ring : Int) (hring : ring ≤ 0 ∨ 4 ≤ ring) : ∀ n, RowsOk n (earlier s n ring)
  | 0 => rowsOk_nil
  | n + 1 => by
    rw [earlier_succ]
    have ih := earlier_ok s ring hring n
    have key : (earlierRow s ring (earlier s n ring) (n : Int)).length ≤ n ∧ ∀ x ∈ earlierRow s ring (earlier s n ring) (n : Int), 0 ≤ x ∧ x < (n : Int) := by
      unfold earlierRow
      split
      · rename_i c
        split
        · rename_i c2
          refine ⟨by simp; omega, fun x hx => ?_⟩
          simp at hx
          omega
        · refine ⟨by simp; omega, fun x hx => ?_⟩
          simp at hx
          omega
      · split
        · rename_i c1 c2
          generalize hm : mixed (cellAt s (3 + (n : Int))) (n : Int) / 9 % (n : Int) = mate
          have hm1 : 0 ≤ mate ∧ mate < (n : Int) := by
            subst hm
            exact ⟨Int.emod_nonneg _ (by omega), Int.emod_lt_of_pos _ (by omega)⟩
          have hg := gt_get (ip := pyList (α := Int)) (xs := earlier s n ring) (i := mate) (by rw [ih.1]; exact hm1)
          have hr := ih.2 _ _ hg
          unfold mateFold
          have t := mate_fold mate ring (gt (earlier s n ring) mate) ([mate], mixed (cellAt s (3 + (n : Int))) (n : Int) / 9 / (n : Int)) 1 (n : Int) (by simp) (fun x hx => by
            simp at hx
            omega) fun x hx => by
              have := hr.2 x hx
              omega
          refine ⟨?_, t.2⟩
          have := t.1
          have := hr.1
          omega
        · exact ⟨by simp, fun x hx => by simp at hx⟩
    exact ih.snoc key.1 key.2

/-! ### the other kinds -/
def anyCells (s : Scr) (k : Int) (j : Int) : Int := mixed (cellAt s (3 + (7 * k + 13 * j) % 60)) (60 * k + j)
def anyRow (s : Scr) (share parts : Int) (k : Nat) : List Int := mk k (fun j => decide (anyCells s (k : Int) ((j : Nat) : Int) % parts < share)) fun j => ((j : Nat) : Int)
def anyRows (s : Scr) (n : Nat) : List (List Int) := (List.range n).map (anyRow s (1 + cellAt s 2 / 8 % 4) (if (n : Int) > 20 then 40 else 5))
theorem mk_mem {β : Type} {n : Nat} {f : Nat → Bool} {v : Nat → β} {x : β} (h : x ∈ mk n f v) : ∃ i, i < n ∧ f i = true ∧ v i = x := by
  unfold mk at h
  obtain ⟨i, h1, h2⟩ := List.mem_map.mp h
  obtain ⟨h3, h4⟩ := List.mem_filter.mp h1
  exact ⟨i, List.mem_range.mp h3, h4, h2⟩
theorem anyRows_ok (s : Scr) (n : Nat) : RowsOk n (anyRows s n) := RowsOk.map fun k _ => ⟨mk_len _ _ _, fun x hx => by
  obtain ⟨i, h1, _, h3⟩ := mk_mem hx
  omega⟩
theorem rng_len (a b : Int) : (rng a b).length = (b - a).toNat := by simp [rng]
theorem rng_mem {a b x : Int} : x ∈ rng a b ↔ a ≤ x ∧ x < b := by
  unfold rng
  rw [List.mem_map]
  constructor
  · rintro ⟨i, hi, rfl⟩
    have := List.mem_range.mp hi
    omega
  · intro h
    exact ⟨(x - a).toNat, List.mem_range.mpr (by omega), by omega⟩
theorem rng_ok {a : Int} {k : Nat} (h : 0 ≤ a) : (rng a (k : Int)).length ≤ k ∧ ∀ x ∈ rng a (k : Int), 0 ≤ x ∧ x < (k : Int) := by
  refine ⟨by rw [rng_len]; omega, fun x hx => ?_⟩
  have := rng_mem.mp hx
  omega
def mx (i j : Int) : Int := if j > i then j else i
theorem mx_nn (j : Int) : 0 ≤ mx 0 j := by
  unfold mx
  split <;> omega
def banded (n : Nat) (c : Int) : List (List Int) := (List.range n).map fun (k : Nat) => rng (mx 0 ((k : Int) - (if (n : Int) > 20 then c % 6 else c % 20))) (k : Int)
theorem banded_ok (n : Nat) (c : Int) : RowsOk n (banded n c) := RowsOk.map fun k _ => rng_ok (mx_nn _)
def chainRow (k : Nat) : List Int := rng (mx 0 ((k : Int) - 1)) (k : Int)
def ringSize (c : Int) : Int := 4 + c % 5
def ringStep (c : Int) : Int := ringSize c + c / 5 % 4
def ringedTo (n : Nat) (c : Int) (i : Nat) : List (List Int) := (List.range i).foldl (fun rows (k : Nat) => if (k : Int) % ringStep c = ringSize c - 1 then rows.set k [(k : Int) + 1 - ringSize c, (k : Int) - 1] else rows) ((List.range n).map chainRow)
def ringed (n : Nat) (c : Int) : List (List Int) := ringedTo n c n
theorem ringed_succ (n : Nat) (c : Int) (i : Nat) : ringedTo n c (i + 1) = if (i : Int) % ringStep c = ringSize c - 1 then (ringedTo n c i).set i [(i : Int) + 1 - ringSize c, (i : Int) - 1] else ringedTo n c i := foldl_range i
theorem ringedTo_ok (n : Nat) (c : Int) : ∀ i, i ≤ n → RowsOk n (ringedTo n c i)
  | 0, _ => RowsOk.map fun k _ => rng_ok (mx_nn _)
  | i + 1, h => by
    have ih := ringedTo_ok n c i (by omega)
    rw [ringed_succ]
    split
    · rename_i q
      refine ⟨by rw [List.length_set]; exact ih.1, fun k r e => ?_⟩
      by_cases z : i = k
      · subst z
        rw [List.getElem?_set_self (by rw [ih.1]; omega)] at e
        cases e
        have h5 : 4 ≤ ringSize c := by unfold ringSize; omega
        have hs : 0 < ringStep c := by unfold ringStep; omega
        have hle : (i : Int) % ringStep c ≤ (i : Int) := by
          by_cases z : (i : Int) < ringStep c
          · rw [Int.emod_eq_of_lt (by omega) z]
            omega
          · have := Int.emod_lt_of_pos (i : Int) hs
            omega
        refine ⟨by simp; omega, fun x hx => ?_⟩
        simp at hx
        omega
      · rw [List.getElem?_set_ne z] at e
        exact ih.2 k r e
    · exact ih
def hubSize (n : Nat) (c : Int) : Int := if (n : Int) > 30 then gt [1, 2, 3, c / 4 % 30] (c % 4) % 8 else gt [1, 2, 3, c / 4 % 30] (c % 4)
theorem hub_pos (c : Int) : 0 ≤ gt [1, 2, 3, c / 4 % 30] (c % 4) := by
  have h : c % 4 = 0 ∨ c % 4 = 1 ∨ c % 4 = 2 ∨ c % 4 = 3 := by omega
  rcases h with q | q | q | q <;> rw [q]
  · show (0 : Int) ≤ 1; omega
  · show (0 : Int) ≤ 2; omega
  · show (0 : Int) ≤ 3; omega
  · show (0 : Int) ≤ c / 4 % 30; omega
theorem hubSize_pos (n : Nat) (c : Int) : 0 ≤ hubSize n c := by
  unfold hubSize
  have := hub_pos c
  split <;> omega
def hubbed (n : Nat) (c : Int) : List (List Int) := (List.range n).map fun (k : Nat) => rng 0 (if hubSize n c < (k : Int) then hubSize n c else (k : Int))
theorem hubbed_ok (n : Nat) (c : Int) : RowsOk n (hubbed n c) := RowsOk.map fun k _ => by
  have h := hubSize_pos n c
  refine ⟨by rw [rng_len]; split <;> omega, fun x hx => ?_⟩
  have := rng_mem.mp hx
  split at this <;> omega
def rowsOf (s : Scr) (n : Nat) : List (List Int) :=
  if cellAt s 2 % 8 = 1 ∧ (n : Int) > 3 then earlier s n (4 + cellAt s 2 / 8 % ((n : Int) - 3))
  else if (1 < cellAt s 2 % 8 ∧ cellAt s 2 % 8 < 5) ∧ (n : Int) < 41 then anyRows s n
  else if cellAt s 2 % 8 = 5 then banded n (cellAt s 2 / 8)
  else if cellAt s 2 % 8 = 6 then ringed n (cellAt s 2 / 8)
  else if cellAt s 2 % 8 = 7 then hubbed n (cellAt s 2 / 8)
  else earlier s n 0
theorem rowsOf_ok (s : Scr) (n : Nat) : RowsOk n (rowsOf s n) := by
  unfold rowsOf
  split
  · rename_i h
    refine earlier_ok s _ (.inr ?_) n
    have := Int.emod_nonneg (cellAt s 2 / 8) (show (n : Int) - 3 ≠ 0 by omega)
    omega
  · split
    · exact anyRows_ok s n
    · split
      · exact banded_ok n _
      · split
        · exact ringedTo_ok n _ n (Nat.le_refl _)
        · split
          · exact hubbed_ok n _
          · exact earlier_ok s 0 (.inl (Int.le_refl _)) n

/-! ### names and ties -/
def nameOf (s : Scr) (n : Int) (k : Int) : Int := if cellAt s 1 % 2 = 1 then (cellAt s 1 / 2 - k) % n else (cellAt s 1 / 2 + k) % n
theorem nameOf_range (s : Scr) {n : Int} (hn : 0 < n) (k : Int) : 0 ≤ nameOf s n k ∧ nameOf s n k < n := by
  unfold nameOf
  split
  · exact ⟨Int.emod_nonneg _ (by omega), Int.emod_lt_of_pos _ hn⟩
  · exact ⟨Int.emod_nonneg _ (by omega), Int.emod_lt_of_pos _ hn⟩
theorem emod_inj {a b n : Int} (h : a % n = b % n) : ∃ q, a - b = n * q := ⟨a / n - b / n, by
  have h1 := Int.emod_add_mul_ediv a n
  have h2 := Int.emod_add_mul_ediv b n
  rw [Int.mul_sub]
  omega⟩
theorem small_mul {n q d : Int} (h : d = n * q) (h1 : -n < d) (h2 : d < n) : d = 0 := by
  by_cases h0 : q = 0
  · rw [h, h0, Int.mul_zero]
  · exfalso
    by_cases hp : 0 < q
    · have : n * 1 ≤ n * q := Int.mul_le_mul_of_nonneg_left (by omega) (by omega)
      omega
    · have : n * q ≤ n * (-1) := Int.mul_le_mul_of_nonneg_left (by omega) (by omega)
      omega
theorem nameOf_inj (s : Scr) {n a b : Int} (ha : 0 ≤ a ∧ a < n) (hb : 0 ≤ b ∧ b < n) (h : nameOf s n a = nameOf s n b) : a = b := by
  unfold nameOf at h
  split at h
  · obtain ⟨q, e⟩ := emod_inj h
    have := small_mul (n := n) (q := q) (d := b - a) (by omega) (by omega) (by omega)
    omega
  · obtain ⟨q, e⟩ := emod_inj h
    have := small_mul (n := n) (q := q) (d := a - b) (by omega) (by omega) (by omega)
    omega
def tieOf (s : Scr) (n : Int) (k one : Int) : Int × Int := if (k + one) % 2 = 1 then (nameOf s n one, nameOf s n k) else (nameOf s n k, nameOf s n one)
def tiesTo (s : Scr) (n : Int) (rows : List (List Int)) (i : Nat) : List (Int × Int) := (List.range i).foldl (fun ts (k : Nat) => ts ++ (gt rows (k : Int)).map (tieOf s n (k : Int))) []
theorem tiesTo_succ (s : Scr) (n : Int) (rows : List (List Int)) (i : Nat) : tiesTo s n rows (i + 1) = tiesTo s n rows i ++ (gt rows (i : Int)).map (tieOf s n (i : Int)) := foldl_range i
def tiesOf (s : Scr) (n : Nat) (rows : List (List Int)) : List (Int × Int) :=
  tiesTo s (n : Int) rows n ++ (cut (tiesTo s (n : Int) rows n) none (some 3)).map (fun t => (t.2, t.1)) ++ cut (tiesTo s (n : Int) rows n) (some 1) (some 4) ++ (List.replicate 2 (cut (tiesTo s (n : Int) rows n) none (some 1))).flatten
/-- ties of a web of n points -/
def TiesOk (n : Int) (ts : List (Int × Int)) : Prop := ∀ t ∈ ts, 0 ≤ t.1 ∧ t.1 < n ∧ 0 ≤ t.2 ∧ t.2 < n ∧ t.1 ≠ t.2
theorem TiesOk.app {n : Int} {ts us : List (Int × Int)} (h : TiesOk n ts) (g : TiesOk n us) : TiesOk n (ts ++ us) := fun t ht => (List.mem_append.mp ht).elim (h t) (g t)
theorem cut_mem {α : Type} {xs : List α} {lo hi : Option Int} {x : α} (h : x ∈ cut xs lo hi) : x ∈ xs := List.mem_of_mem_drop (List.mem_of_mem_take h)
theorem cut_len {α : Type} (xs : List α) (lo hi : Option Int) : (cut xs lo hi).length ≤ xs.length := by
  unfold cut
  rw [List.length_take, List.length_drop]
  omega
theorem cut_top {α : Type} (xs : List α) (lo : Option Int) (k : Nat) : (cut xs lo (some (k : Int))).length ≤ k := by
  unfold cut
  rw [List.length_take, HT.sIx_nat]
  omega
theorem tieOf_ok (s : Scr) {n k one : Int} (hk : 0 ≤ k ∧ k < n) (ho : 0 ≤ one ∧ one < k) : 0 ≤ (tieOf s n k one).1 ∧ (tieOf s n k one).1 < n ∧ 0 ≤ (tieOf s n k one).2 ∧ (tieOf s n k one).2 < n ∧ (tieOf s n k one).1 ≠ (tieOf s n k one).2 := by
  have h1 := nameOf_range s (n := n) (by omega) k
  have h2 := nameOf_range s (n := n) (by omega) one
  have h3 : nameOf s n k ≠ nameOf s n one := fun z => by
    have := nameOf_inj s hk ⟨ho.1, by omega⟩ z
    omega
  unfold tieOf
  split
  · exact ⟨h2.1, h2.2, h1.1, h1.2, h3.symm⟩
  · exact ⟨h1.1, h1.2, h2.1, h2.2, h3⟩
theorem tiesTo_ok (s : Scr) {n : Nat} {rows : List (List Int)} (h : RowsOk n rows) : ∀ i, i ≤ n → TiesOk (n : Int) (tiesTo s (n : Int) rows i) ∧ (tiesTo s (n : Int) rows i).length * 2 ≤ i * i
  | 0, _ => ⟨fun t ht => by simp [tiesTo] at ht, by simp [tiesTo]⟩
  | i + 1, hi => by
    have ih := tiesTo_ok s h i (by omega)
    have hg := gt_get (ip := pyList (α := Int)) (xs := rows) (i := (i : Int)) (by rw [h.1]; omega)
    have e : ((i : Int)).toNat = i := by omega
    rw [e] at hg
    have hr := h.2 i _ hg
    rw [tiesTo_succ]
    refine ⟨ih.1.app fun t ht => ?_, ?_⟩
    · obtain ⟨x, hx, rfl⟩ := List.mem_map.mp ht
      exact tieOf_ok s ⟨by omega, by omega⟩ (hr.2 x hx)
    · rw [List.length_append, List.length_map]
      have := ih.2
      have := hr.1
      have e2 : (i + 1) * (i + 1) = i * i + 2 * i + 1 := by
        rw [Nat.add_mul, Nat.mul_add]
        omega
      omega
theorem tiesOf_ok (s : Scr) {n : Nat} {rows : List (List Int)} (h : RowsOk n rows) (hn : n ≤ 60) : TiesOk (n : Int) (tiesOf s n rows) ∧ (tiesOf s n rows).length ≤ 1900 := by
  have t := tiesTo_ok s h n (Nat.le_refl _)
  have sw : TiesOk (n : Int) ((cut (tiesTo s (n : Int) rows n) none (some 3)).map (fun t => (t.2, t.1))) := fun t ht => by
    obtain ⟨u, hu, rfl⟩ := List.mem_map.mp ht
    have := t.1 u (cut_mem hu)
    exact ⟨this.2.2.1, this.2.2.2.1, this.1, this.2.1, this.2.2.2.2.symm⟩
  refine ⟨((t.1.app sw).app fun u hu => t.1 u (cut_mem hu)).app fun u hu => ?_, ?_⟩
  · obtain ⟨l, hl, hu⟩ := List.mem_flatten.mp hu
    rw [(List.mem_replicate.mp hl).2] at hu
    exact t.1 u (cut_mem hu)
  · unfold tiesOf
    have c1 := cut_top (tiesTo s (n : Int) rows n) none 3
    have c2 := cut_top (tiesTo s (n : Int) rows n) (some 1) 4
    have c3 := cut_top (tiesTo s (n : Int) rows n) none 1
    have e3 : (List.replicate 2 (cut (tiesTo s (n : Int) rows n) none (some 1))).flatten.length ≤ 2 := by
      simp only [List.replicate, List.flatten_cons, List.flatten_nil, List.append_nil, List.length_append]
      have : ((1 : Nat) : Int) = 1 := rfl
      rw [← this]
      omega
    simp only [List.length_append, List.length_map]
    have q1 : (((3 : Nat) : Int)) = 3 := rfl
    have q2 : (((4 : Nat) : Int)) = 4 := rfl
    rw [q1] at c1
    rw [q2] at c2
    have : n * n ≤ 60 * 60 := Nat.mul_le_mul hn hn
    have := t.2
    omega
end Gn

/-! Gn: who is tied to whom, from a list of ties; the two ways in which the text finds it out. -/
namespace Gn
open PySem PySem.Spec PyProof.Rows L2 Dn
def adj (ts : List (Int × Int)) (a b : Int) : Bool := ts.any fun t => (decide (t.1 = a) && decide (t.2 = b)) || (decide (t.1 = b) && decide (t.2 = a))
theorem adj_iff {ts : List (Int × Int)} {a b : Int} : adj ts a b = true ↔ (a, b) ∈ ts ∨ (b, a) ∈ ts := by
  unfold adj
  rw [List.any_eq_true]
  constructor
  · rintro ⟨⟨x, y⟩, h, e⟩
    simp at e
    rcases e with ⟨rfl, rfl⟩ | ⟨rfl, rfl⟩
    · exact .inl h
    · exact .inr h
  · rintro (h | h)
    · exact ⟨_, h, by simp⟩
    · exact ⟨_, h, by simp⟩
theorem adj_comm (ts : List (Int × Int)) (a b : Int) : adj ts a b = adj ts b a := by
  rw [Bool.eq_iff_iff, adj_iff, adj_iff]
  exact Or.comm
theorem adj_snoc (ts : List (Int × Int)) (x y a b : Int) : adj (ts ++ [(x, y)]) a b = true ↔ adj ts a b = true ∨ (x = a ∧ y = b) ∨ (x = b ∧ y = a) := by
  simp only [adj_iff, List.mem_append, List.mem_singleton, Prod.mk.injEq]
  constructor
  · rintro ((h | ⟨rfl, rfl⟩) | (h | ⟨rfl, rfl⟩))
    · exact .inl (.inl h)
    · exact .inr (.inl ⟨rfl, rfl⟩)
    · exact .inl (.inr h)
    · exact .inr (.inr ⟨rfl, rfl⟩)
  · rintro ((h | h) | (⟨rfl, rfl⟩ | ⟨rfl, rfl⟩))
    · exact .inl (.inl h)
    · exact .inr (.inl h)
    · exact .inl (.inr ⟨rfl, rfl⟩)
    · exact .inr (.inr ⟨rfl, rfl⟩)
theorem adj_in {n : Int} {ts : List (Int × Int)} (h : TiesOk n ts) {a b : Int} (e : adj ts a b = true) : (0 ≤ a ∧ a < n) ∧ (0 ≤ b ∧ b < n) ∧ a ≠ b := by
  rcases adj_iff.mp e with q | q
  · have := h _ q
    exact ⟨⟨this.1, this.2.1⟩, ⟨this.2.2.1, this.2.2.2.1⟩, this.2.2.2.2⟩
  · have := h _ q
    exact ⟨⟨this.2.2.1, this.2.2.2.1⟩, ⟨this.1, this.2.1⟩, this.2.2.2.2.symm⟩
/-- the points beside a, rising -/
def nbr (n : Nat) (ts : List (Int × Int)) (a : Int) : List Int := ((List.range n).filter fun (k : Nat) => adj ts a (k : Int)).map fun (k : Nat) => (k : Int)
theorem nbr_up (n : Nat) (ts : List (Int × Int)) (a : Int) : (nbr n ts a).Pairwise (· < ·) := by
  unfold nbr
  rw [List.pairwise_map]
  refine (List.Pairwise.sublist List.filter_sublist List.pairwise_lt_range).imp ?_
  intro a b h
  omega
theorem nbr_mem {n : Nat} {ts : List (Int × Int)} {a x : Int} : x ∈ nbr n ts a ↔ (0 ≤ x ∧ x < (n : Int)) ∧ adj ts a x = true := by
  unfold nbr
  rw [List.mem_map]
  constructor
  · rintro ⟨k, hk, rfl⟩
    obtain ⟨h1, h2⟩ := List.mem_filter.mp hk
    have := List.mem_range.mp h1
    exact ⟨by omega, h2⟩
  · rintro ⟨h1, h2⟩
    have e : ((x.toNat : Nat) : Int) = x := by omega
    exact ⟨x.toNat, List.mem_filter.mpr ⟨List.mem_range.mpr (by omega), by rw [e]; exact h2⟩, e⟩
theorem nbr_mem_ok {n : Nat} {ts : List (Int × Int)} (h : TiesOk (n : Int) ts) {a x : Int} : x ∈ nbr n ts a ↔ adj ts a x = true := by
  rw [nbr_mem]
  exact ⟨fun z => z.2, fun z => ⟨(adj_in h z).2.1, z⟩⟩
theorem nbr_len (n : Nat) (ts : List (Int × Int)) (a : Int) : (nbr n ts a).length ≤ n := by
  unfold nbr
  rw [List.length_map]
  have := List.length_filter_le (fun (k : Nat) => adj ts a (k : Int)) (List.range n)
  rw [List.length_range] at this
  exact this
def nbrs (n : Nat) (ts : List (Int × Int)) : List (List Int) := (List.range n).map fun (k : Nat) => nbr n ts (k : Int)
theorem nbrs_len (n : Nat) (ts : List (Int × Int)) : (nbrs n ts).length = n := by simp [nbrs]
theorem nbrs_at {n : Nat} {ts : List (Int × Int)} {k : Nat} (h : k < n) : (nbrs n ts)[k]? = some (nbr n ts (k : Int)) := by
  unfold nbrs
  rw [List.getElem?_map, List.getElem?_range h]
  rfl
theorem nbrs_gt {n : Nat} {ts : List (Int × Int)} {a : Int} (h : 0 ≤ a ∧ a < (n : Int)) : gt (nbrs n ts) a = nbr n ts a := by
  have e : ((a.toNat : Nat) : Int) = a := by omega
  have q := gt_nat (ip := pyList (α := Int)) (nbrs_at (n := n) (ts := ts) (k := a.toNat) (by omega))
  rw [e] at q
  exact q
/-- sorted(xs) -/
def srt (xs : List Int) : List Int := xs.mergeSort (fun a b => decide (a ≤ b))
theorem srt_perm (xs : List Int) : (srt xs).Perm xs := List.mergeSort_perm xs _
theorem srt_up (xs : List Int) : (srt xs).Pairwise (· ≤ ·) := by
  have h := List.pairwise_mergeSort (le := fun a b : Int => decide (a ≤ b)) (fun a b c h1 h2 => by
    simp at *
    omega) (fun a b => by
    simp
    omega) xs
  exact h.imp fun z => by simpa using z
theorem up_one : ∀ {xs ys : List Int}, xs.Pairwise (· ≤ ·) → ys.Pairwise (· ≤ ·) → xs.Perm ys → xs = ys
  | [], ys, _, _, p => (List.Perm.nil_eq p)
  | x :: xs, [], _, _, p => by
    have := p.length_eq
    simp at this
  | x :: xs, y :: ys, hx, hy, p => by
    rw [List.pairwise_cons] at hx hy
    have e : x = y := by
      have h1 : x ∈ y :: ys := p.mem_iff.mp List.mem_cons_self
      have h2 : y ∈ x :: xs := p.mem_iff.mpr List.mem_cons_self
      rcases List.mem_cons.mp h1 with z | z
      · exact z
      · rcases List.mem_cons.mp h2 with w | w
        · exact w.symm
        · have := hy.1 x z
          have := hx.1 y w
          omega
    subst e
    rw [up_one hx.2 hy.2 (List.Perm.cons_inv p)]
theorem srt_rising {xs ys : List Int} (hn : xs.Nodup) (hy : ys.Pairwise (· < ·)) (h : ∀ k, k ∈ xs ↔ k ∈ ys) : srt xs = ys := by
  refine up_one (srt_up xs) (hy.imp fun z => Int.le_of_lt z) ?_
  refine (srt_perm xs).trans ((List.perm_ext_iff_of_nodup hn (hy.imp fun z => by omega)).mpr h)
theorem evl_srt {K : PySem.W.Frag} {Γ : Dn.Ctx} {ta : TE} {ns : List Int} (ha : Evx K ta Γ ns) : Evl K (tCB (rSortedI K) (tCons ta tNil)) Γ (srt ns) := fun σ R0 H R e E Q k =>
  ha σ R0 H R e E _ fun v H1 R1 g1 r1 => by
    obtain ⟨a, rfl, h1⟩ := list_ints r1
    refine ⟨a, ns, rfl, Dx.sq_of (g1.inn a _ h1), fun ns' p pm up hp => ?_⟩
    have q : ns' = srt ns := up_one up (srt_up ns) (pm.trans (srt_perm ns).symm)
    subst q
    exact k p _ H1 _ (g1.trans (Gr.alloc g1.inn hp)) (Dx.fresh_back g1.inn hp) (Dx.fresh_back g1.keep hp) upd_same (ints_rel _)

/-! ### the text's two ways -/
def addTo (xss : List (List Int)) (a b : Int) : List (List Int) := xss.set a.toNat (gt xss a ++ [b])
theorem gt_addTo {xss : List (List Int)} {a b c : Int} (ha : 0 ≤ a ∧ a < xss.length) (hc : 0 ≤ c ∧ c < xss.length) : gt (addTo xss a b) c = if a = c then gt xss a ++ [b] else gt xss c := by
  unfold addTo
  by_cases h : a = c
  · subst h
    rw [if_pos rfl]
    unfold gt
    rw [List.getD_eq_getElem?_getD, List.getElem?_set_self (by omega)]
    rfl
  · rw [if_neg h]
    unfold gt
    rw [List.getD_eq_getElem?_getD, List.getElem?_set_ne (by omega), List.getD_eq_getElem?_getD]
theorem addTo_len (xss : List (List Int)) (a b : Int) : (addTo xss a b).length = xss.length := by simp [addTo]
def nearStep (xss : List (List Int)) (t : Int × Int) : List (List Int) := if t.2 ∉ gt xss t.1 then addTo (addTo xss t.1 t.2) t.2 t.1 else xss
def nearTo (n : Nat) (ts : List (Int × Int)) (m : Nat) : List (List Int) := (ts.take m).foldl nearStep (List.replicate n [])
def bothStep (xss : List (List Int)) (t : Int × Int) : List (List Int) := addTo (addTo xss t.1 t.2) t.2 t.1
def bothTo (n : Nat) (ts : List (Int × Int)) (m : Nat) : List (List Int) := (ts.take m).foldl bothStep (List.replicate n [])
theorem gt_repl {n : Nat} {a : Int} : gt (List.replicate n ([] : List Int)) a = [] := by
  unfold gt
  rw [List.getD_eq_getElem?_getD, List.getElem?_replicate]
  split <;> rfl
/-- what both ways keep: who is in which row, and how long the rows are -/
structure Kept (n : Nat) (ts : List (Int × Int)) (m : Nat) (xss : List (List Int)) : Prop where
  len : xss.length = n
  mem : ∀ a b : Int, 0 ≤ a ∧ a < (n : Int) → (b ∈ gt xss a ↔ adj (ts.take m) a b = true)
  sml : ∀ a : Int, 0 ≤ a ∧ a < (n : Int) → (gt xss a).length ≤ m
theorem take_snoc {α : Type} {xs : List α} {m : Nat} {x : α} (h : xs[m]? = some x) : xs.take (m + 1) = xs.take m ++ [x] := by
  obtain ⟨hm, e⟩ := List.getElem?_eq_some_iff.mp h
  rw [List.take_succ_eq_append_getElem hm, e]
theorem both_kept {n : Nat} {ts : List (Int × Int)} (h : TiesOk (n : Int) ts) : ∀ m, m ≤ ts.length → Kept n ts m (bothTo n ts m)
  | 0, _ => ⟨by simp [bothTo], fun a b _ => by
      show b ∈ gt (List.replicate n ([] : List Int)) a ↔ _
      rw [gt_repl]
      simp [adj], fun a _ => by
      show (gt (List.replicate n ([] : List Int)) a).length ≤ 0
      rw [gt_repl]
      simp⟩
  | m + 1, hm => by
    have ih := both_kept h m (by omega)
    have hx : ts[m]? = some ts[m] := List.getElem?_eq_getElem (by omega)
    have e : bothTo n ts (m + 1) = bothStep (bothTo n ts m) ts[m] := foldl_take hx
    rcases ht : ts[m] with ⟨x, y⟩
    have ok := h _ (List.getElem_mem (show m < ts.length by omega))
    rw [ht] at ok hx
    dsimp only at ok
    rw [e, ht]
    unfold bothStep
    dsimp only
    have l1 := addTo_len (bothTo n ts m) x y
    have q : ∀ c : Int, 0 ≤ c ∧ c < (n : Int) → gt (addTo (addTo (bothTo n ts m) x y) y x) c = if y = c then gt (bothTo n ts m) y ++ [x] else if x = c then gt (bothTo n ts m) x ++ [y] else gt (bothTo n ts m) c := fun c hc => by
      rw [gt_addTo (by rw [l1, ih.len]; omega) (by rw [l1, ih.len]; omega), gt_addTo (by rw [ih.len]; omega) (by rw [ih.len]; omega), gt_addTo (by rw [ih.len]; omega) (by rw [ih.len]; omega), if_neg ok.2.2.2.2]
    refine ⟨by rw [addTo_len, addTo_len]; exact ih.len, fun a b ha => ?_, fun a ha => ?_⟩
    · rw [q a ha, take_snoc hx, adj_snoc]
      by_cases c1 : y = a
      · subst c1
        rw [if_pos rfl, List.mem_append, List.mem_singleton, ih.mem y b ha]
        constructor
        · rintro (z | rfl)
          · exact .inl z
          · exact .inr (.inr ⟨rfl, rfl⟩)
        · rintro (z | ⟨z1, z2⟩ | ⟨z1, z2⟩)
          · exact .inl z
          · exact absurd z1 ok.2.2.2.2
          · exact .inr z1.symm
      · rw [if_neg c1]
        by_cases c2 : x = a
        · subst c2
          rw [if_pos rfl, List.mem_append, List.mem_singleton, ih.mem x b ha]
          constructor
          · rintro (z | rfl)
            · exact .inl z
            · exact .inr (.inl ⟨rfl, rfl⟩)
          · rintro (z | ⟨z1, z2⟩ | ⟨z1, z2⟩)
            · exact .inl z
            · exact .inr z2.symm
            · exact absurd z2 c1
        · rw [if_neg c2, ih.mem a b ha]
          constructor
          · intro z
            exact .inl z
          · rintro (z | ⟨z1, z2⟩ | ⟨z1, z2⟩)
            · exact z
            · exact absurd z1 c2
            · exact absurd z2 c1
    · rw [q a ha]
      have h1 := ih.sml a ha
      split
      · rename_i c
        subst c
        rw [List.length_append]
        simp
        omega
      · split
        · rename_i c
          subst c
          rw [List.length_append]
          simp
          omega
        · omega
theorem nearTo_kept {n : Nat} {ts : List (Int × Int)} (h : TiesOk (n : Int) ts) : ∀ m, m ≤ ts.length → Kept n ts m (nearTo n ts m) ∧ ∀ a : Int, 0 ≤ a ∧ a < (n : Int) → (gt (nearTo n ts m) a).Nodup
  | 0, _ => ⟨⟨by simp [nearTo], fun a b _ => by
      show b ∈ gt (List.replicate n ([] : List Int)) a ↔ _
      rw [gt_repl]
      simp [adj], fun a _ => by
      show (gt (List.replicate n ([] : List Int)) a).length ≤ 0
      rw [gt_repl]
      simp⟩, fun a _ => by
      show (gt (List.replicate n ([] : List Int)) a).Nodup
      rw [gt_repl]
      exact List.nodup_nil⟩
  | m + 1, hm => by
    obtain ⟨ih, nd⟩ := nearTo_kept h m (by omega)
    have hx : ts[m]? = some ts[m] := List.getElem?_eq_getElem (by omega)
    have e : nearTo n ts (m + 1) = nearStep (nearTo n ts m) ts[m] := foldl_take hx
    rcases ht : ts[m] with ⟨x, y⟩
    have ok := h _ (List.getElem_mem (show m < ts.length by omega))
    rw [ht] at ok hx
    dsimp only at ok
    rw [e, ht]
    unfold nearStep
    dsimp only
    have l1 := addTo_len (nearTo n ts m) x y
    by_cases cn : y ∈ gt (nearTo n ts m) x
    · rw [if_neg (fun z => z cn)]
      have ax : adj (ts.take m) x y = true := (ih.mem x y ⟨ok.1, ok.2.1⟩).mp cn
      refine ⟨⟨ih.len, fun a b ha => ?_, fun a ha => by have := ih.sml a ha; omega⟩, nd⟩
      rw [ih.mem a b ha, take_snoc hx, adj_snoc]
      constructor
      · intro z
        exact .inl z
      · rintro (z | ⟨rfl, rfl⟩ | ⟨rfl, rfl⟩)
        · exact z
        · exact ax
        · rw [adj_comm]
          exact ax
    · rw [if_pos cn]
      have cn2 : x ∉ gt (nearTo n ts m) y := fun z => by
        have q := (ih.mem y x ⟨ok.2.2.1, ok.2.2.2.1⟩).mp z
        rw [adj_comm] at q
        exact cn ((ih.mem x y ⟨ok.1, ok.2.1⟩).mpr q)
      have q : ∀ c : Int, 0 ≤ c ∧ c < (n : Int) → gt (addTo (addTo (nearTo n ts m) x y) y x) c = if y = c then gt (nearTo n ts m) y ++ [x] else if x = c then gt (nearTo n ts m) x ++ [y] else gt (nearTo n ts m) c := fun c hc => by
        rw [gt_addTo (by rw [l1, ih.len]; omega) (by rw [l1, ih.len]; omega), gt_addTo (by rw [ih.len]; omega) (by rw [ih.len]; omega), gt_addTo (by rw [ih.len]; omega) (by rw [ih.len]; omega), if_neg ok.2.2.2.2]
      have snd : ∀ {l : List Int} {z : Int}, l.Nodup → z ∉ l → (l ++ [z]).Nodup := fun {l z} h1 h2 => by
        rw [List.nodup_append]
        refine ⟨h1, by simp, fun a ha b hb e => ?_⟩
        rw [List.mem_singleton.mp hb] at e
        rw [e] at ha
        exact h2 ha
      refine ⟨⟨by rw [addTo_len, addTo_len]; exact ih.len, fun a b ha => ?_, fun a ha => ?_⟩, fun a ha => ?_⟩
      · rw [q a ha, take_snoc hx, adj_snoc]
        by_cases c1 : y = a
        · subst c1
          rw [if_pos rfl, List.mem_append, List.mem_singleton, ih.mem y b ha]
          constructor
          · rintro (z | rfl)
            · exact .inl z
            · exact .inr (.inr ⟨rfl, rfl⟩)
          · rintro (z | ⟨z1, z2⟩ | ⟨z1, z2⟩)
            · exact .inl z
            · exact absurd z1 ok.2.2.2.2
            · exact .inr z1.symm
        · rw [if_neg c1]
          by_cases c2 : x = a
          · subst c2
            rw [if_pos rfl, List.mem_append, List.mem_singleton, ih.mem x b ha]
            constructor
            · rintro (z | rfl)
              · exact .inl z
              · exact .inr (.inl ⟨rfl, rfl⟩)
            · rintro (z | ⟨z1, z2⟩ | ⟨z1, z2⟩)
              · exact .inl z
              · exact .inr z2.symm
              · exact absurd z2 c1
          · rw [if_neg c2, ih.mem a b ha]
            constructor
            · intro z
              exact .inl z
            · rintro (z | ⟨z1, z2⟩ | ⟨z1, z2⟩)
              · exact z
              · exact absurd z1 c2
              · exact absurd z2 c1
      · rw [q a ha]
        have h1 := ih.sml a ha
        split
        · rename_i c
          subst c
          rw [List.length_append]
          simp
          omega
        · split
          · rename_i c
            subst c
            rw [List.length_append]
            simp
            omega
          · omega
      · rw [q a ha]
        split
        · exact snd (nd y ⟨ok.2.2.1, ok.2.2.2.1⟩) cn2
        · split
          · exact snd (nd x ⟨ok.1, ok.2.1⟩) cn
          · exact nd a ha
/-- both ways end in the points beside each point, rising -/
theorem near_end {n : Nat} {ts : List (Int × Int)} (h : TiesOk (n : Int) ts) : (nearTo n ts ts.length).map srt = nbrs n ts := by
  obtain ⟨k, nd⟩ := nearTo_kept h ts.length (Nat.le_refl _)
  apply List.ext_getElem?
  intro j
  by_cases hj : j < n
  · rw [List.getElem?_map, nbrs_at hj, List.getElem?_eq_getElem (by rw [k.len]; exact hj)]
    have g := gt_nat (ip := pyList (α := Int)) (List.getElem?_eq_getElem (show j < (nearTo n ts ts.length).length by rw [k.len]; exact hj))
    show some (srt _) = some _
    rw [← g, srt_rising (nd (j : Int) (by omega)) (nbr_up n ts (j : Int)) fun x => by
      rw [k.mem (j : Int) x (by omega), List.take_length, nbr_mem_ok h]]
  · rw [List.getElem?_eq_none (by rw [List.length_map, k.len]; omega), List.getElem?_eq_none (by rw [nbrs_len]; omega)]
theorem both_end {n : Nat} (hn : n ≤ 60) {ts : List (Int × Int)} (h : TiesOk (n : Int) ts) : (bothTo n ts ts.length).map rise = nbrs n ts ∧ ∀ r ∈ bothTo n ts ts.length, r.length ≤ ts.length ∧ ∀ x ∈ r, 0 ≤ x ∧ x < 63 := by
  have k := both_kept h ts.length (Nat.le_refl _)
  have rows : ∀ (j : Nat) (hj : j < (bothTo n ts ts.length).length), (bothTo n ts ts.length)[j].length ≤ ts.length ∧ (∀ x ∈ (bothTo n ts ts.length)[j], 0 ≤ x ∧ x < 63) ∧ (∀ x, x ∈ (bothTo n ts ts.length)[j] ↔ x ∈ nbr n ts (j : Int)) := fun j hj => by
    have hj' : j < n := by rw [← k.len]; exact hj
    have g := gt_nat (ip := pyList (α := Int)) (List.getElem?_eq_getElem hj)
    rw [← g]
    have m := fun x => k.mem (j : Int) x (by omega)
    refine ⟨k.sml (j : Int) (by omega), fun x hx => ?_, fun x => by rw [m x, List.take_length, nbr_mem_ok h]⟩
    have q := (m x).mp hx
    rw [List.take_length] at q
    have := (adj_in h q).2.1
    omega
  refine ⟨?_, fun r hr => ?_⟩
  · apply List.ext_getElem?
    intro j
    by_cases hj : j < n
    · have hl : j < (bothTo n ts ts.length).length := by rw [k.len]; exact hj
      rw [List.getElem?_map, nbrs_at hj, List.getElem?_eq_getElem hl]
      have r := rows j hl
      show some (rise _) = some _
      rw [rising_one (rise_up _) (nbr_up n ts (j : Int)) fun x => by rw [rise_mem r.2.1, r.2.2 x]]
    · rw [List.getElem?_eq_none (by rw [List.length_map, k.len]; omega), List.getElem?_eq_none (by rw [nbrs_len]; omega)]
  · obtain ⟨j, hj, rfl⟩ := List.mem_iff_getElem.mp hr
    have r := rows j hj
    exact ⟨r.1, r.2.1⟩
end Gn

/-! Gn: a web as data. -/
namespace Gn
open PySem PySem.Spec PyProof.Rows L2 Dn
structure WebD where
  n : Nat
  rows : List (List Int)
def WebC (K : PySem.W.Frag) (C : Addr) : Prop := PySem.W.nsIn K mainGlobals "Web" = some (some (.ref C))
theorem web_one {K : PySem.W.Frag} {C D : Addr} (h : WebC K D) (g : WebC K C) : D = C := by
  unfold WebC at h g
  rw [h] at g
  injection g with g
  injection g with g
  injection g
theorem f_mr : ¬ (("many" : Str) = "_rows") := by decide +kernel
def webF (n : Nat) (r : Addr) : List (Str × V) := putF "_rows" (.ref r) (putF "many" (.int (n : Int)) [])
theorem webF_many (n : Nat) (r : Addr) : (webF n r).lookup ("many" : Str) = some (.int (n : Int)) := by
  unfold webF
  rw [lookup_putF, if_neg f_mr, lookup_putF, if_pos rfl]
theorem webF_rows (n : Nat) (r : Addr) : (webF n r).lookup ("_rows" : Str) = some (.ref r) := by
  unfold webF
  rw [lookup_putF, if_pos rfl]
theorem webF_no {m : Str} (h1 : ¬ m = "_rows") (h2 : ¬ m = "many") (n : Nat) (r : Addr) : (webF n r).lookup m = none := by
  unfold webF
  rw [lookup_putF, if_neg h1, lookup_putF, if_neg h2]
  all_goals rfl
instance pyWeb : Py WebD where
  rel K x v H := ∃ a C dx r, v = .ref a ∧ WebC K C ∧ H a = some (.ins C dx (webF x.n r)) ∧ (pyList (ip := pyList (ip := pyInt))).rel K x.rows (.ref r) H
  mono := fun e ⟨a, C, dx, r, h1, h2, h3, h4⟩ => ⟨a, C, dx, r, h1, h2, e a _ h3, (pyList (ip := pyList (ip := pyInt))).mono e h4⟩
  dflt := ⟨0, []⟩
theorem evx_many {K : PySem.W.Frag} {Γ : Dn.Ctx} {C : Addr} {ta : TE} {x : WebD} (hC : WebC K C) (c : Cls K C) (n : NoAttr K C "many") (h : Evx K ta Γ x) : Evx K (tFld K ta "many") Γ (x.n : Int) := fun σ R0 H R e E Q k =>
  h σ R0 H R e E _ fun u H1 R1 g1 r1 => by
    obtain ⟨a, D, dx, r, e1, e2, e3, e4⟩ := r1
    subst e1
    have eD : D = C := web_one e2 hC
    subst eD
    exact ⟨a, D, dx, _, _, rfl, g1.inn a _ e3, c, n, webF_many _ _, k _ H1 R1 g1 rfl⟩
theorem evx_rows {K : PySem.W.Frag} {Γ : Dn.Ctx} {C : Addr} {ta : TE} {x : WebD} (hC : WebC K C) (c : Cls K C) (n : NoAttr K C "_rows") (h : Evx K ta Γ x) : Evx K (tFld K ta "_rows") Γ x.rows := fun σ R0 H R e E Q k =>
  h σ R0 H R e E _ fun u H1 R1 g1 r1 => by
    obtain ⟨a, D, dx, r, e1, e2, e3, e4⟩ := r1
    subst e1
    have eD : D = C := web_one e2 hC
    subst eD
    exact ⟨a, D, dx, _, _, rfl, g1.inn a _ e3, c, n, webF_rows _ _, k _ H1 R1 g1 e4⟩
theorem evx_wm1 { C0 : Type}  {ic : Py C0} {K : PySem.W.Frag} {Γ : Dn.Ctx} {C : Addr} {m : Str} {pre : WebD → Prop} {f : WebD → C0} {x0 : WebD}  {t0 : TE} {E1 : XK} (hC : WebC K C) (hm : ∀ (n : Nat) (r : Addr), (webF n r).lookup m = none) (h0 : Evx K t0 Γ x0) (hp : pre x0) : Evx K (tMeth C m (sp1 K pre f) [] E1 t0 tNil) Γ (f x0) := fun σ R0 H R e E Q k =>
  h0 σ R0 H R e E _ fun u0 H0 S0 g0 r0 => by
    obtain ⟨a, D, dx, rw, e0, eC, eI, eR⟩ := id r0
    subst e0
    have eD : D = C := web_one eC hC
    subst eD
    refine ⟨a, dx, _, rfl, g0.inn a _ eI, hm _ _, ?_⟩
    exact ⟨x0, _, H0, rfl, g0.inn, pyWeb.mono (Dx.Ex.refl _) r0, hp, fun v H' R' g' r' => k v H' R' (g0.trans g') r'⟩
theorem evx_wmx1 { C0 : Type}  {ic : Py C0} {K : PySem.W.Frag} {Γ : Dn.Ctx} {C : Addr} {m : Str} {pre : WebD → Prop} {bad : WebD → Bool} {cls : Addr} {f : WebD → C0} {x0 : WebD}  {t0 : TE} {E1 : XK} (hC : WebC K C) (hm : ∀ (n : Nat) (r : Addr), (webF n r).lookup m = none) (h0 : Evx K t0 Γ x0) (hp : pre x0) (hb : bad x0 = false) : Evx K (tMeth C m (sx1 K pre bad cls f) [] E1 t0 tNil) Γ (f x0) := fun σ R0 H R e E Q k =>
  h0 σ R0 H R e E _ fun u0 H0 S0 g0 r0 => by
    obtain ⟨a, D, dx, rw, e0, eC, eI, eR⟩ := id r0
    subst e0
    have eD : D = C := web_one eC hC
    subst eD
    refine ⟨a, dx, _, rfl, g0.inn a _ eI, hm _ _, ?_⟩
    exact ⟨x0, _, H0, rfl, g0.inn, pyWeb.mono (Dx.Ex.refl _) r0, hp, fun _ v H' R' g' r' => k v H' R' (g0.trans g') r', fun z => by rw [hb] at z; cases z⟩
theorem evz_wm1 { C0 : Type}  {ic : Py C0} {W : Wd} {Γ : Dn.Ctx} {C : Addr} {m : Str} {pre : WebD → Prop} {bad : WebD → Bool} {cls : Addr} {f : WebD → C0} {x0 : WebD}  {t0 : TE} {E : L2.St → XK} (hC : WebC W.K C) (hm : ∀ (n : Nat) (r : Addr), (webF n r).lookup m = none) (h0 : Evx W.K t0 Γ x0) (hp : pre x0) : Evz W (L2H.tMethH C m (sx1 W.K pre bad cls f) E t0 tNil) Γ (bad x0) (f x0) (fun σ R => E σ (.ref cls) none R) := fun σ H R ff gg EE Q k kx =>
  h0 σ W.R0 H R gg.inn EE _ fun u0 H0 S0 g0 r0 => by
    obtain ⟨a, D, dx, rw, e0, eC, eI, eR⟩ := id r0
    subst e0
    have eD : D = C := web_one eC hC
    subst eD
    refine ⟨a, dx, _, rfl, g0.inn a _ eI, hm _ _, ?_⟩
    exact ⟨x0, _, H0, rfl, g0.inn, pyWeb.mono (Dx.Ex.refl _) r0, hp, fun hb v H' R' g' r' => k hb v H' R' (g0.trans g') r', fun hb H' R' g' => kx hb H' R' (g0.trans g')⟩
theorem evz_wml1 { C0 : Type}  {ic : Py C0} {W : Wd} {Γ : Dn.Ctx} {C : Addr} {m : Str} {pre : WebD → Prop} {bad : WebD → Bool} {cls : Addr} {f : WebD → List C0} {x0 : WebD}  {t0 : TE} {E : L2.St → XK} (hC : WebC W.K C) (hm : ∀ (n : Nat) (r : Addr), (webF n r).lookup m = none) (h0 : Evx W.K t0 Γ x0) (hp : pre x0) : Evz W (L2H.tMethH C m (sxl1 W.K pre bad cls f) E t0 tNil) Γ (bad x0) (f x0) (fun σ R => E σ (.ref cls) none R) := fun σ H R ff gg EE Q k kx =>
  h0 σ W.R0 H R gg.inn EE _ fun u0 H0 S0 g0 r0 => by
    obtain ⟨a, D, dx, rw, e0, eC, eI, eR⟩ := id r0
    subst e0
    have eD : D = C := web_one eC hC
    subst eD
    refine ⟨a, dx, _, rfl, g0.inn a _ eI, hm _ _, ?_⟩
    exact ⟨x0, _, H0, rfl, g0.inn, pyWeb.mono (Dx.Ex.refl _) r0, hp, fun hb p ys H' R' g' q1 q2 q3 q4 => own_res (fun v H9 R9 g9 r9 => k hb v H9 R9 (g0.trans g9) r9) g' q1 q2 q3 q4, fun hb H' R' g' => kx hb H' R' (g0.trans g')⟩
theorem evl_wm1 { C0 : Type}  {ic : Py C0} {K : PySem.W.Frag} {Γ : Dn.Ctx} {C : Addr} {m : Str} {pre : WebD → Prop} {f : WebD → List C0} {x0 : WebD}  {t0 : TE} {E1 : XK} (hC : WebC K C) (hm : ∀ (n : Nat) (r : Addr), (webF n r).lookup m = none) (h0 : Evx K t0 Γ x0) (hp : pre x0) : Dn.Evl K (tMeth C m (sl1 K pre f) [] E1 t0 tNil) Γ (f x0) := fun σ R0 H R e EE Q k =>
  h0 σ R0 H R e EE _ fun u0 H0 S0 g0 r0 => by
    obtain ⟨a, D, dx, rw, e0, eC, eI, eR⟩ := id r0
    subst e0
    have eD : D = C := web_one eC hC
    subst eD
    refine ⟨a, dx, _, rfl, g0.inn a _ eI, hm _ _, ?_⟩
    exact ⟨x0, _, H0, rfl, g0.inn, pyWeb.mono (Dx.Ex.refl _) r0, hp, fun p ys H' R' g' q1 q2 q3 q4 => k p ys H' R' (g0.trans g') q1 (Dx.fresh_back g0.keep q2) q3 q4⟩
theorem evl_wmx1 { C0 : Type}  {ic : Py C0} {K : PySem.W.Frag} {Γ : Dn.Ctx} {C : Addr} {m : Str} {pre : WebD → Prop} {bad : WebD → Bool} {cls : Addr} {f : WebD → List C0} {x0 : WebD}  {t0 : TE} {E1 : XK} (hC : WebC K C) (hm : ∀ (n : Nat) (r : Addr), (webF n r).lookup m = none) (h0 : Evx K t0 Γ x0) (hp : pre x0) (hb : bad x0 = false) : Dn.Evl K (tMeth C m (sxl1 K pre bad cls f) [] E1 t0 tNil) Γ (f x0) := fun σ R0 H R e EE Q k =>
  h0 σ R0 H R e EE _ fun u0 H0 S0 g0 r0 => by
    obtain ⟨a, D, dx, rw, e0, eC, eI, eR⟩ := id r0
    subst e0
    have eD : D = C := web_one eC hC
    subst eD
    refine ⟨a, dx, _, rfl, g0.inn a _ eI, hm _ _, ?_⟩
    exact ⟨x0, _, H0, rfl, g0.inn, pyWeb.mono (Dx.Ex.refl _) r0, hp, fun _ p ys H' R' g' q1 q2 q3 q4 => k p ys H' R' (g0.trans g') q1 (Dx.fresh_back g0.keep q2) q3 q4, fun z => by rw [hb] at z; cases z⟩
theorem evx_wm2 {A1 C0 : Type} {i1 : Py A1} {ic : Py C0} {K : PySem.W.Frag} {Γ : Dn.Ctx} {C : Addr} {m : Str} {pre : WebD → A1 → Prop} {f : WebD → A1 → C0} {x0 : WebD} {x1 : A1} {t0 t1 : TE} {E1 : XK} (hC : WebC K C) (hm : ∀ (n : Nat) (r : Addr), (webF n r).lookup m = none) (h0 : Evx K t0 Γ x0) (h1 : Evx K t1 Γ x1) (hp : pre x0 x1) : Evx K (tMeth C m (sp2 K pre f) [] E1 t0 (tCons t1 tNil)) Γ (f x0 x1) := fun σ R0 H R e E Q k =>
  h0 σ R0 H R e E _ fun u0 H0 S0 g0 r0 => by
    obtain ⟨a, D, dx, rw, e0, eC, eI, eR⟩ := id r0
    subst e0
    have eD : D = C := web_one eC hC
    subst eD
    refine ⟨a, dx, _, rfl, g0.inn a _ eI, hm _ _, ?_⟩
    exact h1 σ R0 H0 S0 g0.inn (E.grow g0) _ fun u1 H1 S1 g1 r1 => ⟨x0, x1, _, u1, H1, rfl, g1.inn, pyWeb.mono ((Dx.Ex.refl _).trans g1.up) r0, i1.mono (Dx.Ex.refl _) r1, hp, fun v H' R' g' r' => k v H' R' ((g0.trans g1).trans g') r'⟩
theorem evx_wmx2 {A1 C0 : Type} {i1 : Py A1} {ic : Py C0} {K : PySem.W.Frag} {Γ : Dn.Ctx} {C : Addr} {m : Str} {pre : WebD → A1 → Prop} {bad : WebD → A1 → Bool} {cls : Addr} {f : WebD → A1 → C0} {x0 : WebD} {x1 : A1} {t0 t1 : TE} {E1 : XK} (hC : WebC K C) (hm : ∀ (n : Nat) (r : Addr), (webF n r).lookup m = none) (h0 : Evx K t0 Γ x0) (h1 : Evx K t1 Γ x1) (hp : pre x0 x1) (hb : bad x0 x1 = false) : Evx K (tMeth C m (sx2 K pre bad cls f) [] E1 t0 (tCons t1 tNil)) Γ (f x0 x1) := fun σ R0 H R e E Q k =>
  h0 σ R0 H R e E _ fun u0 H0 S0 g0 r0 => by
    obtain ⟨a, D, dx, rw, e0, eC, eI, eR⟩ := id r0
    subst e0
    have eD : D = C := web_one eC hC
    subst eD
    refine ⟨a, dx, _, rfl, g0.inn a _ eI, hm _ _, ?_⟩
    exact h1 σ R0 H0 S0 g0.inn (E.grow g0) _ fun u1 H1 S1 g1 r1 => ⟨x0, x1, _, u1, H1, rfl, g1.inn, pyWeb.mono ((Dx.Ex.refl _).trans g1.up) r0, i1.mono (Dx.Ex.refl _) r1, hp, fun _ v H' R' g' r' => k v H' R' ((g0.trans g1).trans g') r', fun z => by rw [hb] at z; cases z⟩
theorem evz_wm2 {A1 C0 : Type} {i1 : Py A1} {ic : Py C0} {W : Wd} {Γ : Dn.Ctx} {C : Addr} {m : Str} {pre : WebD → A1 → Prop} {bad : WebD → A1 → Bool} {cls : Addr} {f : WebD → A1 → C0} {x0 : WebD} {x1 : A1} {t0 t1 : TE} {E : L2.St → XK} (hC : WebC W.K C) (hm : ∀ (n : Nat) (r : Addr), (webF n r).lookup m = none) (h0 : Evx W.K t0 Γ x0) (h1 : Evx W.K t1 Γ x1) (hp : pre x0 x1) : Evz W (L2H.tMethH C m (sx2 W.K pre bad cls f) E t0 (tCons t1 tNil)) Γ (bad x0 x1) (f x0 x1) (fun σ R => E σ (.ref cls) none R) := fun σ H R ff gg EE Q k kx =>
  h0 σ W.R0 H R gg.inn EE _ fun u0 H0 S0 g0 r0 => by
    obtain ⟨a, D, dx, rw, e0, eC, eI, eR⟩ := id r0
    subst e0
    have eD : D = C := web_one eC hC
    subst eD
    refine ⟨a, dx, _, rfl, g0.inn a _ eI, hm _ _, ?_⟩
    exact h1 σ W.R0 H0 S0 g0.inn (EE.grow g0) _ fun u1 H1 S1 g1 r1 => ⟨x0, x1, _, u1, H1, rfl, g1.inn, pyWeb.mono ((Dx.Ex.refl _).trans g1.up) r0, i1.mono (Dx.Ex.refl _) r1, hp, fun hb v H' R' g' r' => k hb v H' R' ((g0.trans g1).trans g') r', fun hb H' R' g' => kx hb H' R' ((g0.trans g1).trans g')⟩
theorem evz_wml2 {A1 C0 : Type} {i1 : Py A1} {ic : Py C0} {W : Wd} {Γ : Dn.Ctx} {C : Addr} {m : Str} {pre : WebD → A1 → Prop} {bad : WebD → A1 → Bool} {cls : Addr} {f : WebD → A1 → List C0} {x0 : WebD} {x1 : A1} {t0 t1 : TE} {E : L2.St → XK} (hC : WebC W.K C) (hm : ∀ (n : Nat) (r : Addr), (webF n r).lookup m = none) (h0 : Evx W.K t0 Γ x0) (h1 : Evx W.K t1 Γ x1) (hp : pre x0 x1) : Evz W (L2H.tMethH C m (sxl2 W.K pre bad cls f) E t0 (tCons t1 tNil)) Γ (bad x0 x1) (f x0 x1) (fun σ R => E σ (.ref cls) none R) := fun σ H R ff gg EE Q k kx =>
  h0 σ W.R0 H R gg.inn EE _ fun u0 H0 S0 g0 r0 => by
    obtain ⟨a, D, dx, rw, e0, eC, eI, eR⟩ := id r0
    subst e0
    have eD : D = C := web_one eC hC
    subst eD
    refine ⟨a, dx, _, rfl, g0.inn a _ eI, hm _ _, ?_⟩
    exact h1 σ W.R0 H0 S0 g0.inn (EE.grow g0) _ fun u1 H1 S1 g1 r1 => ⟨x0, x1, _, u1, H1, rfl, g1.inn, pyWeb.mono ((Dx.Ex.refl _).trans g1.up) r0, i1.mono (Dx.Ex.refl _) r1, hp, fun hb p ys H' R' g' q1 q2 q3 q4 => own_res (fun v H9 R9 g9 r9 => k hb v H9 R9 ((g0.trans g1).trans g9) r9) g' q1 q2 q3 q4, fun hb H' R' g' => kx hb H' R' ((g0.trans g1).trans g')⟩
theorem evl_wm2 {A1 C0 : Type} {i1 : Py A1} {ic : Py C0} {K : PySem.W.Frag} {Γ : Dn.Ctx} {C : Addr} {m : Str} {pre : WebD → A1 → Prop} {f : WebD → A1 → List C0} {x0 : WebD} {x1 : A1} {t0 t1 : TE} {E1 : XK} (hC : WebC K C) (hm : ∀ (n : Nat) (r : Addr), (webF n r).lookup m = none) (h0 : Evx K t0 Γ x0) (h1 : Evx K t1 Γ x1) (hp : pre x0 x1) : Dn.Evl K (tMeth C m (sl2 K pre f) [] E1 t0 (tCons t1 tNil)) Γ (f x0 x1) := fun σ R0 H R e EE Q k =>
  h0 σ R0 H R e EE _ fun u0 H0 S0 g0 r0 => by
    obtain ⟨a, D, dx, rw, e0, eC, eI, eR⟩ := id r0
    subst e0
    have eD : D = C := web_one eC hC
    subst eD
    refine ⟨a, dx, _, rfl, g0.inn a _ eI, hm _ _, ?_⟩
    exact h1 σ R0 H0 S0 g0.inn (EE.grow g0) _ fun u1 H1 S1 g1 r1 => ⟨x0, x1, _, u1, H1, rfl, g1.inn, pyWeb.mono ((Dx.Ex.refl _).trans g1.up) r0, i1.mono (Dx.Ex.refl _) r1, hp, fun p ys H' R' g' q1 q2 q3 q4 => k p ys H' R' ((g0.trans g1).trans g') q1 (Dx.fresh_back (g0.trans g1).keep q2) q3 q4⟩
theorem evl_wmx2 {A1 C0 : Type} {i1 : Py A1} {ic : Py C0} {K : PySem.W.Frag} {Γ : Dn.Ctx} {C : Addr} {m : Str} {pre : WebD → A1 → Prop} {bad : WebD → A1 → Bool} {cls : Addr} {f : WebD → A1 → List C0} {x0 : WebD} {x1 : A1} {t0 t1 : TE} {E1 : XK} (hC : WebC K C) (hm : ∀ (n : Nat) (r : Addr), (webF n r).lookup m = none) (h0 : Evx K t0 Γ x0) (h1 : Evx K t1 Γ x1) (hp : pre x0 x1) (hb : bad x0 x1 = false) : Dn.Evl K (tMeth C m (sxl2 K pre bad cls f) [] E1 t0 (tCons t1 tNil)) Γ (f x0 x1) := fun σ R0 H R e EE Q k =>
  h0 σ R0 H R e EE _ fun u0 H0 S0 g0 r0 => by
    obtain ⟨a, D, dx, rw, e0, eC, eI, eR⟩ := id r0
    subst e0
    have eD : D = C := web_one eC hC
    subst eD
    refine ⟨a, dx, _, rfl, g0.inn a _ eI, hm _ _, ?_⟩
    exact h1 σ R0 H0 S0 g0.inn (EE.grow g0) _ fun u1 H1 S1 g1 r1 => ⟨x0, x1, _, u1, H1, rfl, g1.inn, pyWeb.mono ((Dx.Ex.refl _).trans g1.up) r0, i1.mono (Dx.Ex.refl _) r1, hp, fun _ p ys H' R' g' q1 q2 q3 q4 => k p ys H' R' ((g0.trans g1).trans g') q1 (Dx.fresh_back (g0.trans g1).keep q2) q3 q4, fun z => by rw [hb] at z; cases z⟩
theorem evx_wm3 {A1 A2 C0 : Type} {i1 : Py A1} {i2 : Py A2} {ic : Py C0} {K : PySem.W.Frag} {Γ : Dn.Ctx} {C : Addr} {m : Str} {pre : WebD → A1 → A2 → Prop} {f : WebD → A1 → A2 → C0} {x0 : WebD} {x1 : A1} {x2 : A2} {t0 t1 t2 : TE} {E1 : XK} (hC : WebC K C) (hm : ∀ (n : Nat) (r : Addr), (webF n r).lookup m = none) (h0 : Evx K t0 Γ x0) (h1 : Evx K t1 Γ x1) (h2 : Evx K t2 Γ x2) (hp : pre x0 x1 x2) : Evx K (tMeth C m (sp3 K pre f) [] E1 t0 (tCons t1 (tCons t2 tNil))) Γ (f x0 x1 x2) := fun σ R0 H R e E Q k =>
  h0 σ R0 H R e E _ fun u0 H0 S0 g0 r0 => by
    obtain ⟨a, D, dx, rw, e0, eC, eI, eR⟩ := id r0
    subst e0
    have eD : D = C := web_one eC hC
    subst eD
    refine ⟨a, dx, _, rfl, g0.inn a _ eI, hm _ _, ?_⟩
    exact h1 σ R0 H0 S0 g0.inn (E.grow g0) _ fun u1 H1 S1 g1 r1 => h2 σ R0 H1 S1 g1.inn ((E.grow g0).grow g1) _ fun u2 H2 S2 g2 r2 => ⟨x0, x1, x2, _, u1, u2, H2, rfl, g2.inn, pyWeb.mono (((Dx.Ex.refl _).trans g1.up).trans g2.up) r0, i1.mono ((Dx.Ex.refl _).trans g2.up) r1, i2.mono (Dx.Ex.refl _) r2, hp, fun v H' R' g' r' => k v H' R' ((g0.trans (g1.trans g2)).trans g') r'⟩
theorem evx_wmx3 {A1 A2 C0 : Type} {i1 : Py A1} {i2 : Py A2} {ic : Py C0} {K : PySem.W.Frag} {Γ : Dn.Ctx} {C : Addr} {m : Str} {pre : WebD → A1 → A2 → Prop} {bad : WebD → A1 → A2 → Bool} {cls : Addr} {f : WebD → A1 → A2 → C0} {x0 : WebD} {x1 : A1} {x2 : A2} {t0 t1 t2 : TE} {E1 : XK} (hC : WebC K C) (hm : ∀ (n : Nat) (r : Addr), (webF n r).lookup m = none) (h0 : Evx K t0 Γ x0) (h1 : Evx K t1 Γ x1) (h2 : Evx K t2 Γ x2) (hp : pre x0 x1 x2) (hb : bad x0 x1 x2 = false) : Evx K (tMeth C m (sx3 K pre bad cls f) [] E1 t0 (tCons t1 (tCons t2 tNil))) Γ (f x0 x1 x2) := fun σ R0 H R e E Q k =>
  h0 σ R0 H R e E _ fun u0 H0 S0 g0 r0 => by
    obtain ⟨a, D, dx, rw, e0, eC, eI, eR⟩ := id r0
    subst e0
    have eD : D = C := web_one eC hC
    subst eD
    refine ⟨a, dx, _, rfl, g0.inn a _ eI, hm _ _, ?_⟩
    exact h1 σ R0 H0 S0 g0.inn (E.grow g0) _ fun u1 H1 S1 g1 r1 => h2 σ R0 H1 S1 g1.inn ((E.grow g0).grow g1) _ fun u2 H2 S2 g2 r2 => ⟨x0, x1, x2, _, u1, u2, H2, rfl, g2.inn, pyWeb.mono (((Dx.Ex.refl _).trans g1.up).trans g2.up) r0, i1.mono ((Dx.Ex.refl _).trans g2.up) r1, i2.mono (Dx.Ex.refl _) r2, hp, fun _ v H' R' g' r' => k v H' R' ((g0.trans (g1.trans g2)).trans g') r', fun z => by rw [hb] at z; cases z⟩
theorem evz_wm3 {A1 A2 C0 : Type} {i1 : Py A1} {i2 : Py A2} {ic : Py C0} {W : Wd} {Γ : Dn.Ctx} {C : Addr} {m : Str} {pre : WebD → A1 → A2 → Prop} {bad : WebD → A1 → A2 → Bool} {cls : Addr} {f : WebD → A1 → A2 → C0} {x0 : WebD} {x1 : A1} {x2 : A2} {t0 t1 t2 : TE} {E : L2.St → XK} (hC : WebC W.K C) (hm : ∀ (n : Nat) (r : Addr), (webF n r).lookup m = none) (h0 : Evx W.K t0 Γ x0) (h1 : Evx W.K t1 Γ x1) (h2 : Evx W.K t2 Γ x2) (hp : pre x0 x1 x2) : Evz W (L2H.tMethH C m (sx3 W.K pre bad cls f) E t0 (tCons t1 (tCons t2 tNil))) Γ (bad x0 x1 x2) (f x0 x1 x2) (fun σ R => E σ (.ref cls) none R) := fun σ H R ff gg EE Q k kx =>
  h0 σ W.R0 H R gg.inn EE _ fun u0 H0 S0 g0 r0 => by
    obtain ⟨a, D, dx, rw, e0, eC, eI, eR⟩ := id r0
    subst e0
    have eD : D = C := web_one eC hC
    subst eD
    refine ⟨a, dx, _, rfl, g0.inn a _ eI, hm _ _, ?_⟩
    exact h1 σ W.R0 H0 S0 g0.inn (EE.grow g0) _ fun u1 H1 S1 g1 r1 => h2 σ W.R0 H1 S1 g1.inn ((EE.grow g0).grow g1) _ fun u2 H2 S2 g2 r2 => ⟨x0, x1, x2, _, u1, u2, H2, rfl, g2.inn, pyWeb.mono (((Dx.Ex.refl _).trans g1.up).trans g2.up) r0, i1.mono ((Dx.Ex.refl _).trans g2.up) r1, i2.mono (Dx.Ex.refl _) r2, hp, fun hb v H' R' g' r' => k hb v H' R' ((g0.trans (g1.trans g2)).trans g') r', fun hb H' R' g' => kx hb H' R' ((g0.trans (g1.trans g2)).trans g')⟩
theorem evz_wml3 {A1 A2 C0 : Type} {i1 : Py A1} {i2 : Py A2} {ic : Py C0} {W : Wd} {Γ : Dn.Ctx} {C : Addr} {m : Str} {pre : WebD → A1 → A2 → Prop} {bad : WebD → A1 → A2 → Bool} {cls : Addr} {f : WebD → A1 → A2 → List C0} {x0 : WebD} {x1 : A1} {x2 : A2} {t0 t1 t2 : TE} {E : L2.St → XK} (hC : WebC W.K C) (hm : ∀ (n : Nat) (r : Addr), (webF n r).lookup m = none) (h0 : Evx W.K t0 Γ x0) (h1 : Evx W.K t1 Γ x1) (h2 : Evx W.K t2 Γ x2) (hp : pre x0 x1 x2) : Evz W (L2H.tMethH C m (sxl3 W.K pre bad cls f) E t0 (tCons t1 (tCons t2 tNil))) Γ (bad x0 x1 x2) (f x0 x1 x2) (fun σ R => E σ (.ref cls) none R) := fun σ H R ff gg EE Q k kx =>
  h0 σ W.R0 H R gg.inn EE _ fun u0 H0 S0 g0 r0 => by
    obtain ⟨a, D, dx, rw, e0, eC, eI, eR⟩ := id r0
    subst e0
    have eD : D = C := web_one eC hC
    subst eD
    refine ⟨a, dx, _, rfl, g0.inn a _ eI, hm _ _, ?_⟩
    exact h1 σ W.R0 H0 S0 g0.inn (EE.grow g0) _ fun u1 H1 S1 g1 r1 => h2 σ W.R0 H1 S1 g1.inn ((EE.grow g0).grow g1) _ fun u2 H2 S2 g2 r2 => ⟨x0, x1, x2, _, u1, u2, H2, rfl, g2.inn, pyWeb.mono (((Dx.Ex.refl _).trans g1.up).trans g2.up) r0, i1.mono ((Dx.Ex.refl _).trans g2.up) r1, i2.mono (Dx.Ex.refl _) r2, hp, fun hb p ys H' R' g' q1 q2 q3 q4 => own_res (fun v H9 R9 g9 r9 => k hb v H9 R9 ((g0.trans (g1.trans g2)).trans g9) r9) g' q1 q2 q3 q4, fun hb H' R' g' => kx hb H' R' ((g0.trans (g1.trans g2)).trans g')⟩
theorem evl_wm3 {A1 A2 C0 : Type} {i1 : Py A1} {i2 : Py A2} {ic : Py C0} {K : PySem.W.Frag} {Γ : Dn.Ctx} {C : Addr} {m : Str} {pre : WebD → A1 → A2 → Prop} {f : WebD → A1 → A2 → List C0} {x0 : WebD} {x1 : A1} {x2 : A2} {t0 t1 t2 : TE} {E1 : XK} (hC : WebC K C) (hm : ∀ (n : Nat) (r : Addr), (webF n r).lookup m = none) (h0 : Evx K t0 Γ x0) (h1 : Evx K t1 Γ x1) (h2 : Evx K t2 Γ x2) (hp : pre x0 x1 x2) : Dn.Evl K (tMeth C m (sl3 K pre f) [] E1 t0 (tCons t1 (tCons t2 tNil))) Γ (f x0 x1 x2) := fun σ R0 H R e EE Q k =>
  h0 σ R0 H R e EE _ fun u0 H0 S0 g0 r0 => by
    obtain ⟨a, D, dx, rw, e0, eC, eI, eR⟩ := id r0
    subst e0
    have eD : D = C := web_one eC hC
    subst eD
    refine ⟨a, dx, _, rfl, g0.inn a _ eI, hm _ _, ?_⟩
    exact h1 σ R0 H0 S0 g0.inn (EE.grow g0) _ fun u1 H1 S1 g1 r1 => h2 σ R0 H1 S1 g1.inn ((EE.grow g0).grow g1) _ fun u2 H2 S2 g2 r2 => ⟨x0, x1, x2, _, u1, u2, H2, rfl, g2.inn, pyWeb.mono (((Dx.Ex.refl _).trans g1.up).trans g2.up) r0, i1.mono ((Dx.Ex.refl _).trans g2.up) r1, i2.mono (Dx.Ex.refl _) r2, hp, fun p ys H' R' g' q1 q2 q3 q4 => k p ys H' R' ((g0.trans (g1.trans g2)).trans g') q1 (Dx.fresh_back (g0.trans (g1.trans g2)).keep q2) q3 q4⟩
theorem evl_wmx3 {A1 A2 C0 : Type} {i1 : Py A1} {i2 : Py A2} {ic : Py C0} {K : PySem.W.Frag} {Γ : Dn.Ctx} {C : Addr} {m : Str} {pre : WebD → A1 → A2 → Prop} {bad : WebD → A1 → A2 → Bool} {cls : Addr} {f : WebD → A1 → A2 → List C0} {x0 : WebD} {x1 : A1} {x2 : A2} {t0 t1 t2 : TE} {E1 : XK} (hC : WebC K C) (hm : ∀ (n : Nat) (r : Addr), (webF n r).lookup m = none) (h0 : Evx K t0 Γ x0) (h1 : Evx K t1 Γ x1) (h2 : Evx K t2 Γ x2) (hp : pre x0 x1 x2) (hb : bad x0 x1 x2 = false) : Dn.Evl K (tMeth C m (sxl3 K pre bad cls f) [] E1 t0 (tCons t1 (tCons t2 tNil))) Γ (f x0 x1 x2) := fun σ R0 H R e EE Q k =>
  h0 σ R0 H R e EE _ fun u0 H0 S0 g0 r0 => by
    obtain ⟨a, D, dx, rw, e0, eC, eI, eR⟩ := id r0
    subst e0
    have eD : D = C := web_one eC hC
    subst eD
    refine ⟨a, dx, _, rfl, g0.inn a _ eI, hm _ _, ?_⟩
    exact h1 σ R0 H0 S0 g0.inn (EE.grow g0) _ fun u1 H1 S1 g1 r1 => h2 σ R0 H1 S1 g1.inn ((EE.grow g0).grow g1) _ fun u2 H2 S2 g2 r2 => ⟨x0, x1, x2, _, u1, u2, H2, rfl, g2.inn, pyWeb.mono (((Dx.Ex.refl _).trans g1.up).trans g2.up) r0, i1.mono ((Dx.Ex.refl _).trans g2.up) r1, i2.mono (Dx.Ex.refl _) r2, hp, fun _ p ys H' R' g' q1 q2 q3 q4 => k p ys H' R' ((g0.trans (g1.trans g2)).trans g') q1 (Dx.fresh_back (g0.trans (g1.trans g2)).keep q2) q3 q4, fun z => by rw [hb] at z; cases z⟩
theorem evx_wm4 {A1 A2 A3 C0 : Type} {i1 : Py A1} {i2 : Py A2} {i3 : Py A3} {ic : Py C0} {K : PySem.W.Frag} {Γ : Dn.Ctx} {C : Addr} {m : Str} {pre : WebD → A1 → A2 → A3 → Prop} {f : WebD → A1 → A2 → A3 → C0} {x0 : WebD} {x1 : A1} {x2 : A2} {x3 : A3} {t0 t1 t2 t3 : TE} {E1 : XK} (hC : WebC K C) (hm : ∀ (n : Nat) (r : Addr), (webF n r).lookup m = none) (h0 : Evx K t0 Γ x0) (h1 : Evx K t1 Γ x1) (h2 : Evx K t2 Γ x2) (h3 : Evx K t3 Γ x3) (hp : pre x0 x1 x2 x3) : Evx K (tMeth C m (sp4 K pre f) [] E1 t0 (tCons t1 (tCons t2 (tCons t3 tNil)))) Γ (f x0 x1 x2 x3) := fun σ R0 H R e E Q k =>
  h0 σ R0 H R e E _ fun u0 H0 S0 g0 r0 => by
    obtain ⟨a, D, dx, rw, e0, eC, eI, eR⟩ := id r0
    subst e0
    have eD : D = C := web_one eC hC
    subst eD
    refine ⟨a, dx, _, rfl, g0.inn a _ eI, hm _ _, ?_⟩
    exact h1 σ R0 H0 S0 g0.inn (E.grow g0) _ fun u1 H1 S1 g1 r1 => h2 σ R0 H1 S1 g1.inn ((E.grow g0).grow g1) _ fun u2 H2 S2 g2 r2 => h3 σ R0 H2 S2 g2.inn (((E.grow g0).grow g1).grow g2) _ fun u3 H3 S3 g3 r3 => ⟨x0, x1, x2, x3, _, u1, u2, u3, H3, rfl, g3.inn, pyWeb.mono ((((Dx.Ex.refl _).trans g1.up).trans g2.up).trans g3.up) r0, i1.mono (((Dx.Ex.refl _).trans g2.up).trans g3.up) r1, i2.mono ((Dx.Ex.refl _).trans g3.up) r2, i3.mono (Dx.Ex.refl _) r3, hp, fun v H' R' g' r' => k v H' R' ((g0.trans (g1.trans (g2.trans g3))).trans g') r'⟩
theorem evx_wmx4 {A1 A2 A3 C0 : Type} {i1 : Py A1} {i2 : Py A2} {i3 : Py A3} {ic : Py C0} {K : PySem.W.Frag} {Γ : Dn.Ctx} {C : Addr} {m : Str} {pre : WebD → A1 → A2 → A3 → Prop} {bad : WebD → A1 → A2 → A3 → Bool} {cls : Addr} {f : WebD → A1 → A2 → A3 → C0} {x0 : WebD} {x1 : A1} {x2 : A2} {x3 : A3} {t0 t1 t2 t3 : TE} {E1 : XK} (hC : WebC K C) (hm : ∀ (n : Nat) (r : Addr), (webF n r).lookup m = none) (h0 : Evx K t0 Γ x0) (h1 : Evx K t1 Γ x1) (h2 : Evx K t2 Γ x2) (h3 : Evx K t3 Γ x3) (hp : pre x0 x1 x2 x3) (hb : bad x0 x1 x2 x3 = false) : Evx K (tMeth C m (sx4 K pre bad cls f) [] E1 t0 (tCons t1 (tCons t2 (tCons t3 tNil)))) Γ (f x0 x1 x2 x3) := fun σ R0 H R e E Q k =>
  h0 σ R0 H R e E _ fun u0 H0 S0 g0 r0 => by
    obtain ⟨a, D, dx, rw, e0, eC, eI, eR⟩ := id r0
    subst e0
    have eD : D = C := web_one eC hC
    subst eD
    refine ⟨a, dx, _, rfl, g0.inn a _ eI, hm _ _, ?_⟩
    exact h1 σ R0 H0 S0 g0.inn (E.grow g0) _ fun u1 H1 S1 g1 r1 => h2 σ R0 H1 S1 g1.inn ((E.grow g0).grow g1) _ fun u2 H2 S2 g2 r2 => h3 σ R0 H2 S2 g2.inn (((E.grow g0).grow g1).grow g2) _ fun u3 H3 S3 g3 r3 => ⟨x0, x1, x2, x3, _, u1, u2, u3, H3, rfl, g3.inn, pyWeb.mono ((((Dx.Ex.refl _).trans g1.up).trans g2.up).trans g3.up) r0, i1.mono (((Dx.Ex.refl _).trans g2.up).trans g3.up) r1, i2.mono ((Dx.Ex.refl _).trans g3.up) r2, i3.mono (Dx.Ex.refl _) r3, hp, fun _ v H' R' g' r' => k v H' R' ((g0.trans (g1.trans (g2.trans g3))).trans g') r', fun z => by rw [hb] at z; cases z⟩
theorem evz_wm4 {A1 A2 A3 C0 : Type} {i1 : Py A1} {i2 : Py A2} {i3 : Py A3} {ic : Py C0} {W : Wd} {Γ : Dn.Ctx} {C : Addr} {m : Str} {pre : WebD → A1 → A2 → A3 → Prop} {bad : WebD → A1 → A2 → A3 → Bool} {cls : Addr} {f : WebD → A1 → A2 → A3 → C0} {x0 : WebD} {x1 : A1} {x2 : A2} {x3 : A3} {t0 t1 t2 t3 : TE} {E : L2.St → XK} (hC : WebC W.K C) (hm : ∀ (n : Nat) (r : Addr), (webF n r).lookup m = none) (h0 : Evx W.K t0 Γ x0) (h1 : Evx W.K t1 Γ x1) (h2 : Evx W.K t2 Γ x2) (h3 : Evx W.K t3 Γ x3) (hp : pre x0 x1 x2 x3) : Evz W (L2H.tMethH C m (sx4 W.K pre bad cls f) E t0 (tCons t1 (tCons t2 (tCons t3 tNil)))) Γ (bad x0 x1 x2 x3) (f x0 x1 x2 x3) (fun σ R => E σ (.ref cls) none R) := fun σ H R ff gg EE Q k kx =>
  h0 σ W.R0 H R gg.inn EE _ fun u0 H0 S0 g0 r0 => by
    obtain ⟨a, D, dx, rw, e0, eC, eI, eR⟩ := id r0
    subst e0
    have eD : D = C := web_one eC hC
    subst eD
    refine ⟨a, dx, _, rfl, g0.inn a _ eI, hm _ _, ?_⟩
    exact h1 σ W.R0 H0 S0 g0.inn (EE.grow g0) _ fun u1 H1 S1 g1 r1 => h2 σ W.R0 H1 S1 g1.inn ((EE.grow g0).grow g1) _ fun u2 H2 S2 g2 r2 => h3 σ W.R0 H2 S2 g2.inn (((EE.grow g0).grow g1).grow g2) _ fun u3 H3 S3 g3 r3 => ⟨x0, x1, x2, x3, _, u1, u2, u3, H3, rfl, g3.inn, pyWeb.mono ((((Dx.Ex.refl _).trans g1.up).trans g2.up).trans g3.up) r0, i1.mono (((Dx.Ex.refl _).trans g2.up).trans g3.up) r1, i2.mono ((Dx.Ex.refl _).trans g3.up) r2, i3.mono (Dx.Ex.refl _) r3, hp, fun hb v H' R' g' r' => k hb v H' R' ((g0.trans (g1.trans (g2.trans g3))).trans g') r', fun hb H' R' g' => kx hb H' R' ((g0.trans (g1.trans (g2.trans g3))).trans g')⟩
theorem evz_wml4 {A1 A2 A3 C0 : Type} {i1 : Py A1} {i2 : Py A2} {i3 : Py A3} {ic : Py C0} {W : Wd} {Γ : Dn.Ctx} {C : Addr} {m : Str} {pre : WebD → A1 → A2 → A3 → Prop} {bad : WebD → A1 → A2 → A3 → Bool} {cls : Addr} {f : WebD → A1 → A2 → A3 → List C0} {x0 : WebD} {x1 : A1} {x2 : A2} {x3 : A3} {t0 t1 t2 t3 : TE} {E : L2.St → XK} (hC : WebC W.K C) (hm : ∀ (n : Nat) (r : Addr), (webF n r).lookup m = none) (h0 : Evx W.K t0 Γ x0) (h1 : Evx W.K t1 Γ x1) (h2 : Evx W.K t2 Γ x2) (h3 : Evx W.K t3 Γ x3) (hp : pre x0 x1 x2 x3) : Evz W (L2H.tMethH C m (sxl4 W.K pre bad cls f) E t0 (tCons t1 (tCons t2 (tCons t3 tNil)))) Γ (bad x0 x1 x2 x3) (f x0 x1 x2 x3) (fun σ R => E σ (.ref cls) none R) := fun σ H R ff gg EE Q k kx =>
  h0 σ W.R0 H R gg.inn EE _ fun u0 H0 S0 g0 r0 => by
    obtain ⟨a, D, dx, rw, e0, eC, eI, eR⟩ := id r0
    subst e0
    have eD : D = C := web_one eC hC
    subst eD
    refine ⟨a, dx, _, rfl, g0.inn a _ eI, hm _ _, ?_⟩
    exact h1 σ W.R0 H0 S0 g0.inn (EE.grow g0) _ fun u1 H1 S1 g1 r1 => h2 σ W.R0 H1 S1 g1.inn ((EE.grow g0).grow g1) _ fun u2 H2 S2 g2 r2 => h3 σ W.R0 H2 S2 g2.inn (((EE.grow g0).grow g1).grow g2) _ fun u3 H3 S3 g3 r3 => ⟨x0, x1, x2, x3, _, u1, u2, u3, H3, rfl, g3.inn, pyWeb.mono ((((Dx.Ex.refl _).trans g1.up).trans g2.up).trans g3.up) r0, i1.mono (((Dx.Ex.refl _).trans g2.up).trans g3.up) r1, i2.mono ((Dx.Ex.refl _).trans g3.up) r2, i3.mono (Dx.Ex.refl _) r3, hp, fun hb p ys H' R' g' q1 q2 q3 q4 => own_res (fun v H9 R9 g9 r9 => k hb v H9 R9 ((g0.trans (g1.trans (g2.trans g3))).trans g9) r9) g' q1 q2 q3 q4, fun hb H' R' g' => kx hb H' R' ((g0.trans (g1.trans (g2.trans g3))).trans g')⟩
theorem evl_wm4 {A1 A2 A3 C0 : Type} {i1 : Py A1} {i2 : Py A2} {i3 : Py A3} {ic : Py C0} {K : PySem.W.Frag} {Γ : Dn.Ctx} {C : Addr} {m : Str} {pre : WebD → A1 → A2 → A3 → Prop} {f : WebD → A1 → A2 → A3 → List C0} {x0 : WebD} {x1 : A1} {x2 : A2} {x3 : A3} {t0 t1 t2 t3 : TE} {E1 : XK} (hC : WebC K C) (hm : ∀ (n : Nat) (r : Addr), (webF n r).lookup m = none) (h0 : Evx K t0 Γ x0) (h1 : Evx K t1 Γ x1) (h2 : Evx K t2 Γ x2) (h3 : Evx K t3 Γ x3) (hp : pre x0 x1 x2 x3) : Dn.Evl K (tMeth C m (sl4 K pre f) [] E1 t0 (tCons t1 (tCons t2 (tCons t3 tNil)))) Γ (f x0 x1 x2 x3) := fun σ R0 H R e EE Q k =>
  h0 σ R0 H R e EE _ fun u0 H0 S0 g0 r0 => by
    obtain ⟨a, D, dx, rw, e0, eC, eI, eR⟩ := id r0
    subst e0
    have eD : D = C := web_one eC hC
    subst eD
    refine ⟨a, dx, _, rfl, g0.inn a _ eI, hm _ _, ?_⟩
    exact h1 σ R0 H0 S0 g0.inn (EE.grow g0) _ fun u1 H1 S1 g1 r1 => h2 σ R0 H1 S1 g1.inn ((EE.grow g0).grow g1) _ fun u2 H2 S2 g2 r2 => h3 σ R0 H2 S2 g2.inn (((EE.grow g0).grow g1).grow g2) _ fun u3 H3 S3 g3 r3 => ⟨x0, x1, x2, x3, _, u1, u2, u3, H3, rfl, g3.inn, pyWeb.mono ((((Dx.Ex.refl _).trans g1.up).trans g2.up).trans g3.up) r0, i1.mono (((Dx.Ex.refl _).trans g2.up).trans g3.up) r1, i2.mono ((Dx.Ex.refl _).trans g3.up) r2, i3.mono (Dx.Ex.refl _) r3, hp, fun p ys H' R' g' q1 q2 q3 q4 => k p ys H' R' ((g0.trans (g1.trans (g2.trans g3))).trans g') q1 (Dx.fresh_back (g0.trans (g1.trans (g2.trans g3))).keep q2) q3 q4⟩
theorem evl_wmx4 {A1 A2 A3 C0 : Type} {i1 : Py A1} {i2 : Py A2} {i3 : Py A3} {ic : Py C0} {K : PySem.W.Frag} {Γ : Dn.Ctx} {C : Addr} {m : Str} {pre : WebD → A1 → A2 → A3 → Prop} {bad : WebD → A1 → A2 → A3 → Bool} {cls : Addr} {f : WebD → A1 → A2 → A3 → List C0} {x0 : WebD} {x1 : A1} {x2 : A2} {x3 : A3} {t0 t1 t2 t3 : TE} {E1 : XK} (hC : WebC K C) (hm : ∀ (n : Nat) (r : Addr), (webF n r).lookup m = none) (h0 : Evx K t0 Γ x0) (h1 : Evx K t1 Γ x1) (h2 : Evx K t2 Γ x2) (h3 : Evx K t3 Γ x3) (hp : pre x0 x1 x2 x3) (hb : bad x0 x1 x2 x3 = false) : Dn.Evl K (tMeth C m (sxl4 K pre bad cls f) [] E1 t0 (tCons t1 (tCons t2 (tCons t3 tNil)))) Γ (f x0 x1 x2 x3) := fun σ R0 H R e EE Q k =>
  h0 σ R0 H R e EE _ fun u0 H0 S0 g0 r0 => by
    obtain ⟨a, D, dx, rw, e0, eC, eI, eR⟩ := id r0
    subst e0
    have eD : D = C := web_one eC hC
    subst eD
    refine ⟨a, dx, _, rfl, g0.inn a _ eI, hm _ _, ?_⟩
    exact h1 σ R0 H0 S0 g0.inn (EE.grow g0) _ fun u1 H1 S1 g1 r1 => h2 σ R0 H1 S1 g1.inn ((EE.grow g0).grow g1) _ fun u2 H2 S2 g2 r2 => h3 σ R0 H2 S2 g2.inn (((EE.grow g0).grow g1).grow g2) _ fun u3 H3 S3 g3 r3 => ⟨x0, x1, x2, x3, _, u1, u2, u3, H3, rfl, g3.inn, pyWeb.mono ((((Dx.Ex.refl _).trans g1.up).trans g2.up).trans g3.up) r0, i1.mono (((Dx.Ex.refl _).trans g2.up).trans g3.up) r1, i2.mono ((Dx.Ex.refl _).trans g3.up) r2, i3.mono (Dx.Ex.refl _) r3, hp, fun _ p ys H' R' g' q1 q2 q3 q4 => k p ys H' R' ((g0.trans (g1.trans (g2.trans g3))).trans g') q1 (Dx.fresh_back (g0.trans (g1.trans (g2.trans g3))).keep q2) q3 q4, fun z => by rw [hb] at z; cases z⟩
end Gn

/-! Gn: a web that is made, asked. -/
namespace Gn
open PySem PySem.Spec PyProof.Rows L2 Dn
open Dx (Ex)
structure WebK (K : PySem.W.Frag) (C : Addr) : Prop where
  c : WebC K C
  cls : Cls K C
  nm : NoAttr K C "many"
  nr : NoAttr K C "_rows"
def WebOk (p : WebD) : Prop := p.n ≤ 60 ∧ p.rows.length = p.n ∧ ∀ r ∈ p.rows, r.length ≤ 60
def noPt (p : WebD) (a : Int) : Bool := !(decide (0 ≤ a) && decide (a < (p.n : Int)))
theorem noPt_no {p : WebD} {a : Int} (h : noPt p a = false) : 0 ≤ a ∧ a < (p.n : Int) := by
  unfold noPt at h
  simpa using h
def pairsUp (p : WebD) : List (Int × Int) := flat2 (fun k => ((gt p.rows (k : Int)).filter fun x => decide ((k : Int) < x)).map fun x => ((k : Int), x)) p.n
theorem gt_len {p : WebD} (h : WebOk p) (k : Int) (hk : 0 ≤ k ∧ k < (p.n : Int)) : (gt p.rows k).length ≤ 60 := by
  have q := gt_get (ip := pyList (α := Int)) (xs := p.rows) (i := k) (by rw [h.2.1]; exact hk)
  exact h.2.2 _ (List.mem_of_getElem? q)
theorem flat2_len {β : Type} {row : Nat → List β} {m : Nat} : ∀ {i : Nat}, (∀ k, k < i → (row k).length ≤ m) → (flat2 row i).length ≤ i * m
  | 0, _ => by simp [flat2]
  | i + 1, h => by
    rw [flat2_succ, List.length_append]
    have h1 := flat2_len (row := row) (m := m) (i := i) fun k hk => h k (by omega)
    have h2 := h i (by omega)
    rw [Nat.succ_mul]
    omega
theorem webOk_nbrs {n : Nat} (hn : n ≤ 60) (ts : List (Int × Int)) : WebOk ⟨n, nbrs n ts⟩ := ⟨hn, nbrs_len n ts, fun r hr => by
  unfold nbrs at hr
  obtain ⟨k, _, rfl⟩ := List.mem_map.mp hr
  have := nbr_len n ts (k : Int)
  omega⟩
/-- falling off the end -/
theorem go_none {W : Wd} {Γ : Dn.Ctx} {D : Ends} (hn : ∀ σ R, D.nx σ R = D.rt .non R) (k : RetD W D ()) : Go W tNext D Γ := fun σ H R _ g _ => by
  show D.nx σ R
  rw [hn]
  exact k .non H R g rfl
abbrev PreT (n : Int) (ts : List (Int × Int)) : Prop := (0 ≤ n ∧ n ≤ 60) ∧ TiesOk n ts ∧ ts.length ≤ 4000
/-- what __init__ does to the new instance -/
def spInit (K : PySem.W.Frag) (C : Addr) : Sp := fun vs R Q _ => ∃ (x dx : Addr) (n : Int) (ts : List (Int × Int)) (v : V) (H R0 : Hp), vs = [.ref x, .int n, v] ∧ (pyList (ip := pyPair (α := Int) (β := Int))).rel K ts v H ∧ PreT n ts ∧
  Gr H R0 H R ∧ Ex H R0 ∧ R0 x = none ∧ R x = some (.ins C dx []) ∧ ∀ r H' R', Gr H R0 H' R' → H' x = none → R' x = some (.ins C dx (webF n.toNat r)) → (pyList (ip := pyList (ip := pyInt))).rel K (nbrs n.toNat ts) (.ref r) (newp R0 H') → Q .non R'
theorem evf_mkWeb {K : PySem.W.Frag} {Γ : Dn.Ctx} {C : Addr} {t0 t1 : TE} {E : XK} {n : Int} {ts : List (Int × Int)} (hC : WebC K C) (h0 : Evx K t0 Γ n) (h1 : Evx K t1 Γ ts) (hp : PreT n ts) :
    Evf K (tMake C (spInit K C) [] E (tCons t0 (tCons t1 tNil))) Γ (⟨n.toNat, nbrs n.toNat ts⟩ : WebD) := fun σ R0 H R e EE Q k =>
  h0 σ R0 H R e EE _ fun u0 H0 S0 g0 r0 => h1 σ R0 H0 S0 g0.inn (EE.grow g0) _ fun u1 H1 S1 g1 r1 x dx hx hdx ne => by
    have r0' : u0 = .int n := r0
    subst r0'
    have ga := Gr.alloc (o := HO.own x) g1.inn hdx
    have hx2 : upd S1 dx (.own x) x = none := by rw [upd_ne ne.symm]; exact hx
    have gb := Gr.alloc (o := HO.ins C dx []) ga.inn hx2
    refine ⟨x, dx, n, ts, u1, H1, S1, rfl, r1, hp, ga.trans gb, g1.inn, hx, upd_same, fun r H' R' g' q1 q2 q3 => ⟨rfl, ?_⟩⟩
    have gall := (g0.trans g1).trans g'
    have xR : R x = none := Dx.fresh_back (g0.trans g1).keep hx
    refine k (.ref x) (upd H' x (.ins C dx (webF n.toNat r))) R' ⟨gall.up.trans (Dx.Ex.new q1), ex_tell gall.inn q2, gall.keep, fun b h1 h2 => ?_⟩ ⟨x, C, dx, r, rfl, hC, newp_get xR upd_same, ?_⟩
    · have nb : b ≠ x := fun z => h2 (by rw [z]; exact xR)
      rw [upd_ne nb]
      exact gall.new b h1 h2
    · exact (pyList (ip := pyList (ip := pyInt))).mono ((newp_old (g0.trans g1).keep).trans (newp_up (Dx.Ex.new q1))) q3
end Gn

/-! Dn: texts. -/
namespace Dn
open PySem PySem.Spec PyProof.Rows L2 Dx
section
variable {K : PySem.W.Frag} {Γ : Ctx} {te tb to : TE}
theorem small_sz {n : Nat} (h : n ≤ 100000) : n ≤ sizeLine := by
  rw [sizeLine_eq]
  omega
theorem evx_lenS {z : Str} (h : Evx K te Γ z) (hz : z.length ≤ 100000) : Evx K (tCB (fun xs H Q => ∃ z : Str, xs = [.str z] ∧ z.length ≤ sizeLine ∧ Q (.int z.length) H) (tCons te tNil)) Γ ((z.length : Nat) : Int) := fun σ R0 H R e E Q k =>
  h σ R0 H R e E _ fun v H1 R1 g1 r1 => ⟨z, by rw [show v = .str z from r1], small_sz hz, k _ H1 R1 g1 rfl⟩
theorem evx_strI {i : Int} (h : Evx K te Γ i) (hi : i.natAbs.log2 < 1920) : Evx K (tCB (fun xs H Q => ∃ i : Int, xs = [.int i] ∧ i.natAbs.log2 < 1920 ∧ Q (.str (toString i)) H) (tCons te tNil)) Γ (Str.ofString (toString i)) := fun σ R0 H R e E Q k =>
  h σ R0 H R e E _ fun v H1 R1 g1 r1 => ⟨i, by rw [show v = .int i from r1], hi, k _ H1 R1 g1 rfl⟩
theorem evx_intS {a : Str} {n : Int} (h : Evx K te Γ a) (hn : PySem.intText? a = some n) (hl : a.length ≤ 640) : Evx K (tCB (fun xs H Q => ∃ a n, xs = [.str a] ∧ PySem.intText? a = some n ∧ a.length ≤ 640 ∧ Q (.int n) H) (tCons te tNil)) Γ n := fun σ R0 H R e E Q k =>
  h σ R0 H R e E _ fun v H1 R1 g1 r1 => ⟨a, n, by rw [show v = .str a from r1], hn, hl, k _ H1 R1 g1 rfl⟩
theorem rv_ixS {z : Str} {i : Int} {c : Nat} (hz : z.length ≤ 100000) (h : atI z.cps.toList i = some c) : Rv K rIxS z i (⟨#[c]⟩ : Str) := fun u w H R e h1 h2 Q k =>
  ⟨z, i, c, h1, h2, small_sz hz, h, k _ H R (Gr.refl e) rfl⟩
theorem rv_inSign {c : Nat} {z : Str} : Rv K (fun x y H Q => ∃ (c : Nat) (z : Str), x = .str ⟨#[c]⟩ ∧ y = .str z ∧ Q (.bl (decide (c ∈ z.cps.toList))) H) (⟨#[c]⟩ : Str) z (decide (c ∈ z.cps.toList)) := fun u w H R e h1 h2 Q k =>
  ⟨c, z, h1, h2, k _ H R (Gr.refl e) rfl⟩
theorem evx_sliceS {z : Str} {tl th : TO} {lo hi : Option Int} (ha : Evx K te Γ z) (h1 : Evo K tl Γ lo) (h2 : Evo K th Γ hi) (hz : z.length ≤ 100000) : Evx K (tSl rSlS te tl th) Γ (cutS z lo hi) := fun σ R0 H R e E Q k =>
  ha σ R0 H R e E _ fun u H1 R1 g1 r1 => h1 σ R0 H1 R1 g1.inn (E.grow g1) _ fun H2 R2 g2 => h2 σ R0 H2 R2 g2.inn ((E.grow g1).grow g2) _ fun H3 R3 g3 => ⟨z, r1, small_sz hz, k _ H3 R3 ((g1.trans g2).trans g3) rfl⟩
theorem strs_rel {H : Hp} : ∀ (ys : List Str), Paired (fun (x : Str) v => pyStr.rel K x v H) ys (ys.map V.str)
  | [] => .nil
  | y :: ys => .cons rfl (strs_rel ys)
theorem strs_vals {H : Hp} : ∀ {ys : List Str} {vs : List V}, Paired (fun (x : Str) v => pyStr.rel K x v H) ys vs → vs = ys.map V.str
  | _, _, .nil => rfl
  | _, _, .cons h t => by
    have h' : _ = V.str _ := h
    rw [h', strs_vals t]
    rfl
theorem evl_split {a b : Str} (ho : Evx K to Γ a) (he : Evx K te Γ b) (hb : (b.length == 0) = false) (ha : a.length ≤ 99000) :
    Evl K (tM1 (fun x xs H Q => ∃ a b : Str, x = .str a ∧ xs = [.str b] ∧ (b.length == 0) = false ∧ a.length + 2 ≤ sizeLine ∧ rNewStrs (Txt.split a b) H Q) to te) Γ (Txt.split a b) := fun σ R0 H R e E Q k =>
  ho σ R0 H R e E _ fun u H1 R1 g1 r1 => ⟨⟨a, r1⟩, he σ R0 H1 R1 g1.inn (E.grow g1) _ fun w H2 R2 g2 r2 => ⟨a, b, r1, by rw [show w = .str b from r2], hb, small_sz (by omega), fun p hp =>
    have g := g1.trans g2
    k p _ H2 _ (g.trans (Gr.alloc g.inn hp)) (fresh_back g.inn hp) (fresh_back g.keep hp) upd_same (strs_rel _)⟩⟩
theorem evx_join {a : Str} {ys : List Str} (ho : Evx K to Γ a) (he : Evx K te Γ ys) (hl : (ys.map (·.length)).sum + ys.length * a.length ≤ 16777216) :
    Evx K (tM1 (fun x xs H Q => ∃ a p, ∃ ys : List Str, x = .str a ∧ xs = [.ref p] ∧ (SqL K H p (ys.map V.str) ∨ SqT K H p (ys.map V.str)) ∧ (ys.map (·.length)).sum + ys.length * a.length ≤ 16777216 ∧ Q (.str (Txt.join a ys)) H) to te) Γ (Txt.join a ys) := fun σ R0 H R e E Q k =>
  ho σ R0 H R e E _ fun u H1 R1 g1 r1 => ⟨⟨a, r1⟩, he σ R0 H1 R1 g1.inn (E.grow g1) _ fun w H2 R2 g2 r2 => by
    obtain ⟨p, vs, rfl, h1, h2⟩ := r2
    have ev := strs_vals h2
    subst ev
    exact ⟨a, p, ys, r1, rfl, .inl (sq_of (g2.inn p _ h1)), hl, k _ H2 R2 (g1.trans g2) rfl⟩⟩
theorem evx_partition {a b : Str} (ho : Evx K to Γ a) (he : Evx K te Γ b) (hb : (b.length == 0) = false) (ha : a.length ≤ 100000) :
    Evx K (tM1 (fun x xs H Q => ∃ a b : Str, x = .str a ∧ xs = [.str b] ∧ (b.length == 0) = false ∧ a.length ≤ sizeLine ∧
      ∀ p, H p = none → Q (.ref p) (upd H p (.tup [.str (Txt.partition a b).1, .str (Txt.partition a b).2.1, .str (Txt.partition a b).2.2]))) to te) Γ (⟨(Txt.partition a b).1, (Txt.partition a b).2.1, (Txt.partition a b).2.2⟩ : Tri Str Str Str) := fun σ R0 H R e E Q k =>
  ho σ R0 H R e E _ fun u H1 R1 g1 r1 => ⟨⟨a, r1⟩, he σ R0 H1 R1 g1.inn (E.grow g1) _ fun w H2 R2 g2 r2 => ⟨a, b, r1, by rw [show w = .str b from r2], hb, small_sz ha, fun p hp =>
    have g := g1.trans g2
    k (.ref p) (upd H2 p (.tup [.str (Txt.partition a b).1, .str (Txt.partition a b).2.1, .str (Txt.partition a b).2.2])) _ (g.trans (Gr.told g.inn hp)) ⟨p, _, _, _, rfl, .inl (.inl upd_same), rfl, rfl, rfl⟩⟩⟩
theorem evx_isdigit {a : Str} (ho : Evx K to Γ a) : Evx K (tM0 (fun x xs H Q => ∃ a, x = .str a ∧ xs = [] ∧ True ∧ Q (.bl (Txt.isdigit a)) H) to) Γ (Txt.isdigit a) := fun σ R0 H R e E Q k =>
  ho σ R0 H R e E _ fun u H1 R1 g1 r1 => ⟨⟨a, r1⟩, a, r1, rfl, trivial, k _ H1 R1 g1 rfl⟩
theorem evx_isascii {a : Str} (ho : Evx K to Γ a) : Evx K (tM0 (fun x xs H Q => ∃ a, x = .str a ∧ xs = [] ∧ True ∧ Q (.bl (Txt.isascii a)) H) to) Γ (Txt.isascii a) := fun σ R0 H R e E Q k =>
  ho σ R0 H R e E _ fun u H1 R1 g1 r1 => ⟨⟨a, r1⟩, a, r1, rfl, trivial, k _ H1 R1 g1 rfl⟩
end
end Dn

/-! Dn: triples apart; comprehensions over pairs; comprehensions whose items may raise. -/
namespace Dn
open PySem PySem.Spec PyProof.Rows L2 Dx
theorem wipe_setA {τ : L2.St} {vs : List Nat} {j : Nat} {o : Option V} (h : j ∈ vs) : L2.wipe (τ.set j o) vs = L2.wipe τ vs := by
  apply List.ext_getElem?
  intro k
  rw [wipe_get, wipe_get, List.length_set]
  by_cases q : k ∈ vs
  · rw [if_pos q, if_pos q]
  · have n : j ≠ k := fun z => q (z ▸ h)
    rw [if_neg q, if_neg q, List.getElem?_set_ne n]
theorem go_tri {W : Wd} {Γ : Ctx} {D : Ends} {te : TE} {tz : TS} {α β γ : Type} {ip : Py α} {iq : Py β} {ir : Py γ} {x : α} {y : β} {z : γ} {i j k : Nat} (h : Evx W.K te Γ (⟨x, y, z⟩ : Tri α β γ)) (n : Go W tz D (((Γ.set i (.dat ip x)).set j (.dat iq y)).set k (.dat ir z))) :
    Go W (tSeq (tAsg te (gTup W.K 3 (gCons (gName i) (gCons (gName j) (gCons (gName k) gNil))))) tz) D Γ := fun σ H R f g E =>
  h σ W.R0 H R g.inn E _ fun v H1 R1 g1 r1 => by
    obtain ⟨p, u, w, s, rfl, ht, hu, hw, hs⟩ := r1
    exact ⟨p, [u, w, s], rfl, ex_t g1.inn ht, rfl, u, [w, s], rfl, w, [s], rfl, s, [], rfl, rfl, n (((σ.set i (some u)).set j (some w)).set k (some s)) H1 R1 (f.trans g1.up) (g.trans g1) ((((E.grow g1).setDat hu).setDat hw).setDat hs)⟩
section
variable {K : PySem.W.Frag} {Γ : Ctx} {te tl : TE} {α β γ : Type} [ip : Py α] [iq : Py β] [ir : Py γ]
/-- [f(x, y) for x, y in pairs] -/
theorem evl_lcP {xs : List (α × β)} {j k : Nat} {ws : List Nat} (v : α × β → γ) (h : Evx K tl Γ xs) (hn : xs.length ≤ 40000) (hj : j ∈ ws) (hk : k ∈ ws)
    (he : ∀ x ∈ xs, Evx K te (((wipeC Γ ws).set j (.dat ip x.1)).set k (.dat iq x.2)) (v x)) :
    Evl K (tLc (iList K tl) (gTup K 2 (gCons (gName j) (gCons (gName k) gNil))) tYes te ws) Γ (xs.map v) := fun σ R0 H R e E Q kk =>
  h σ R0 H R e E _ fun u H1 R1 g1 r1 => by
    obtain ⟨a, vs, rfl, hl, hx⟩ := r1
    have l1 := paired_len hx
    refine ⟨a, rfl, ⟨vs, sq_of (g1.inn a _ hl)⟩, fun Dl hD => lc_list (K := K) (a := a) (xs := vs) (fun m R' => ∃ H', Lw ir K H1 R1 Dl ((xs.take m).map v) R' H') ⟨H1, lw_start g1.inn hD⟩ (fun m R' _ p => ?_) (fun m y R' hm p => ?_) (fun R' p => ?_)⟩
    · obtain ⟨H', p⟩ := p
      exact sq_of (p.g.inn a _ (p.g.up a _ hl))
    · obtain ⟨H', p⟩ := p
      obtain ⟨x, q1, b, c, d, rfl, qt, qc, qd⟩ := paired_back hx hm
      refine ⟨b, [c, d], rfl, ex_t (p.g.up.trans p.g.inn) qt, rfl, c, [d], rfl, d, [], rfl, rfl, ?_, ?_⟩
      · rw [wipe_setA hk, wipe_set hj]
      · have hlt := (List.getElem?_eq_some_iff.mp q1).1
        refine lw_step (b := true) (x := v x) hD p (by rw [List.length_map, List.length_take]; omega) ((((((E.grow g1).grow p.g).wipe ws).setDat (ip.mono p.g.up qc)).setDat (iq.mono p.g.up qd))) evt_yes (fun _ => he x (List.mem_of_getElem? q1)) _ fun R6 H6 e6 p6 => ⟨H6, ?_⟩
        obtain ⟨_, hx2⟩ := List.getElem?_eq_some_iff.mp q1
        rw [List.take_succ_eq_append_getElem hlt, List.map_append, hx2]
        exact p6
    · obtain ⟨H', p⟩ := p
      rw [← l1, List.take_length] at p
      obtain ⟨zs, q1, q2⟩ := p.l
      exact kk Dl zs H' R' (g1.trans p.g) p.n (fresh_back g1.keep hD) q1 q2
end
/-- an expression that may raise: what is wished then does not ask for the slots -/
def Evy {α : Type} [ip : Py α] (K : PySem.W.Frag) (te : TE) (Γ : Ctx) (b : Bool) (x : α) (X : Hp → Prop) : Prop :=
  ∀ (σ : L2.St) (R0 H R : Hp), Ex H R → Env K R0 H R σ Γ → ∀ Q : VK, (b = false → ∀ v H' R', Gr H R H' R' → ip.rel K x v H' → Q v R') → (b = true → ∀ H' R', Gr H R H' R' → X R') → te σ R Q
section
variable {K : PySem.W.Frag} {Γ : Ctx} {te tl : TE} {α β : Type} [ip : Py α] [iq : Py β]
theorem evy_call2 {A0 A1 C : Type} {i0 : Py A0} {i1 : Py A1} {ic : Py C} {pre : A0 → A1 → Prop} {bad : A0 → A1 → Bool} {cls : Addr} {f : A0 → A1 → C} {x0 : A0} {x1 : A1} {t0 t1 : TE} {E : XK} (h0 : Evx K t0 Γ x0) (h1 : Evx K t1 Γ x1) (hp : pre x0 x1) : Evy K (tCall (sx2 K pre bad cls f) [] E (tCons t0 (tCons t1 tNil))) Γ (bad x0 x1) (f x0 x1) (fun R => E (.ref cls) none R) := fun σ R0 H R e EE Q k kx =>
  h0 σ R0 H R e EE _ fun u0 H0 S0 g0 r0 => h1 σ R0 H0 S0 g0.inn (EE.grow g0) _ fun u1 H1 S1 g1 r1 =>
  ⟨x0, x1, u0, u1, H1, rfl, g1.inn, i0.mono g1.up r0, r1, hp, fun hb v H' R' g' r' => k hb v H' R' ((g0.trans g1).trans g') r', fun hb H' R' g' => kx hb H' R' ((g0.trans g1).trans g')⟩
/-- [f(x) for x in xs], f(x) may raise -/
theorem evy_lc {xs : List α} {j : Nat} {ws : List Nat} {X : Hp → Prop} (bad : α → Bool) (v : α → β) (h : Evx K tl Γ xs) (hn : xs.length ≤ 40000) (hj : j ∈ ws)
    (he : ∀ x ∈ xs, Evy K te ((wipeC Γ ws).set j (.dat ip x)) (bad x) (v x) X) : Evy K (tLc (iList K tl) (gName j) tYes te ws) Γ (xs.any bad) (xs.map v) X := fun σ R0 H R e E Q kk kx =>
  h σ R0 H R e E _ fun u H1 R1 g1 r1 => by
    obtain ⟨a, vs, rfl, hl, hx⟩ := r1
    have l1 := paired_len hx
    refine ⟨a, rfl, ⟨vs, sq_of (g1.inn a _ hl)⟩, fun Dl hD => lc_list (K := K) (a := a) (xs := vs) (fun m R' => (xs.take m).any bad = false ∧ ∃ H', Lw iq K H1 R1 Dl ((xs.take m).map v) R' H') ⟨by simp, H1, lw_start g1.inn hD⟩ (fun m R' _ p => ?_) (fun m y R' hm p => ?_) (fun R' p => ?_)⟩
    · obtain ⟨_, H', p⟩ := p
      exact sq_of (p.g.inn a _ (p.g.up a _ hl))
    · obtain ⟨hb, H', p⟩ := p
      obtain ⟨x, q1, q2⟩ := paired_back hx hm
      obtain ⟨hlt, hx2⟩ := List.getElem?_eq_some_iff.mp q1
      have hmem := List.mem_of_getElem? q1
      refine ⟨wipe_set hj, ?_⟩
      simp only [tYes, ↓reduceIte]
      obtain ⟨g, nD, zs, z1, z2⟩ := p
      refine he x hmem _ R0 H' R' g.inn ((((E.grow g1).grow g).wipe ws).setDat (ip.mono g.up q2)) _ (fun hf w H4 R4 g4 r4 => ?_) (fun hf H4 R4 g4 => ?_)
      · have n4 : H4 Dl = none := g4.new Dl nD (by rw [z1]; intro z; cases z)
        have hlen := paired_len z2
        refine ⟨zs, g4.keep Dl _ z1, sz_lt (by rw [← hlen, List.length_map, List.length_take]; omega), ?_, H4, (g.trans g4).mut n4 hD, n4, zs ++ [w], upd_same, ?_⟩
        · rw [List.take_succ_eq_append_getElem hlt, List.any_append, hb, hx2]
          simpa using hf
        · rw [List.take_succ_eq_append_getElem hlt, List.map_append, hx2]
          exact paired_app (paired_mono g4.up z2) (.cons r4 .nil)
      · exact kx (List.any_eq_true.mpr ⟨x, hmem, hf⟩) H4 R4 (g1.trans (g.trans g4))
    · obtain ⟨hb, H', p⟩ := p
      rw [← l1, List.take_length] at p hb
      obtain ⟨zs, q1, q2⟩ := p.l
      refine kk hb (.ref Dl) (upd H' Dl (.lst zs)) R' ?_ ⟨Dl, zs, rfl, upd_same, paired_mono (Ex.new p.n) q2⟩
      have R1D : R Dl = none := fresh_back g1.keep hD
      refine ⟨(g1.up.trans p.g.up).trans (Ex.new p.n), ex_tell p.g.inn q1, g1.keep.trans p.g.keep, fun b w1 w2 => ?_⟩
      have nb : b ≠ Dl := fun z => w2 (by rw [z]; exact R1D)
      rw [upd_ne nb]
      exact (g1.trans p.g).new b w1 w2
end
theorem evz_callf2y {A0 A1 C : Type} {i0 : Py A0} {i1 : Py A1} {ic : Py C} {W : Wd} {Γ : Ctx} {pre : A0 → A1 → Prop} {bad : A0 → A1 → Bool} {cls : Addr} {f : A0 → A1 → C} {x0 : A0} {x1 : A1} {t0 t1 : TE} {E : L2.St → XK} {b : Bool} {X : Hp → Prop} (h0 : Evx W.K t0 Γ x0) (h1 : Evy W.K t1 Γ b x1 X) (hp : b = false → pre x0 x1 ∧ bad x0 x1 = false) :
    Evz W (tCallS (sxf2 W.K pre bad cls f) E (tCons t0 (tCons t1 tNil))) Γ b (f x0 x1) (fun _ R => X R) := fun σ H R ff gg EE Q k kx =>
  h0 σ W.R0 H R gg.inn EE _ fun u0 H0 S0 g0 r0 => h1 σ W.R0 H0 S0 g0.inn (EE.grow g0) _ (fun hb u1 H1 S1 g1 r1 =>
    ⟨x0, x1, u0, u1, H1, rfl, g1.inn, i0.mono g1.up r0, r1, (hp hb).1, fun _ v H' R' g' r' => k hb v H' R' ((g0.trans g1).trans g') (ic.mono newp_le r'), fun z => by rw [(hp hb).2] at z; cases z⟩) fun hb H' R' g' => kx hb H' R' (g0.trans g')
theorem str_len_app (a b : Str) : (a ++ b).length = a.length + b.length := by
  rw [TL.len_tl, TL.tl_append, List.length_append, ← TL.len_tl, ← TL.len_tl]
theorem fold_len : ∀ (ss : List Str) (acc : Str) (m : Nat), ((ss.take m).foldl (· ++ ·) acc).length ≤ acc.length + (ss.map (·.length)).sum
  | [], acc, m => by simp
  | s :: ss, acc, 0 => by simp
  | s :: ss, acc, m + 1 => by
    show ((ss.take m).foldl (· ++ ·) (acc ++ s)).length ≤ acc.length + (s.length + (ss.map (·.length)).sum)
    have h := fold_len ss (acc ++ s) m
    rw [str_len_app] at h
    omega
theorem log_small {i : Int} (h : 0 ≤ i ∧ i < 1000) : i.natAbs.log2 < 1920 := by
  have := Nat.log2_le_self i.natAbs
  omega
end Dn

/-! Dn: a walk over a text's signs; signs not in a text. -/
namespace Dn
open PySem PySem.Spec PyProof.Rows L2 Dx
/-- for c in text -/
theorem go_forS {W : Wd} {Γ : Ctx} {D : Ends} {tu tz : TS} {tl : TE} {z : Str} {j : Nat} (h : Evx W.K tl Γ z) (Γs : Nat → Ctx) (h0 : LeC Γ (Γs 0))
    (hs : ∀ (i c : Nat) (F : Hp), z.cps[i]? = some c → Ex W.F F → Go (W.fl F) tu { D with nx := At (W.fl F) (Γs (i + 1)), ct := At (W.fl F) (Γs (i + 1)), bk := tz D } ((Γs i).set j (.dat pyStr ⟨#[c]⟩)))
    (hd : Go W tz D (Γs z.cps.size)) : Go W (tSeq (tFor (iStr tl) (gName j) tu) tz) D Γ := fun σ H R f g E =>
  h σ W.R0 H R g.inn E _ fun v H1 R1 g1 r1 => by
    refine ⟨z, r1, fun i m σ' R' => m = z.cps.size - i ∧ i ≤ z.cps.size ∧ At (W.fl H1) (Γs i) σ' R', ⟨z.cps.size, by simp, Nat.zero_le _, H1, Ex.refl H1, g.trans g1, (E.grow g1).le h0⟩, ?_⟩
    rintro i m σ' R' ⟨rfl, hi, p⟩
    by_cases hlt : i < z.cps.size
    · refine .inr ⟨hlt, At (W.fl H1) (Γs (i + 1)), fun σ2 R2 p2 => ⟨z.cps.size - (i + 1), by omega, rfl, hlt, p2⟩, fun x R2 y => ?_⟩
      obtain ⟨e, c, hc, rfl⟩ := y
      subst e
      obtain ⟨H2, e2, g2, E2⟩ := p
      exact hs i c H1 hc (f.trans g1.up) (σ'.set j (some (.str ⟨#[c]⟩))) H2 R2 e2 g2 (E2.setDat rfl)
    · have e : i = z.cps.size := by omega
      subst e
      obtain ⟨H2, e2, g2, E2⟩ := p
      exact .inl ⟨Nat.le_refl _, hd σ' H2 R' ((f.trans g1.up).trans e2) g2 E2⟩
theorem rv_notInSign {K : PySem.W.Frag} {c : Nat} {z : Str} : Rv K (fun x y H Q => ∃ (c : Nat) (z : Str), x = .str ⟨#[c]⟩ ∧ y = .str z ∧ Q (.bl (!decide (c ∈ z.cps.toList))) H) (⟨#[c]⟩ : Str) z (!decide (c ∈ z.cps.toList)) := fun u w H R e h1 h2 Q k =>
  ⟨c, z, h1, h2, k _ H R (Gr.refl e) rfl⟩
section
variable {W : Wd} {Γ : Ctx} {D : Ends} {tu tz : TS} {tl : TE} {j : Nat}
/-- for c in text, with something known -/
theorem go_forSI {z : Str} (h : Evx W.K tl Γ z) (Γs : Nat → Ctx) (I : Nat → Prop) (i0 : I 0) (h0 : LeC Γ (Γs 0))
    (hs : ∀ (i c : Nat) (F : Hp), z.cps[i]? = some c → I i → Ex W.F F → Go (W.fl F) tu { D with nx := AtI (W.fl F) (I (i + 1)) (Γs (i + 1)), ct := AtI (W.fl F) (I (i + 1)) (Γs (i + 1)), bk := tz D } ((Γs i).set j (.dat pyStr ⟨#[c]⟩)))
    (hd : I z.cps.size → Go W tz D (Γs z.cps.size)) : Go W (tSeq (tFor (iStr tl) (gName j) tu) tz) D Γ := fun σ H R f g E =>
  h σ W.R0 H R g.inn E _ fun v H1 R1 g1 r1 => by
    refine ⟨z, r1, fun i m σ' R' => m = z.cps.size - i ∧ i ≤ z.cps.size ∧ AtI (W.fl H1) (I i) (Γs i) σ' R', ⟨z.cps.size, by simp, Nat.zero_le _, i0, H1, Ex.refl H1, g.trans g1, (E.grow g1).le h0⟩, ?_⟩
    rintro i m σ' R' ⟨rfl, hi, hI, p⟩
    by_cases hlt : i < z.cps.size
    · refine .inr ⟨hlt, AtI (W.fl H1) (I (i + 1)) (Γs (i + 1)), fun σ2 R2 p2 => ⟨z.cps.size - (i + 1), by omega, rfl, hlt, p2⟩, fun x R2 y => ?_⟩
      obtain ⟨e, c, hc, rfl⟩ := y
      subst e
      obtain ⟨H2, e2, g2, E2⟩ := p
      exact hs i c H1 hc hI (f.trans g1.up) (σ'.set j (some (.str ⟨#[c]⟩))) H2 R2 e2 g2 (E2.setDat rfl)
    · have e : i = z.cps.size := by omega
      subst e
      obtain ⟨H2, e2, g2, E2⟩ := p
      exact .inl ⟨Nat.le_refl _, hd hI σ' H2 R' ((f.trans g1.up).trans e2) g2 E2⟩
end
theorem nx_toI {W : Wd} {Γ Δ : Ctx} {p : Prop} (hp : p) (l : LeC Γ Δ) : Nx W (AtI W p Δ) Γ := fun σ H R f g E => ⟨hp, H, f, g, E.le l⟩
end Dn

/-! Dn: None or not; clauses without a name; a walk over three. -/
namespace Dn
open PySem PySem.Spec PyProof.Rows L2 Dx
/-- data that is never None -/
class NN (α : Type) [ip : Py α] : Prop where
  ne : ∀ {K : PySem.W.Frag} {x : α} {v : V} {H : Hp}, ip.rel K x v H → v ≠ .non
instance nnInt : NN Int := ⟨fun h z => by
  have h : _ = V.int _ := h
  rw [h] at z
  cases z⟩
instance nnBool : NN Bool := ⟨fun h z => by
  have h : _ = V.bl _ := h
  rw [h] at z
  cases z⟩
instance nnList {α : Type} [ip : Py α] : NN (List α) := ⟨fun h z => by
  obtain ⟨a, vs, h, _⟩ := h
  rw [h] at z
  cases z⟩
instance nnPair {α β : Type} [ip : Py α] [iq : Py β] : NN (α × β) := ⟨fun h z => by
  obtain ⟨a, u, w, h, _⟩ := h
  rw [h] at z
  cases z⟩
instance nnTri {α β γ : Type} [ip : Py α] [iq : Py β] [ir : Py γ] : NN (Tri α β γ) := ⟨fun h z => by
  obtain ⟨p, u, w, y, h, _⟩ := h
  rw [h] at z
  cases z⟩
abbrev rNone : R2 := fun x y H Q => y = .non ∧ Q (.bl (decide (x = .non))) H
abbrev rSome : R2 := fun x y H Q => y = .non ∧ Q (.bl (!decide (x = .non))) H
section
variable {K : PySem.W.Frag} {α : Type} {ip : Py α}
theorem rv_isN {o : Option α} {nn : NN α} : Rv K rNone o () o.isNone := fun u w H R e h1 h2 Q k => by
  refine ⟨h2, k _ H R (Gr.refl e) ?_⟩
  cases o with
  | none =>
    have h1 : u = .non := h1
    subst h1
    exact congrArg V.bl (decide_eq_true rfl)
  | some x => exact congrArg V.bl (decide_eq_false (nn.ne h1))
theorem rv_notN {o : Option α} {nn : NN α} : Rv K rSome o () o.isSome := fun u w H R e h1 h2 Q k => by
  refine ⟨h2, k _ H R (Gr.refl e) ?_⟩
  cases o with
  | none =>
    have h1 : u = .non := h1
    subst h1
    exact congrArg V.bl (congrArg Bool.not (decide_eq_true rfl))
  | some x => exact congrArg V.bl (congrArg Bool.not (decide_eq_false (nn.ne h1)))
theorem evx_got {Γ : Ctx} {te : TE} {x : α} (h : Evx K te Γ (some x)) : Evx K te Γ x := h
end
section
variable {W : Wd} {Γ : Ctx} {D : Ends} {Wout : WX} {c : Value} {ts : Addr → Value → Option Addr → TS} {r : List (Value × (Addr → Value → Option Addr → TS))} {cls : Addr}
theorem nx_many (he : PySem.W.exmOne W.K (.ref cls) c = some true) (h : ∀ a, Go W (ts a (.ref cls) none) D Γ) : Nx W (fun σ R => WE (wMany W.K Wout D ((c, ts) :: r)) σ (.ref cls) none R) Γ := fun σ H R f g E =>
  ⟨true, he, fun _ a _ => h a σ H R f g E, fun z => by cases z⟩
theorem nx_many2 (he : PySem.W.exmOne W.K (.ref cls) c = some false) (h : Nx W (fun σ R => WE (wMany W.K Wout D r) σ (.ref cls) none R) Γ) : Nx W (fun σ R => WE (wMany W.K Wout D ((c, ts) :: r)) σ (.ref cls) none R) Γ := fun σ H R f g E =>
  ⟨false, he, (fun z => by cases z), fun _ => h σ H R f g E⟩
end
section
variable {W : Wd} {Γ : Ctx} {D : Ends} {tu tz : TS} {tl : TE} {j : Nat} {α : Type} {ip : Py α}
/-- for x in (a, b, c) -/
theorem go_forT3 {x y z : α} (h : Evx W.K tl Γ (⟨x, y, z⟩ : Tri α α α)) (Γs : Nat → Ctx) (h0 : LeC Γ (Γs 0))
    (hs : ∀ (i : Nat) (e : α) (F : Hp), [x, y, z][i]? = some e → Ex W.F F → Go (W.fl F) tu { D with nx := At (W.fl F) (Γs (i + 1)), ct := At (W.fl F) (Γs (i + 1)), bk := tz D } ((Γs i).set j (.dat ip e)))
    (hd : Go W tz D (Γs 3)) : Go W (tSeq (tFor (iTup W.K tl) (gName j) tu) tz) D Γ := fun σ H R f g E =>
  h σ W.R0 H R g.inn E _ fun v H1 R1 g1 r1 => by
    obtain ⟨a, u1, u2, u3, rfl, hl, q1, q2, q3⟩ := r1
    have hx : Paired (fun e v => ip.rel W.K e v H1) [x, y, z] [u1, u2, u3] := .cons q1 (.cons q2 (.cons q3 .nil))
    refine ⟨a, rfl, ⟨[u1, u2, u3], ex_t g1.inn hl⟩, for_tup (K := W.K) (a := a) (xs := [u1, u2, u3]) (fun i => At (W.fl H1) (Γs i)) ⟨H1, Ex.refl H1, g.trans g1, (E.grow g1).le h0⟩ (fun i σ' R' _ p => ?_) (fun i e σ' R' hi p => ?_) (fun σ' R' p => ?_)⟩
    · obtain ⟨H2, e2, g2, E2⟩ := p
      exact ex_t (e2.trans g2.inn) hl
    · obtain ⟨H2, e2, g2, E2⟩ := p
      obtain ⟨x', q1, q2⟩ := paired_back hx hi
      exact hs i x' H1 q1 (f.trans g1.up) (σ'.set j (some e)) H2 R' e2 g2 (E2.setDat (ip.mono e2 q2))
    · obtain ⟨H2, e2, g2, E2⟩ := p
      exact hd σ' H2 R' ((f.trans g1.up).trans e2) g2 E2
end
theorem takes_never {X : Cx} : L2N.Takes X (fun _ _ _ _ => False) := fun _ _ h => by
  obtain ⟨_, _, _, _, _, _, _, _, _, _, _, _, _, _, _, _, w⟩ := h
  exact w.elim
end Dn

/-! DnQ: all(..), any(..) of a generator expression over a list of whole numbers, whose element is quiet. -/
namespace DnQ
open PySem PySem.Spec PyProof.Rows L2 GxR
/-- the element's test, wherever all of h but the table at P stands -/
def EltI (prog : Program) (w : World) (ce : Env) (x : Str) (elt : Expr) (P : Addr) (h : Heap) (pb : Int → Bool) : Prop :=
  ∀ (A' : Around) (E' : Value → Shared → Prop) (k : Int) (t : Tok) (z : Shared) (m : Str → Option Value), z.heap.Ns ce.locals m → m x = some (.int k t) → (∀ b o, b ≠ P → h.get? b = some o → z.heap.get? b = some o) →
    wpAny (model prog w) A' (eval elt ce) (fun y z' => y = .bool (pb k) ∧ Keeps z z') E' z
/-- the test at place j -/
def trI (pb : Int → Bool) (l : List Int) (j : Nat) : Bool := match l[j]? with
  | some b => pb b
  | none => false
theorem trI_some {pb : Int → Bool} {l : List Int} {j : Nat} {b : Int} (h : l[j]? = some b) : trI pb l j = pb b := by
  unfold trI
  rw [h]
theorem all_trI (l : List Int) (pb : Int → Bool) : (List.range l.length).all (trI pb l) = l.all pb := by
  rw [Bool.eq_iff_iff, List.all_eq_true, List.all_eq_true]
  refine ⟨fun h b hb => ?_, fun h j hj => ?_⟩
  · obtain ⟨j, hj, e⟩ := List.getElem_of_mem hb
    have q := h j (List.mem_range.mpr hj)
    rw [trI_some (List.getElem?_eq_getElem hj), e] at q
    exact q
  · have hj := List.mem_range.mp hj
    rw [trI_some (List.getElem?_eq_getElem hj)]
    exact h _ (List.getElem_mem hj)
theorem any_trI (l : List Int) (pb : Int → Bool) : (List.range l.length).any (trI pb l) = l.any pb := by
  rw [Bool.eq_iff_iff, List.any_eq_true, List.any_eq_true]
  refine ⟨fun ⟨j, hj, h⟩ => ?_, fun ⟨b, hb, h⟩ => ?_⟩
  · have hj := List.mem_range.mp hj
    rw [trI_some (List.getElem?_eq_getElem hj)] at h
    exact ⟨_, List.getElem_mem hj, h⟩
  · obtain ⟨j, hj, e⟩ := List.getElem_of_mem hb
    refine ⟨j, List.mem_range.mpr hj, ?_⟩
    rw [trI_some (List.getElem?_eq_getElem hj), e]
    exact h
section
variable {X : Cx} {pins : List (Addr × Obj)} {σ : L2.St} {H : Hp} {s : Shared}
/-- the generator g over the numbers ns, ready to be walked in the state z -/
def ReadyI (X : Cx) (pins : List (Addr × Obj)) (σ : L2.St) (H1 : Hp) (P : Addr) (ps : Array Value) (ns : List Int) (pb : Int → Bool) (g : Addr) (z : Shared) : Prop :=
  ∃ (fp wr : List Addr) (G : Array GenState → Array GenState → Prop) (F : Nat → Value → Prop) (St : Nat → Shared → Prop),
    WalksS X.prog X.w X.A.in1 g fp wr G ns.length F St ∧ St 0 z ∧ TruthOf X.prog X.w X.A.in1 F (trI pb ns) ∧
    ∀ z', Moved wr G z z' → ∃ more : Array Value, TriplesOk (ps ++ more).toList ∧ Inv X pins σ (upd H1 P (.tbl (ps ++ more))) z'
theorem gen_ints {c P : Addr} {elt iter : Expr} {x : Str} {px gpos : Pos} {scope : Scope} {te : TE} {k : Nat} {el : L2.St → Hp → (Int → Bool) → Prop} {Q' : Value → Shared → Prop} {R : List Int → (Int → Bool) → Array Value → Hp → Prop}
    (hr : Room k X.A) (TB : TabB X.base X.mg c P) (hcode : X.env.code = .ref c) (S : GenS X.env scope x) (hi : PE X iter te)
    (hel : ∀ (H1 : Hp) (s1 : Shared) (ps : Array Value) (pb : Int → Bool), Inv X pins σ H1 s1 → H1 P = some (.tbl ps) → el σ H1 pb → ∀ ce : Env, ce.scope = scope → ce.cells = cloFrom X.env.cells scope.names [] → EltI X.prog X.w ce x elt P s1.heap pb)
    (hs : ∀ v, genFold iter X.env v = pure v) (I : Inv X pins σ H s)
    (h : te σ H fun v H1 => ∃ (l : Addr) (ns : List Int) (pb : Int → Bool) (ps : Array Value), v = .ref l ∧ SqL X.K H1 l (ns.map V.int) ∧ H1 P = some (.tbl ps) ∧ TriplesOk ps.toList ∧ el σ H1 pb ∧ R ns pb ps H1)
    (hQ : ∀ ns pb ps H1 g z, R ns pb ps H1 → ReadyI X pins σ H1 P ps ns pb g z → Q' (.ref g) z) :
    wpAny (model X.prog X.w) X.A (eval (.GeneratorExp elt [⟨.Name x px, iter, [], 0⟩] scope gpos) X.env) Q' X.xe s := by
  refine wpAny_GeneratorExp_walksQ hr.hd S.co (closure_ok S.free) S.cell S.dot S.loc S.kind (by have := hr.dp; omega) ?_ hs
  refine thn (hi.run pins s σ H _ I h) fun xv s1 ⟨v, H1, I1, r1, q1⟩ => ?_
  obtain ⟨l, ns, pb, ps, rfl, hl, hP, ht, hE, q1⟩ := q1
  cases r1
  obtain ⟨its, rv, pl, hz⟩ := I1.list hl
  have hn : its.toArray.size = ns.length := by rw [List.size_toArray, ← rv.length, List.length_map]
  have hints : IntsAre its ns := rv.ints
  refine wpAny_pyIter_list pl.isList ?_
  generalize hob : ({ cls := .type "list_iterator", data := .fields #[.ref l, .int 0 0] } : Obj) = o
  have hPs : s1.heap.get? P = some { cls := .none, data := .fields ps } := I1.hok P _ hP
  have hPlt : P < s1.heap.objs.size := Heap.lt_size hPs
  have hP2 : (s1.heap.push o).get? P = some { cls := .none, data := .fields ps } := Heap.get?_push_of_some _ hPs
  have cd : PySem.W.CodeHd (s1.heap.push o) c P := TB.code.keeps fun b u e => Heap.get?_push_of_some _ (I1.bk b u e)
  have lim2 : (s1.heap.push o).NoLimit := I1.nolimit.push o
  have llt : l < s1.heap.objs.size := by
    obtain ⟨ob, e, _⟩ := pl.isList
    exact Heap.lt_size e
  have lneP : l ≠ P := fun e => by
    obtain ⟨ob, e1, e2, _⟩ := pl.isList
    rw [e, hPs] at e1
    cases e1
    cases e2
  have lneI : l ≠ s1.heap.objs.size := Nat.ne_of_lt llt
  have st0 : ∀ h3 : Heap, (∀ b u, b ≠ P → (s1.heap.push o).get? b = some u → h3.get? b = some u) → h3.IsListIter s1.heap.objs.size l 0 ∧ h3.IsList l its.toArray := fun h3 hk => by
    refine ⟨?_, pl.isList.at fun u e => hk l u lneP (Heap.get?_push_of_some _ e)⟩
    refine ⟨o, hk _ _ (Nat.ne_of_gt hPlt) (Heap.get?_push_size _ (by rw [← hob]; rfl)), ?_⟩
    rw [← hob]
    exact ⟨rfl, rfl⟩
  have cont : ∀ (code : Value) (h3 : Heap) (tk : Nat) (ps' : Array Value), Heap.ExtBut P (s1.heap.push o) h3 → (s1.heap.push o).objs.size ≤ h3.objs.size → h3.get? P = some { cls := .none, data := .fields ps' } → (∃ more, ps' = ps ++ more) → TriplesOk ps'.toList →
      wpAny (model X.prog X.w) X.A (builtinsFor X.env.globals X.env.builtins) (fun bi s₄ =>
        ∃ Ia fp wr n₀ Pf St₀ pz F, Value.ref s1.heap.objs.size = .ref Ia ∧ (∀ A' : Around, A'.handled = none → Walks X.prog X.w A' Ia fp wr n₀ Pf St₀) ∧ St₀ 0 s₄.heap ∧ (∀ b ∈ fp, b < s₄.heap.objs.size) ∧ s₄.heap.NoLimit ∧ cStatics ∉ wr ∧
          (∀ href : Heap, (∀ b o, s₄.heap.get? b = some o → href.get? b = some o) →
            QuietGen X.prog X.w (genEnv scope (cloFrom X.env.cells scope.names []) s₄.heap.objs.size code bi X.env) x [] elt (List.range s₄.heap.objs.size) wr Pf pz F href) ∧
          (∀ a h₅ tk gs, gs.bare = true → s₄.heap.objs.size < a → h₅.objs.size = a + 1 → (∀ b o, s₄.heap.get? b = some o → h₅.get? b = some o) →
            WalksS X.prog X.w X.A.in4 a (a :: s₄.heap.objs.size :: List.range s₄.heap.objs.size) (s₄.heap.objs.size :: wr) (GenOnlyQ s₄.gens.size) (passing pz n₀ 0).length
              (fun j y => ∃ i, (passing pz n₀ 0)[j]? = some i ∧ F i y) (GenAt X.prog X.w X.A.in4 a s₄.gens.size s₄.heap.objs.size (List.range s₄.heap.objs.size) wr pz n₀ F) →
            GenAt X.prog X.w X.A.in4 a s₄.gens.size s₄.heap.objs.size (List.range s₄.heap.objs.size) wr pz n₀ F 0 { s₄ with gens := s₄.gens.push gs, toks := tk, heap := h₅ } →
            Q' (.ref a) { s₄ with gens := s₄.gens.push gs, toks := tk, heap := h₅ })) X.xe { s1 with heap := h3, toks := tk } := by
    intro code h3 tk ps' hx hsz hP3 hmore ht3
    obtain ⟨bm, ob, e1, e2, e3, e4, e5, e6, e7, e8⟩ := TB.bm
    have hcP : cStatics ≠ P := fun e => by
      obtain ⟨_, hns, _⟩ := I1.nolimit
      obtain ⟨o', es, ep, ho, hd, _⟩ := hns
      rw [e, hPs] at ho
      cases ho
      cases hd
    have hcl : cStatics < s1.heap.objs.size := let ⟨_, hns, _⟩ := I1.nolimit; hns.lt
    have sz2 : (s1.heap.push o).objs.size = s1.heap.objs.size + 1 := Heap.size_push ..
    have hsz' : s1.heap.objs.size + 1 ≤ h3.objs.size := by
      rw [← sz2]
      exact hsz
    have keep2 : ∀ b u, b ≠ P → (s1.heap.push o).get? b = some u → h3.get? b = some u := fun b u hb e => hx b u hb e
    have keep3 : ∀ b u, b ≠ P → s1.heap.get? b = some u → h3.get? b = some u := fun b u hb e => keep2 b u hb (Heap.get?_push_of_some _ e)
    refine wpAny_builtinsFor (m := X.mg) (by rw [I1.ok.glob]; exact ((I1.mod.glob.keeps I1.bk).push o).extBut hx TB.gP) e1 e2 (keep3 _ _ e4 (I1.bk _ _ e5)) e6 e7 e8 ?_
    refine ⟨s1.heap.objs.size, [s1.heap.objs.size, l], [s1.heap.objs.size], its.toArray.size, (fun i v => its.toArray[i]? = some v), (fun i h => h.IsListIter s1.heap.objs.size l i ∧ h.IsList l its.toArray), (fun _ => true), (fun i y => ∃ k, ns[i]? = some k ∧ y = .bool (pb k)), rfl, (fun A' hA => Walks.list hA _ l lneI its.toArray), st0 h3 keep2, ?_, lim2.extBut hx hcP, ?_, ?_, ?_⟩
    · intro b hb
      show b < h3.objs.size
      simp only [List.mem_cons, List.not_mem_nil, or_false] at hb
      rcases hb with z | z
      · rw [z]
        exact hsz'
      · rw [z]
        exact Nat.lt_of_lt_of_le (Nat.lt_succ_of_lt llt) hsz'
    · intro z
      rw [List.mem_singleton] at z
      exact Nat.ne_of_lt hcl z
    · intro href hhref
      refine ⟨fun A' E' i v s₂ m₂ hA hPv hn hm hk => ?_, fun A' E' i v s₂ m₂ hA hPv hp hn2 hm hk => ?_⟩
      · simp only [List.forIn_nil]
        exact wpAny_pure ⟨rfl, keeps_refl _⟩
      · have hi2 : i < ns.length := by
          rw [← hn]
          exact (Array.getElem?_eq_some_iff.mp hPv).1
        obtain ⟨t, ev⟩ := PyProof.Rows.IntsAre.int_at hints i v (by simpa using hPv)
        have gi : ns[i]? = some (ns.getD i 0) := by rw [List.getD_eq_getElem?_getD, List.getElem?_eq_getElem hi2] <;> rfl
        refine wpAny_mono (hel H1 s1 ps pb I1 hP hE _ rfl rfl A' E' (ns.getD i 0) t s₂ m₂ hn2 (by rw [hm, ev]) fun b u hb e => ?_) (fun y s3 r => ⟨⟨_, gi, r.1⟩, r.2⟩) fun _ _ e => e
        have lb := Heap.lt_size e
        exact hk b (List.mem_range.mpr (Nat.lt_of_lt_of_le (Nat.lt_succ_of_lt lb) hsz')) (by rw [List.mem_singleton]; exact Nat.ne_of_lt lb) u (hhref b u (keep3 b u hb e))
    · intro g h5 tk5 gs hgb hag hsz5 hk5 W5 hat
      simp only [GxR.passing_true, List.length_range] at W5
      rw [hn] at W5 hat
      refine hQ ns pb ps H1 g _ q1 ⟨_, _, _, _, _, W5.in4_1, hat, ?_, fun s' hm => ?_⟩
      · intro j y sj Qj Ej hy hQj
        obtain ⟨i, hij, cc, hcc, rfl⟩ := hy
        obtain ⟨hj, ej⟩ := List.getElem?_eq_some_iff.mp hij
        rw [List.getElem_range] at ej
        subst ej
        have hQ2 : Qj (trI pb ns j) sj := hQj
        rw [trI_some hcc] at hQ2
        exact wpAny_truthy_bool hQ2
      · obtain ⟨more, em⟩ := hmore
        have nwr : ∀ b u, s1.heap.get? b = some u → b ∉ h3.objs.size :: [s1.heap.objs.size] := fun b u e hb => by
          have lb := Heap.lt_size e
          simp only [List.mem_cons, List.not_mem_nil, or_false] at hb
          rcases hb with z | z
          · rw [z] at lb
            exact Nat.lt_irrefl _ (Nat.lt_of_lt_of_le lb (Nat.le_of_succ_le hsz'))
          · rw [z] at lb
            exact Nat.lt_irrefl _ lb
        have J := inv_tab (more := more) (h' := s'.heap) (g' := s'.gens) (d' := s'.drawn) (t' := s'.toks) I1 hP (fun b u hb e => hm.heap b u (nwr b u e) (hk5 b u (keep3 b u hb e)))
          (by rw [← em]; exact hm.heap P _ (nwr P _ hPs) (hk5 P _ hP3)) (AllBare.movedS (I1.bare.push hgb) hm)
        rw [sh_eta s1 s' hm.os] at J
        exact ⟨more, by rw [← em]; exact ht3, J⟩
  refine ⟨lim2, ?_⟩
  cases hf : codeAmong gpos ps.toList with
  | none =>
    refine wpAny_genexprCodeX hcode (cd.code hP2 ht) (cd.tab hP2) hf fun c' h' tk hx hge hlt hco' _ htab' _ => ?_
    obtain ⟨o1, vs, f1, tf, fl, tg, inF, tx, tt, op, _, _, _, _, _, _, _, _, _, htr, _⟩ := hco'
    exact cont _ h' tk _ hx (Nat.le_trans hge (Nat.le_of_lt hlt)) htab'.2 ⟨_, rfl⟩ htr
  | some cv =>
    refine wpAny_genexprCode_hit hcode (cd.code hP2 ht) hf ?_
    exact cont cv (s1.heap.push o) s1.toks ps (Heap.ExtBut.refl _ _) (Nat.le_refl _) hP2 ⟨#[], by simp⟩ ht
/-- what all(..) of it asks and tells; behind it the def's table may have grown -/
def tAllI (K : PySem.W.Frag) (P : Addr) (el : L2.St → Hp → (Int → Bool) → Prop) (te : TE) : TE := fun σ H Q => te σ H fun v H1 => ∃ (l : Addr) (ns : List Int) (pb : Int → Bool) (ps : Array Value), v = .ref l ∧ SqL K H1 l (ns.map V.int) ∧ H1 P = some (.tbl ps) ∧ TriplesOk ps.toList ∧ el σ H1 pb ∧
  ∀ more : Array Value, TriplesOk (ps ++ more).toList → Q (.bl (ns.all pb)) (upd H1 P (.tbl (ps ++ more)))
theorem pe_allI {c P : Addr} {elt iter : Expr} {x : Str} {px p pos gpos : Pos} {scope : Scope} {te : TE} {k : Nat} {el : L2.St → Hp → (Int → Bool) → Prop}
    (hr : Room k X.A) (hg : Gl X "all") (hm : X.mg "all" = none) (TB : TabB X.base X.mg c P) (hcode : X.env.code = .ref c) (S : GenS X.env scope x) (hi : PE X iter te)
    (hel : ∀ (pins : List (Addr × Obj)) (σ : L2.St) (H1 : Hp) (s1 : Shared) (ps : Array Value) (pb : Int → Bool), Inv X pins σ H1 s1 → H1 P = some (.tbl ps) → el σ H1 pb → ∀ ce : Env, ce.scope = scope → ce.cells = cloFrom X.env.cells scope.names [] → EltI X.prog X.w ce x elt P s1.heap pb)
    (hs : ∀ v, genFold iter X.env v = pure v := by intro _; rfl) (hb : bootBuiltins "all" = some (.builtin "all") := by decide +kernel)
    (he : starEach [.GeneratorExp elt [⟨.Name x px, iter, [], 0⟩] scope gpos] X.env = (false, eval (.GeneratorExp elt [⟨.Name x px, iter, [], 0⟩] scope gpos) X.env) :: starEach [] X.env := by rfl) :
    PE X (.Call (.Name "all" p) [.GeneratorExp elt [⟨.Name x px, iter, [], 0⟩] scope gpos] [] pos) (tAllI X.K P el te) := by
  refine ⟨fun pins s σ H Q I h => ?_⟩
  refine wpAny_Call_Name_kw (ld_blt I hg hm hb ?_)
  refine PyProof.Rows.callWith_builtin1 ?_ he (by rfl)
  rw [he]
  show wpAny _ _ (spliced ((false, eval (.GeneratorExp elt [⟨.Name x px, iter, [], 0⟩] scope gpos) X.env) :: backTo pos (starEach [] X.env))) _ _ s
  refine Calls.spliced_cons (gen_ints (R := fun ns pb ps H1 => ∀ more : Array Value, TriplesOk (ps ++ more).toList → Q (.bl (ns.all pb)) (upd H1 P (.tbl (ps ++ more)))) hr TB hcode S hi (fun H1 s1 ps pb => hel pins σ H1 s1 ps pb) hs I h fun ns pb ps H1 g z hR hG => ?_)
  obtain ⟨fp, wr, G, F, St, W, hst, htr, hI⟩ := hG
  refine Calls.spliced_nil ?_
  refine call_all_walkS (W.self 0 _ _ _ hst ⟨g, fp, wr, G, _, F, St, _, rfl, W, hst, htr, fun s' hmv => ?_⟩)
  obtain ⟨more, hT, J⟩ := hI s' hmv
  refine ⟨.bl _, _, J, rfl, ?_⟩
  rw [all_trI ns pb]
  exact hR more hT
end
/-- 0 <= x < y.f, y a captured instance -/
def elMany (K : PySem.W.Frag) (i : Nat) (f : Str) : L2.St → Hp → (Int → Bool) → Prop := fun σ H pb => ∃ (a C dx : Addr) (fs : List (Str × V)) (n : Int), σ[i]? = some (some (.ref a)) ∧ H a = some (.ins C dx fs) ∧ Cls K C ∧ NoAttr K C f ∧ fs.lookup f = some (.int n) ∧ pb = fun k => decide (0 ≤ k) && decide (k < n)
theorem elt_many {X : Cx} {scope : Scope} {x y f : Str} {i j : Nat} {P : Addr} {q1 q2 q3 q4 q5 : Pos} (hk : scope.kind = .function) (hx : scope.names.lookup x = some .local) (hy : scope.names.lookup y = some .free) (hi : X.N[i]? = some y) (hcell : X.env.kindOf y = some .cell)
    (hcl : ∀ cells : List (Str × Addr), (cloFrom cells scope.names []).lookup y = some ((cells.lookup y).getD 0)) (hdx : (x == ("__debug__" : Str)) = false) (hdy : (y == ("__debug__" : Str)) = false) (hcd : (y == ("__classdict__" : Str)) = false)
    (hbase : ∀ ce : Env, attributeBase (.Name y q3) f ce (eval (.Name y q3) ce) = eval (.Name y q3) ce)
    (pins : List (Addr × Obj)) (σ : L2.St) (H1 : Hp) (s1 : Shared) (ps : Array Value) (pb : Int → Bool) (I : Inv X pins σ H1 s1) (hP : H1 P = some (.tbl ps)) (he : elMany X.K i f σ H1 pb) (ce : Env) (hs : ce.scope = scope) (hc : ce.cells = cloFrom X.env.cells scope.names []) :
    EltI X.prog X.w ce x (.Compare (.Constant (.int 0) j q1) [.LtE, .Lt] [.Name x q2, .Attribute (.Name y q3) f q4] q5) P s1.heap pb := by
  obtain ⟨a, C, dx, fs, n, hσ, ha, cls, na, lf, rfl⟩ := he
  intro A' E' k t z m hns hmx kept
  obtain ⟨mL, hnL, hl⟩ := I.loc
  obtain ⟨u, ru, look⟩ := hl i y (.ref a) hi hσ (.inr (.inl hcell))
  have ru : u = Value.ref a := ru
  subst ru
  obtain ⟨mA, O, r, _, _, own⟩ := ins_get I.hok ha
  have neP : ∀ b, H1 b = none ∨ (∃ o, H1 b = some o ∧ ∀ q, o ≠ .tbl q) → b ≠ P := fun b hb z => by
    rw [z, hP] at hb
    rcases hb with h | ⟨o, h, h2⟩
    · cases h
    · cases h
      exact h2 _ rfl
  have aP := neP a (.inr ⟨_, ha, fun q z => by cases z⟩)
  have dP := neP dx (.inr ⟨_, own, fun q z => by cases z⟩)
  obtain ⟨cc, hcc, hcv⟩ : ∃ cc, X.env.cells.lookup y = some cc ∧ s1.heap.IsCell cc (some (.ref a)) := by
    rcases look with ⟨q, _⟩ | ⟨_, cc, h1, h2⟩
    · rw [hcell] at q
      cases q
    · exact ⟨cc, h1, h2⟩
  have cP := neP cc (.inl (I.freeC y cc hcc))
  have kin : X.K.In z.heap := I.ok.mod.kin.keeps fun b o e => kept b o (neP b (.inl (I.bs b o e).2)) (I.bk b o e)
  have O2 : ObjM z.heap a dx C mA := by
    obtain ⟨o1, ⟨oD, es, ep, hD, rD⟩, o3⟩ := O
    exact ⟨kept a _ aP o1, ⟨oD, es, ep, kept dx _ dP hD, rD⟩, o3⟩
  have cell2 : z.heap.IsCell cc (some (.ref a)) := by
    obtain ⟨o, h1, h2⟩ := hcv
    exact ⟨o, kept cc o cP h1, h2⟩
  have lk : ce.cells.lookup y = some cc := by
    rw [hc, hcl, hcc]
    rfl
  obtain ⟨v, hv, rv⟩ := RelO.some_of (v := V.int n) (o := mA f) (by rw [← lf]; exact r f)
  obtain ⟨tv, rfl⟩ := rv
  refine Compare_chain (wpAny_Constant_int (chain_link ?_)) (by with_unfolding_all rfl)
  refine wpAny_Name (wpAny_loadName_local (by rw [hs]; exact hk) (show ce.scope.names.lookup x = some .local by rw [hs]; exact hx) hns hmx ?_) hdx
  refine le_int ?_
  refine wpAny_truthy_bool ?_
  cases hq : decide ((0 : Int) ≤ k) with
  | false => exact ite_ff ⟨by show Value.bool false = Value.bool (decide (0 ≤ k) && decide (k < n)); rw [hq]; rfl, keeps_tok z _⟩
  | true =>
    refine ite_tt (chain_last (attr_of (hbase ce) (wpAny_Name (wpAny_loadName_free (by rw [hs]; exact hk) (show ce.scope.names.lookup y = some .free by rw [hs]; exact hy) lk cell2 ?_ hcd) hdy)))
    refine get_map kin O2 (cls.get f) cls.hd na hv (handed_of (v := V.int n) ⟨tv, rfl⟩) ?_
    refine lt_int ?_
    exact ⟨by show Value.bool (decide (k < n)) = Value.bool (decide (0 ≤ k) && decide (k < n)); rw [hq]; rfl, keeps_tok z _⟩
end DnQ

/-! Dn: sets of numbers as data, their size; lists turned about, sorted, counted, extended; items from the end; enumerate; a def whose code is known. -/
namespace Dn
open PySem PySem.Spec PyProof.Rows L2 Dx
/-! ### sets -/
@[reducible] def pySet (w : World) : Py (List Int) where
  rel K x v H := ∃ a c, v = .ref a ∧ H a = some (SetO w a (fun j => decide (j ∈ x)) c)
  mono := fun e ⟨a, c, h1, h2⟩ => ⟨a, c, h1, e a _ h2⟩
  dflt := []
theorem call_setofK {X : Cx} (K : PySem.W.Frag) (w : World) (hc : X.calm = true) (hK : X.K = K := by rfl) (hw : X.w = w := by rfl) : CallR X (.type "set") (rSetOf K w) := hK ▸ hw ▸ call_setof hc
theorem or_snotinK {X : Cx} (w : World) (hw : X.w = w := by rfl) : OpR X (compareOp .NotIn) (rSNotIn w) := hw ▸ or_snotin
theorem or_sinK {X : Cx} (w : World) (hw : X.w = w := by rfl) : OpR X (compareOp .In) (rSIn w) := hw ▸ or_sin
section
variable {K : PySem.W.Frag} {w : World} {Γ : Ctx} {te ta tb tl : TE}
theorem evx_setof {ns : List Int} (h : Evx K ta Γ ns) (hl : ns.length ≤ 4000) : Evx (ip := pySet w) K (tCB (rSetOf K w) (tCons ta tNil)) Γ ns := fun σ R0 H R e E Q k =>
  h σ R0 H R e E _ fun v H1 R1 g1 r1 => by
    obtain ⟨a, rfl, h1⟩ := list_ints r1
    refine ⟨a, ns, rfl, sq_of (g1.inn a _ h1), hl, fun c z hz => ?_⟩
    exact k (.ref z) (upd H1 z (SetO w z (fun j => decide (j ∈ ns)) c)) _ (g1.trans (Gr.told g1.inn hz)) ⟨z, c, rfl, upd_same⟩
theorem rv_snotin {i : Int} {ns : List Int} : Rv (ia := pyInt) (ib := pySet w) (ic := pyBool) K (rSNotIn w) i ns (!decide (i ∈ ns)) := fun u v H R e h1 h2 Q k => by
  obtain ⟨a, c, rfl, h2⟩ := h2
  exact ⟨i, a, _, c, h1, rfl, e a _ h2, k _ H R (Gr.refl e) rfl⟩
theorem rv_sin {i : Int} {ns : List Int} : Rv (ia := pyInt) (ib := pySet w) (ic := pyBool) K (rSIn w) i ns (decide (i ∈ ns)) := fun u v H R e h1 h2 Q k => by
  obtain ⟨a, c, rfl, h2⟩ := h2
  exact ⟨i, a, _, c, h1, rfl, e a _ h2, k _ H R (Gr.refl e) rfl⟩
end
/-! ### how many different ones -/
def dist (ns : List Int) : Nat := (firstMet (fun i => ns.getD i 0) ns.length).length
theorem firstMet_mem (ns : List Int) (i : Nat) (k : Int) (hi : i ≤ ns.length) : k ∈ firstMet (fun i => ns.getD i 0) i ↔ k ∈ ns.take i := by
  have h := firstMet_any (fun i => ns.getD i 0) i k
  have e : (List.range i).map (fun i => ns.getD i 0) = ns.take i := by
    refine List.ext_getElem? fun j => ?_
    by_cases hj : j < i
    · rw [List.getElem?_map, List.getElem?_range hj, List.getElem?_take_of_lt hj, List.getElem?_eq_getElem (by omega)]
      show some (ns.getD j 0) = _
      rw [List.getD_eq_getElem?_getD, List.getElem?_eq_getElem (by omega)] <;> rfl
    · rw [List.getElem?_eq_none (by simp; omega), List.getElem?_eq_none (by rw [List.length_take]; omega)]
  rw [e] at h
  have tr : ∀ l : List Int, l.any (· == k) = true ↔ k ∈ l := fun l => by
    rw [List.any_eq_true]
    exact ⟨fun ⟨x, hx, q⟩ => by
      have := beq_iff_eq.mp q
      rw [← this]
      exact hx, fun hx => ⟨k, hx, by simp⟩⟩
  rw [← tr, ← tr, h]
theorem firstMet_full (ns : List Int) : ∀ i, i ≤ ns.length → ((firstMet (fun i => ns.getD i 0) i).length = i ↔ (ns.take i).Nodup)
  | 0, _ => by simp [firstMet_zero]
  | i + 1, hi => by
    have ih := firstMet_full ns i (by omega)
    have le := firstMet_length_le (fun i => ns.getD i 0) i
    have gd : ns.getD i 0 = ns[i] := by rw [List.getD_eq_getElem?_getD, List.getElem?_eq_getElem (by omega)] <;> rfl
    have tk : ns.take (i + 1) = ns.take i ++ [ns[i]] := List.take_succ_eq_append_getElem (by omega)
    have mem := firstMet_mem ns i (ns.getD i 0) (by omega)
    have nd : (ns.take (i + 1)).Nodup ↔ (ns.take i).Nodup ∧ ns[i] ∉ ns.take i := by
      rw [tk, List.nodup_append]
      constructor
      · rintro ⟨h1, _, h3⟩
        exact ⟨h1, fun z => h3 _ z _ (List.mem_singleton.mpr rfl) rfl⟩
      · rintro ⟨h1, h2⟩
        exact ⟨h1, by simp, fun a ha b hb e => h2 (by rw [List.mem_singleton.mp hb] at e; exact e ▸ ha)⟩
    rw [firstMet_succ, nd]
    unfold step_dedup
    by_cases q : (firstMet (fun i => ns.getD i 0) i).any (· == ns.getD i 0) = true
    · rw [if_pos q]
      have m : ns.getD i 0 ∈ firstMet (fun i => ns.getD i 0) i := by
        obtain ⟨x, hx, e⟩ := List.any_eq_true.mp q
        exact beq_iff_eq.mp e ▸ hx
      have m2 := mem.mp m
      rw [gd] at m2
      exact ⟨fun z => by omega, fun z => absurd m2 z.2⟩
    · rw [if_neg q, List.length_append, List.length_singleton]
      have m : ns.getD i 0 ∉ firstMet (fun i => ns.getD i 0) i := fun z => q (List.any_eq_true.mpr ⟨_, z, by simp⟩)
      have m2 : ns[i] ∉ ns.take i := fun z => m (mem.mpr (by rw [gd]; exact z))
      exact ⟨fun z => ⟨ih.mp (by omega), m2⟩, fun z => by rw [ih.mpr z.1]⟩
theorem dist_full {ns : List Int} : dist ns = ns.length ↔ ns.Nodup := by
  have h := firstMet_full ns ns.length (Nat.le_refl _)
  rw [List.take_length] at h
  exact h
def tLenSetG (K : PySem.W.Frag) (ta : TE) : TE := fun σ H Q => ta σ H fun x H1 => ∃ (l : Addr) (ns : List Int), x = V.ref l ∧ SqL K H1 l (ns.map V.int) ∧ ns.length ≤ 4000 ∧ Q (.int (dist ns)) H1
theorem pe_lenSetG {X : Cx} (K : PySem.W.Frag) {a : Expr} {ta : TE} {p p2 q pos : Pos} (hc : X.calm = true) (hg : Gl X "len") (hm : X.mg "len" = none) (hg2 : Gl X "set") (hm2 : X.mg "set" = none) (ha : PE X a ta) (hK : X.K = K := by rfl)
    (na : starEach [a] X.env = (false, eval a X.env) :: starEach [] X.env := by rfl) : PE X (.Call (.Name "len" p) [.Call (.Name "set" p2) [a] [] q] [] pos) (tLenSetG K ta) := by
  subst hK
  refine ⟨fun pins s σ H Q I h => ?_⟩
  refine Call_ (ld_blt I hg hm PySem.boot_len ?_)
  refine PyProof.Rows.callWith_builtin1 (PyProof.Rows.args_cons ?_ rfl) rfl rfl
  refine Call_ (ld_blt I hg2 hm2 PyProof.Rows.boot_set ?_)
  refine PyProof.Rows.callWith_type1 (PyProof.Rows.args_cons (thn (ha.run pins s σ H _ I h) fun v s1 ⟨x, H1, I1, r1, q1⟩ => PyProof.Rows.args_nil ?_) na) na rfl
  obtain ⟨l, ns, rfl, hq, h1, q1⟩ := q1
  cases r1
  obtain ⟨its, r, pl, hz⟩ := I1.list hq
  have hl : its.toArray.size = ns.length := by rw [List.size_toArray, ← r.length, List.length_map]
  refine call_set_list (I1.ok.hd hc) pl.isList (ns := ns) (by simpa using r.ints) (by unfold scanBound; omega) fun h' tk hS hk => ?_
  rw [hl] at hS
  refine PyProof.Rows.args_nil ?_
  obtain ⟨o, es, ep, t, ho, hex, hd, _, _, _, hf, hn⟩ := hS
  have le := firstMet_length_le (fun i => ns.getD i 0) ns.length
  have I2 : Inv X pins σ H1 { s1 with heap := h', toks := tk } := I1.kept fun b o e => hk b o (Heap.lt_size e) e
  exact call_len_set ho hex hd hf (by rw [hn]; omega) ⟨.int (dist ns), H1, I2.tok _, ⟨_, by rw [hn]; rfl⟩, q1⟩
theorem evx_lenSet {K : PySem.W.Frag} {Γ : Ctx} {ta : TE} {ns : List Int} (h : Evx K ta Γ ns) (hl : ns.length ≤ 4000) : Evx K (tLenSetG K ta) Γ ((dist ns : Nat) : Int) := fun σ R0 H R e E Q k =>
  h σ R0 H R e E _ fun v H1 R1 g1 r1 => by
    obtain ⟨a, rfl, h1⟩ := list_ints r1
    exact ⟨a, ns, rfl, sq_of (g1.inn a _ h1), hl, k _ H1 R1 g1 rfl⟩
/-! ### turned about -/
def tRevL (K : PySem.W.Frag) (te : TE) (ts : TO) : TE := fun σ H Q => te σ H fun x H1 => ts σ H1 fun o H2 => o = some (-1) ∧ ∃ (a : Addr) (xs : List V), x = .ref a ∧ SqL K H2 a xs ∧ ∀ p, H2 p = none → Q (.ref p) (upd H2 p (.lst xs.reverse))
theorem pe_revL {X : Cx} (K : PySem.W.Frag) {e st : Expr} {te : TE} {ts : TO} {p2 pos : Pos} (he : PE X e te) (hs : PO X (some st) ts) (hK : X.K = K := by rfl) : PE X (.Subscript e (.Slice none none (some st) p2) pos) (tRevL K te ts) := by
  subst hK
  refine ⟨fun pins s σ H Q I h => ?_⟩
  refine Subscript_ (thn (he.run pins s σ H _ I h) fun v s1 ⟨x, H1, I1, r1, q1⟩ => ?_)
  refine wpAny_Slice ?_
  rw [evalPart_none]
  refine wpAny_pure (wpAny_pure (thn (hs.run pins s1 σ H1 _ I1 q1) fun vt s3 ⟨o, H3, I3, pt, eo, a, xs, ex, hx, q⟩ => ?_))
  subst eo ex
  cases r1
  have I4 : Inv X pins σ H3 { s3 with heap := s3.heap.push { cls := .type "slice", data := .fields #[.none, .none, vt] } } := I3.kept (t' := s3.toks) fun b ob q => Heap.get?_push_of_some _ q
  obtain ⟨its, r, ht, hz⟩ := I4.list hx
  have hlen := r.length
  show wpAny (model X.prog X.w) X.A (subscriptTail e (.Slice none none (some st) p2) (.ref a) (.ref s3.heap.objs.size)) (EP X pins σ Q) X.xe { s3 with heap := s3.heap.push { cls := .type "slice", data := .fields #[.none, .none, vt] } }
  refine tail_any (ops := [.ref a, .ref s3.heap.objs.size]) ht.isList.typeIs slot_list_getitem.lookup ?_ (by with_unfolding_all rfl)
  refine wpAny_getItem_list_slice ht.isList (Heap.IsSliceOf.new ..) .none .none pt (by simp) ?_ (by rw [List.size_toArray] <;> omega)
  rw [PySem.W.krv_pick]
  refine ⟨.ref _, _, I4.laid (t' := s3.toks) (o := .lst xs.reverse) (fun b ob q => Heap.get?_push_of_some _ q) (Nat.le_refl _) ?_, rfl, q _ (I4.hok.fresh (Nat.le_refl _))⟩
  refine ⟨by rw [List.length_reverse]; exact hz, its.reverse, 0, r.reverse, ?_⟩
  have e2 : its.toArray.toList.reverse.toArray = its.reverse.toArray := by simp
  rw [e2]
  exact Heap.get?_push_size _ rfl
theorem paired_rev {α : Type} {F : α → V → Prop} : ∀ {xs : List α} {vs : List V}, Paired F xs vs → Paired F xs.reverse vs.reverse
  | _, _, .nil => .nil
  | _, _, .cons h t => by
    rw [List.reverse_cons, List.reverse_cons]
    exact paired_app (paired_rev t) (.cons h .nil)
theorem evl_rev {K : PySem.W.Frag} {Γ : Ctx} {te : TE} {ts : TO} {α : Type} {ip : Py α} {xs : List α} (h : Evx K te Γ xs) (hs : Evo K ts Γ (some (-1))) : Evl K (tRevL K te ts) Γ xs.reverse := fun σ R0 H R e E Q k =>
  h σ R0 H R e E _ fun u H1 R1 g1 r1 => hs σ R0 H1 R1 g1.inn (E.grow g1) _ fun H2 R2 g2 => by
    obtain ⟨a, vs, rfl, hl, x1⟩ := r1
    refine ⟨rfl, a, vs, rfl, sq_of (g2.inn a _ (g2.up a _ hl)), fun p hp => ?_⟩
    exact k p _ H2 _ (g1.trans (g2.trans (Gr.alloc g2.inn hp))) (fresh_back g2.inn hp) (fresh_back (g1.keep.trans g2.keep) hp) upd_same (paired_rev (paired_mono g2.up x1))
/-! ### sorted -/
def insI (i : Int) : List Int → List Int
  | [] => [i]
  | j :: r => if i ≤ j then i :: j :: r else j :: insI i r
def sortI : List Int → List Int
  | [] => []
  | i :: r => insI i (sortI r)
theorem insI_perm (i : Int) : ∀ r, (insI i r).Perm (i :: r)
  | [] => .refl _
  | j :: r => by
    unfold insI
    split
    · exact .refl _
    · exact ((insI_perm i r).cons j).trans (.swap i j r)
theorem insI_up (i : Int) : ∀ {r}, r.Pairwise (· ≤ ·) → (insI i r).Pairwise (· ≤ ·)
  | [], _ => by simp [insI]
  | j :: r, h => by
    unfold insI
    rw [List.pairwise_cons] at h
    split
    · rename_i q
      rw [List.pairwise_cons]
      refine ⟨fun x hx => ?_, List.pairwise_cons.mpr h⟩
      rcases List.mem_cons.mp hx with z | z
      · omega
      · have := h.1 x z
        omega
    · rename_i q
      rw [List.pairwise_cons]
      refine ⟨fun x hx => ?_, insI_up i h.2⟩
      rcases List.mem_cons.mp ((insI_perm i r).mem_iff.mp hx) with z | z
      · omega
      · exact h.1 x z
theorem sortI_perm : ∀ r, (sortI r).Perm r
  | [] => .refl _
  | i :: r => (insI_perm i (sortI r)).trans ((sortI_perm r).cons i)
theorem sortI_up : ∀ r, (sortI r).Pairwise (· ≤ ·)
  | [] => .nil
  | i :: r => insI_up i (sortI_up r)
theorem sorted_one : ∀ {xs ys : List Int}, xs.Pairwise (· ≤ ·) → ys.Pairwise (· ≤ ·) → xs.Perm ys → xs = ys
  | [], ys, _, _, p => (List.Perm.nil_eq p)
  | x :: xs, [], _, _, p => by
    have := p.length_eq
    simp at this
  | x :: xs, y :: ys, hx, hy, p => by
    rw [List.pairwise_cons] at hx hy
    have e : x = y := by
      have m1 : x ∈ y :: ys := p.mem_iff.mp List.mem_cons_self
      have m2 : y ∈ x :: xs := p.mem_iff.mpr List.mem_cons_self
      rcases List.mem_cons.mp m1 with z | z
      · exact z
      · rcases List.mem_cons.mp m2 with q | q
        · exact q.symm
        · have := hy.1 x z
          have := hx.1 y q
          omega
    subst e
    rw [sorted_one hx.2 hy.2 ((List.perm_cons x).mp p)]
theorem sortI_eq {xs ys : List Int} (h : xs.Perm ys) (u : xs.Pairwise (· ≤ ·)) : xs = sortI ys := sorted_one u (sortI_up ys) (h.trans (sortI_perm ys).symm)
theorem sortI_mem {xs : List Int} {k : Int} : k ∈ sortI xs ↔ k ∈ xs := (sortI_perm xs).mem_iff
theorem sortI_len (xs : List Int) : (sortI xs).length = xs.length := (sortI_perm xs).length_eq
theorem evl_sortI {K : PySem.W.Frag} {Γ : Ctx} {te : TE} {ns : List Int} (h : Evx K te Γ ns) : Evl K (tCB (rSortedI K) (tCons te tNil)) Γ (sortI ns) := fun σ R0 H R e E Q k =>
  h σ R0 H R e E _ fun v H1 R1 g1 r1 => by
    obtain ⟨a, rfl, h1⟩ := list_ints r1
    refine ⟨a, ns, rfl, sq_of (g1.inn a _ h1), fun ns' p hp hu hf => ?_⟩
    rw [sortI_eq hp hu]
    exact k p _ H1 _ (g1.trans (Gr.alloc g1.inn hf)) (fresh_back g1.inn hf) (fresh_back g1.keep hf) upd_same (ints_rel _)
/-! ### counted, extended, from the end -/
theorem evx_count {K : PySem.W.Frag} {Γ : Ctx} {to te : TE} {ns : List Int} {i : Int} (ho : Evx K to Γ ns) (he : Evx K te Γ i) : Evx K (tBM K "list" (rCntI K) to (tCons te tNil)) Γ ((ns.count i : Nat) : Int) := fun σ R0 H R e E Q k =>
  ho σ R0 H R e E _ fun v H1 R1 g1 r1 => by
    obtain ⟨a, rfl, h1⟩ := list_ints r1
    refine .inl ⟨rfl, _, sq_of (g1.inn a _ h1)⟩ |> fun q => ⟨q, ?_⟩
    exact he σ R0 H1 R1 g1.inn (E.grow g1) _ fun w H2 R2 g2 r2 => ⟨a, ns, i, rfl, by rw [show w = .int i from r2], sq_of (g2.inn a _ (g2.up a _ h1)), k _ H2 R2 (g1.trans g2) rfl⟩
theorem go_ext {W : Wd} {Γ : Ctx} {D : Ends} {te : TE} {tz : TS} {α : Type} {ip : Py α} {xs ys : List α} {i : Nat} (hi : Γ[i]? = some (.own ip xs)) (h : Evx W.K te Γ ys) (hl : xs.length + ys.length ≤ 100000) (k : Go W tz D (Γ.set i (.own ip (xs ++ ys)))) :
    Go W (tSeq (tDrop (tBM W.K "list" rExtend (tVar i) (tCons te tNil))) tz) D Γ := fun σ H R f g E => by
  obtain ⟨p, vs, h1, h2, h3, h4, h5⟩ := E.ok i _ hi
  refine ⟨.ref p, h1, Or.inl ⟨rfl, vs, sq_of h4⟩, h σ W.R0 H R g.inn E _ fun v H' R' g' r => ?_⟩
  obtain ⟨b, ws, rfl, hb, hx⟩ := r
  have hp' : H' p = none := g'.new p h2 (by rw [h4]; intro z; cases z)
  have l1 := paired_len h5
  have l2 := paired_len hx
  refine ⟨p, b, vs, ws, rfl, rfl, g'.keep p _ h4, g'.inn b _ hb, sz_of (by omega), ?_⟩
  exact k σ H' (upd R' p (.lst (vs ++ ws))) (f.trans g'.up) ((g.trans g').mut hp' h3) ((E.grow g').mutOwn (by rw [hi]; trivial) h1 hp' h3 (paired_app (paired_mono g'.up h5) hx))
/-- the item at i, from the end on below nought -/
def gtm {α : Type} [ip : Py α] (xs : List α) (i : Int) : α := if 0 ≤ i then gt xs i else gt xs (i + xs.length)
theorem rv_ixM {K : PySem.W.Frag} {α : Type} {ip : Py α} {xs : List α} {i : Int} (h : -(xs.length : Int) ≤ i ∧ i < xs.length) : Rv K (rIxL K) xs i (gtm xs i) := fun u w H R e h1 h2 Q k => by
  unfold gtm at k
  by_cases q : 0 ≤ i
  · rw [if_pos q] at k
    exact rv_ixL ⟨q, h.2⟩ u w H R e h1 h2 Q k
  · rw [if_neg q] at k
    obtain ⟨a, vs, rfl, hl, hx⟩ := h1
    obtain ⟨v, hv, hr⟩ := paired_get hx (gt_get (xs := xs) (i := i + xs.length) ⟨by omega, by omega⟩)
    have l1 := paired_len hx
    refine ⟨a, vs, i, v, rfl, h2, sq_of (e a _ hl), ?_, k v H R (Gr.refl e) hr⟩
    unfold atI ixN
    rw [if_neg q, if_pos (by omega)]
    show vs[_]? = _
    rw [← hv]
    congr 1
    omega
end Dn
namespace Dn
open PySem PySem.Spec PyProof.Rows L2
theorem mt_lcountK {X : Cx} (K : PySem.W.Frag) (hK : X.K = K := by rfl) : MtR X "list.count" (rCntI K) := hK ▸ mt_lcount
theorem free_of {names : List (Str × NameKind)} {cells : List (Str × Addr)} (h : (names.all fun y => y.2 != .free || (cells.lookup y.1).isSome) = true) : ∀ y ∈ names, y.2 = .free → ∃ c, cells.lookup y.1 = some c := fun y hy e => by
  have q := List.all_eq_true.mp h y hy
  rw [e] at q
  exact Option.isSome_iff_exists.mp (by simpa using q)
end Dn

/-! Gn: rings and crowds: what the program answers, what the law asks, and that they are the same. -/
namespace Gn
open PySem PySem.Spec PyProof.Rows L2 Dn
def inr (p : WebD) (k : Int) : Bool := decide (0 ≤ k) && decide (k < (p.n : Int))
theorem inr_iff {p : WebD} {k : Int} : inr p k = true ↔ 0 ≤ k ∧ k < (p.n : Int) := by
  unfold inr
  simp
theorem inr_pt {p : WebD} {k : Int} (h : inr p k = true) : noPt p k = false := by
  unfold noPt
  unfold inr at h
  rw [h]
  rfl
def diff (p : WebD) (xs : List Int) : Bool := decide (((dist xs : Nat) : Int) = (xs.length : Int)) && xs.all (inr p)
theorem diff_iff {p : WebD} {xs : List Int} : diff p xs = true ↔ xs.Nodup ∧ ∀ x ∈ xs, inr p x = true := by
  unfold diff
  rw [Bool.and_eq_true, decide_eq_true_eq, List.all_eq_true, ← dist_full]
  constructor
  · rintro ⟨h1, h2⟩
    exact ⟨by omega, h2⟩
  · rintro ⟨h1, h2⟩
    exact ⟨by omega, h2⟩
def firstUn (p : WebD) (a : Int) (xs : List Int) : Option Int := xs.find? fun x => !decide (x ∈ gt p.rows a)
def untiedF (p : WebD) : List Int → Option (Int × Int)
  | [] => none
  | a :: r => match firstUn p a r with
    | some o => some (a, o)
    | none => untiedF p r
def crowdB (p : WebD) (xs : List Int) : Bool := diff p xs && (untiedF p xs).isNone
def lawCrowd (p : WebD) : List Int → Bool
  | [] => true
  | a :: r => inr p a && (r.all (fun x => decide (x ∈ gt p.rows a)) && lawCrowd p r)
theorem firstUn_none {p : WebD} {a : Int} {xs : List Int} : firstUn p a xs = none ↔ ∀ x ∈ xs, x ∈ gt p.rows a := by
  unfold firstUn
  rw [List.find?_eq_none]
  constructor
  · intro h x hx
    simpa using h x hx
  · intro h x hx
    simpa using h x hx
theorem lawCrowd_iff {p : WebD} (irr : ∀ a, inr p a = true → a ∉ gt p.rows a) : ∀ {xs : List Int}, lawCrowd p xs = true ↔ xs.Nodup ∧ (∀ x ∈ xs, inr p x = true) ∧ untiedF p xs = none
  | [] => by simp [lawCrowd, untiedF]
  | a :: r => by
    have ih := lawCrowd_iff irr (xs := r)
    unfold lawCrowd
    rw [Bool.and_eq_true, Bool.and_eq_true, ih, List.nodup_cons, List.all_eq_true]
    have e : untiedF p (a :: r) = match firstUn p a r with | some o => some (a, o) | none => untiedF p r := rfl
    constructor
    · rintro ⟨h1, h2, h3, h4, h5⟩
      have h2' : ∀ x ∈ r, x ∈ gt p.rows a := fun x hx => by simpa using h2 x hx
      refine ⟨⟨fun z => irr a h1 (h2' a z), h3⟩, fun x hx => ?_, ?_⟩
      · rcases List.mem_cons.mp hx with rfl | z
        · exact h1
        · exact h4 x z
      · rw [e, firstUn_none.mpr h2']
        exact h5
    · rintro ⟨⟨h1, h2⟩, h3, h4⟩
      rw [e] at h4
      cases q : firstUn p a r with
      | some o =>
        rw [q] at h4
        cases h4
      | none =>
        rw [q] at h4
        exact ⟨h3 a List.mem_cons_self, fun x hx => by simpa using firstUn_none.mp q x hx, h2, fun x hx => h3 x (List.mem_cons_of_mem _ hx), h4⟩
theorem crowd_same {p : WebD} (irr : ∀ a, inr p a = true → a ∉ gt p.rows a) (xs : List Int) : crowdB p xs = lawCrowd p xs := by
  rw [Bool.eq_iff_iff, lawCrowd_iff irr]
  unfold crowdB
  rw [Bool.and_eq_true, diff_iff, Option.isNone_iff_eq_none]
  exact ⟨fun h => ⟨h.1.1, h.1.2, h.2⟩, fun h => ⟨⟨h.1, h.2.1⟩, h.2.2⟩⟩
/-! ### rings -/
def sides (xs : List Int) (i : Int) : List Int := [gtm xs (i - 1), gt xs ((i + 1) % (xs.length : Int))]
def ringAt (p : WebD) (xs : List Int) (i : Nat) : Bool := decide ((gt p.rows (gt xs (i : Int))).filter (fun x => decide (x ∈ xs)) = sortI (sides xs (i : Int)))
def ringB (p : WebD) (xs : List Int) : Bool := (!(decide ((xs.length : Int) < 4) || !diff p xs)) && (List.range xs.length).all (ringAt p xs)
def lawRingAt (p : WebD) (xs : List Int) (i : Nat) : Bool := decide (sortI (xs.filter fun x => decide (x ∈ gt p.rows (gt xs (i : Int)))) = sortI (sides xs (i : Int)))
def badPt (p : WebD) (xs : List Int) (k : Int) : Bool := !inr p k || decide (((xs.count k : Nat) : Int) > 1)
def lawRing (p : WebD) (xs : List Int) : Bool := !decide ((xs.length : Int) < 4) && (xs.all (fun k => !badPt p xs k) && (List.range xs.length).all (lawRingAt p xs))
theorem badPt_all {p : WebD} {xs : List Int} : xs.all (fun k => !badPt p xs k) = true ↔ xs.Nodup ∧ ∀ x ∈ xs, inr p x = true := by
  rw [List.all_eq_true]
  constructor
  · intro h
    have h2 : ∀ x ∈ xs, inr p x = true ∧ xs.count x ≤ 1 := fun x hx => by
      have q := h x hx
      unfold badPt at q
      simp only [Bool.not_or, Bool.not_not, Bool.and_eq_true, Bool.not_eq_true', decide_eq_false_iff_not] at q
      exact ⟨q.1, by omega⟩
    refine ⟨List.nodup_iff_count.mpr fun a => ?_, fun x hx => (h2 x hx).1⟩
    by_cases m : a ∈ xs
    · exact (h2 a m).2
    · rw [List.count_eq_zero_of_not_mem m]
      omega
  · rintro ⟨h1, h2⟩ x hx
    unfold badPt
    have c := List.nodup_iff_count.mp h1 x
    rw [h2 x hx]
    simp
    omega
theorem ring_at_same {p : WebD} {xs : List Int} (hn : xs.Nodup) (i : Nat) (up : (gt p.rows (gt xs (i : Int))).Pairwise (· < ·)) : ringAt p xs i = lawRingAt p xs i := by
  have e : (gt p.rows (gt xs (i : Int))).filter (fun x => decide (x ∈ xs)) = sortI (xs.filter fun x => decide (x ∈ gt p.rows (gt xs (i : Int)))) := by
    have u2 := up.filter (fun x => decide (x ∈ xs))
    refine sortI_eq ((List.perm_ext_iff_of_nodup (u2.imp fun h => by omega) (hn.filter _)).mpr fun a => ?_) (u2.imp fun h => by omega)
    rw [List.mem_filter, List.mem_filter]
    simp only [decide_eq_true_eq]
    exact ⟨fun h => ⟨h.2, h.1⟩, fun h => ⟨h.2, h.1⟩⟩
  unfold ringAt lawRingAt
  rw [e]
theorem ring_same {p : WebD} (up : ∀ a, inr p a = true → (gt p.rows a).Pairwise (· < ·)) (xs : List Int) : ringB p xs = lawRing p xs := by
  unfold ringB lawRing
  cases h4 : decide ((xs.length : Int) < 4) with
  | true => rfl
  | false =>
    have e : xs.all (fun k => !badPt p xs k) = diff p xs := by rw [Bool.eq_iff_iff, badPt_all, diff_iff]
    rw [e]
    cases hd : diff p xs with
    | false => rfl
    | true =>
      obtain ⟨h1, h2⟩ := diff_iff.mp hd
      show (List.range xs.length).all (ringAt p xs) = (List.range xs.length).all (lawRingAt p xs)
      rw [Bool.eq_iff_iff, List.all_eq_true, List.all_eq_true]
      have k : ∀ i ∈ List.range xs.length, ringAt p xs i = lawRingAt p xs i := fun i hi => ring_at_same h1 i (up _ (h2 _ (List.mem_of_getElem? (gt_get (ip := pyInt) (xs := xs) (i := (i : Int)) (by have := List.mem_range.mp hi; omega)))))
      exact ⟨fun h i hi => by rw [← k i hi]; exact h i hi, fun h i hi => by rw [k i hi]; exact h i hi⟩
/-- the webs that the law makes -/
theorem nbrs_irr {n : Nat} {ts : List (Int × Int)} (h : TiesOk (n : Int) ts) (a : Int) (ha : inr ⟨n, nbrs n ts⟩ a = true) : a ∉ gt (nbrs n ts) a := fun z => by
  have hi : 0 ≤ a ∧ a < (n : Int) := inr_iff.mp ha
  rw [nbrs_gt hi] at z
  exact (adj_in h (nbr_mem.mp z).2).2.2 rfl
theorem nbrs_up {n : Nat} {ts : List (Int × Int)} (a : Int) (ha : inr ⟨n, nbrs n ts⟩ a = true) : (gt (nbrs n ts) a).Pairwise (· < ·) := by
  have hi : 0 ≤ a ∧ a < (n : Int) := inr_iff.mp ha
  rw [nbrs_gt hi]
  exact nbr_up _ _ _
/-! ### lists of the law -/
def lawFound (s : Scr) (n : Int) (rows : List (List Int)) (c : Int) : List Int :=
  if c % 4 = 1 ∧ n > 0 then (gt rows (c / 4 % n) ++ [c / 4 % n]).map (nameOf s n)
  else if c % 4 = 2 ∧ n > 0 then (mk n.toNat (fun (k : Nat) => decide ((k : Int) = c / 4 % n) || decide (c / 4 % n ∈ gt rows (k : Int))) fun (k : Nat) => nameOf s n (k : Int))
  else if c % 4 = 3 then (List.range n.toNat).map fun (k : Nat) => nameOf s n (k : Int)
  else (List.range (if c / 4 % 8 < n then c / 4 % 8 else n).toNat).map fun (k : Nat) => nameOf s n (k : Int)
def turned (xs : List Int) (c : Int) : List Int := cut xs (some (c / 244 % ((xs.length : Int) + 1))) none ++ cut xs none (some (c / 244 % ((xs.length : Int) + 1)))
def lawList (s : Scr) (n : Int) (rows : List (List Int)) (c : Int) : List Int :=
  if c / 14884 % 2 = 1 then (turned (lawFound s n rows c) c).reverse else turned (lawFound s n rows c) c
theorem lawFound_len {s : Scr} {n : Int} {rows : List (List Int)} {c : Int} (hn : 0 ≤ n ∧ n ≤ 60) (hr : RowsOk n.toNat rows) : (lawFound s n rows c).length ≤ 61 := by
  unfold lawFound
  split
  · rename_i h
    have h1 := Int.emod_nonneg (c / 4) (show n ≠ 0 by omega)
    have h2 := Int.emod_lt_of_pos (c / 4) h.2
    have q := hr.2 (c / 4 % n).toNat (gt rows (c / 4 % n)) (by
      have := gt_get (ip := pyList (α := Int)) (xs := rows) (i := c / 4 % n) (by rw [hr.1]; omega)
      exact this)
    rw [List.length_map, List.length_append, List.length_singleton]
    omega
  · split
    · have := mk_len n.toNat (fun (k : Nat) => decide ((k : Int) = c / 4 % n) || decide (c / 4 % n ∈ gt rows (k : Int))) fun (k : Nat) => nameOf s n (k : Int)
      omega
    · split
      · rw [List.length_map, List.length_range]
        omega
      · rw [List.length_map, List.length_range]
        split <;> omega
theorem turned_len (xs : List Int) (c : Int) : (turned xs c).length ≤ 2 * xs.length := by
  unfold turned
  rw [List.length_append]
  have := cut_len xs (some (c / 244 % ((xs.length : Int) + 1))) none
  have := cut_len xs none (some (c / 244 % ((xs.length : Int) + 1)))
  omega
theorem lawList_len {s : Scr} {n : Int} {rows : List (List Int)} {c : Int} (hn : 0 ≤ n ∧ n ≤ 60) (hr : RowsOk n.toNat rows) : (lawList s n rows c).length ≤ 122 := by
  have h1 := lawFound_len (s := s) (c := c) hn hr
  have h2 := turned_len (lawFound s n rows c) c
  unfold lawList
  split
  · rw [List.length_reverse]
    omega
  · omega
def spoilt (xs : List Int) (c far : Int) : List Int :=
  if c / 61 % 8 = 0 ∧ c % ((xs.length : Int) + 1) < xs.length then cut xs none (some (c % ((xs.length : Int) + 1))) ++ cut xs (some (c % ((xs.length : Int) + 1) + 1)) none
  else if c / 61 % 8 = 1 ∧ c % ((xs.length : Int) + 1) < xs.length then cut xs none (some (c % ((xs.length : Int) + 1))) ++ [gt xs (c / 488 % (xs.length : Int))] ++ cut xs (some (c % ((xs.length : Int) + 1))) none
  else if c / 61 % 8 = 2 then cut xs none (some (c % ((xs.length : Int) + 1))) ++ [far] ++ cut xs (some (c % ((xs.length : Int) + 1))) none
  else if c / 61 % 8 = 3 ∧ c % ((xs.length : Int) + 1) < xs.length then (xs.set (c % ((xs.length : Int) + 1)).toNat (gt xs (c / 488 % (xs.length : Int)))).set (c / 488 % (xs.length : Int)).toNat (gt xs (c % ((xs.length : Int) + 1)))
  else xs
theorem spoilt_len (xs : List Int) (c far : Int) : (spoilt xs c far).length ≤ 2 * xs.length + 1 := by
  have h := fun lo hi => cut_len xs lo hi
  unfold spoilt
  split
  · rw [List.length_append]
    have := h none (some (c % ((xs.length : Int) + 1)))
    have := h (some (c % ((xs.length : Int) + 1) + 1)) none
    omega
  · split
    · rw [List.length_append, List.length_append, List.length_singleton]
      have := h none (some (c % ((xs.length : Int) + 1)))
      have := h (some (c % ((xs.length : Int) + 1))) none
      omega
    · split
      · rw [List.length_append, List.length_append, List.length_singleton]
        have := h none (some (c % ((xs.length : Int) + 1)))
        have := h (some (c % ((xs.length : Int) + 1))) none
        omega
      · split
        · rw [List.length_set, List.length_set]
          omega
        · omega
theorem cut_drop {α : Type} (xs : List α) (m : Nat) : cut xs (some (((m : Nat) : Int) + 1)) none = xs.drop (m + 1) := by
  unfold cut
  have e1 : HT.sIx xs.length xs.length none = xs.length := rfl
  have e2 : HT.sIx xs.length 0 (some (((m : Nat) : Int) + 1)) = min (m + 1) xs.length := by
    show (HT.sIx _ _ _) = _
    unfold HT.sIx
    simp only []
    first
      | omega
      | (split <;> omega)
      | (split <;> split <;> omega)
  rw [e1, e2]
  by_cases h : m + 1 ≤ xs.length
  · rw [Nat.min_eq_left h, List.take_of_length_le (by rw [List.length_drop]; omega)]
  · rw [Nat.min_eq_right (by omega), List.drop_of_length_le (Nat.le_refl _), List.drop_of_length_le (by omega), List.take_nil]
end Gn
namespace Dn
open PySem PySem.Spec PyProof.Rows L2
/-- two ways that meet at a context -/
theorem go_ifJ {W : Wd} {Γ Δ : Ctx} {D : Ends} {tt : TT} {tu tw tz : TS} {b : Bool} (hz : Go W tz D Δ) (h : Evt W.K tt Γ b) (h1 : b = true → ∀ f, Nx W f Δ → Go W tu { D with nx := f } Γ) (h2 : b = false → ∀ f, Nx W f Δ → Go W tw { D with nx := f } Γ) :
    Go W (tSeq (tIfS tt tu tw) tz) D Γ := go_if h (fun e => h1 e _ hz) (fun e => h2 e _ hz)
theorem go_if2 {W : Wd} {Γ : Ctx} {D : Ends} {tt : TT} {tu tw : TS} {b : Bool} {f : L2.St → Hp → Prop} (h : Evt W.K tt Γ b) (h1 : b = true → Go W tu { D with nx := f } Γ) (h2 : b = false → Go W tw { D with nx := f } Γ) :
    Go W (tSeq (tIfS tt tu tw) tNext) { D with nx := f } Γ := go_if h h1 h2
end Dn

/-! Dn: dicts of whole numbers of one's own; lists of one's own at known places (handed in, to be changed); calls that hand back None or a new list. -/
namespace Dn
open PySem PySem.Spec PyProof.Rows L2 Dx
/-! ### dicts -/
abbrev kvI (t : Int × Int) : Key × V := (.inl t.1, .int t.2)
abbrev dO (kvs : List (Int × Int)) : HO := .dK (kvs.map kvI)
@[reducible] def pyDict : Py (List (Int × Int)) where
  rel K x v H := ∃ a, v = .ref a ∧ H a = some (dO x)
  mono := fun e ⟨a, h1, h2⟩ => ⟨a, h1, e a _ h2⟩
  dflt := []
def getI : List (Int × Int) → Int → Option Int
  | [], _ => none
  | t :: r, k => if t.1 = k then some t.2 else getI r k
theorem valV_I (k : Int) : ∀ kvs : List (Int × Int), valV (kvs.map kvI) (Sum.inl k : Key) = (getI kvs k).map V.int
  | [] => rfl
  | t :: r => by
    unfold getI
    rw [List.map_cons]
    by_cases h : t.1 = k
    · rw [if_pos h, valV_pos (by show (Sum.inl t.1 : Key) = Sum.inl k; rw [h])]
      rfl
    · rw [if_neg h, valV_neg (by show ¬ (Sum.inl t.1 : Key) = Sum.inl k; intro z; injection z with z; exact h z)]
      exact valV_I k r
theorem getI_snoc {kvs : List (Int × Int)} {k v j : Int} (h : getI kvs k = none) : getI (kvs ++ [(k, v)]) j = if k = j then some v else getI kvs j := by
  induction kvs with
  | nil => rfl
  | cons t r ih =>
    unfold getI at h
    by_cases q : t.1 = k
    · rw [if_pos q] at h
      cases h
    · rw [if_neg q] at h
      show (if t.1 = j then some t.2 else getI (r ++ [(k, v)]) j) = _
      rw [ih h]
      show _ = if k = j then some v else (if t.1 = j then some t.2 else getI r j)
      by_cases q2 : t.1 = j
      · have : ¬ k = j := fun z => q (q2.trans z.symm)
        rw [if_pos q2, if_neg this, if_pos q2]
      · rw [if_neg q2, if_neg q2]
def Evd (K : PySem.W.Frag) (td : TE) (Γ : Ctx) (kvs : List (Int × Int)) : Prop :=
  ∀ (σ : L2.St) (R0 H R : Hp), Ex H R → Env K R0 H R σ Γ → ∀ Q : VK, (∀ a, R a = some (dO kvs) → Q (.ref a) R) → td σ R Q
section
variable {K : PySem.W.Frag} {Γ : Ctx} {td ty tv : TE} {kvs : List (Int × Int)} {x y : Int}
theorem evd_obj {i : Nat} (hi : Γ[i]? = some (.obj (dO kvs))) : Evd K (tVar i) Γ kvs := fun σ R0 H R e E Q k => by
  obtain ⟨p, h1, h2, h3, h4, h5⟩ := E.ok i _ hi
  exact ⟨.ref p, h1, k p h4⟩
theorem evd_dat {i : Nat} (hi : Γ[i]? = some (.dat pyDict kvs)) : Evd K (tVar i) Γ kvs := fun σ R0 H R e E Q k => by
  obtain ⟨v, h1, a, rfl, h2⟩ := E.ok i _ hi
  exact ⟨.ref a, h1, k a (e a _ h2)⟩
theorem dget_I {R : Hp} {a : Addr} (h : R a = some (dO kvs)) (x : Int) : DGet R a (.int x) ((getI kvs x).map V.int) := by
  have q := DGet.k (k := (Sum.inl x : Key)) h
  rw [valV_I] at q
  exact q
theorem evx_dnotin (hx : Evx K ty Γ x) (hd : Evd K td Γ kvs) : Evx K (tDNotIn ty td) Γ (!(getI kvs x).isSome) := fun σ R0 H R e E Q k =>
  hx σ R0 H R e E _ fun v H1 R1 g1 r1 => hd σ R0 H1 R1 g1.inn (E.grow g1) _ fun a ha => by
    have r1 : v = .int x := r1
    subst r1
    refine ⟨a, _, rfl, dget_I ha x, k _ H1 R1 g1 ?_⟩
    show V.bl _ = V.bl _
    cases getI kvs x <;> rfl
theorem evx_din (hx : Evx K ty Γ x) (hd : Evd K td Γ kvs) : Evx K (tDIn ty td) Γ (getI kvs x).isSome := fun σ R0 H R e E Q k =>
  hx σ R0 H R e E _ fun v H1 R1 g1 r1 => hd σ R0 H1 R1 g1.inn (E.grow g1) _ fun a ha => by
    have r1 : v = .int x := r1
    subst r1
    refine ⟨a, _, rfl, dget_I ha x, k _ H1 R1 g1 ?_⟩
    show V.bl _ = V.bl _
    cases getI kvs x <;> rfl
theorem evx_dget (hd : Evd K td Γ kvs) (hx : Evx K ty Γ x) (h : getI kvs x = some y) : Evx K (tDGet td ty) Γ y := fun σ R0 H R e E Q k =>
  hd σ R0 H R e E _ fun a ha => hx σ R0 H R e E _ fun v H1 R1 g1 r1 => by
    have r1 : v = .int x := r1
    subst r1
    have q := dget_I (g1.keep a _ ha) x
    rw [h] at q
    exact ⟨a, .int y, rfl, q, k _ H1 R1 g1 rfl⟩
end
theorem Env.mutObj {K : PySem.W.Frag} {R0 H R : Hp} {σ : L2.St} {Γ : Ctx} {o' : HO} {i : Nat} {p : Addr} (E : Env K R0 H R σ Γ) (ho : isOwn Γ[i]?) (hσ : σ[i]? = some (some (.ref p))) (hH : H p = none) (h0 : R0 p = none)
    (hn : ∀ qs, o' ≠ .tbl qs) : Env K R0 H (upd R p o') σ (Γ.set i (.obj o')) := by
  have hi : i < Γ.length := by
    by_cases hl : i < Γ.length
    · exact hl
    · rw [List.getElem?_eq_none (by omega)] at ho
      exact ho.elim
  refine ⟨by rw [List.length_set]; exact E.len, fun j s h => ?_, fun a b q hab ha hb e => ?_⟩
  · by_cases z : i = j
    · subst z
      rw [List.getElem?_set_self hi] at h
      cases h
      exact ⟨p, hσ, hH, h0, upd_same, hn⟩
    · rw [List.getElem?_set_ne z] at h
      have old := E.ok j s h
      cases s with
      | un => trivial
      | dat i' x => exact old
      | own i' zs =>
        obtain ⟨q, ws, h1, h2, h3, h4, h5⟩ := old
        have nq : q ≠ p := fun y => E.dis i j p z ho (by rw [h]; trivial) hσ (by rw [h1, y])
        exact ⟨q, ws, h1, h2, h3, by rw [upd_ne nq]; exact h4, h5⟩
      | obj ob =>
        obtain ⟨q, h1, h2, h3, h4, h5⟩ := old
        have nq : q ≠ p := fun y => E.dis i j p z ho (by rw [h]; trivial) hσ (by rw [h1, y])
        exact ⟨q, h1, h2, h3, by rw [upd_ne nq]; exact h4, h5⟩
      | pin q i' zs =>
        obtain ⟨ws, h1, h2, h3, h4, h5⟩ := old
        have nq : q ≠ p := fun y => E.dis i j p z ho (by rw [h]; trivial) hσ (by rw [h1, y])
        exact ⟨ws, h1, h2, h3, by rw [upd_ne nq]; exact h4, h5⟩
  · have back : ∀ {c : Nat}, isOwn ((Γ.set i (Slot.obj o'))[c]?) → isOwn Γ[c]? := fun {c} hc => by
      by_cases z : i = c
      · subst z
        exact ho
      · rw [List.getElem?_set_ne z] at hc
        exact hc
    exact E.dis a b q hab (back ha) (back hb) e
/-- something new of one's own -/
theorem Env.setHeld {K : PySem.W.Frag} {R0 H R : Hp} {σ : L2.St} {Γ : Ctx} {s : Slot} {i : Nat} {p : Addr} (E : Env K R0 H R σ Γ) (hs : s.ok K R0 H R (some (some (.ref p))))
    (nw : ∀ (j : Nat) (q : Addr), isOwn Γ[j]? → σ[j]? = some (some (V.ref q)) → q ≠ p) : Env K R0 H R (σ.set i (some (.ref p))) (Γ.set i s) := by
  refine ⟨by rw [List.length_set, List.length_set]; exact E.len, fun j t ht => ?_, fun a b q hab ha hb e => ?_⟩
  · by_cases q : i = j
    · subst q
      by_cases hl : i < Γ.length
      · rw [List.getElem?_set_self hl] at ht
        rw [List.getElem?_set_self (by rw [E.len]; exact hl)]
        cases ht
        exact hs
      · rw [List.getElem?_eq_none (by rw [List.length_set]; omega)] at ht
        cases ht
    · rw [List.getElem?_set_ne q] at ht ⊢
      exact E.ok j t ht
  · have lt : ∀ {c : Nat}, isOwn ((Γ.set i s)[c]?) → c < Γ.length := fun {c} hc => by
      by_cases hl : c < Γ.length
      · exact hl
      · rw [List.getElem?_eq_none (by rw [List.length_set]; omega)] at hc
        exact hc.elim
    have la := lt ha
    have lb := lt hb
    by_cases qa : i = a
    · subst qa
      rw [List.getElem?_set_self (by rw [E.len]; exact la)] at e
      have eq : p = q := by
        injection e with e
        injection e with e
        injection e
      rw [List.getElem?_set_ne hab] at hb ⊢
      intro z
      exact nw b q hb z eq.symm
    · rw [List.getElem?_set_ne qa] at ha e
      by_cases qb : i = b
      · subst qb
        rw [List.getElem?_set_self (by rw [E.len]; exact lb)]
        intro z
        have eq : p = q := by
          injection z with z
          injection z with z
          injection z
        exact nw a q ha e eq.symm
      · rw [List.getElem?_set_ne qb] at hb ⊢
        exact E.dis a b q hab ha hb e
section
variable {W : Wd} {Γ : Ctx} {D : Ends} {tk tv ty : TE} {tz : TS} {kvs : List (Int × Int)} {x y : Int}
/-- i = {k: v} -/
theorem go_dnew {i : Nat} (hk : Evx W.K tk Γ x) (hv : Evx W.K tv Γ y) (n : Go W tz D (Γ.set i (.obj (dO [(x, y)])))) : Go W (tSeq (tAsg (tDisp [(tk, tv)]) (gName i)) tz) D Γ := fun σ H R f g E p hp => by
  have ga := Gr.alloc (o := HO.dK []) g.inn hp
  refine hk σ W.R0 H _ ga.inn (E.grow ga) _ fun u H1 R1 g1 r1 => hv σ W.R0 H1 R1 g1.inn ((E.grow ga).grow g1) _ fun v H2 R2 g2 r2 => ?_
  have r1 : u = .int x := r1
  have r2 : v = .int y := r2
  subst r1 r2
  have gg := ga.trans (g1.trans g2)
  have hR2 : R2 p = some (.dK []) := g2.keep p _ (g1.keep p _ upd_same)
  have hH0 : H p = none := fresh_back g.inn hp
  have hH2 : H2 p = none := (g1.trans g2).new p hH0 (by rw [upd_same]; intro z; cases z)
  have h00 : W.R0 p = none := fresh_back g.keep hp
  refine ⟨hR2, [(.inl x, .int y)], rfl, by show 1 ≤ 15; decide, ?_⟩
  refine n (σ.set i (some (.ref p))) H2 (upd R2 p (dO [(x, y)])) (f.trans gg.up) ((g.trans gg).mut hH2 h00) ?_
  have E2 : Env W.K W.R0 H2 R2 σ Γ := E.grow gg
  have nw : ∀ (j : Nat) (q : Addr), isOwn Γ[j]? → σ[j]? = some (some (V.ref q)) → q ≠ p := fun j q h1 h2 => E.own_ne h1 h2 hp
  have E3 : Env W.K W.R0 H2 R2 (σ.set i (some (.ref p))) (Γ.set i (.obj (.dK []))) := E2.setHeld ⟨p, rfl, hH2, h00, hR2, fun qs z => by cases z⟩ nw
  by_cases hi : i < Γ.length
  · have q := E3.mutObj (o' := dO [(x, y)]) (i := i) (p := p) (by rw [List.getElem?_set_self hi]; trivial) (by rw [List.getElem?_set_self (by rw [E.len]; exact hi)]) hH2 h00 (fun qs z => by cases z)
    rw [List.set_set] at q
    exact q
  · have es : Γ.set i (.obj (dO [(x, y)])) = Γ := List.set_eq_of_length_le (by omega)
    have es2 : σ.set i (some (.ref p)) = σ := List.set_eq_of_length_le (by rw [E.len]; omega)
    rw [es, es2]
    refine ⟨E2.len, fun j s h => ?_, E2.dis⟩
    have old := E2.ok j s h
    cases s with
    | un => trivial
    | dat i' x => exact old
    | own i' zs =>
      obtain ⟨q, ws, h1, h2, h3, h4, h5⟩ := old
      have nq : q ≠ p := nw j q (by rw [h]; trivial) h1
      exact ⟨q, ws, h1, h2, h3, by rw [upd_ne nq]; exact h4, h5⟩
    | obj ob =>
      obtain ⟨q, h1, h2, h3, h4, h5⟩ := old
      have nq : q ≠ p := nw j q (by rw [h]; trivial) h1
      exact ⟨q, h1, h2, h3, by rw [upd_ne nq]; exact h4, h5⟩
    | pin q i' zs =>
      obtain ⟨ws, h1, h2, h3, h4, h5⟩ := old
      have nq : q ≠ p := nw j q (by rw [h]; trivial) h1
      exact ⟨ws, h1, h2, h3, by rw [upd_ne nq]; exact h4, h5⟩
/-- i[x] = y, x new -/
theorem go_dput {i : Nat} (hi : Γ[i]? = some (.obj (dO kvs))) (hv : Evx W.K tv Γ y) (hx : Evx W.K ty Γ x) (hn : getI kvs x = none) (hl : kvs.length < 60000) (k : Go W tz D (Γ.set i (.obj (dO (kvs ++ [(x, y)]))))) : Go W (tSeq (sDPut (tVar i) ty tv) tz) D Γ := fun σ H R f g E => by
  obtain ⟨p, h1, h2, h3, h4, h5⟩ := E.ok i _ hi
  refine hv σ W.R0 H R g.inn E _ fun v H1 R1 g1 r1 => ⟨.ref p, h1, hx σ W.R0 H1 R1 g1.inn (E.grow g1) _ fun u H2 R2 g2 r2 => ?_⟩
  have r1 : v = .int y := r1
  have r2 : u = .int x := r2
  subst r1 r2
  have gg := g1.trans g2
  have hR2 : R2 p = some (dO kvs) := gg.keep p _ h4
  have hH2 : H2 p = none := gg.new p h2 (by rw [h4]; intro z; cases z)
  have ep : putK (kvs.map kvI) (Sum.inl x : Key) (V.int y) = (kvs ++ [(x, y)]).map kvI := by
    rw [putK_new _ (by rw [valV_I, hn]; rfl), List.map_append]
    rfl
  have pt := DPut.k (k := (Sum.inl x : Key)) (v := V.int y) hR2 (by rw [List.length_map]; exact Nat.lt_of_lt_of_le hl (by decide))
  rw [ep] at pt
  exact ⟨p, _, rfl, pt, k σ H2 _ (f.trans gg.up) ((g.trans gg).mut hH2 h3) ((E.grow gg).mutObj (by rw [hi]; trivial) h1 hH2 h3 (fun qs z => by cases z))⟩
/-- the dict will not change any more -/
theorem nx_freezeD {f : L2.St → Hp → Prop} (i : Nat) (hi : Γ[i]? = some (.obj (dO kvs))) (k : Nx W f (Γ.set i (.dat pyDict kvs))) : Nx W f Γ := fun σ H R e g E => by
  obtain ⟨p, h1, h2, h3, h4, h5⟩ := E.ok i _ hi
  have n0 : W.H0 p = none := fresh_back g.up h2
  have ho : isOwn Γ[i]? := by rw [hi]; trivial
  have hil : i < Γ.length := (List.getElem?_eq_some_iff.mp hi).1
  refine k σ (upd H p (dO kvs)) R (Ex.mut e (fresh_back e h2)) ⟨Ex.mut g.up n0, ex_tell g.inn h4, g.keep, fun b q1 q2 => ?_⟩ ?_
  · have nb : b ≠ p := fun z => q2 (by rw [z]; exact h3)
    rw [upd_ne nb]
    exact g.new b q1 q2
  refine ⟨by rw [List.length_set]; exact E.len, fun j s h => ?_, fun a b q hab ha hb e => ?_⟩
  · by_cases z : i = j
    · subst z
      rw [List.getElem?_set_self hil] at h
      cases h
      exact ⟨.ref p, h1, p, rfl, upd_same⟩
    · rw [List.getElem?_set_ne z] at h
      have old := E.ok j s h
      cases s with
      | un => trivial
      | dat i' x =>
        obtain ⟨v, q1, q2⟩ := old
        exact ⟨v, q1, i'.mono (Ex.new h2) q2⟩
      | own i' zs =>
        obtain ⟨q, ws, w1, w2, w3, w4, w5⟩ := old
        have nq : q ≠ p := fun y => E.dis i j p z ho (by rw [h]; trivial) h1 (by rw [w1, y])
        exact ⟨q, ws, w1, by rw [upd_ne nq]; exact w2, w3, w4, paired_mono (Ex.new h2) w5⟩
      | obj ob =>
        obtain ⟨q, w1, w2, w3, w4, w5⟩ := old
        have nq : q ≠ p := fun y => E.dis i j p z ho (by rw [h]; trivial) h1 (by rw [w1, y])
        exact ⟨q, w1, by rw [upd_ne nq]; exact w2, w3, w4, w5⟩
      | pin q i' zs =>
        obtain ⟨ws, w1, w2, w3, w4, w5⟩ := old
        have nq : q ≠ p := fun y => E.dis i j p z ho (by rw [h]; trivial) h1 (by rw [w1, y])
        exact ⟨ws, w1, by rw [upd_ne nq]; exact w2, w3, w4, paired_mono (Ex.new h2) w5⟩
  · have back : ∀ {c : Nat}, isOwn ((Γ.set i (Slot.dat pyDict kvs))[c]?) → isOwn Γ[c]? := fun {c} hc => by
      by_cases z : i = c
      · subst z
        exact ho
      · rw [List.getElem?_set_ne z] at hc
        exact hc
    exact E.dis a b q hab (back ha) (back hb) e
theorem go_freezeD {t : TS} (i : Nat) (hi : Γ[i]? = some (.obj (dO kvs))) (k : Go W t D (Γ.set i (.dat pyDict kvs))) : Go W t D Γ := nx_freezeD i hi k
end
/-! ### the truth of a list -/
abbrev tTruL (K : PySem.W.Frag) (ta : TE) : TT := fun σ H Q => ta σ H fun x H' => ∃ k, TruV K x H' k ∧ Q k H'
theorem pt_truthK {X : Cx} {a : Expr} {ta : TE} (K : PySem.W.Frag) (ha : PE X a ta) (he : ∀ whole, isTrue a X.env whole = (do let v ← whole; standAt a.pos; holding [v] (truthy v))) (hK : X.K = K := by rfl) : PT X a (tTruL K ta) := hK ▸ pt_truth ha he
theorem evt_truL {K : PySem.W.Frag} {Γ : Ctx} {ta : TE} {α : Type} {ip : Py α} {xs : List α} (h : Evx K ta Γ xs) : Evt K (tTruL K ta) Γ (!xs.isEmpty) := fun σ R0 H R e E Q k =>
  h σ R0 H R e E _ fun v H1 R1 g1 r1 => by
    obtain ⟨a, vs, rfl, hl, hx⟩ := r1
    refine ⟨_, .inl ⟨vs, sq_of (g1.inn a _ hl), rfl⟩, ?_⟩
    have e : (!vs.isEmpty) = !xs.isEmpty := by cases hx <;> rfl
    rw [e]
    exact k H1 R1 g1
end Dn

namespace Dn
open PySem PySem.Spec PyProof.Rows L2 Dx
/-! ### None, or a new list -/
def Evn {α : Type} [ip : Py α] (K : PySem.W.Frag) (te : TE) (Γ : Ctx) (o : Option (List α)) : Prop :=
  ∀ (σ : L2.St) (R0 H R : Hp), Ex H R → Env K R0 H R σ Γ → ∀ Q : VK, (o = none → ∀ H' R', Gr H R H' R' → Q .non R') → (∀ xs, o = some xs → ∀ p vs H' R', Gr H R H' R' → H' p = none → R p = none → R' p = some (.lst vs) → Paired (fun x v => ip.rel K x v H') xs vs → Q (.ref p) R') → te σ R Q
def RetN {α : Type} [ip : Py α] (W : Wd) (D : Ends) (o : Option (List α)) : Prop :=
  (o = none → ∀ H R, Gr W.H0 W.R0 H R → D.rt .non R) ∧ ∀ xs, o = some xs → RetL W D xs
theorem go_retNone {W : Wd} {Γ : Ctx} {D : Ends} {tz : TS} {α : Type} {ip : Py α} {o : Option (List α)} (h : o = none) (k : RetN W D o) : Go W (tSeq (tRet (tC .non)) tz) D Γ := fun σ H R f g E => k.1 h H R g
theorem go_retSome {W : Wd} {Γ : Ctx} {D : Ends} {i : Nat} {tz : TS} {α : Type} {ip : Py α} {o : Option (List α)} {xs : List α} (hi : Γ[i]? = some (.own ip xs)) (h : o = some xs) (k : RetN W D o) : Go W (tSeq (tRet (tVar i)) tz) D Γ := go_retO hi rfl (k.2 xs h)
theorem go_asgN {W : Wd} {Γ : Ctx} {D : Ends} {te : TE} {tz : TS} {i : Nat} {α : Type} {ip : Py α} {o : Option (List α)} (h : Evn W.K te Γ o) (k0 : o = none → Go W tz D (Γ.set i (.dat (pyOpt (ip := pyList (ip := ip))) (none : Option (List α))))) (k1 : ∀ xs, o = some xs → Go W tz D (Γ.set i (.own ip xs))) :
    Go W (tSeq (tAsg te (gName i)) tz) D Γ := fun σ H R f g E =>
  h σ W.R0 H R g.inn E _ (fun ho H' R' g' => k0 ho (σ.set i (some .non)) H' R' (f.trans g'.up) (g.trans g') ((E.grow g').setDat rfl)) fun xs ho p vs H' R' g' q1 q2 q3 q4 =>
    k1 xs ho (σ.set i (some (.ref p))) H' R' (f.trans g'.up) (g.trans g') ((E.grow g').setOwn (fresh_back g.keep q2) q1 q3 q4 fun j q h1 h2 => E.own_ne h1 h2 q2)
/-! ### lists of one's own at known places -/
theorem Env.mutS {K : PySem.W.Frag} {R0 H R : Hp} {σ : L2.St} {Γ : Ctx} {s' : Slot} {o' : HO} {i : Nat} {p : Addr} (E : Env K R0 H R σ Γ) (ho : isOwn Γ[i]?) (hσ : σ[i]? = some (some (.ref p))) (hs : s'.ok K R0 H (upd R p o') (some (some (.ref p)))) : Env K R0 H (upd R p o') σ (Γ.set i s') := by
  have hi : i < Γ.length := by
    by_cases hl : i < Γ.length
    · exact hl
    · rw [List.getElem?_eq_none (by omega)] at ho
      exact ho.elim
  refine ⟨by rw [List.length_set]; exact E.len, fun j s h => ?_, fun a b q hab ha hb e => ?_⟩
  · by_cases z : i = j
    · subst z
      rw [List.getElem?_set_self hi] at h
      cases h
      rw [hσ]
      exact hs
    · rw [List.getElem?_set_ne z] at h
      have old := E.ok j s h
      cases s with
      | un => trivial
      | dat i' x => exact old
      | own i' zs =>
        obtain ⟨q, ws, h1, h2, h3, h4, h5⟩ := old
        have nq : q ≠ p := fun y => E.dis i j p z ho (by rw [h]; trivial) hσ (by rw [h1, y])
        exact ⟨q, ws, h1, h2, h3, by rw [upd_ne nq]; exact h4, h5⟩
      | obj ob =>
        obtain ⟨q, h1, h2, h3, h4, h5⟩ := old
        have nq : q ≠ p := fun y => E.dis i j p z ho (by rw [h]; trivial) hσ (by rw [h1, y])
        exact ⟨q, h1, h2, h3, by rw [upd_ne nq]; exact h4, h5⟩
      | pin q i' zs =>
        obtain ⟨ws, h1, h2, h3, h4, h5⟩ := old
        have nq : q ≠ p := fun y => E.dis i j p z ho (by rw [h]; trivial) hσ (by rw [h1, y])
        exact ⟨ws, h1, h2, h3, by rw [upd_ne nq]; exact h4, h5⟩
  · have back : ∀ {c : Nat}, isOwn ((Γ.set i s')[c]?) → isOwn Γ[c]? := fun {c} hc => by
      by_cases z : i = c
      · subst z
        exact ho
      · rw [List.getElem?_set_ne z] at hc
        exact hc
    exact E.dis a b q hab (back ha) (back hb) e
theorem Env.tellS {K : PySem.W.Frag} {R0 H R : Hp} {σ : L2.St} {Γ : Ctx} {s' : Slot} {o : HO} {i : Nat} {p : Addr} (E : Env K R0 H R σ Γ) (ho : isOwn Γ[i]?) (hσ : σ[i]? = some (some (.ref p))) (hH : H p = none) (hs : s'.ok K R0 (upd H p o) R (some (some (.ref p)))) (hn : ¬ isOwn (some s')) : Env K R0 (upd H p o) R σ (Γ.set i s') := by
  have hi : i < Γ.length := by
    by_cases hl : i < Γ.length
    · exact hl
    · rw [List.getElem?_eq_none (by omega)] at ho
      exact ho.elim
  refine ⟨by rw [List.length_set]; exact E.len, fun j s h => ?_, fun a b q hab ha hb e => ?_⟩
  · by_cases z : i = j
    · subst z
      rw [List.getElem?_set_self hi] at h
      cases h
      rw [hσ]
      exact hs
    · rw [List.getElem?_set_ne z] at h
      have old := E.ok j s h
      cases s with
      | un => trivial
      | dat i' x =>
        obtain ⟨v, q1, q2⟩ := old
        exact ⟨v, q1, i'.mono (Ex.new hH) q2⟩
      | own i' zs =>
        obtain ⟨q, ws, w1, w2, w3, w4, w5⟩ := old
        have nq : q ≠ p := fun y => E.dis i j p z ho (by rw [h]; trivial) hσ (by rw [w1, y])
        exact ⟨q, ws, w1, by rw [upd_ne nq]; exact w2, w3, w4, paired_mono (Ex.new hH) w5⟩
      | obj ob =>
        obtain ⟨q, w1, w2, w3, w4, w5⟩ := old
        have nq : q ≠ p := fun y => E.dis i j p z ho (by rw [h]; trivial) hσ (by rw [w1, y])
        exact ⟨q, w1, by rw [upd_ne nq]; exact w2, w3, w4, w5⟩
      | pin q i' zs =>
        obtain ⟨ws, w1, w2, w3, w4, w5⟩ := old
        have nq : q ≠ p := fun y => E.dis i j p z ho (by rw [h]; trivial) hσ (by rw [w1, y])
        exact ⟨ws, w1, by rw [upd_ne nq]; exact w2, w3, w4, paired_mono (Ex.new hH) w5⟩
  · have back : ∀ {c : Nat}, isOwn ((Γ.set i s')[c]?) → isOwn Γ[c]? := fun {c} hc => by
      by_cases z : i = c
      · subst z
        exact ho
      · rw [List.getElem?_set_ne z] at hc
        exact hc
    exact E.dis a b q hab (back ha) (back hb) e
section
variable {W : Wd} {Γ : Ctx} {D : Ends} {te : TE} {tz : TS} {α : Type} {i : Nat} {a : Addr}
theorem go_appP {ip : Py α} {xs : List α} {x : α} (hi : Γ[i]? = some (.pin a ip xs)) (h : Evx W.K te Γ x) (hl : xs.length < 100000) (k : Go W tz D (Γ.set i (.pin a ip (xs ++ [x])))) :
    Go W (tSeq (tDrop (tBM W.K "list" rAppend (tVar i) (tCons te tNil))) tz) D Γ := fun σ H R f g E => by
  obtain ⟨vs, h1, h2, h3, h4, h5⟩ := E.ok i _ hi
  refine ⟨.ref a, h1, Or.inl ⟨rfl, vs, sq_of h4⟩, h σ W.R0 H R g.inn E _ fun v H' R' g' r => ?_⟩
  have hp' : H' a = none := g'.new a h2 (by rw [h4]; intro z; cases z)
  have l1 := paired_len h5
  refine ⟨a, vs, v, rfl, rfl, g'.keep a _ h4, sz_lt (by omega), ?_⟩
  exact k σ H' (upd R' a (.lst (vs ++ [v]))) (f.trans g'.up) ((g.trans g').mut hp' h3) ((E.grow g').mutS (by rw [hi]; trivial) h1 ⟨_, rfl, hp', h3, upd_same, paired_app (paired_mono g'.up h5) (.cons r .nil)⟩)
theorem go_clearP {ip : Py α} {xs : List α} (hi : Γ[i]? = some (.pin a ip xs)) (k : Go W tz D (Γ.set i (.pin a ip []))) :
    Go W (tSeq (tDrop (tBM0 W.K "list" rClear (tVar i))) tz) D Γ := fun σ H R f g E => by
  obtain ⟨vs, h1, h2, h3, h4, h5⟩ := E.ok i _ hi
  exact ⟨.ref a, h1, Or.inl ⟨rfl, vs, sq_of h4⟩, a, vs, rfl, rfl, h4, k σ H (upd R a (.lst [])) f (g.mut h2 h3) (E.mutS (by rw [hi]; trivial) h1 ⟨_, rfl, h2, h3, upd_same, .nil⟩)⟩
theorem go_extP {ip : Py α} {xs ys : List α} (hi : Γ[i]? = some (.pin a ip xs)) (h : Evx W.K te Γ ys) (hl : xs.length + ys.length ≤ 100000) (k : Go W tz D (Γ.set i (.pin a ip (xs ++ ys)))) :
    Go W (tSeq (tDrop (tBM W.K "list" rExtend (tVar i) (tCons te tNil))) tz) D Γ := fun σ H R f g E => by
  obtain ⟨vs, h1, h2, h3, h4, h5⟩ := E.ok i _ hi
  refine ⟨.ref a, h1, Or.inl ⟨rfl, vs, sq_of h4⟩, h σ W.R0 H R g.inn E _ fun v H' R' g' r => ?_⟩
  obtain ⟨b, ws, rfl, hb, hx⟩ := r
  have hp' : H' a = none := g'.new a h2 (by rw [h4]; intro z; cases z)
  have l1 := paired_len h5
  have l2 := paired_len hx
  refine ⟨a, b, vs, ws, rfl, rfl, g'.keep a _ h4, g'.inn b _ hb, sz_of (by omega), ?_⟩
  exact k σ H' (upd R' a (.lst (vs ++ ws))) (f.trans g'.up) ((g.trans g').mut hp' h3) ((E.grow g').mutS (by rw [hi]; trivial) h1 ⟨_, rfl, hp', h3, upd_same, paired_app (paired_mono g'.up h5) hx⟩)
theorem pin_look {K : PySem.W.Frag} {R0 H R : Hp} {σ : L2.St} {ip : Py α} {xs : List α} (E : Env K R0 H R σ Γ) (e : Ex H R) (hi : Γ[i]? = some (.pin a ip xs)) :
    H a = none ∧ R a ≠ none ∧ ∃ Hs, Ex Hs R ∧ Env K R0 Hs R σ (Γ.set i (.dat (pyList (ip := ip)) xs)) ∧ ∀ H' R', Gr Hs R H' R' → Gr H R (fun b => if b = a then none else H' b) R' := by
  obtain ⟨vs, h1, h2, h3, h4, h5⟩ := E.ok i _ hi
  refine ⟨h2, by rw [h4]; simp, upd H a (.lst vs), ex_tell e h4, E.tellS (by rw [hi]; trivial) h1 h2 ⟨_, rfl, a, vs, rfl, upd_same, paired_mono (Ex.new h2) h5⟩ (fun z => z), fun H' R' g => ⟨fun b o hb => ?_, fun b o hb => ?_, g.keep, fun b q1 q2 => ?_⟩⟩
  · have nb : b ≠ a := fun z => by
      rw [z, h2] at hb
      cases hb
    show Sm o (if b = a then none else H' b)
    rw [if_neg nb]
    exact g.up b o (by rw [upd_ne nb]; exact hb)
  · by_cases nb : b = a
    · have hb' : (if b = a then none else H' b) = some o := hb
      rw [if_pos nb] at hb'
      cases hb'
    · have hb' : (if b = a then none else H' b) = some o := hb
      rw [if_neg nb] at hb'
      exact g.inn b o hb'
  · show (if b = a then none else H' b) = none
    by_cases nb : b = a
    · rw [if_pos nb]
    · rw [if_neg nb]
      exact g.new b (by rw [upd_ne nb]; exact q1) q2
theorem evx_lookP {K : PySem.W.Frag} {β : Type} {ip : Py α} {iq : Py β} {sc : Sc β} {xs : List α} {x : β} (i : Nat) (hi : Γ[i]? = some (.pin a ip xs)) (h : Evx K te (Γ.set i (.dat (pyList (ip := ip)) xs)) x) : Evx K te Γ x := fun σ R0 H R e E Q k => by
  obtain ⟨_, _, Hs, es, Es, back⟩ := pin_look E e hi
  exact h σ R0 Hs R es Es Q fun v H' R' g r => k v _ R' (back H' R' g) (sc.free r)
theorem paired_free {β : Type} {iq : Py β} {sc : Sc β} {K : PySem.W.Frag} {H H' : Hp} : ∀ {xs : List β} {vs : List V}, Paired (fun x v => iq.rel K x v H) xs vs → Paired (fun x v => iq.rel K x v H') xs vs
  | _, _, .nil => .nil
  | _, _, .cons h t => .cons (sc.free h) (paired_free (sc := sc) t)
theorem evn_lookP {K : PySem.W.Frag} {β : Type} {ip : Py α} {iq : Py β} {sc : Sc β} {xs : List α} {o : Option (List β)} (i : Nat) (hi : Γ[i]? = some (.pin a ip xs)) (h : Evn K te (Γ.set i (.dat (pyList (ip := ip)) xs)) o) : Evn K te Γ o := fun σ R0 H R e E Q k0 k1 => by
  obtain ⟨_, _, Hs, es, Es, back⟩ := pin_look E e hi
  refine h σ R0 Hs R es Es Q (fun ho H' R' g => k0 ho _ R' (back H' R' g)) fun ys ho p vs H' R' g q1 q2 q3 q4 => k1 ys ho p vs _ R' (back H' R' g) ?_ q2 q3 (paired_free (sc := sc) q4)
  show (if p = a then none else H' p) = none
  rw [q1, ite_self]
end
section
variable {A0 A1 A2 A3 C : Type} [i0 : Py A0] [i1 : Py A1] [i2 : Py A2] [i3 : Py A3] [ic : Py C]
/-- a def of four that raises where bad, and else hands back None or a new list -/
def sxn4 (K : PySem.W.Frag) (pre : A0 → A1 → A2 → A3 → Prop) (bad : A0 → A1 → A2 → A3 → Bool) (cls : Addr) (f : A0 → A1 → A2 → A3 → Option (List C)) : Sp := fun vs R Q E => ∃ (x0 : A0) (x1 : A1) (x2 : A2) (x3 : A3) (v0 v1 v2 v3 : V) (H : Hp), vs = [v0, v1, v2, v3] ∧ Ex H R ∧ i0.rel K x0 v0 H ∧ i1.rel K x1 v1 H ∧ i2.rel K x2 v2 H ∧ i3.rel K x3 v3 H ∧ pre x0 x1 x2 x3 ∧
  (bad x0 x1 x2 x3 = false → (f x0 x1 x2 x3 = none → ∀ H' R', Gr H R H' R' → Q .non R') ∧ ∀ xs, f x0 x1 x2 x3 = some xs → ∀ p ys H' R', Gr H R H' R' → H' p = none → R p = none → R' p = some (.lst ys) → Paired (fun x v => ic.rel K x v H') xs ys → Q (.ref p) R') ∧
  (bad x0 x1 x2 x3 = true → ∀ H' R', Gr H R H' R' → E (.ref cls) none R')
theorem evn_callx4 {K : PySem.W.Frag} {Γ : Ctx} {pre : A0 → A1 → A2 → A3 → Prop} {bad : A0 → A1 → A2 → A3 → Bool} {cls : Addr} {f : A0 → A1 → A2 → A3 → Option (List C)} {x0 : A0} {x1 : A1} {x2 : A2} {x3 : A3} {t0 t1 t2 t3 : TE} {E0 : XK} (h0 : Evx K t0 Γ x0) (h1 : Evx K t1 Γ x1) (h2 : Evx K t2 Γ x2) (h3 : Evx K t3 Γ x3) (hp : pre x0 x1 x2 x3) (hb : bad x0 x1 x2 x3 = false) :
    Evn K (tCall (sxn4 K pre bad cls f) [] E0 (tCons t0 (tCons t1 (tCons t2 (tCons t3 tNil))))) Γ (f x0 x1 x2 x3) := fun σ R0 H R e E Q k0 k1 =>
  h0 σ R0 H R e E _ fun u0 H0 S0 g0 r0 => h1 σ R0 H0 S0 g0.inn (E.grow g0) _ fun u1 H1 S1 g1 r1 => h2 σ R0 H1 S1 g1.inn ((E.grow g0).grow g1) _ fun u2 H2 S2 g2 r2 => h3 σ R0 H2 S2 g2.inn (((E.grow g0).grow g1).grow g2) _ fun u3 H3 S3 g3 r3 =>
  have gg := g0.trans (g1.trans (g2.trans g3))
  ⟨x0, x1, x2, x3, u0, u1, u2, u3, H3, rfl, g3.inn, i0.mono ((g1.up.trans g2.up).trans g3.up) r0, i1.mono (g2.up.trans g3.up) r1, i2.mono g3.up r2, r3, hp,
    fun _ => ⟨fun ho H' R' g' => k0 ho H' R' (gg.trans g'), fun xs ho p ys H' R' g' q1 q2 q3 q4 => k1 xs ho p ys H' R' (gg.trans g') q1 (fresh_back gg.keep q2) q3 q4⟩, fun z => by rw [hb] at z; cases z⟩
theorem evz_calln4 {W : Wd} {Γ : Ctx} {pre : A0 → A1 → A2 → A3 → Prop} {bad : A0 → A1 → A2 → A3 → Bool} {cls : Addr} {f : A0 → A1 → A2 → A3 → Option (List C)} {x0 : A0} {x1 : A1} {x2 : A2} {x3 : A3} {t0 t1 t2 t3 : TE} {E : L2.St → XK} (h0 : Evx W.K t0 Γ x0) (h1 : Evx W.K t1 Γ x1) (h2 : Evx W.K t2 Γ x2) (h3 : Evx W.K t3 Γ x3) (hp : pre x0 x1 x2 x3) (hb : bad x0 x1 x2 x3 = true) :
    Evz W (tCallS (sxn4 W.K pre bad cls f) E (tCons t0 (tCons t1 (tCons t2 (tCons t3 tNil))))) Γ true () (fun σ R => E σ (.ref cls) none R) := fun σ H R ff gg EE Q k kx =>
  h0 σ W.R0 H R gg.inn EE _ fun u0 H0 S0 g0 r0 => h1 σ W.R0 H0 S0 g0.inn (EE.grow g0) _ fun u1 H1 S1 g1 r1 => h2 σ W.R0 H1 S1 g1.inn ((EE.grow g0).grow g1) _ fun u2 H2 S2 g2 r2 => h3 σ W.R0 H2 S2 g2.inn (((EE.grow g0).grow g1).grow g2) _ fun u3 H3 S3 g3 r3 =>
  ⟨x0, x1, x2, x3, u0, u1, u2, u3, H3, rfl, g3.inn, i0.mono ((g1.up.trans g2.up).trans g3.up) r0, i1.mono (g2.up.trans g3.up) r1, i2.mono g3.up r2, r3, hp,
    (fun z => by rw [hb] at z; cases z), fun _ H' R' g' => kx rfl H' R' ((g0.trans (g1.trans (g2.trans g3))).trans g')⟩
theorem defxn4 {P : Program} {w : World} {K : PySem.W.Frag} {mg : Str → Option Value} {base : Heap} {x qual : Str} {st : Stmt} {a : Addr} {fd : FuncData} {N ps : List Str} {k : Nat} {pre : A0 → A1 → A2 → A3 → Prop} {bad : A0 → A1 → A2 → A3 → Bool} {cls : Addr} {f : A0 → A1 → A2 → A3 → Option (List C)} (F : Fun K x qual st a fd) (S : FnScope N ps (defScope st)) (hps : ps.length = 4) (us : Ctx) (hus : us = List.replicate (N.length - 4) Slot.un)
    (hbody : ∀ (cdv : Value) (A : Around) (outer : List PySem.Env) (s : Shared) (H : Hp) (Q : VK) (E : XK), Room k (A.deeper (envOfC qual (defScope st) s.heap.objs.size a cdv)) →
      ∃ t, PSs (cxOf (L2N.CX P w) P w K mg base N qual (defScope st) a cdv A outer s H E) (defBody st) t ∧ ∀ (x0 : A0) (x1 : A1) (x2 : A2) (x3 : A3), pre x0 x1 x2 x3 → ∀ (W : Wd) (D : Ends), W.K = K → (∀ σ R, D.nx σ R = D.rt .non R) → (bad x0 x1 x2 x3 = false → RetN W D (f x0 x1 x2 x3)) → (bad x0 x1 x2 x3 = true → ∀ H' R', Gr W.H0 W.R0 H' R' → E (.ref cls) none R') → Go W t D (.dat i0 x0 :: .dat i1 x1 :: .dat i2 x2 :: .dat i3 x3 :: us)) : FnOk P w K mg base (L2N.CX P w) (k + 1) a fd ps (sxn4 K pre bad cls f) := by
  refine okN F S (fun vs H Q E h => ?_) (fun cdv A outer s R vs Q E hr h => ?_)
  · obtain ⟨x0, x1, x2, x3, v0, v1, v2, v3, H, rfl, _⟩ := h
    exact hps.symm
  · obtain ⟨x0, x1, x2, x3, v0, v1, v2, v3, H, rfl, e, r0, r1, r2, r3, hp, q, qx⟩ := h
    obtain ⟨t, h1, h2⟩ := hbody cdv A outer s R Q E hr
    subst hus
    exact ⟨t, h1, h2 x0 x1 x2 x3 hp ⟨K, H, R, H⟩ _ rfl (fun _ _ => rfl) (fun hb => ⟨fun ho H' R' g => (q hb).1 ho H' R' g, fun xs ho p ys H' R' g q1 q2 q3 q4 => (q hb).2 xs ho p ys H' R' g q1 q2 q3 q4⟩) (fun hb H' R' g => qx hb H' R' g) _ H R (Ex.refl H) (Gr.refl e) (Env.start (Are.cons (s := Slot.dat i0 x0) r0 (Are.cons (s := Slot.dat i1 x1) r1 (Are.cons (s := Slot.dat i2 x2) r2 (Are.cons (s := Slot.dat i3 x3) r3 Are.nil)))) rfl)⟩
end
end Dn

/-! Dn: defs that are handed two lists and change them. -/
namespace Dn
open PySem PySem.Spec PyProof.Rows L2 Dx
/-- R without what stands at a and b -/
def less (R : Hp) (a b : Addr) : Hp := fun x => if x = a ∨ x = b then none else R x
theorem less_ne {R : Hp} {a b x : Addr} (h1 : x ≠ a) (h2 : x ≠ b) : less R a b x = R x := if_neg fun z => z.elim h1 h2
theorem less_a {R : Hp} {a b : Addr} : less R a b a = none := if_pos (.inl rfl)
theorem less_b {R : Hp} {a b : Addr} : less R a b b = none := if_pos (.inr rfl)
theorem less_up {R : Hp} {a b : Addr} : Ex (less R a b) R := fun x o h => by
  unfold less at h
  split at h
  · cases h
  · exact Sm.of h
theorem up_less {R0 R : Hp} {a b : Addr} (e : Ex R0 R) (ha : R0 a = none) (hb : R0 b = none) : Ex R0 (less R a b) := fun x o h => by
  have h1 : x ≠ a := fun z => by rw [z, ha] at h; cases h
  have h2 : x ≠ b := fun z => by rw [z, hb] at h; cases h
  rw [less_ne h1 h2]
  exact e x o h
/-- from H1, R1 (in which a and b stand) on through a call that changes what stands there -/
theorem Gr.thru {H0 R0 H1 R1 H' R' : Hp} {a b : Addr} (g : Gr H0 R0 H1 R1) (ha : R0 a = none) (hb : R0 b = none) (g' : Gr H1 (less R1 a b) H' R') : Gr H0 R0 H' R' := by
  refine ⟨g.up.trans g'.up, g'.inn, (up_less g.keep ha hb).trans g'.keep, fun x h1 h2 => g'.new x (g.new x h1 h2) ?_⟩
  have n1 : x ≠ a := fun z => h2 (by rw [z]; exact ha)
  have n2 : x ≠ b := fun z => h2 (by rw [z]; exact hb)
  rw [less_ne n1 n2]
  exact ne_none g.keep h2
section
variable {A0 A1 A2 A3 A4 B5 B6 : Type} [i0 : Py A0] [i1 : Py A1] [i2 : Py A2] [i3 : Py A3] [i4 : Py A4] [j5 : Py B5] [j6 : Py B6]
variable {pre : A0 → A1 → A2 → A3 → A4 → List B5 → List B6 → Prop} {f5 : A0 → A1 → A2 → A3 → A4 → List B5 → List B6 → List B5} {f6 : A0 → A1 → A2 → A3 → A4 → List B5 → List B6 → List B6}
/-- answers True, and leaves f5 and f6 in the two lists -/
def spA (K : PySem.W.Frag) (pre : A0 → A1 → A2 → A3 → A4 → List B5 → List B6 → Prop) (f5 : A0 → A1 → A2 → A3 → A4 → List B5 → List B6 → List B5) (f6 : A0 → A1 → A2 → A3 → A4 → List B5 → List B6 → List B6) : Sp := fun vs R Q _ =>
  ∃ (x0 : A0) (x1 : A1) (x2 : A2) (x3 : A3) (x4 : A4) (y5 : List B5) (y6 : List B6) (v0 v1 v2 v3 v4 : V) (a b : Addr) (us ws : List V) (H : Hp), vs = [v0, v1, v2, v3, v4, .ref a, .ref b] ∧ Ex H R ∧ i0.rel K x0 v0 H ∧ i1.rel K x1 v1 H ∧ i2.rel K x2 v2 H ∧ i3.rel K x3 v3 H ∧ i4.rel K x4 v4 H ∧
    a ≠ b ∧ H a = none ∧ R a = some (.lst us) ∧ Paired (fun x v => j5.rel K x v H) y5 us ∧ H b = none ∧ R b = some (.lst ws) ∧ Paired (fun x v => j6.rel K x v H) y6 ws ∧ pre x0 x1 x2 x3 x4 y5 y6 ∧
    ∀ H' R' us' ws', Gr H (less R a b) H' R' → H' a = none → R' a = some (.lst us') → Paired (fun x v => j5.rel K x v H') (f5 x0 x1 x2 x3 x4 y5 y6) us' → H' b = none → R' b = some (.lst ws') → Paired (fun x v => j6.rel K x v H') (f6 x0 x1 x2 x3 x4 y5 y6) ws' → Q (.bl true) R'
def RetA (W : Wd) (D : Ends) (a b : Addr) (z5 : List B5) (z6 : List B6) : Prop :=
  ∀ H' R' us' ws', Gr W.H0 W.R0 H' R' → H' a = none → R' a = some (.lst us') → Paired (fun x v => j5.rel W.K x v H') z5 us' → H' b = none → R' b = some (.lst ws') → Paired (fun x v => j6.rel W.K x v H') z6 ws' → D.rt (.bl true) R'
theorem go_retA {W : Wd} {Γ : Ctx} {D : Ends} {te : TE} {tz : TS} {a b : Addr} {z5 : List B5} {z6 : List B6} {i j : Nat} (h5 : Γ[i]? = some (.pin a j5 z5)) (h6 : Γ[j]? = some (.pin b j6 z6)) (h : Evx W.K te Γ true) (k : RetA W D a b z5 z6) : Go W (tSeq (tRet te) tz) D Γ := fun σ H R f g E =>
  h σ W.R0 H R g.inn E _ fun v H' R' g' r => by
    have r : v = .bl true := r
    subst r
    have E2 := E.grow g'
    obtain ⟨us, _, h2, _, h4, h7⟩ := E2.ok i _ h5
    obtain ⟨ws, _, p2, _, p4, p7⟩ := E2.ok j _ h6
    exact k H' R' us ws (g.trans g') h2 h4 h7 p2 p4 p7
theorem defA {P : Program} {w : World} {K : PySem.W.Frag} {mg : Str → Option Value} {base : Heap} {x qual : Str} {st : Stmt} {q : Addr} {fd : FuncData} {N ps : List Str} {k : Nat} (F : Fun K x qual st q fd) (S : FnScope N ps (defScope st)) (hps : ps.length = 7) (us : Ctx) (hus : us = List.replicate (N.length - 7) Slot.un)
    (hbody : ∀ (cdv : Value) (A : Around) (outer : List PySem.Env) (s : Shared) (H : Hp) (Q : VK) (E : XK), Room k (A.deeper (envOfC qual (defScope st) s.heap.objs.size q cdv)) →
      ∃ t, PSs (cxOf CX0 P w K mg base N qual (defScope st) q cdv A outer s H E).nox (defBody st) t ∧ ∀ (x0 : A0) (x1 : A1) (x2 : A2) (x3 : A3) (x4 : A4) (y5 : List B5) (y6 : List B6) (a b : Addr), pre x0 x1 x2 x3 x4 y5 y6 → ∀ (W : Wd) (D : Ends), W.K = K → (∀ σ R, D.nx σ R = D.rt .non R) → RetA W D a b (f5 x0 x1 x2 x3 x4 y5 y6) (f6 x0 x1 x2 x3 x4 y5 y6) → Go W t D (.dat i0 x0 :: .dat i1 x1 :: .dat i2 x2 :: .dat i3 x3 :: .dat i4 x4 :: .pin a j5 y5 :: .pin b j6 y6 :: us)) : FnOk P w K mg base CX0 (k + 1) q fd ps (spA K pre f5 f6) := by
  refine F.ok S (fun vs H Q E h => ?_) (fun cdv A outer s R vs Q E hr h => ?_)
  · obtain ⟨x0, x1, x2, x3, x4, y5, y6, v0, v1, v2, v3, v4, a, b, us, ws, H, rfl, _⟩ := h
    exact hps.symm
  · obtain ⟨x0, x1, x2, x3, x4, y5, y6, v0, v1, v2, v3, v4, a, b, u5, u6, H, rfl, e, r0, r1, r2, r3, r4, nab, ha, hRa, h5, hb, hRb, h6, hp, qq⟩ := h
    obtain ⟨t, h1, h2⟩ := hbody cdv A outer s R Q E hr
    subst hus
    have g0 : Gr H (less R a b) H R := ⟨Ex.refl H, e, less_up, fun _ z _ => z⟩
    have E0 : Env K (less R a b) H R (L2.start N [v0, v1, v2, v3, v4, .ref a, .ref b]) ([.dat i0 x0, .dat i1 x1, .dat i2 x2, .dat i3 x3, .dat i4 x4, .dat pyErr (⟨a⟩ : ErrV), .dat pyErr (⟨b⟩ : ErrV)] ++ List.replicate (N.length - 7) Slot.un) :=
      Env.start (Are.cons (s := Slot.dat i0 x0) r0 (Are.cons (s := Slot.dat i1 x1) r1 (Are.cons (s := Slot.dat i2 x2) r2 (Are.cons (s := Slot.dat i3 x3) r3 (Are.cons (s := Slot.dat i4 x4) r4 (Are.cons (s := Slot.dat pyErr (⟨a⟩ : ErrV)) rfl (Are.cons (s := Slot.dat pyErr (⟨b⟩ : ErrV)) rfl Are.nil))))))) rfl
    have no : ∀ (c : Nat), ¬ isOwn (([.dat i0 x0, .dat i1 x1, .dat i2 x2, .dat i3 x3, .dat i4 x4, .dat pyErr (⟨a⟩ : ErrV), .dat pyErr (⟨b⟩ : ErrV)] ++ List.replicate (N.length - 7) Slot.un : Ctx)[c]?) := fun c hc => by
      rcases c with _ | _ | _ | _ | _ | _ | _ | c
      all_goals try exact hc
      rw [List.getElem?_append_right (by show 7 ≤ _; omega), List.getElem?_replicate] at hc
      split at hc <;> exact hc
    have E1 := E0.setHeld (i := 5) (p := a) (s := .pin a j5 y5) ⟨u5, rfl, ha, less_a, hRa, h5⟩ (fun c q z _ => absurd z (no c))
    have E2 := E1.setHeld (i := 6) (p := b) (s := .pin b j6 y6) ⟨u6, rfl, hb, less_b, hRb, h6⟩ (fun c q z1 z2 => by
      by_cases c5 : 5 = c
      · subst c5
        have e5 : (some (some (V.ref a)) : Option (Option V)) = some (some (V.ref q)) := z2
        intro zz
        apply nab
        injection e5 with e5
        injection e5 with e5
        injection e5 with e5
        rw [e5, zz]
      · rw [List.getElem?_set_ne c5] at z1
        exact absurd z1 (no c))
    exact ⟨t, h1, h2 x0 x1 x2 x3 x4 y5 y6 a b hp ⟨K, H, less R a b, H⟩ _ rfl (fun _ _ => rfl) (fun H' R' us' ws' g q1 q2 q3 q4 q5 q6 => qq H' R' us' ws' g q1 q2 q3 q4 q5 q6) _ H R (Ex.refl H) g0 E2⟩
/-- if not f(.., own, own): .. where f answers True -/
theorem go_askA {W : Wd} {Γ : Ctx} {D : Ends} {t0 t1 t2 t3 t4 : TE} {tu tz : TS} {E0 : XK} {x0 : A0} {x1 : A1} {x2 : A2} {x3 : A3} {x4 : A4} {y5 : List B5} {y6 : List B6} {i j : Nat} (hij : i ≠ j) (h0 : Evx W.K t0 Γ x0) (h1 : Evx W.K t1 Γ x1) (h2 : Evx W.K t2 Γ x2) (h3 : Evx W.K t3 Γ x3) (h4 : Evx W.K t4 Γ x4) (h5 : Γ[i]? = some (.own j5 y5)) (h6 : Γ[j]? = some (.own j6 y6)) (hp : pre x0 x1 x2 x3 x4 y5 y6)
    (k : Go W tz D ((Γ.set i (.own j5 (f5 x0 x1 x2 x3 x4 y5 y6))).set j (.own j6 (f6 x0 x1 x2 x3 x4 y5 y6)))) :
    Go W (tSeq (tIfS (tNot (tB (tCall (spA W.K pre f5 f6) [] E0 (tCons t0 (tCons t1 (tCons t2 (tCons t3 (tCons t4 (tCons (tVar i) (tCons (tVar j) tNil)))))))))) tu tNext) tz) D Γ := fun σ H R f g E =>
  h0 σ W.R0 H R g.inn E _ fun u0 H0 S0 g0 r0 => h1 σ W.R0 H0 S0 g0.inn (E.grow g0) _ fun u1 H1 S1 g1 r1 => h2 σ W.R0 H1 S1 g1.inn ((E.grow g0).grow g1) _ fun u2 H2 S2 g2 r2 => h3 σ W.R0 H2 S2 g2.inn (((E.grow g0).grow g1).grow g2) _ fun u3 H3 S3 g3 r3 => h4 σ W.R0 H3 S3 g3.inn ((((E.grow g0).grow g1).grow g2).grow g3) _ fun u4 H4 S4 g4 r4 => by
    have gg := g0.trans (g1.trans (g2.trans (g3.trans g4)))
    have EE : Env W.K W.R0 H4 S4 σ Γ := E.grow gg
    obtain ⟨a, us, s1, s2, s3, s4, s5⟩ := EE.ok i _ h5
    obtain ⟨b, ws, p1, p2, p3, p4, p5⟩ := EE.ok j _ h6
    have nab : a ≠ b := fun z => EE.dis i j a hij (by rw [h5]; trivial) (by rw [h6]; trivial) s1 (by rw [p1, z])
    refine ⟨.ref a, s1, .ref b, p1, x0, x1, x2, x3, x4, y5, y6, u0, u1, u2, u3, u4, a, b, us, ws, H4, rfl, g4.inn, i0.mono (((g1.up.trans g2.up).trans g3.up).trans g4.up) r0, i1.mono ((g2.up.trans g3.up).trans g4.up) r1, i2.mono (g3.up.trans g4.up) r2, i3.mono g4.up r3, r4, nab, s2, s4, s5, p2, p4, p5, hp, fun H' R' us' ws' g' q1 q2 q3 q4 q5 q6 => ⟨true, rfl, ?_⟩⟩
    refine iteF ?_
    have gn : Gr W.H0 W.R0 H' R' := (g.trans gg).thru s3 p3 g'
    refine k σ H' R' ((f.trans gg.up).trans g'.up) gn ?_
    refine ⟨by rw [List.length_set, List.length_set]; exact EE.len, fun c s hc => ?_, fun c d q hcd hc hd e => ?_⟩
    · by_cases zj : j = c
      · subst zj
        have hl : j < (Γ.set i (.own j5 (f5 x0 x1 x2 x3 x4 y5 y6))).length := by rw [List.length_set]; exact (List.getElem?_eq_some_iff.mp h6).1
        rw [List.getElem?_set_self hl] at hc
        cases hc
        exact ⟨b, ws', p1, q4, p3, q5, q6⟩
      · rw [List.getElem?_set_ne zj] at hc
        by_cases zi : i = c
        · subst zi
          rw [List.getElem?_set_self (List.getElem?_eq_some_iff.mp h5).1] at hc
          cases hc
          exact ⟨a, us', s1, q1, s3, q2, q3⟩
        · rw [List.getElem?_set_ne zi] at hc
          have old := EE.ok c s hc
          have oth : isOwn Γ[c]? → ∀ p, σ[c]? = some (some (.ref p)) → p ≠ a ∧ p ≠ b := fun ho p hpp => ⟨fun z => EE.dis i c a zi (by rw [h5]; trivial) ho s1 (by rw [hpp, z]), fun z => EE.dis j c b zj (by rw [h6]; trivial) ho p1 (by rw [hpp, z])⟩
          cases s with
          | un => trivial
          | dat i' x =>
            obtain ⟨v, w1, w2⟩ := old
            exact ⟨v, w1, i'.mono g'.up w2⟩
          | own i' zs =>
            obtain ⟨q, vs, w1, w2, w3, w4, w5⟩ := old
            obtain ⟨n1, n2⟩ := oth (by rw [hc]; trivial) q w1
            have lq : less S4 a b q = some (.lst vs) := by rw [less_ne n1 n2]; exact w4
            exact ⟨q, vs, w1, g'.new q w2 (by rw [lq]; intro z; cases z), w3, g'.keep q _ lq, paired_mono g'.up w5⟩
          | obj ob =>
            obtain ⟨q, w1, w2, w3, w4, w5⟩ := old
            obtain ⟨n1, n2⟩ := oth (by rw [hc]; trivial) q w1
            have lq : less S4 a b q = some ob := by rw [less_ne n1 n2]; exact w4
            exact ⟨q, w1, g'.new q w2 (by rw [lq]; intro z; cases z), w3, sm_fix w5 (g'.keep q _ lq), w5⟩
          | pin q i' zs =>
            obtain ⟨vs, w1, w2, w3, w4, w5⟩ := old
            obtain ⟨n1, n2⟩ := oth (by rw [hc]; trivial) q w1
            have lq : less S4 a b q = some (.lst vs) := by rw [less_ne n1 n2]; exact w4
            exact ⟨vs, w1, g'.new q w2 (by rw [lq]; intro z; cases z), w3, g'.keep q _ lq, paired_mono g'.up w5⟩
    · have back : ∀ {c : Nat}, isOwn (((Γ.set i (Slot.own j5 (f5 x0 x1 x2 x3 x4 y5 y6))).set j (Slot.own j6 (f6 x0 x1 x2 x3 x4 y5 y6)))[c]?) → isOwn Γ[c]? := fun {c} hc => by
        by_cases zj : j = c
        · subst zj
          rw [h6]
          trivial
        · rw [List.getElem?_set_ne zj] at hc
          by_cases zi : i = c
          · subst zi
            rw [h5]
            trivial
          · rw [List.getElem?_set_ne zi] at hc
            exact hc
      exact EE.dis c d q hcd (back hc) (back hd) e
/-- f(.., [], []), the two lists new, and gone behind it -/
theorem evx_askNew {K : PySem.W.Frag} {Γ : Ctx} {t0 t1 t2 t3 t4 t5 t6 : TE} {E0 : XK} {x0 : A0} {x1 : A1} {x2 : A2} {x3 : A3} {x4 : A4} {y5 : List B5} {y6 : List B6} (h0 : Evx K t0 Γ x0) (h1 : Evx K t1 Γ x1) (h2 : Evx K t2 Γ x2) (h3 : Evx K t3 Γ x3) (h4 : Evx K t4 Γ x4) (h5 : Evl K t5 Γ y5) (h6 : Evl K t6 Γ y6) (hp : pre x0 x1 x2 x3 x4 y5 y6) :
    Evx K (tCall (spA K pre f5 f6) [] E0 (tCons t0 (tCons t1 (tCons t2 (tCons t3 (tCons t4 (tCons t5 (tCons t6 tNil)))))))) Γ true := fun σ R0 H R e E Q k =>
  h0 σ R0 H R e E _ fun u0 H0 S0 g0 r0 => h1 σ R0 H0 S0 g0.inn (E.grow g0) _ fun u1 H1 S1 g1 r1 => h2 σ R0 H1 S1 g1.inn ((E.grow g0).grow g1) _ fun u2 H2 S2 g2 r2 => h3 σ R0 H2 S2 g2.inn (((E.grow g0).grow g1).grow g2) _ fun u3 H3 S3 g3 r3 => h4 σ R0 H3 S3 g3.inn ((((E.grow g0).grow g1).grow g2).grow g3) _ fun u4 H4 S4 g4 r4 => by
    have gg := g0.trans (g1.trans (g2.trans (g3.trans g4)))
    refine h5 σ R0 H4 S4 g4.inn (E.grow gg) _ fun a us H5 S5 g5 n1 n2 n3 n4 => h6 σ R0 H5 S5 g5.inn ((E.grow gg).grow g5) _ fun b ws H6 S6 g6 m1 m2 m3 m4 => ?_
    have ga := gg.trans (g5.trans g6)
    have upb := g5.up.trans g6.up
    have nab : a ≠ b := fun z => by
      rw [z, m2] at n3
      cases n3
    have a6 : S6 a = some (.lst us) := g6.keep a _ n3
    have ha6 : H6 a = none := g6.new a n1 (by rw [n3]; intro z; cases z)
    have Ra : R a = none := fresh_back gg.keep n2
    have Rb : R b = none := fresh_back (gg.trans g5).keep m2
    refine ⟨x0, x1, x2, x3, x4, y5, y6, u0, u1, u2, u3, u4, a, b, us, ws, H6, rfl, g6.inn, i0.mono ((((g1.up.trans g2.up).trans g3.up).trans g4.up).trans upb) r0, i1.mono (((g2.up.trans g3.up).trans g4.up).trans upb) r1, i2.mono ((g3.up.trans g4.up).trans upb) r2, i3.mono (g4.up.trans upb) r3, i4.mono upb r4, nab, ha6, a6, paired_mono g6.up n4, m1, m3, m4, hp, fun H' R' us' ws' g' q1 q2 q3 q4 q5 q6 => ?_⟩
    exact k (.bl true) H' R' (ga.thru Ra Rb g') rfl
end
end Dn

/-! Gn: ways: rounds from a point, told as a dict; the law's count of rounds. -/
namespace Gn
open PySem PySem.Spec PyProof.Rows L2 Dn
abbrev Bf := List (Int × Int) × List Int
def visit (shut : List Int) (pt : Int) (st : Bf) (o : Int) : Bf := if getI st.1 o = none ∧ o ∉ shut then (st.1 ++ [(o, pt)], st.2 ++ [o]) else st
def visits (rows : List (List Int)) (shut : List Int) (st : Bf) (pt : Int) : Bf := (gt rows pt).foldl (visit shut pt) st
def bround (rows : List (List Int)) (shut : List Int) (D : List (Int × Int)) (edge : List Int) : Bf := edge.foldl (visits rows shut) (D, [])
def bfs (rows : List (List Int)) (shut : List Int) (s : Int) : Nat → Bf
  | 0 => ([(s, s)], [s])
  | k + 1 => bround rows shut (bfs rows shut s k).1 (bfs rows shut s k).2
/-! ### keys -/
theorem getI_none {D : List (Int × Int)} {x : Int} : getI D x = none ↔ x ∉ D.map (·.1) := by
  induction D with
  | nil => simp [getI]
  | cons t r ih =>
    unfold getI
    rw [List.map_cons, List.mem_cons]
    by_cases h : t.1 = x
    · rw [if_pos h]
      constructor
      · intro z
        cases z
      · intro z
        exact absurd (.inl h.symm) z
    · rw [if_neg h, ih]
      constructor
      · rintro z (q | q)
        · exact h q.symm
        · exact z q
      · intro z q
        exact z (.inr q)
/-! ### one round -/
structure FI (D : List (Int × Int)) (shut : List Int) (evs : List (Int × Int)) (st : Bf) : Prop where
  keys : ∀ x, getI st.1 x ≠ none ↔ getI D x ≠ none ∨ (x ∉ shut ∧ ∃ pt, (pt, x) ∈ evs)
  new : ∀ x, x ∈ st.2 ↔ getI st.1 x ≠ none ∧ getI D x = none
  old : ∀ x y, getI D x = some y → getI st.1 x = some y
  par : ∀ x y, getI D x = none → getI st.1 x = some y → (y, x) ∈ evs ∧ x ∉ shut
theorem FI.zero (D : List (Int × Int)) (shut : List Int) : FI D shut [] (D, []) := by
  refine ⟨fun x => ?_, fun x => ?_, fun x y h => h, fun x y h1 h2 => ?_⟩
  · simp
  · simp
  · rw [show getI (D, ([] : List Int)).1 x = getI D x from rfl, h1] at h2
    cases h2
theorem FI.step {D : List (Int × Int)} {shut : List Int} {evs : List (Int × Int)} {st : Bf} (h : FI D shut evs st) (pt o : Int) : FI D shut (evs ++ [(pt, o)]) (visit shut pt st o) := by
  have mem : ∀ q x, (q, x) ∈ evs ++ [(pt, o)] ↔ (q, x) ∈ evs ∨ (q = pt ∧ x = o) := fun q x => by
    rw [List.mem_append, List.mem_singleton, Prod.mk.injEq]
  unfold visit
  by_cases c : getI st.1 o = none ∧ o ∉ shut
  · rw [if_pos c]
    have sn : ∀ x, getI (st.1 ++ [(o, pt)]) x = if o = x then some pt else getI st.1 x := fun x => getI_snoc c.1
    have dn : getI D o = none := by
      cases q : getI D o with
      | none => rfl
      | some y =>
        have := h.old o y q
        rw [c.1] at this
        cases this
    refine ⟨fun x => ?_, fun x => ?_, fun x y hx => ?_, fun x y h1 h2 => ?_⟩
    · show getI (st.1 ++ [(o, pt)]) x ≠ none ↔ _
      rw [sn]
      by_cases q : o = x
      · subst q
        rw [if_pos rfl]
        constructor
        · intro _
          exact .inr ⟨c.2, pt, (mem _ _).mpr (.inr ⟨rfl, rfl⟩)⟩
        · intro _ z
          cases z
      · rw [if_neg q, h.keys]
        constructor
        · rintro (z | ⟨z1, p, z2⟩)
          · exact .inl z
          · exact .inr ⟨z1, p, (mem _ _).mpr (.inl z2)⟩
        · rintro (z | ⟨z1, p, z2⟩)
          · exact .inl z
          · rcases (mem _ _).mp z2 with w | ⟨_, w⟩
            · exact .inr ⟨z1, p, w⟩
            · exact absurd w.symm q
    · show x ∈ st.2 ++ [o] ↔ getI (st.1 ++ [(o, pt)]) x ≠ none ∧ _
      rw [sn, List.mem_append, List.mem_singleton, h.new]
      by_cases q : o = x
      · subst q
        rw [if_pos rfl]
        exact ⟨fun _ => ⟨by simp, dn⟩, fun _ => .inr rfl⟩
      · rw [if_neg q]
        exact ⟨fun z => z.elim id fun w => absurd w.symm q, fun z => .inl z⟩
    · show getI (st.1 ++ [(o, pt)]) x = some y
      rw [sn, if_neg (fun q => by rw [← q, dn] at hx; cases hx)]
      exact h.old x y hx
    · have h2 : getI (st.1 ++ [(o, pt)]) x = some y := h2
      rw [sn] at h2
      by_cases q : o = x
      · subst q
        rw [if_pos rfl] at h2
        cases h2
        exact ⟨(mem _ _).mpr (.inr ⟨rfl, rfl⟩), c.2⟩
      · rw [if_neg q] at h2
        obtain ⟨w1, w2⟩ := h.par x y h1 h2
        exact ⟨(mem _ _).mpr (.inl w1), w2⟩
  · rw [if_neg c]
    refine ⟨fun x => ?_, h.new, h.old, fun x y h1 h2 => ?_⟩
    · rw [h.keys]
      constructor
      · rintro (z | ⟨z1, p, z2⟩)
        · exact .inl z
        · exact .inr ⟨z1, p, (mem _ _).mpr (.inl z2)⟩
      · rintro (z | ⟨z1, p, z2⟩)
        · exact .inl z
        · rcases (mem _ _).mp z2 with w | ⟨_, w⟩
          · exact .inr ⟨z1, p, w⟩
          · subst w
            have : getI st.1 x ≠ none := fun q => c ⟨q, z1⟩
            exact (h.keys x).mp this
    · obtain ⟨w1, w2⟩ := h.par x y h1 h2
      exact ⟨(mem _ _).mpr (.inl w1), w2⟩
theorem FI.row {D : List (Int × Int)} {shut : List Int} (pt : Int) : ∀ (row : List Int) {evs : List (Int × Int)} {st : Bf}, FI D shut evs st → FI D shut (evs ++ row.map fun o => (pt, o)) (row.foldl (visit shut pt) st)
  | [], evs, st, h => by simpa using h
  | o :: r, evs, st, h => by
    have q := FI.row pt r (h.step pt o)
    rw [List.append_assoc] at q
    exact q
def evsOf (rows : List (List Int)) (edge : List Int) : List (Int × Int) := edge.flatMap fun pt => (gt rows pt).map fun o => (pt, o)
theorem FI.edge {D : List (Int × Int)} {rows : List (List Int)} {shut : List Int} : ∀ (edge : List Int) {evs : List (Int × Int)} {st : Bf}, FI D shut evs st → FI D shut (evs ++ evsOf rows edge) (edge.foldl (visits rows shut) st)
  | [], evs, st, h => by simpa [evsOf] using h
  | pt :: r, evs, st, h => by
    have q := FI.edge (rows := rows) r (h.row pt (gt rows pt))
    rw [List.append_assoc] at q
    exact q
theorem round_fi (rows : List (List Int)) (shut : List Int) (D : List (Int × Int)) (edge : List Int) : FI D shut (evsOf rows edge) (bround rows shut D edge) := by
  have q := FI.edge (rows := rows) edge (FI.zero D shut)
  simpa [bround] using q
theorem evs_mem {rows : List (List Int)} {edge : List Int} {pt x : Int} : (pt, x) ∈ evsOf rows edge ↔ pt ∈ edge ∧ x ∈ gt rows pt := by
  unfold evsOf
  rw [List.mem_flatMap]
  constructor
  · rintro ⟨q, h1, h2⟩
    obtain ⟨o, h3, h4⟩ := List.mem_map.mp h2
    cases h4
    exact ⟨h1, h3⟩
  · rintro ⟨h1, h2⟩
    exact ⟨pt, h1, List.mem_map.mpr ⟨x, h2, rfl⟩⟩
/-! ### bounds along the way -/
structure Sml (n : Nat) (st : Bf) : Prop where
  nd : (st.1.map (·.1)).Nodup
  inn : ∀ x ∈ st.1.map (·.1), 0 ≤ x ∧ x < (n : Int)
  le : st.2.length ≤ st.1.length
theorem Sml.step {n : Nat} {st : Bf} (h : Sml n st) {shut : List Int} {pt o : Int} (ho : 0 ≤ o ∧ o < (n : Int)) : Sml n (visit shut pt st o) := by
  unfold visit
  by_cases c : getI st.1 o = none ∧ o ∉ shut
  · rw [if_pos c]
    have no := getI_none.mp c.1
    refine ⟨?_, fun x hx => ?_, ?_⟩
    · show ((st.1 ++ [(o, pt)]).map (·.1)).Nodup
      rw [List.map_append, List.nodup_append]
      refine ⟨h.nd, by simp, fun a ha b hb e => ?_⟩
      have : b = o := by simpa using hb
      rw [e, this] at ha
      exact no ha
    · have hx : x ∈ (st.1 ++ [(o, pt)]).map (·.1) := hx
      rw [List.map_append, List.mem_append] at hx
      rcases hx with z | z
      · exact h.inn x z
      · have : x = o := by simpa using z
        rw [this]
        exact ho
    · show (st.2 ++ [o]).length ≤ (st.1 ++ [(o, pt)]).length
      rw [List.length_append, List.length_append, List.length_singleton, List.length_singleton]
      have := h.le
      omega
  · rw [if_neg c]
    exact h
theorem Sml.row {n : Nat} {shut : List Int} {pt : Int} : ∀ (row : List Int) {st : Bf}, (∀ o ∈ row, 0 ≤ o ∧ o < (n : Int)) → Sml n st → Sml n (row.foldl (visit shut pt) st)
  | [], _, _, h => h
  | o :: r, _, hr, h => Sml.row r (fun x hx => hr x (List.mem_cons_of_mem _ hx)) (h.step (hr o List.mem_cons_self))
def InWeb (n : Nat) (rows : List (List Int)) : Prop := ∀ a x, 0 ≤ a ∧ a < (n : Int) → x ∈ gt rows a → 0 ≤ x ∧ x < (n : Int)
theorem Sml.edge {n : Nat} {rows : List (List Int)} {shut : List Int} (hw : InWeb n rows) : ∀ (edge : List Int) {st : Bf}, (∀ a ∈ edge, 0 ≤ a ∧ a < (n : Int)) → Sml n st → Sml n (edge.foldl (visits rows shut) st)
  | [], _, _, h => h
  | a :: r, _, hr, h => Sml.edge hw r (fun x hx => hr x (List.mem_cons_of_mem _ hx)) (Sml.row _ (fun o ho => hw a o (hr a List.mem_cons_self) ho) h)
theorem Sml.drop {n : Nat} {st : Bf} (h : Sml n st) : Sml n (st.1, []) := ⟨h.nd, h.inn, Nat.zero_le _⟩
theorem nodup_range {n : Nat} {xs : List Int} (h : xs.Nodup) (hi : ∀ x ∈ xs, 0 ≤ x ∧ x < (n : Int)) : xs.length ≤ n := by
  have sub : ∀ x ∈ xs.map Int.toNat, x ∈ List.range n := fun x hx => by
    obtain ⟨y, hy, e⟩ := List.mem_map.mp hx
    have := hi y hy
    rw [List.mem_range]
    omega
  have nd : (xs.map Int.toNat).Nodup := by
    rw [List.Nodup, List.pairwise_map]
    refine List.Pairwise.imp_of_mem (fun {a b} ha hb ne z => ?_) h
    have := hi a ha
    have := hi b hb
    omega
  have q := List.Nodup.length_le_of_subset nd (fun x hx => sub x hx)
  simpa using q
theorem Sml.len {n : Nat} {st : Bf} (h : Sml n st) : st.1.length ≤ n := by
  have q := nodup_range h.nd h.inn
  simpa using q

/-! ### rounds after rounds -/
/-- x can be come to from s by at most k ties, no point but s being shut -/
def Win (rows : List (List Int)) (shut : List Int) (s : Int) : Nat → Int → Prop
  | 0, x => x = s
  | k + 1, x => Win rows shut s k x ∨ (x ∉ shut ∧ ∃ y, Win rows shut s k y ∧ x ∈ gt rows y)
theorem Win.mono {rows : List (List Int)} {shut : List Int} {s x : Int} {k : Nat} (h : Win rows shut s k x) : ∀ {m : Nat}, k ≤ m → Win rows shut s m x := fun {m} hm => by
  induction hm with
  | refl => exact h
  | step _ ih => exact .inl ih
theorem Win.free {rows : List (List Int)} {shut : List Int} {s : Int} (hs : s ∉ shut) : ∀ {k : Nat} {x : Int}, Win rows shut s k x → x ∉ shut
  | 0, x, h => by
    have h : x = s := h
    rw [h]
    exact hs
  | k + 1, x, h => h.elim (fun z => Win.free hs z) fun z => z.1
structure Lev (rows : List (List Int)) (shut : List Int) (s : Int) (k : Nat) : Prop where
  keys : ∀ x, getI (bfs rows shut s k).1 x ≠ none ↔ Win rows shut s k x
  edge : ∀ x, x ∈ (bfs rows shut s k).2 → Win rows shut s k x
  shutd : ∀ x y, Win rows shut s k y → y ∉ (bfs rows shut s k).2 → x ∉ shut → x ∈ gt rows y → Win rows shut s k x
theorem lev_all (rows : List (List Int)) (shut : List Int) (s : Int) : ∀ k, Lev rows shut s k
  | 0 => by
    refine ⟨fun x => ?_, fun x h => ?_, fun x y h1 h2 => ?_⟩
    · show getI [(s, s)] x ≠ none ↔ x = s
      unfold getI
      by_cases q : s = x
      · rw [if_pos q]
        exact ⟨fun _ => q.symm, fun _ z => by cases z⟩
      · rw [if_neg q]
        exact ⟨fun z => absurd rfl z, fun z => absurd z.symm q⟩
    · exact List.mem_singleton.mp h
    · have h1 : y = s := h1
      exact absurd (List.mem_singleton.mpr h1) h2
  | k + 1 => by
    have L := lev_all rows shut s k
    have fi := round_fi rows shut (bfs rows shut s k).1 (bfs rows shut s k).2
    have keys : ∀ x, getI (bfs rows shut s (k + 1)).1 x ≠ none ↔ Win rows shut s (k + 1) x := fun x => by
      refine (fi.keys x).trans ?_
      rw [L.keys]
      constructor
      · rintro (z | ⟨z1, pt, z2⟩)
        · exact .inl z
        · obtain ⟨w1, w2⟩ := evs_mem.mp z2
          exact .inr ⟨z1, pt, L.edge pt w1, w2⟩
      · rintro (z | ⟨z1, y, z2, z3⟩)
        · exact .inl z
        · by_cases q : y ∈ (bfs rows shut s k).2
          · exact .inr ⟨z1, y, evs_mem.mpr ⟨q, z3⟩⟩
          · exact .inl (L.shutd x y z2 q z1 z3)
    refine ⟨keys, fun x hx => (keys x).mp ((fi.new x).mp hx).1, fun x y h1 h2 h3 h4 => ?_⟩
    have hy : Win rows shut s k y := by
      have n1 : getI (bfs rows shut s (k + 1)).1 y ≠ none := (keys y).mpr h1
      refine (L.keys y).mp fun q => h2 ((fi.new y).mpr ⟨n1, q⟩)
    exact .inr ⟨h3, y, hy, h4⟩
theorem edge_iff {rows : List (List Int)} {shut : List Int} {s x : Int} {k : Nat} : x ∈ (bfs rows shut s (k + 1)).2 ↔ Win rows shut s (k + 1) x ∧ ¬ Win rows shut s k x := by
  have fi := round_fi rows shut (bfs rows shut s k).1 (bfs rows shut s k).2
  refine (fi.new x).trans ?_
  have e1 := (lev_all rows shut s (k + 1)).keys x
  have e2 := (lev_all rows shut s k).keys x
  constructor
  · rintro ⟨h1, h2⟩
    exact ⟨e1.mp h1, fun z => e2.mpr z h2⟩
  · rintro ⟨h1, h2⟩
    refine ⟨e1.mpr h1, ?_⟩
    cases q : getI (bfs rows shut s k).1 x with
    | none => rfl
    | some y => exact absurd (e2.mp (by rw [q]; simp)) h2
theorem bfs_old {rows : List (List Int)} {shut : List Int} {s x y : Int} {k : Nat} (h : getI (bfs rows shut s k).1 x = some y) : ∀ {m : Nat}, k ≤ m → getI (bfs rows shut s m).1 x = some y := fun {m} hm => by
  induction hm with
  | refl => exact h
  | @step m _ ih => exact (round_fi rows shut (bfs rows shut s m).1 (bfs rows shut s m).2).old x y ih
theorem bfs_sml {n : Nat} {rows : List (List Int)} {shut : List Int} {s : Int} (hw : InWeb n rows) (hs : 0 ≤ s ∧ s < (n : Int)) : ∀ k, Sml n (bfs rows shut s k) ∧ ∀ a ∈ (bfs rows shut s k).2, 0 ≤ a ∧ a < (n : Int)
  | 0 => ⟨⟨by simp [bfs], fun x hx => by
      have : x = s := by simpa [bfs] using hx
      rw [this]
      exact hs, by simp [bfs]⟩, fun a ha => by
      have : a = s := by simpa [bfs] using ha
      rw [this]
      exact hs⟩
  | k + 1 => by
    obtain ⟨h1, h2⟩ := bfs_sml (shut := shut) hw hs k
    have S : Sml n (bfs rows shut s (k + 1)) := Sml.edge hw _ h2 h1.drop
    refine ⟨S, fun a ha => S.inn a ?_⟩
    have q := ((round_fi rows shut (bfs rows shut s k).1 (bfs rows shut s k).2).new a).mp ha
    exact Classical.byContradiction fun z => q.1 (getI_none.mpr z)
/-- a round that finds something makes the dict longer -/
theorem bround_len (rows : List (List Int)) (shut : List Int) (D : List (Int × Int)) (edge : List Int) : (bround rows shut D edge).1.length = D.length + (bround rows shut D edge).2.length := by
  have v : ∀ (pt : Int) (row : List Int) (st : Bf), st.1.length = D.length + st.2.length → (row.foldl (visit shut pt) st).1.length = D.length + (row.foldl (visit shut pt) st).2.length := fun pt row => by
    induction row with
    | nil => exact fun st h => h
    | cons o r ih =>
      intro st h
      refine ih _ ?_
      unfold visit
      split
      · show (st.1 ++ [(o, pt)]).length = D.length + (st.2 ++ [o]).length
        rw [List.length_append, List.length_append, List.length_singleton, List.length_singleton]
        omega
      · exact h
  have w : ∀ (edge : List Int) (st : Bf), st.1.length = D.length + st.2.length → (edge.foldl (visits rows shut) st).1.length = D.length + (edge.foldl (visits rows shut) st).2.length := fun edge => by
    induction edge with
    | nil => exact fun st h => h
    | cons o r ih => exact fun st h => ih _ (v o _ st h)
  exact w edge (D, []) rfl
theorem bfs_long {rows : List (List Int)} {shut : List Int} {s : Int} : ∀ k, (bfs rows shut s k).2 ≠ [] → k + 1 ≤ (bfs rows shut s k).1.length
  | 0, _ => by simp [bfs]
  | k + 1, h => by
    have e := bround_len rows shut (bfs rows shut s k).1 (bfs rows shut s k).2
    have ek : (bfs rows shut s k).2 ≠ [] := fun z => by
      apply h
      show (bround rows shut (bfs rows shut s k).1 (bfs rows shut s k).2).2 = []
      rw [z]
      rfl
    have ih := bfs_long k ek
    have h2 : (bfs rows shut s (k + 1)).2.length ≠ 0 := fun z => h (List.eq_nil_of_length_eq_zero z)
    have e' : (bfs rows shut s (k + 1)).1.length = (bfs rows shut s k).1.length + (bfs rows shut s (k + 1)).2.length := e
    omega
theorem bfs_stop {rows : List (List Int)} {shut : List Int} {s : Int} {k : Nat} (h : (bfs rows shut s k).2 = []) : ∀ {m : Nat}, k ≤ m → (bfs rows shut s m).1 = (bfs rows shut s k).1 ∧ (bfs rows shut s m).2 = [] := fun {m} hm => by
  induction hm with
  | refl => exact ⟨rfl, h⟩
  | @step m _ ih =>
    have q : bfs rows shut s (m + 1) = ((bfs rows shut s m).1, []) := by
      show bround rows shut (bfs rows shut s m).1 (bfs rows shut s m).2 = _
      rw [ih.2]
      rfl
    rw [q]
    exact ⟨ih.1, rfl⟩
theorem bfs_end {n : Nat} {rows : List (List Int)} {shut : List Int} {s : Int} (hw : InWeb n rows) (hs : 0 ≤ s ∧ s < (n : Int)) : (bfs rows shut s n).2 = [] := by
  refine Classical.byContradiction fun z => ?_
  have h1 := bfs_long n z
  have h2 := (bfs_sml (shut := shut) hw hs n).1.len
  omega
end Gn

namespace Gn
open PySem PySem.Spec PyProof.Rows L2 Dn
def SymW (n : Nat) (rows : List (List Int)) : Prop := ∀ a b, 0 ≤ a ∧ a < (n : Int) → 0 ≤ b ∧ b < (n : Int) → b ∈ gt rows a → a ∈ gt rows b
theorem Win.inn {n : Nat} {rows : List (List Int)} {shut : List Int} {s : Int} (hw : InWeb n rows) (hs : 0 ≤ s ∧ s < (n : Int)) : ∀ {k : Nat} {x : Int}, Win rows shut s k x → 0 ≤ x ∧ x < (n : Int)
  | 0, x, h => by
    have h : x = s := h
    rw [h]
    exact hs
  | k + 1, x, h => h.elim (fun z => Win.inn hw hs z) fun ⟨_, y, hy, hx⟩ => hw y x (Win.inn hw hs hy) hx
theorem Win.front {rows : List (List Int)} {shut : List Int} {s y : Int} (hy : y ∈ gt rows s) (hf : y ∉ shut) : ∀ {k : Nat} {x : Int}, Win rows shut y k x → Win rows shut s (k + 1) x
  | 0, x, h => by
    have h : x = y := h
    rw [h]
    exact .inr ⟨hf, s, rfl, hy⟩
  | k + 1, x, h => h.elim (fun z => .inl (Win.front hy hf z)) fun ⟨h1, z, h2, h3⟩ => .inr ⟨h1, z, Win.front hy hf h2, h3⟩
theorem Win.symm {n : Nat} {rows : List (List Int)} {shut : List Int} {s : Int} (hw : InWeb n rows) (sy : SymW n rows) (hs : 0 ≤ s ∧ s < (n : Int)) (hf : s ∉ shut) : ∀ {k : Nat} {x : Int}, Win rows shut s k x → Win rows shut x k s
  | 0, x, h => Eq.symm (show x = s from h)
  | k + 1, x, h => h.elim (fun z => .inl (Win.symm hw sy hs hf z)) fun ⟨_, y, hy, hx⟩ => by
    have iy := Win.inn hw hs hy
    exact Win.front (sy y x iy (hw y x iy hx) hx) (Win.free hf hy) (Win.symm hw sy hs hf hy)
theorem Win.self {rows : List (List Int)} {shut : List Int} {s : Int} (k : Nat) : Win rows shut s k s := (show Win rows shut s 0 s from rfl).mono (Nat.zero_le k)
theorem win_edge {rows : List (List Int)} {shut : List Int} {s x : Int} : ∀ {k : Nat}, Win rows shut s k x → ∃ j, j ≤ k ∧ x ∈ (bfs rows shut s j).2
  | 0, h => by
    have h : x = s := h
    exact ⟨0, Nat.le_refl _, by rw [h]; exact List.mem_singleton.mpr rfl⟩
  | k + 1, h => by
    by_cases q : Win rows shut s k x
    · obtain ⟨j, h1, h2⟩ := win_edge q
      exact ⟨j, by omega, h2⟩
    · exact ⟨k + 1, Nat.le_refl _, edge_iff.mpr ⟨h, q⟩⟩
/-! ### the way -/
def walkD (D : List (Int × Int)) (t : Int) : Nat → Int → List Int
  | 0, x => [x]
  | f + 1, x => if x = t then [x] else x :: walkD D t f ((getI D x).getD 0)
def wayF (p : WebD) (s t : Int) (shut : List Int) : Option (List Int) := if t ∈ shut then none else
  if getI (bfs p.rows shut t p.n).1 s = none then none else some (walkD (bfs p.rows shut t p.n).1 t p.n s)
structure Pth (rows : List (List Int)) (n : Nat) (shut : List Int) (D : List (Int × Int)) (t : Int) (j : Nat) (x : Int) (xs : List Int) : Prop where
  len : xs.length = j + 1
  head : xs[0]? = some x
  last : xs[j]? = some t
  step : ∀ (i : Nat) (a b : Int), xs[i]? = some a → xs[i + 1]? = some b → b ∈ gt rows a
  par : ∀ (i : Nat) (a b : Int), xs[i]? = some a → xs[i + 1]? = some b → getI D a = some b
  ne : ∀ (i : Nat), i < j → xs[i]? ≠ some t
  free : ∀ a ∈ xs, a ∉ shut
  inn : ∀ a ∈ xs, 0 ≤ a ∧ a < (n : Int)
theorem path_one {rows : List (List Int)} {n : Nat} {shut : List Int} {D : List (Int × Int)} {t : Int} (ht : 0 ≤ t ∧ t < (n : Int)) (hf : t ∉ shut) : Pth rows n shut D t 0 t [t] := by
  refine ⟨rfl, rfl, rfl, fun i a b h1 h2 => ?_, fun i a b h1 h2 => ?_, fun i hi => by omega, fun a ha => ?_, fun a ha => ?_⟩
  · simp at h2
  · simp at h2
  · rw [List.mem_singleton.mp ha]
    exact hf
  · rw [List.mem_singleton.mp ha]
    exact ht
theorem path_of {n m : Nat} {rows : List (List Int)} {shut : List Int} {t : Int} (hw : InWeb n rows) (sy : SymW n rows) (ht : 0 ≤ t ∧ t < (n : Int)) (hf : t ∉ shut) : ∀ (j : Nat) (x : Int) (f : Nat), j ≤ m → x ∈ (bfs rows shut t j).2 → j ≤ f → Pth rows n shut (bfs rows shut t m).1 t j x (walkD (bfs rows shut t m).1 t f x)
  | 0, x, f, _, hx, _ => by
    have hx : x = t := List.mem_singleton.mp hx
    subst hx
    have e : walkD (bfs rows shut x m).1 x f x = [x] := by
      cases f with
      | zero => rfl
      | succ f =>
        unfold walkD
        rw [if_pos rfl]
    rw [e]
    exact path_one ht hf
  | j + 1, x, f, hm, hx, hjf => by
    obtain ⟨f', rfl⟩ : ∃ f', f = f' + 1 := ⟨f - 1, by omega⟩
    have fi := round_fi rows shut (bfs rows shut t j).1 (bfs rows shut t j).2
    obtain ⟨n1, n2⟩ := (fi.new x).mp hx
    cases hy : getI (bfs rows shut t (j + 1)).1 x with
    | none => exact absurd hy n1
    | some y =>
      obtain ⟨w1, w2⟩ := fi.par x y n2 hy
      obtain ⟨he, hxy⟩ := evs_mem.mp w1
      have hD := bfs_old hy hm
      have net : x ≠ t := fun z => by
        have q := ((lev_all rows shut t j).keys t).mpr (Win.self j)
        exact q ((congrArg (getI (bfs rows shut t j).1) z).symm.trans n2)
      have iy := (bfs_sml (shut := shut) hw ht j).2 y he
      have ix := hw y x iy hxy
      have P := path_of (m := m) hw sy ht hf j y f' (by omega) he (by omega)
      have e : walkD (bfs rows shut t m).1 t (f' + 1) x = x :: walkD (bfs rows shut t m).1 t f' y := by
        show (if x = t then [x] else x :: walkD (bfs rows shut t m).1 t f' ((getI (bfs rows shut t m).1 x).getD 0)) = _
        rw [if_neg net, hD]
        rfl
      rw [e]
      have up : ∀ (i : Nat) (a b : Int), (x :: walkD (bfs rows shut t m).1 t f' y)[i]? = some a → (x :: walkD (bfs rows shut t m).1 t f' y)[i + 1]? = some b → (i = 0 ∧ a = x ∧ b = y) ∨ ∃ k, i = k + 1 ∧ (walkD (bfs rows shut t m).1 t f' y)[k]? = some a ∧ (walkD (bfs rows shut t m).1 t f' y)[k + 1]? = some b := fun i a b h1 h2 => by
        cases i with
        | zero =>
          have h1 : some x = some a := h1
          have h2 : (walkD (bfs rows shut t m).1 t f' y)[0]? = some b := h2
          rw [P.head] at h2
          cases h1
          cases h2
          exact .inl ⟨rfl, rfl, rfl⟩
        | succ k => exact .inr ⟨k, rfl, h1, h2⟩
      refine ⟨by rw [List.length_cons, P.len], rfl, P.last, fun i a b h1 h2 => ?_, fun i a b h1 h2 => ?_, fun i hi => ?_, fun a ha => ?_, fun a ha => ?_⟩
      · rcases up i a b h1 h2 with ⟨_, rfl, rfl⟩ | ⟨k, _, q1, q2⟩
        · exact sy b a iy ix hxy
        · exact P.step k a b q1 q2
      · rcases up i a b h1 h2 with ⟨_, rfl, rfl⟩ | ⟨k, _, q1, q2⟩
        · exact hD
        · exact P.par k a b q1 q2
      · cases i with
        | zero =>
          intro z
          have z : some x = some t := z
          cases z
          exact net rfl
        | succ k => exact P.ne k (by omega)
      · rcases List.mem_cons.mp ha with rfl | q
        · exact w2
        · exact P.free a q
      · rcases List.mem_cons.mp ha with rfl | q
        · exact ix
        · exact P.inn a q
def lawRounds (rows : List (List Int)) (n : Nat) (s t : Int) (shut : List Int) : Int := if s ∈ shut ∨ t ∈ shut then -1 else
  ((List.range n).find? (fun k => (getI (bfs rows shut s k).1 t).isSome)).elim (-1) fun k => (k : Int)
theorem find_least {p : Nat → Bool} : ∀ {n j : Nat}, j < n → p j = true → (∀ k, k < j → p k = false) → (List.range n).find? p = some j := fun {n j} hj h1 h2 => by
  rw [List.find?_range_eq_some]
  exact ⟨h1, List.mem_range.mpr hj, fun k hk => by rw [h2 k hk]; rfl⟩
theorem way_law {p : WebD} (hw : InWeb p.n p.rows) (sy : SymW p.n p.rows) {s t : Int} (hs : 0 ≤ s ∧ s < (p.n : Int)) (ht : 0 ≤ t ∧ t < (p.n : Int)) (shut : List Int) :
    (wayF p s t shut = none ∧ lawRounds p.rows p.n s t shut = -1) ∨ ∃ (j : Nat) (xs : List Int), j < p.n ∧ wayF p s t shut = some xs ∧ lawRounds p.rows p.n s t shut = (j : Int) ∧ Pth p.rows p.n shut (bfs p.rows shut t p.n).1 t j s xs := by
  by_cases t0 : t ∈ shut
  · left
    unfold wayF lawRounds
    rw [if_pos t0, if_pos (.inr t0)]
    exact ⟨rfl, rfl⟩
  have kt := (lev_all p.rows shut t p.n).keys s
  by_cases w : Win p.rows shut t p.n s
  · right
    obtain ⟨j, hj, he⟩ := win_edge w
    have hjn : j < p.n := by
      have h1 := bfs_long (rows := p.rows) (shut := shut) (s := t) j (fun z => by rw [z] at he; cases he)
      have h2 := (bfs_sml (shut := shut) hw ht j).1.len
      omega
    have s0 : s ∉ shut := Win.free t0 w
    refine ⟨j, _, hjn, ?_, ?_, path_of (m := p.n) hw sy ht t0 j s p.n hj he hj⟩
    · unfold wayF
      rw [if_neg t0, if_neg (kt.mpr w)]
    · unfold lawRounds
      rw [if_neg (fun z => z.elim s0 t0)]
      have some_of : ∀ k, (getI (bfs p.rows shut s k).1 t).isSome = true ↔ Win p.rows shut t k s := fun k => by
        have q := (lev_all p.rows shut s k).keys t
        rw [Option.isSome_iff_ne_none]
        exact q.trans ⟨fun z => Win.symm hw sy hs s0 z, fun z => Win.symm hw sy ht t0 z⟩
      rw [find_least hjn ((some_of j).mpr ((lev_all p.rows shut t j).edge s he)) (fun k hk => by
        cases q : (getI (bfs p.rows shut s k).1 t).isSome with
        | false => rfl
        | true =>
          have z := (some_of k).mp q
          obtain ⟨i, rfl⟩ : ∃ i, j = i + 1 := ⟨j - 1, by omega⟩
          exact absurd (z.mono (by omega)) (edge_iff.mp he).2)]
      rfl
  · left
    have g : getI (bfs p.rows shut t p.n).1 s = none := by
      cases q : getI (bfs p.rows shut t p.n).1 s with
      | none => rfl
      | some y => exact absurd (kt.mp (by rw [q]; simp)) w
    refine ⟨by unfold wayF; rw [if_neg t0, if_pos g], ?_⟩
    unfold lawRounds
    by_cases s0 : s ∈ shut
    · rw [if_pos (.inl s0)]
    rw [if_neg (fun z => z.elim s0 t0)]
    have e : (List.range p.n).find? (fun k => (getI (bfs p.rows shut s k).1 t).isSome) = none := by
      rw [List.find?_eq_none]
      intro k hk z
      have hk := List.mem_range.mp hk
      have q := ((lev_all p.rows shut s k).keys t).mp (Option.isSome_iff_ne_none.mp z)
      exact w ((Win.symm hw sy hs s0 q).mono (by omega))
    rw [e]
    rfl
theorem nbrs_in {n : Nat} {ts : List (Int × Int)} : InWeb n (nbrs n ts) := fun a x ha hx => by
  rw [nbrs_gt ha] at hx
  exact (nbr_mem.mp hx).1
theorem nbrs_sy {n : Nat} {ts : List (Int × Int)} : SymW n (nbrs n ts) := fun a b ha hb h => by
  rw [nbrs_gt ha] at h
  rw [nbrs_gt hb]
  have q := (nbr_mem.mp h).2
  exact nbr_mem.mpr ⟨ha, by rw [adj_comm]; exact q⟩
end Gn

/-! Graphs in which each point's neighbours by a piece beyond it are all tied: a point can be taken away. -/
namespace Chord
variable {adj : Int → Int → Prop}
/-- ways past u and what u is tied to, within V -/
inductive Way (adj : Int → Int → Prop) (V : Int → Prop) (u : Int) : Int → Int → Prop
  | here {x : Int} : V x → x ≠ u → ¬ adj u x → Way adj V u x x
  | on {x y z : Int} : Way adj V u x y → V z → z ≠ u → ¬ adj u z → adj y z → Way adj V u x z
theorem Way.end {V : Int → Prop} {u x z : Int} (h : Way adj V u x z) : V z ∧ z ≠ u ∧ ¬ adj u z := by
  cases h with
  | here a b c => exact ⟨a, b, c⟩
  | on _ a b c _ => exact ⟨a, b, c⟩
theorem Way.sub {V V' : Int → Prop} {u x z : Int} (hs : ∀ z, V' z → V z) (h : Way adj V' u x z) : Way adj V u x z := by
  induction h with
  | here a b c => exact .here (hs _ a) b c
  | on _ a b c d ih => exact .on ih (hs _ a) b c d
def Star (adj : Int → Int → Prop) (V : Int → Prop) : Prop := ∀ u w a b, V u → V w → w ≠ u → ¬ adj u w → V a → V b → adj u a → adj u b → a ≠ b →
  (∃ c, Way adj V u w c ∧ adj a c) → (∃ c, Way adj V u w c ∧ adj b c) → adj a b
def Clq (adj : Int → Int → Prop) (Q : Int → Prop) : Prop := ∀ a b, Q a → Q b → a ≠ b → adj a b
def Simp (adj : Int → Int → Prop) (V : Int → Prop) (x : Int) : Prop := ∀ a b, V a → V b → adj x a → adj x b → a ≠ b → adj a b
def Few (V : Int → Prop) (k : Nat) : Prop := ∃ l : List Int, l.length ≤ k ∧ ∀ x, V x → x ∈ l
theorem Star.sub {V V' : Int → Prop} (hs : ∀ z, V' z → V z) (h : Star adj V) : Star adj V' := fun u w a b h1 h2 h3 h4 h5 h6 h7 h8 h9 ⟨c, c1, c2⟩ ⟨d, d1, d2⟩ =>
  h u w a b (hs _ h1) (hs _ h2) h3 h4 (hs _ h5) (hs _ h6) h7 h8 h9 ⟨c, c1.sub hs, c2⟩ ⟨d, d1.sub hs, d2⟩
theorem Few.less {V V' : Int → Prop} {k : Nat} {u : Int} (h : Few V (k + 1)) (hu : V u) (hs : ∀ z, V' z → V z ∧ z ≠ u) : Few V' k := by
  obtain ⟨l, h1, h2⟩ := h
  refine ⟨l.erase u, ?_, fun x hx => (List.mem_erase_of_ne (hs x hx).2).mpr (h2 x (hs x hx).1)⟩
  rw [List.length_erase_of_mem (h2 u hu)]
  omega
theorem taken_away (sy : ∀ a b, adj a b → adj b a) (ir : ∀ a, ¬ adj a a) : ∀ (k : Nat) (V Q : Int → Prop), Few V k → Star adj V → Clq adj Q → (∃ x, V x ∧ ¬ Q x) → ∃ x, V x ∧ ¬ Q x ∧ Simp adj V x
  | 0, V, Q, ⟨l, h1, h2⟩, _, _, ⟨x, hx, _⟩ => by
    have := h2 x hx
    have e : l = [] := List.length_eq_zero_iff.mp (by omega)
    rw [e] at this
    cases this
  | k + 1, V, Q, fw, st, cq, ⟨x0, vx0, nq⟩ => by
    by_cases hc : ∀ a b, V a → V b → a ≠ b → adj a b
    · exact ⟨x0, vx0, nq, fun a b va vb _ _ ne => hc a b va vb ne⟩
    · have ex : ∃ u w, V u ∧ V w ∧ u ≠ w ∧ ¬ adj u w := by
        apply Classical.byContradiction
        intro z
        apply hc
        intro a b va vb ne
        apply Classical.byContradiction
        intro na
        exact z ⟨a, b, va, vb, ne, na⟩
      obtain ⟨u, w, vu, vw, ne, na⟩ := ex
      have cw : Way adj V u w w := .here vw (Ne.symm ne) na
      have sc : Clq adj fun z => V z ∧ adj u z ∧ ∃ c, Way adj V u w c ∧ adj z c := fun a b ⟨a1, a2, a3⟩ ⟨b1, b2, b3⟩ ab => st u w a b vu vw (Ne.symm ne) na a1 b1 a2 b2 ab a3 b3
      have cn : ∀ c z, Way adj V u w c → V z → adj c z → Way adj V u w z ∨ (V z ∧ adj u z ∧ ∃ c, Way adj V u w c ∧ adj z c) := fun c z hcz vz cz => by
        by_cases e : z = u
        · subst e
          exact absurd (sy _ _ cz) hcz.end.2.2
        · by_cases uz : adj u z
          · exact .inr ⟨vz, uz, c, hcz, sy _ _ cz⟩
          · exact .inl (.on hcz vz e uz cz)
      have s1 : ∀ z, (Way adj V u w z ∨ (V z ∧ adj u z ∧ ∃ c, Way adj V u w c ∧ adj z c)) → V z ∧ z ≠ u := fun z h => by
        rcases h with h | h
        · exact ⟨h.end.1, h.end.2.1⟩
        · refine ⟨h.1, fun e => ?_⟩
          subst e
          exact ir _ h.2.1
      obtain ⟨x, hx, nsx, simx⟩ := taken_away sy ir k (fun z => Way adj V u w z ∨ (V z ∧ adj u z ∧ ∃ c, Way adj V u w c ∧ adj z c)) (fun z => V z ∧ adj u z ∧ ∃ c, Way adj V u w c ∧ adj z c) (fw.less vu s1) (st.sub fun z h => (s1 z h).1) sc ⟨w, .inl cw, fun h => na h.2.1⟩
      have hx : Way adj V u w x := hx.resolve_right nsx
      have sx : Simp adj V x := fun a b va vb xa xb ab => simx a b (cn x a hx va xa) (cn x b hx vb xb) xa xb ab
      obtain ⟨y, hy, nsy, simy⟩ := taken_away sy ir k (fun z => V z ∧ ¬ Way adj V u w z) (fun z => V z ∧ adj u z ∧ ∃ c, Way adj V u w c ∧ adj z c) (fw.less vw fun z h => ⟨h.1, fun e => h.2 (by rw [e]; exact cw)⟩) (st.sub fun z h => h.1) sc ⟨u, ⟨vu, fun h => h.end.2.1 rfl⟩, fun h => ir _ h.2.1⟩
      have out : ∀ a, V a → adj y a → ¬ Way adj V u w a := fun a va ya h => by
        rcases cn a y h hy.1 (sy _ _ ya) with z | z
        · exact hy.2 z
        · exact nsy z
      have sy2 : Simp adj V y := fun a b va vb ya yb ab => simy a b ⟨va, out a va ya⟩ ⟨vb, out b vb yb⟩ ya yb ab
      by_cases qx : Q x
      · refine ⟨y, hy.1, fun qy => ?_, sy2⟩
        have xy : x ≠ y := fun e => hy.2 (e ▸ hx)
        exact out x hx.end.1 (sy _ _ (cq x y qx qy xy)) hx
      · exact ⟨x, hx.end.1, qx, sx⟩
end Chord

/-! GX: generator expressions whose element may call: the generator's frame. -/
namespace GX
open PySem PySem.Spec PyProof.Rows L2 GxR GenW
def genCx (X : Cx) (A : Around) (s : Shared) (H : Hp) (cenv : Env) (ex : List Addr) : Cx where
  prog := X.prog
  w := X.w
  K := X.K
  mg := X.mg
  base := X.base
  A := A
  N := X.N
  s_0 := s
  H_0 := H
  env := cenv
  outer := X.stack
  stack := cenv :: X.stack
  ex := ex
  fn := fun _ => false
  calm := true
  pn := []
  xe := fun _ _ => False
structure GSc (X : Cx) (scope : Scope) (x : Str) (j : Nat) : Prop where
  kind : scope.kind = .function
  co : scope.isCoroutine = false
  cell : ∀ y ∈ scope.names, y.2 ≠ .cell
  dot : scope.names.lookup (".0" : Str) = some NameKind.local
  loc : scope.names.lookup x = some .local
  only : ∀ y, scope.names.lookup y = some .local → y = x ∨ y = ".0"
  free : ∀ y ∈ scope.names, y.2 = .free → X.env.scope.names.lookup y.1 = some .cell ∨ X.env.scope.names.lookup y.1 = some .free
  hj : X.N[j]? = some x
  nd : X.N.Nodup
  dotN : (".0" : Str) ∉ X.N
section
variable {X : Cx} {pins : List (Addr × Obj)} {σ : L2.St} {H : Hp} {s : Shared} {scope : Scope} {x : Str} {j : Nat}
theorem over_comp {A : Around} {c : Code} {env : Env} (hc : (A.over c []) = A.deeper env) : A.over c [] = A.deeper env := hc
theorem gx_start {A : Around} {cenv : Env} {fp : List Addr} {a : Addr} {ga : Obj} {h5 : Heap} {g5 : Array GenState} {t5 : Nat} {code : Value} {m0 : Str → Option Value} (I : Inv X pins σ H s) (S : GSc X scope x j)
    (hc : cenv = genEnv scope (cloFrom X.env.cells scope.names []) s.heap.objs.size code builtinsNs X.env) (hd : A.handled = none) (hf : A.frames = some (cenv :: X.stack))
    (hfp : ∀ b ∈ fp, FpOk X pins H b) (hfo : ∀ b ∈ fp, ∃ o, s.heap.get? b = some o) (kp : ∀ b o, s.heap.get? b = some o → h5.get? b = some o) (hns : h5.Ns s.heap.objs.size m0)
    (ha : s.heap.objs.size < a) (hga : h5.get? a = some ga) (hgc : ∀ v, ga.data ≠ .cell v) (hg : AllBare g5) :
    Inv (genCx X A s H cenv fp) [(a, ga)] (σ.set j none) H { s with heap := h5, gens := g5, toks := t5 } := by
  subst hc
  have cm : ∀ {y c}, (cloFrom X.env.cells scope.names []).lookup y = some c → X.env.cells.lookup y = some c := fun {y c} e => by
    rcases cloFrom_mem (PySem.mem_of_lookup e) with hm | ⟨h1, h2⟩
    · cases hm
    · have hh : ∃ c1, X.env.cells.lookup y = some c1 := by
        rcases S.free _ h1 rfl with k | k
        · exact I.ok.has _ (.inl k)
        · exact I.ok.has _ (.inr k)
      obtain ⟨c1, hc⟩ := hh
      have e2 : c = c1 := by
        rw [h2, hc] <;> rfl
      rw [e2]
      exact hc
  have look : ∀ {y}, scope.names.lookup y = some .free → ∃ c, (cloFrom X.env.cells scope.names []).lookup y = some c := fun {y} hl => by
    have hy : (y, NameKind.free) ∈ scope.names := PySem.mem_of_lookup hl
    exact mem_lookup (cloFrom_has (cells := X.env.cells) (acc := []) hy)
  have e0 := I.env0
  have nofr : ∀ f, s.heap.objs.size ≤ f → f ∉ frs X.stack := fun f hf z => by
    rcases List.mem_cons.mp (I.stkSub _ z) with e | e
    · have h1 := I.lt
      rw [← e] at h1
      exact Nat.lt_irrefl _ (Nat.lt_of_lt_of_le h1 hf)
    · exact I.nofs hf e
  refine ⟨⟨I.ok.mod, S.kind, I.ok.glob, rfl, Nat.le_refl _, fun y z c e1 e2 => I.ok.inj y z c (cm e1) (cm e2), fun y hy => ?_, fun y c z _ => ?_, fun _ => hd, hf, .inr ⟨rfl, rfl⟩, fun b hb => ⟨?_, fun y c e z => ?_⟩, e0.bs, e0.bsz, fun b o e hb => ?_, fun b hb z => ?_, e0.funs, e0.frf⟩,
    rfl, hg, Un.kept kp, ⟨_, hns, fun i y v e1 e2 e3 => ?_⟩, fun y c e => ?_, I.hok.fresh (Nat.le_refl _), fun y c e => I.freeC y c (cm e), fun p hp => ?_, I.hok.kept kp, ?_⟩
  · have hy : scope.names.lookup y = some .cell ∨ scope.names.lookup y = some .free := hy
    rcases hy with hy | hy
    · exact absurd rfl (S.cell _ (PySem.mem_of_lookup hy))
    · exact look hy
  · have z : false = true := z
    cases z
  · obtain ⟨o, ho⟩ := hfo b hb
    exact Nat.ne_of_lt (Heap.lt_size ho)
  · exact (hfp b hb).2.2.2.2.1 y c (cm e) z
  · rcases (hfp b hb).2.2.2.1 with q | q
    · exact I.ok.noex b o e q
    · exact Nat.lt_irrefl _ (Nat.lt_of_lt_of_le (Heap.lt_size e) (Nat.le_trans I.ok.bsz q))
  · rcases List.mem_cons.mp (I.stkSub b z) with q | q
    · exact (hfp b hb).2.1 q
    · exact (hfp b hb).2.2.1 q
  · have e3 : Vis scope y := e3
    have nij : i ≠ j := fun z => by
      rw [z] at e2
      by_cases hl : j < σ.length
      · rw [List.getElem?_set_self hl] at e2
        cases e2
      · rw [List.getElem?_eq_none (by rw [List.length_set]; omega)] at e2
        cases e2
    have e2 : σ[i]? = some (some v) := by rw [List.getElem?_set_ne (Ne.symm nij)] at e2; exact e2
    rcases e3 with k | k | k
    · rcases S.only y k with rfl | rfl
      · exact absurd ((List.getElem?_inj (List.getElem?_eq_some_iff.mp e1).1 S.nd).mp (e1.trans S.hj.symm)) nij
      · exact absurd (List.mem_of_getElem? e1) S.dotN
    · exact absurd rfl (S.cell _ (PySem.mem_of_lookup k))
    · obtain ⟨m, hn, hl⟩ := I.loc
      have hvis : Vis X.env.scope y := (S.free _ (PySem.mem_of_lookup k) rfl).elim (fun k => .inr (.inl k)) (fun k => .inr (.inr k))
      obtain ⟨w', r, q⟩ := hl i y v e1 e2 hvis
      obtain ⟨c2, h2⟩ := look k
      refine ⟨w', r, .inr ⟨.inr k, c2, h2, ?_⟩⟩
      have c1 := cm h2
      rcases q with ⟨k', _⟩ | ⟨_, c3, e', z⟩
      · have k' : X.env.scope.names.lookup y = some .local := k'
        rcases S.free _ (PySem.mem_of_lookup k) rfl with k2 | k2 <;> rw [show X.env.scope.names.lookup y = _ from k2] at k' <;> cases k'
      · rw [c1] at e'
        cases e'
        obtain ⟨o, ho, hd⟩ := z
        exact ⟨o, kp _ _ ho, hd⟩
  · obtain ⟨w', o, ho, hd⟩ := I.cell y c (cm e)
    exact ⟨w', o, kp _ _ ho, hd⟩
  · have e : p = (a, ga) := by simpa [genCx] using hp
    subst e
    exact ⟨hga, I.hok.fresh (Nat.le_of_lt ha), Nat.ne_of_gt ha, nofr a (Nat.le_of_lt ha), hgc⟩
  · rw [List.length_set]
    exact I.len
end

/-! ### the loop -/
theorem pins_for {h : Heap} : ∀ {fp : List Addr}, (∀ b ∈ fp, ∃ o, h.get? b = some o ∧ ∀ v, o.data ≠ .cell v) → ∃ pp : List (Addr × Obj), (∀ b ∈ fp, ∃ o, (b, o) ∈ pp) ∧ ∀ p ∈ pp, p.1 ∈ fp ∧ h.get? p.1 = some p.2 ∧ ∀ v, p.2.data ≠ .cell v
  | [], _ => ⟨[], fun b hb => (List.not_mem_nil hb).elim, fun p hp => (List.not_mem_nil hp).elim⟩
  | b :: r, hf => by
    obtain ⟨pp, h1, h2⟩ := pins_for (fp := r) fun c hc => hf c (List.mem_cons_of_mem _ hc)
    obtain ⟨o, ho, hc⟩ := hf b List.mem_cons_self
    refine ⟨(b, o) :: pp, fun c hc => ?_, fun p hp => ?_⟩
    · rcases List.mem_cons.mp hc with rfl | z
      · exact ⟨o, List.mem_cons_self⟩
      · obtain ⟨o2, h3⟩ := h1 c z
        exact ⟨o2, List.mem_cons_of_mem _ h3⟩
    · rcases List.mem_cons.mp hp with rfl | z
      · exact ⟨List.mem_cons_self, ho, hc⟩
      · obtain ⟨h3, h4⟩ := h2 p z
        exact ⟨List.mem_cons_of_mem _ h3, h4⟩
section
variable {Z : Cx} {J : It} {fp : List Addr} {it a : Addr} {ga : Obj} {tn : Nat → Heap → Prop} {elt iter : Expr} {x : Str} {px gpos : Pos} {scope : Scope} {te : TE} {j n : Nat} {σ : L2.St} {PP : Nat → Hp → Prop} {YY : Nat → V → Hp → Prop}
/-- what stands while the generator sleeps, i items out -/
structure Slp (Z : Cx) (fp : List Addr) (a : Addr) (ga : Obj) (tn : Nat → Heap → Prop) (j : Nat) (σ : L2.St) (i : Nat) (H : Hp) (s : Shared) : Prop where
  inv : ∃ σ', Inv Z [(a, ga)] σ' H s ∧ ∀ o, σ'.set j o = σ.set j o
  fpok : ∀ b ∈ fp, FpOk Z [(a, ga)] H b
  st : tn i s.heap
abbrev GF (Z : Cx) (a : Addr) (ga : Obj) (PP : Nat → Hp → Prop) (n : Nat) : Nat → Shared → Shared → Prop := fun m _ s₁ => m = 1 ∧ ∃ σ' H, Inv Z [(a, ga)] σ' H s₁ ∧ PP n H
abbrev GR (Z : Cx) (a : Addr) (ga : Obj) (PP : Nat → Hp → Prop) (n : Nat) : GenEnd := fun m s₀ r s₁ => ((r = .ok (.ret .none) ∨ r = .ok .next) ∧ GF Z a ga PP n m s₀ s₁) ∨ ∃ e, r = .error e ∧ (fun (_ : Value) (_ : Shared) => False) e s₁
def GP (Z : Cx) (fp : List Addr) (a : Addr) (ga : Obj) (tn : Nat → Heap → Prop) (j : Nat) (σ : L2.St) (PP : Nat → Hp → Prop) (YY : Nat → V → Hp → Prop) (n : Nat) : Protocol := fun m _ v s kap =>
  ∃ i y H, m + i = n ∧ i < n ∧ RelV y v ∧ YY i y H ∧ Slp Z fp a ga tn j σ (i + 1) H s ∧ (PP (i + 1) H → ∀ G, AllBare G → kap (.send .none) { s with gens := G })
theorem Inv.regens {X : Cx} {pins : List (Addr × Obj)} {σ : L2.St} {H : Hp} {s : Shared} (I : Inv X pins σ H s) {G : Array GenState} (hG : AllBare G) : Inv X pins σ H { s with gens := G } :=
  ⟨I.ok, I.os, hG, I.base, I.loc, I.cell, I.free, I.freeC, I.pin, I.hok, I.len⟩
theorem Slp.regens {i : Nat} {H : Hp} {s : Shared} (h : Slp Z fp a ga tn j σ i H s) {G : Array GenState} (hG : AllBare G) : Slp Z fp a ga tn j σ i H { s with gens := G } := by
  obtain ⟨⟨σ', I, hs⟩, h2, h3⟩ := h
  exact ⟨⟨σ', Inv.regens I hG, hs⟩, h2, h3⟩
theorem gx_loop {B : Around} (hcalm : Z.calm = true) (hA : B.over (.compLoop (.GeneratorExp elt [⟨.Name x px, iter, [], 0⟩] scope gpos) 0 (.ref it) .none Z.env) [] = Z.A) (hpn : Z.pn = []) (hxe : ∀ e s, Z.xe e s → False)
    (hco : Z.env.scope.isCoroutine = false) (hloc : Z.env.scope.names.lookup x = some .local) (hnd : Z.N.Nodup) (hj : Z.N[j]? = some x)
    (T : Turn Z.prog Z.w Z.K (.Name x px) J fp it tn) (hel : PE Z elt te) (hna : ∀ b ∈ fp, b ≠ a)
    (hstep : ∀ i H, i < n → PP i H → J.go i H ∧ ∀ v H2, J.yld i H v H2 → te (σ.set j (some v)) H2 (YY i)) (hstop : ∀ H, PP n H → J.stop n H) :
    ∀ (k i : Nat) (s₀ s : Shared) (H : Hp), n - i = k → i ≤ n → Slp Z fp a ga tn j σ i H s → PP i H →
      Seg (model Z.prog Z.w) B (GR Z a ga PP n) (GP Z fp a ga tn j σ PP YY n) (n - i + 1) s₀ (.compLoop (.GeneratorExp elt [⟨.Name x px, iter, [], 0⟩] scope gpos) 0 (.ref it) .none Z.env)
        ((model Z.prog Z.w).den (.compLoop (.GeneratorExp elt [⟨.Name x px, iter, [], 0⟩] scope gpos) 0 (.ref it) .none Z.env)) [] s := by
  intro k
  induction k with
  | zero =>
    intro i s₀ s H hk hi hS hP
    have hin : i = n := by omega
    subst hin
    obtain ⟨⟨σ', I, hs⟩, hf, st⟩ := hS
    show Seg _ B _ _ _ s₀ _ ((compTurn (.GeneratorExp elt [⟨.Name x px, iter, [], 0⟩] scope gpos) 0 (.ref it) .none Z.env).onRaise (leaving Z.env)) [] s
    rw [compTurn_gen, Sem.onRaise_eq_wrap]
    refine seg_bind_wrap (wpAny_standAt ?_)
    refine seg_bind_wrap ?_
    rw [hA]
    refine wpAny_mono (T.done Z rfl rfl rfl hcalm i [(a, ga)] s σ' H (fun _ _ => False) I hf st (hstop H hP)) (fun r s1 h1 => ?_) fun _ _ e => e.elim
    obtain ⟨rfl, I1⟩ := h1
    exact seg_end (.ok .next) (.inl ⟨.inr rfl, by omega, σ', H, I1, hP⟩)
  | succ k ih =>
    intro i s₀ s H hk hi hS hP
    have hlt : i < n := by omega
    have hn1 : n - i = n - (i + 1) + 1 := by omega
    obtain ⟨⟨σ', I, hs⟩, hf, st⟩ := hS
    obtain ⟨hgo, hy⟩ := hstep i H hlt hP
    show Seg _ B _ _ _ s₀ _ ((compTurn (.GeneratorExp elt [⟨.Name x px, iter, [], 0⟩] scope gpos) 0 (.ref it) .none Z.env).onRaise (leaving Z.env)) [] s
    rw [compTurn_gen, Sem.onRaise_eq_wrap]
    refine seg_bind_wrap (wpAny_standAt ?_)
    refine seg_bind_wrap ?_
    rw [hA]
    refine wpAny_mono (T.item Z rfl rfl rfl hcalm i [(a, ga)] s σ' H (fun _ _ => False) I hf st hgo) (fun r s1 h1 => ?_) fun _ _ e => e.elim
    obtain ⟨u, rfl, h2⟩ := h1
    refine seg_bind_wrap ?_
    rw [hA]
    refine wpAny_mono h2 (fun _ s2 h3 => ?_) fun _ _ e => e.elim
    obtain ⟨v, H2, I2, rv, hyd, st2, hf2⟩ := h3
    obtain ⟨pp, hp1, hp2⟩ := pins_for (T.obj _ _ st2)
    have I2p : Inv Z (pp ++ [(a, ga)]) σ' H2 s2 := I2.pins_of fun p hp => by
      rcases List.mem_append.mp hp with z | z
      · obtain ⟨m1, m2, m3⟩ := hp2 p z
        have q := hf p.1 m1
        exact ⟨m2, hf2 p.1 m1, q.2.1, q.2.2.1, m3⟩
      · exact I2.pin p (List.mem_append_right _ z)
    refine seg_bind_wrap ?_
    rw [hA]
    refine wpAny_mono ((pg_name (pos := px) hnd hj (.inl hloc) (.inr hloc)).run (pp ++ [(a, ga)]) s2 σ' H2 v u (fun σ3 H3 => σ3 = σ'.set j (some v) ∧ H3 = H2) I2p rv ⟨rfl, rfl⟩) (fun _ s3 h4 => ?_) fun e s e2 => (hxe e s e2).elim
    obtain ⟨σ3, H3, I3, rfl, rfl⟩ := h4
    refine seg_bind_wrap ?_
    simp only [List.forIn_nil]
    refine wpAny_pure ?_
    simp only [if_true]
    have hyo : ∀ v, yieldOut Z.env v = yieldValue v := fun v => by simp only [yieldOut, hco, Bool.false_eq_true, if_false]
    simp only [hyo]
    rw [Sem.bind_eq_wrap', Sem.bind_eq_wrap', Sem.wrap_wrap, Sem.wrap_wrap]
    refine seg_wrap ?_
    rw [hA]
    have ht := hy v H3 hyd
    rw [← hs] at ht
    refine wpAny_mono (hel.run (pp ++ [(a, ga)]) s3 _ H3 _ I3 ht) (fun y s4 h5 => ?_) fun e s e2 => (hxe e s e2).elim
    obtain ⟨yv, H4, I4, ry, hY⟩ := h5
    have pinb : ∀ b ∈ fp, ∃ o, (b, o) ∈ pp ∧ s2.heap.get? b = some o ∧ s4.heap.get? b = some o ∧ H4 b = none := fun b hb => by
      obtain ⟨o, ho⟩ := hp1 b hb
      have q := I4.pin (b, o) (List.mem_append_right _ (List.mem_append_left _ ho))
      exact ⟨o, ho, (hp2 _ ho).2.1, q.1, q.2.1⟩
    have I5 : Inv Z [(a, ga)] (σ'.set j (some v)) H4 s4 := I4.pins_of fun p hp => I4.pin p (List.mem_append_right _ (List.mem_append_right _ hp))
    have hf5 : ∀ b ∈ fp, FpOk Z [(a, ga)] H4 b := fun b hb => by
      obtain ⟨o, _, _, _, q⟩ := pinb b hb
      exact ⟨q, (hf b hb).2⟩
    have st5 : tn (i + 1) s4.heap := T.keep _ _ _ st2 fun b hb o e => by
      obtain ⟨o2, _, e1, e2, _⟩ := pinb b hb
      rw [e1] at e
      cases e
      exact e2
    have S5 : Slp Z fp a ga tn j σ (i + 1) H4 s4 := ⟨⟨_, I5, fun o => by rw [List.set_set, hs]⟩, hf5, st5⟩
    refine seg_at (seg_yield rfl rfl rfl ⟨i, yv, H4, by omega, hlt, ry, hY, S5, fun hP2 G hG => ?_⟩)
    rw [hn1]
    exact seg_again rfl (ih (i + 1) { s4 with gens := G } { s4 with gens := G } H4 (by omega) hlt (S5.regens hG) hP2)
end

section
variable {Z : Cx} {J : It} {fp : List Addr} {it a : Addr} {ga : Obj} {tn : Nat → Heap → Prop} {elt iter : Expr} {x : Str} {px gpos : Pos} {scope : Scope} {te : TE} {j n : Nat} {σ : L2.St} {PP : Nat → Hp → Prop} {YY : Nat → V → Hp → Prop}
theorem gx_first {B : Around} (hcalm : Z.calm = true) (hA : B.over (.compLoop (.GeneratorExp elt [⟨.Name x px, iter, [], 0⟩] scope gpos) 0 (.ref it) .none Z.env) [] = Z.A) (hpn : Z.pn = []) (hxe : ∀ e s, Z.xe e s → False)
    (hco : Z.env.scope.isCoroutine = false) (hloc : Z.env.scope.names.lookup x = some .local) (hnd : Z.N.Nodup) (hj : Z.N[j]? = some x)
    (T : Turn Z.prog Z.w Z.K (.Name x px) J fp it tn) (hel : PE Z elt te) (hna : ∀ b ∈ fp, b ≠ a)
    (hstep : ∀ i H, i < n → PP i H → J.go i H ∧ ∀ v H2, J.yld i H v H2 → te (σ.set j (some v)) H2 (YY i)) (hstop : ∀ H, PP n H → J.stop n H)
    (s₀ s : Shared) (H : Hp) (hS : Slp Z fp a ga tn j σ 0 H s) (hP : PP 0 H) :
      Seg (model Z.prog Z.w) B (GR Z a ga PP n) (GP Z fp a ga tn j σ PP YY n) (n + 1) s₀ (.compStart (.GeneratorExp elt [⟨.Name x px, iter, [], 0⟩] scope gpos) 0 (.ref it) .none Z.env)
        ((model Z.prog Z.w).den (.compStart (.GeneratorExp elt [⟨.Name x px, iter, [], 0⟩] scope gpos) 0 (.ref it) .none Z.env)) [] s := by
  have loop := gx_loop (B := B) (px := px) (iter := iter) (gpos := gpos) (scope := scope) hcalm hA hpn hxe hco hloc hnd hj T hel hna hstep hstop n 0 s₀ s H (Nat.sub_zero _) (Nat.zero_le _) hS hP
  rw [Nat.sub_zero] at loop
  show Seg _ B _ _ _ s₀ _ ((compStart (.GeneratorExp elt [⟨.Name x px, iter, [], 0⟩] scope gpos) 0 (.ref it) .none Z.env).onRaise (leaving Z.env)) [] s
  unfold compStart
  rw [Sem.onRaise_eq_wrap]
  show Seg _ B _ _ _ s₀ _ ((ask >>= _).wrap _ _ _ _) [] s
  refine seg_bind_wrap (wpAny_askSetting ?_)
  split
  · exact seg_again rfl loop
  · first
      | exact seg_bind_wrap (wpAny_rule (seg_bind_wrap (wpAny_standAt (seg_bind_wrap (T.self _ 0 s _ _ hS.st (seg_again rfl loop))))))
      | (refine seg_bind_wrap (wpAny_rule ?_); show Seg _ B _ _ _ s₀ _ ((standAt iter.pos >>= _).wrap _ _ _ _) [] s; exact seg_bind_wrap (wpAny_standAt (seg_bind_wrap (T.self _ 0 s _ _ hS.st (seg_again rfl loop)))))
/-- the generator sleeps, i items out, and can go on -/
structure GAt (Z : Cx) (B : Around) (fp : List Addr) (a : Addr) (ga : Obj) (g : Nat) (tn : Nat → Heap → Prop) (j : Nat) (σ : L2.St) (PP : Nat → Hp → Prop) (YY : Nat → V → Hp → Prop) (n i : Nat) (H : Hp) (s : Shared) : Prop where
  slp : Slp Z fp a ga tn j σ i H s
  pp : PP i H
  le : i ≤ n
  gen : ∃ gs : GenState, s.gens[g]? = some gs ∧ gs.Goes (model Z.prog Z.w) B (GR Z a ga PP n) (GP Z fp a ga tn j σ PP YY n) (n - i + 1) (.send .none) (s.setGen g .running)
theorem isGen_of {σ' : L2.St} {H : Hp} {s : Shared} {g : Nat} {t1 : Tok} {v1 v2 : Value} (I : Inv Z [(a, { cls := .type "generator", data := .fields #[.int g t1, v1, v2] })] σ' H s) (h : ∀ h' : Heap, h'.get? a = some { cls := .type "generator", data := .fields #[.int g t1, v1, v2] } → h'.IsGen a g) : s.heap.IsGen a g :=
  h _ (I.pin _ (List.mem_append_right _ List.mem_cons_self)).1
theorem gx_next {A1 : Around} {g i : Nat} {H : Hp} {s : Shared} {E : Value → Shared → Prop} (hh : A1.handled = none) (hroom : A1.depth < recursionLimit) (hgen : ∀ h' : Heap, h'.get? a = some ga → h'.IsGen a g) (hlt : i < n)
    (S : GAt Z A1.in1 fp a ga g tn j σ PP YY n i H s) :
    wpAny (model Z.prog Z.w) A1 (pyNext (.ref a)) (fun r s' => ∃ y v H', r = some v ∧ RelV y v ∧ YY i y H' ∧ Slp Z fp a ga tn j σ (i + 1) H' s' ∧ (PP (i + 1) H' → GAt Z A1.in1 fp a ga g tn j σ PP YY n (i + 1) H' s')) E s := by
  obtain ⟨⟨⟨σ', I, hs⟩, hf, st⟩, hP, hle, gs, hgs, hgo⟩ := S
  have hg : s.heap.IsGen a g := hgen _ (I.pin _ (List.mem_append_right _ List.mem_cons_self)).1
  have hsz : g + 1 ≤ s.gens.size := by
    have := (Array.getElem?_eq_some_iff.mp hgs).1
    omega
  refine wpAny_gsz hsz ?_
  refine next_genG hh I.nolimit hroom hg hgs hgo (fun v s₁ gs' hb hY => ?_) (fun s₁ hF => ?_) (fun e s₁ he => he.elim)
  · obtain ⟨i', y, H', hm, hi', ry, hYY, hS', hk⟩ := hY
    have ei : i' = i := by omega
    subst ei
    intro hg1
    rw [setGen_size] at hg1
    obtain ⟨⟨σ2, I2, hs2⟩, hf2, st2⟩ := id hS'
    have hb2 : AllBare (s₁.setGen g gs').gens := allBare_setGen I2.bare hb
    have S2 : Slp Z fp a ga tn j σ (i' + 1) H' (s₁.setGen g gs') := hS'.regens hb2
    refine ⟨y, v, H', rfl, ry, hYY, S2, fun hP2 => ⟨S2, hP2, hlt, gs', setGen_at (by omega), ?_⟩⟩
    have q := hk hP2 ((s₁.setGen g gs').setGen g .running).gens (allBare_setGen hb2 rfl)
    have e : n - i' = n - (i' + 1) + 1 := by omega
    rw [← e]
    exact q
  · have h1 : n - i + 1 = 1 := hF.1
    omega
theorem gx_stop {A1 : Around} {g i : Nat} {H : Hp} {s : Shared} {E : Value → Shared → Prop} (hh : A1.handled = none) (hroom : A1.depth < recursionLimit) (hgen : ∀ h' : Heap, h'.get? a = some ga → h'.IsGen a g) (hin : i = n)
    (S : GAt Z A1.in1 fp a ga g tn j σ PP YY n i H s) :
    wpAny (model Z.prog Z.w) A1 (pyNext (.ref a)) (fun r s' => r = none ∧ ∃ σ' H', Inv Z [(a, ga)] σ' H' s' ∧ PP n H') E s := by
  obtain ⟨⟨⟨σ', I, hs⟩, hf, st⟩, hP, hle, gs, hgs, hgo⟩ := S
  have hg : s.heap.IsGen a g := hgen _ (I.pin _ (List.mem_append_right _ List.mem_cons_self)).1
  refine next_genG hh I.nolimit hroom hg hgs hgo (fun v s₁ gs' hb hY => ?_) (fun s₁ hF => ?_) (fun e s₁ he => he.elim)
  · obtain ⟨i', y, H', hm, hi', _⟩ := hY
    omega
  · obtain ⟨_, σ2, H2, I2, hP2⟩ := hF
    intro h' kp
    refine ⟨rfl, σ2, H2, ?_, hP2⟩
    have I3 := Inv.regens I2 (G := (s₁.setGen g .finished).gens) (allBare_setGen I2.bare rfl)
    exact I3.kept (t' := s₁.toks) kp
/-! ### all(..), any(..) of it -/
section
variable {R : Result → Shared → Prop}
/-- what is behind: the frame's Inv and the heap -/
abbrev Beh (Z : Cx) (a : Addr) (ga : Obj) (Q : VK) (b : Bool) (s : Shared) : Prop := ∃ σ' H', Inv Z [(a, ga)] σ' H' s ∧ Q (.bl b) H'
theorem any_loop {A : Around} {g : Nat} {Q : VK} (hh : A.handled = none) (hroom : A.depth < recursionLimit) (hgen : ∀ h' : Heap, h'.get? a = some ga → h'.IsGen a g)
    (hY : ∀ i y H, YY i y H → ∃ b, y = .bl b ∧ if b = true then Q (.bl true) H else PP (i + 1) H) (hN : ∀ H, PP n H → Q (.bl false) H) (hR : ∀ b s', Beh Z a ga Q b s' → R (.ok (.ret (.bool b))) s') :
    ∀ (k i : Nat) (H : Hp) (s : Shared), n - i = k → GAt Z A.in1.in1 fp a ga g tn j σ PP YY n i H s → codeAny (model Z.prog Z.w) A (.builtin "any.loop" ⟨[.ref a], []⟩) R s := by
  intro k
  induction k with
  | zero =>
    intro i H s hk S
    have hin : i = n := by have := S.le; omega
    refine codeAny_builtin F.entry_any_loop ?_
    rw [Around.under_plainId F.plain_any_loop _]
    show wpAny _ A.in1 (pyNext (.ref a) >>= _) _ _ s
    refine wpAny_bind (wpAny_mono (gx_stop (A1 := A.in1) (E := fun _ _ => False) hh hroom hgen hin S) (fun r s' h => ?_) fun _ _ e => e.elim)
    obtain ⟨rfl, σ', H', I', hP⟩ := h
    refine wpAny_bind (wpAny_rule (wpAny_pure ?_))
    exact hR false s' ⟨σ', H', I', hN _ hP⟩
  | succ k ih =>
    intro i H s hk S
    have hlt : i < n := by omega
    refine codeAny_builtin F.entry_any_loop ?_
    rw [Around.under_plainId F.plain_any_loop _]
    show wpAny _ A.in1 (pyNext (.ref a) >>= _) _ _ s
    refine wpAny_bind (wpAny_mono (gx_next (A1 := A.in1) (E := fun _ _ => False) hh hroom hgen hlt S) (fun r s' h => ?_) fun _ _ e => e.elim)
    obtain ⟨y, v, H', rfl, ry, hYY, S', hG⟩ := h
    obtain ⟨b, rfl, hq⟩ := hY i y H' hYY
    have rv : v = .bool b := ry
    subst rv
    refine wpAny_bind (wpAny_holding (wpAny_truthy_bool ?_))
    refine wpAny_bind (wpAny_letGo ?_)
    cases b with
    | false =>
      simp only [Bool.false_eq_true, if_false]
      have hq : PP (i + 1) H' := hq
      exact wpAny_pure ⟨plainId_quiet F.plain_any_loop _, ih (i + 1) H' s' (by omega) (hG hq)⟩
    | true =>
      simp only [if_true]
      have hq : Q (.bl true) H' := hq
      obtain ⟨⟨σ2, I2, _⟩, _, _⟩ := S'
      refine wpAny_bind (wpAny_rule (wpAny_pure ?_))
      exact hR true s' ⟨σ2, H', I2, hq⟩
theorem all_loop {A : Around} {g : Nat} {Q : VK} (hh : A.handled = none) (hroom : A.depth < recursionLimit) (hgen : ∀ h' : Heap, h'.get? a = some ga → h'.IsGen a g)
    (hY : ∀ i y H, YY i y H → ∃ b, y = .bl b ∧ if b = true then PP (i + 1) H else Q (.bl false) H) (hN : ∀ H, PP n H → Q (.bl true) H) (hR : ∀ b s', Beh Z a ga Q b s' → R (.ok (.ret (.bool b))) s') :
    ∀ (k i : Nat) (H : Hp) (s : Shared), n - i = k → GAt Z A.in1.in1 fp a ga g tn j σ PP YY n i H s → codeAny (model Z.prog Z.w) A (.builtin "all.loop" ⟨[.ref a], []⟩) R s := by
  intro k
  induction k with
  | zero =>
    intro i H s hk S
    have hin : i = n := by have := S.le; omega
    refine codeAny_builtin F.entry_all_loop ?_
    rw [Around.under_plainId F.plain_all_loop _]
    show wpAny _ A.in1 (pyNext (.ref a) >>= _) _ _ s
    refine wpAny_bind (wpAny_mono (gx_stop (A1 := A.in1) (E := fun _ _ => False) hh hroom hgen hin S) (fun r s' h => ?_) fun _ _ e => e.elim)
    obtain ⟨rfl, σ', H', I', hP⟩ := h
    refine wpAny_bind (wpAny_rule (wpAny_pure ?_))
    exact hR true s' ⟨σ', H', I', hN _ hP⟩
  | succ k ih =>
    intro i H s hk S
    have hlt : i < n := by omega
    refine codeAny_builtin F.entry_all_loop ?_
    rw [Around.under_plainId F.plain_all_loop _]
    show wpAny _ A.in1 (pyNext (.ref a) >>= _) _ _ s
    refine wpAny_bind (wpAny_mono (gx_next (A1 := A.in1) (E := fun _ _ => False) hh hroom hgen hlt S) (fun r s' h => ?_) fun _ _ e => e.elim)
    obtain ⟨y, v, H', rfl, ry, hYY, S', hG⟩ := h
    obtain ⟨b, rfl, hq⟩ := hY i y H' hYY
    have rv : v = .bool b := ry
    subst rv
    refine wpAny_bind (wpAny_holding (wpAny_truthy_bool ?_))
    refine wpAny_bind (wpAny_letGo ?_)
    cases b with
    | true =>
      simp only [if_true]
      have hq : PP (i + 1) H' := hq
      exact wpAny_pure ⟨plainId_quiet F.plain_all_loop _, ih (i + 1) H' s' (by omega) (hG hq)⟩
    | false =>
      simp only [Bool.false_eq_true, if_false]
      have hq : Q (.bl false) H' := hq
      obtain ⟨⟨σ2, I2, _⟩, _, _⟩ := S'
      refine wpAny_bind (wpAny_rule (wpAny_pure ?_))
      exact hR false s' ⟨σ2, H', I2, hq⟩
end
end
end GX

/-! GX: any(..), all(..) of a generator expression whose element may call. -/
namespace GX
open PySem PySem.Spec PyProof.Rows L2 GxR GenW
section
variable {X : Cx} {pins : List (Addr × Obj)} {σ : L2.St} {H : Hp} {s : Shared}
/-- the generator is made -/
structure Made (X : Cx) (pins : List (Addr × Obj)) (σ : L2.St) (x : Str) (px gpos : Pos) (scope : Scope) (elt iter : Expr) (j : Nat) (J : It) (H4 : Hp) (a : Addr) (s5 : Shared) : Prop where
  ex : ∃ (cenv : Env) (code : Value) (s4 : Shared) (fp : List Addr) (it : Addr) (tn : Nat → Heap → Prop) (g : Nat) (ga : Obj),
    cenv = genEnv scope (cloFrom X.env.cells scope.names []) s4.heap.objs.size code builtinsNs X.env ∧ Inv X pins σ H4 s4 ∧ (∀ b ∈ fp, FpOk X pins H4 b) ∧ (∀ b ∈ fp, b ≠ a) ∧
    Turn X.prog X.w X.K (.Name x px) J fp it tn ∧ Slp (genCx X (X.A.in1.in1.deeper cenv) s4 H4 cenv fp) fp a ga tn j σ 0 H4 s5 ∧
    s5.gens[g]? = some (.fresh (.compStart (.GeneratorExp elt [⟨.Name x px, iter, [], 0⟩] scope gpos) 0 (.ref it) .none cenv)) ∧ (∀ h' : Heap, h'.get? a = some ga → h'.IsGen a g)
theorem gx_make {c P : Addr} {elt iter : Expr} {x : Str} {px gpos : Pos} {scope : Scope} {wi : TI} {k j : Nat} {Q' : Value → Shared → Prop} {RR : It → Array Value → Hp → Prop}
    (hr : Room k X.A) (TB : TabB X.base X.mg c P) (hcode : X.env.code = .ref c) (S : GSc X scope x j) (hi : PI X (.Name x px) iter wi) (hs : ∀ v, genFold iter X.env v = pure v) (I : Inv X pins σ H s)
    (h : wi σ H fun J H1 => ∃ ps : Array Value, H1 P = some (.tbl ps) ∧ TriplesOk ps.toList ∧ RR J ps H1)
    (hQ : ∀ J ps H1 more a s5, RR J ps H1 → TriplesOk (ps ++ more).toList → Made X pins σ x px gpos scope elt iter j J (upd H1 P (.tbl (ps ++ more))) a s5 → Q' (.ref a) s5) :
    wpAny (model X.prog X.w) X.A (eval (.GeneratorExp elt [⟨.Name x px, iter, [], 0⟩] scope gpos) X.env) Q' X.xe s := by
  have hfree : ∀ y ∈ scope.names, y.2 = .free → ∃ c, X.env.cells.lookup y.1 = some c := fun y hy e => by
    rcases S.free y hy e with k | k
    · exact I.ok.has _ (.inl k)
    · exact I.ok.has _ (.inr k)
  refine wpAny_GeneratorExp_make S.co (closure_ok hfree) S.cell S.dot S.kind (by have := hr.dp; omega) ?_ hs
  refine wpAny_mono (hi.run pins s σ H _ I h) (fun xv s1 h1 => wpAny_mono h1 (fun itv s2 h2 => ?_) fun _ _ e => e) fun _ _ e => e
  obtain ⟨it, fp, tn, J, H1, rfl, I1, T, st0, hfp, ps, hP, ht, hR⟩ := h2
  have fpo := T.obj 0 _ st0
  have lim2 : s2.heap.NoLimit := I1.nolimit
  have hPs : s2.heap.get? P = some { cls := .none, data := .fields ps } := I1.hok P _ hP
  have cd : PySem.W.CodeHd s2.heap c P := TB.code.keeps fun b u e => I1.bk b u e
  have cont : ∀ (code : Value) (h3 : Heap) (tk : Nat) (ps' : Array Value), Heap.ExtBut P s2.heap h3 → s2.heap.objs.size ≤ h3.objs.size → h3.get? P = some { cls := .none, data := .fields ps' } → (∃ more, ps' = ps ++ more) → TriplesOk ps'.toList →
      wpAny (model X.prog X.w) X.A (builtinsFor X.env.globals X.env.builtins) (fun bi s₄ =>
        ∀ h', h'.Ns s₄.heap.objs.size (fun y => if y = ".0" then some (.ref it) else none) → Heap.SameBut s₄.heap.objs.size (s₄.heap.push { cls := .type "frame", data := .dict #[] }) h' →
          Q' (.ref h'.objs.size) { s₄ with
            gens := s₄.gens.push (.fresh (.compStart (.GeneratorExp elt [⟨.Name x px, iter, [], 0⟩] scope gpos) 0 (.ref it) .none (genEnv scope (cloFrom X.env.cells scope.names []) s₄.heap.objs.size code bi X.env))),
            toks := s₄.toks + 1 + 1 + 1,
            heap := h'.push { cls := .type "generator", data := .fields #[.int s₄.gens.size 0, .str "<genexpr>" (s₄.toks + 1), .str (X.env.qual ++ "<genexpr>") (s₄.toks + 1 + 1)] } }) X.xe { s2 with heap := h3, toks := tk } := by
    intro code h3 tk ps' hx hsz hP3 hmore ht3
    obtain ⟨more, rfl⟩ := hmore
    obtain ⟨bm, ob, e1, e2, e3, e4, e5, e6, e7, e8⟩ := TB.bm
    have keep3 : ∀ b u, b ≠ P → s2.heap.get? b = some u → h3.get? b = some u := fun b u hb e => hx b u hb e
    refine wpAny_builtinsFor (m := X.mg) (by rw [I1.ok.glob]; exact (I1.mod.glob.keeps I1.bk).extBut hx TB.gP) e1 e2 (keep3 _ _ e4 (I1.bk _ _ e5)) e6 e7 e8 ?_
    intro h' hns hsb
    have I4 : Inv X pins σ (upd H1 P (.tbl (ps ++ more))) { s2 with heap := h3, toks := tk } := inv_tab (g' := s2.gens) (d' := s2.drawn) (t' := tk) I1 hP keep3 hP3 I1.bare
    have sz' : h'.objs.size = h3.objs.size + 1 := by rw [hsb.1, Heap.size_push]
    have kp1 : ∀ b o, h3.get? b = some o → h'.get? b = some o := fun b o e => hsb.extBut b o (Nat.ne_of_lt (Heap.lt_size e)) (Heap.get?_push_of_some _ e)
    have nP : ∀ b ∈ fp, b ≠ P := fun b hb z => by
      have q := (hfp b hb).1
      rw [z, hP] at q
      cases q
    have hfp4 : ∀ b ∈ fp, FpOk X pins (upd H1 P (.tbl (ps ++ more))) b := fun b hb => ⟨by rw [upd_ne (nP b hb)]; exact (hfp b hb).1, (hfp b hb).2⟩
    have fpo3 : ∀ b ∈ fp, ∃ o, h3.get? b = some o := fun b hb => by
      obtain ⟨o, ho, _⟩ := fpo b hb
      exact ⟨o, keep3 b o (nP b hb) ho⟩
    have lt3 : ∀ b ∈ fp, b < h3.objs.size := fun b hb => by
      obtain ⟨o, ho⟩ := fpo3 b hb
      exact Heap.lt_size ho
    refine hQ J ps H1 more _ _ hR ht3 ⟨_, code, { s2 with heap := h3, toks := tk }, fp, it, tn, s2.gens.size, { cls := .type "generator", data := .fields #[.int s2.gens.size 0, .str "<genexpr>" (tk + 1), .str (X.env.qual ++ "<genexpr>") (tk + 1 + 1)] }, rfl, I4, hfp4, fun b hb => Nat.ne_of_lt (Nat.lt_trans (lt3 b hb) (by rw [sz']; exact Nat.lt_succ_self _)), T, ?_, Array.getElem?_push_size .., fun hh e => ⟨_, _, _, e, rfl, rfl, rfl⟩⟩
    have J5 := gx_start (A := X.A.in1.in1.deeper (genEnv scope (cloFrom X.env.cells scope.names []) h3.objs.size code builtinsNs X.env)) (fp := fp) (a := h'.objs.size) (ga := { cls := .type "generator", data := .fields #[.int s2.gens.size 0, .str "<genexpr>" (tk + 1), .str (X.env.qual ++ "<genexpr>") (tk + 1 + 1)] })
      (h5 := h'.push { cls := .type "generator", data := .fields #[.int s2.gens.size 0, .str "<genexpr>" (tk + 1), .str (X.env.qual ++ "<genexpr>") (tk + 1 + 1)] })
      (g5 := s2.gens.push (.fresh (.compStart (.GeneratorExp elt [⟨.Name x px, iter, [], 0⟩] scope gpos) 0 (.ref it) .none (genEnv scope (cloFrom X.env.cells scope.names []) h3.objs.size code builtinsNs X.env)))) (t5 := tk + 1 + 1 + 1)
      I4 S rfl hr.hd (Around.frames_deeper I4.ok.frames) hfp4 fpo3 (fun b o e => Heap.get?_push_of_some _ (kp1 b o e)) (hns.push _) (by show h3.objs.size < _; omega) (Heap.get?_push_size _ rfl) (fun v z => by cases z) (I4.bare.push rfl)
    refine ⟨⟨_, J5, fun o => by rw [List.set_set]⟩, fun b hb => ?_, T.keep _ _ _ st0 fun b hb o e => Heap.get?_push_of_some _ (kp1 b o (keep3 b o (nP b hb) e))⟩
    have q := hfp4 b hb
    refine ⟨q.1, Nat.ne_of_lt (lt3 b hb), fun z => ?_, .inl hb, fun y c e z => ?_, fun p hp z => ?_⟩
    · rcases List.mem_cons.mp (I4.stkSub b z) with w | w
      · exact q.2.1 w
      · exact q.2.2.1 w
    · exact (J5.ok.exf b hb).2 y c e z
    · have e : p = (h'.objs.size, { cls := .type "generator", data := .fields #[.int s2.gens.size 0, .str "<genexpr>" (tk + 1), .str (X.env.qual ++ "<genexpr>") (tk + 1 + 1)] }) := by simpa [genCx] using hp
      rw [e] at z
      have z : h'.objs.size = b := z
      exact absurd z (Nat.ne_of_gt (Nat.lt_trans (lt3 b hb) (by rw [sz']; exact Nat.lt_succ_self _)))
  refine ⟨lim2, ?_⟩
  cases hf : codeAmong gpos ps.toList with
  | none =>
    refine wpAny_genexprCodeX hcode (cd.code hPs ht) (cd.tab hPs) hf fun c' h' tk hx hge hlt hco' _ htab' _ => ?_
    obtain ⟨o1, vs, f1, tf, fl, tg, inF, tx, tt, op, _, _, _, _, _, _, _, _, _, htr, _⟩ := hco'
    exact cont _ h' tk _ hx (Nat.le_trans hge (Nat.le_of_lt hlt)) htab'.2 ⟨_, rfl⟩ htr
  | some cv =>
    refine wpAny_genexprCode_hit hcode (cd.code hPs ht) hf ?_
    exact cont cv s2.heap s2.toks ps (Heap.ExtBut.refl _ _) (Nat.le_refl _) hPs ⟨#[], by simp⟩ ht

/-- what any(..) of it asks and tells -/
def tAnyG (P : Addr) (j : Nat) (wi : TI) (te : TE) : TE := fun σ H Q => wi σ H fun J H1 => ∃ ps : Array Value, H1 P = some (.tbl ps) ∧ TriplesOk ps.toList ∧ ∃ (n : Nat) (PP : Nat → Hp → Prop),
  (∀ more : Array Value, TriplesOk (ps ++ more).toList → PP 0 (upd H1 P (.tbl (ps ++ more)))) ∧
  (∀ i H, i < n → PP i H → J.go i H ∧ ∀ v H2, J.yld i H v H2 → te (σ.set j (some v)) H2 fun y H3 => ∃ b, y = .bl b ∧ if b = true then Q (.bl true) H3 else PP (i + 1) H3) ∧ ∀ H, PP n H → J.stop n H ∧ Q (.bl false) H
def tAllG (P : Addr) (j : Nat) (wi : TI) (te : TE) : TE := fun σ H Q => wi σ H fun J H1 => ∃ ps : Array Value, H1 P = some (.tbl ps) ∧ TriplesOk ps.toList ∧ ∃ (n : Nat) (PP : Nat → Hp → Prop),
  (∀ more : Array Value, TriplesOk (ps ++ more).toList → PP 0 (upd H1 P (.tbl (ps ++ more)))) ∧
  (∀ i H, i < n → PP i H → J.go i H ∧ ∀ v H2, J.yld i H v H2 → te (σ.set j (some v)) H2 fun y H3 => ∃ b, y = .bl b ∧ if b = true then PP (i + 1) H3 else Q (.bl false) H3) ∧ ∀ H, PP n H → J.stop n H ∧ Q (.bl true) H
/-- the generator's frame, whatever its place -/
def GEl (X : Cx) (k : Nat) (scope : Scope) (elt : Expr) (te : TE) : Prop := ∀ (A : Around) (s : Shared) (H : Hp) (C : Addr) (code : Value) (fp : List Addr), Room k A → PE (genCx X A s H (genEnv scope (cloFrom X.env.cells scope.names []) C code builtinsNs X.env) fp) elt te
theorem over_loop0 {A : Around} {elt : Expr} {gs : List Comprehension} {sc : Scope} {gp : Pos} {v1 v2 : Value} {env : Env} : A.over (.compLoop (.GeneratorExp elt gs sc gp) 0 v1 v2 env) [] = A.deeper env := by
  first
    | rfl
    | (obtain ⟨hd, d, fr, gs, u⟩ := A; simp [Around.over, Around.deeper, marksOver, frameCount, unitsOf, envsOf, guardsOf, pushEnvs, pushGuards, Code.envs, Code.env?, Code.isFrame, Code.guards, Code.isGuard, Code.weight, Code.frames, Code.isCreation, Code.isCaller, Code.cUnits])
/-- back in the maker's frame -/
theorem gx_back {A : Around} {s4 s' : Shared} {H4 H' : Hp} {cenv : Env} {fp : List Addr} {a : Addr} {ga : Obj} {σ' : L2.St} {Q : VK} {b : Bool} (I4 : Inv X pins σ H4 s4) (hfp : ∀ b ∈ fp, FpOk X pins H4 b) (J : Inv (genCx X A s4 H4 cenv fp) [(a, ga)] σ' H' s') (q : Q (.bl b) H') : EP X pins σ Q (.bool b) s' := by
  have K := I4.call (h' := s'.heap) (g' := s'.gens) (d' := s'.drawn) (t' := s'.toks) (ch := fp) J.base J.hok J.bare fun b hb => ⟨(hfp b hb).2.2.2.1, (hfp b hb).2.1, (hfp b hb).2.2.2.2.1, (hfp b hb).2.2.2.2.2⟩
  rw [sh_eta s4 s' J.os] at K
  exact ⟨.bl b, H', K, rfl, q⟩
end
section
variable {X : Cx}
theorem pe_anyG {c P : Addr} {elt iter : Expr} {x : Str} {px p pos gpos : Pos} {scope : Scope} {wi : TI} {te : TE} {k j : Nat}
    (hr : Room (k + 3) X.A) (hg : Gl X "any") (hm : X.mg "any" = none) (TB : TabB X.base X.mg c P) (hcode : X.env.code = .ref c) (S : GSc X scope x j) (hi : PI X (.Name x px) iter wi) (hel : GEl X k scope elt te)
    (hs : ∀ v, genFold iter X.env v = pure v := by intro _; rfl) (hb : bootBuiltins "any" = some (.builtin "any") := by decide +kernel)
    (he : starEach [.GeneratorExp elt [⟨.Name x px, iter, [], 0⟩] scope gpos] X.env = (false, eval (.GeneratorExp elt [⟨.Name x px, iter, [], 0⟩] scope gpos) X.env) :: starEach [] X.env := by rfl) :
    PE X (.Call (.Name "any" p) [.GeneratorExp elt [⟨.Name x px, iter, [], 0⟩] scope gpos] [] pos) (tAnyG P j wi te) := by
  refine ⟨fun pins s σ H Q I h => ?_⟩
  refine wpAny_Call_Name_kw (ld_blt I hg hm hb ?_)
  refine PyProof.Rows.callWith_builtin1 ?_ he (by rfl)
  rw [he]
  show wpAny _ _ (spliced ((false, eval (.GeneratorExp elt [⟨.Name x px, iter, [], 0⟩] scope gpos) X.env) :: backTo pos (starEach [] X.env))) _ _ s
  refine Calls.spliced_cons (gx_make (RR := fun J ps H1 => ∃ (n : Nat) (PP : Nat → Hp → Prop), (∀ more : Array Value, TriplesOk (ps ++ more).toList → PP 0 (upd H1 P (.tbl (ps ++ more)))) ∧
    (∀ i H, i < n → PP i H → J.go i H ∧ ∀ v H2, J.yld i H v H2 → te (σ.set j (some v)) H2 fun y H3 => ∃ b, y = .bl b ∧ if b = true then Q (.bl true) H3 else PP (i + 1) H3) ∧ ∀ H, PP n H → J.stop n H ∧ Q (.bl false) H) hr TB hcode S hi hs I h fun J ps H1 more a s5 hR hT M => ?_)
  obtain ⟨cenv, code, s4, fp, it, tn, g, ga, hc, I4, hfp, hna, T, hS, hgs, hgen⟩ := M
  obtain ⟨n, PP, h0, hstep, hstop⟩ := hR
  refine Calls.spliced_nil ?_
  have hga : s5.heap.get? a = some ga := by
    obtain ⟨⟨σ', J5, _⟩, _, _⟩ := hS
    exact (J5.pin _ (List.mem_append_right _ List.mem_cons_self)).1
  have hb5 : AllBare s5.gens := by
    obtain ⟨⟨σ', J5, _⟩, _, _⟩ := hS
    exact J5.bare
  have room : Room k (X.A.in1.in1.deeper cenv) := (((hr.in1).in1).deeper _)
  subst hc
  have first := gx_first (Z := genCx X (X.A.in1.in1.deeper (genEnv scope (cloFrom X.env.cells scope.names []) s4.heap.objs.size code builtinsNs X.env)) s4 (upd H1 P (.tbl (ps ++ more))) (genEnv scope (cloFrom X.env.cells scope.names []) s4.heap.objs.size code builtinsNs X.env) fp)
    (n := n) (px := px) (iter := iter) (gpos := gpos) (scope := scope) (B := X.A.in1.in1) rfl over_loop0 rfl (fun e s z => z) S.co S.loc S.nd S.hj T (hel _ _ _ _ _ _ room) hna (fun i H hi hp => hstep i H hi hp) (fun H hp => (hstop H hp).1)
    (s5.setGen g .running) (s5.setGen g .running) _ (hS.regens (allBare_setGen hb5 rfl)) (h0 more hT)
  refine call_function_tree F.kind_any F.plain_any F.entry_any (F.args_any1 _) ?_
  unfold Builtin.«any»
  refine wpAny_bind (m := oneArg "any" _) (wpAny_pure ?_)
  refine wpAny_bind (wpAny_pyIter_gen (hgen _ hga) ?_)
  exact wpAny_pure ⟨plainId_quiet F.plain_any_loop _, any_loop (Z := genCx X (X.A.in1.in1.deeper (genEnv scope (cloFrom X.env.cells scope.names []) s4.heap.objs.size code builtinsNs X.env)) s4 (upd H1 P (.tbl (ps ++ more))) (genEnv scope (cloFrom X.env.cells scope.names []) s4.heap.objs.size code builtinsNs X.env) fp) (A := X.A) hr.hd (by have := hr.dp; show X.A.depth < _; omega) hgen (fun i y H hY => hY) (fun H hp => (hstop H hp).2) (fun b s' hB => by
    obtain ⟨σ', H', J', q⟩ := hB
    exact gx_back I4 hfp J' q) n 0 _ s5 (Nat.sub_zero _) ⟨hS, h0 more hT, Nat.zero_le _, _, hgs, rfl, first⟩⟩
theorem pe_allG {c P : Addr} {elt iter : Expr} {x : Str} {px p pos gpos : Pos} {scope : Scope} {wi : TI} {te : TE} {k j : Nat}
    (hr : Room (k + 3) X.A) (hg : Gl X "all") (hm : X.mg "all" = none) (TB : TabB X.base X.mg c P) (hcode : X.env.code = .ref c) (S : GSc X scope x j) (hi : PI X (.Name x px) iter wi) (hel : GEl X k scope elt te)
    (hs : ∀ v, genFold iter X.env v = pure v := by intro _; rfl) (hb : bootBuiltins "all" = some (.builtin "all") := by decide +kernel)
    (he : starEach [.GeneratorExp elt [⟨.Name x px, iter, [], 0⟩] scope gpos] X.env = (false, eval (.GeneratorExp elt [⟨.Name x px, iter, [], 0⟩] scope gpos) X.env) :: starEach [] X.env := by rfl) :
    PE X (.Call (.Name "all" p) [.GeneratorExp elt [⟨.Name x px, iter, [], 0⟩] scope gpos] [] pos) (tAllG P j wi te) := by
  refine ⟨fun pins s σ H Q I h => ?_⟩
  refine wpAny_Call_Name_kw (ld_blt I hg hm hb ?_)
  refine PyProof.Rows.callWith_builtin1 ?_ he (by rfl)
  rw [he]
  show wpAny _ _ (spliced ((false, eval (.GeneratorExp elt [⟨.Name x px, iter, [], 0⟩] scope gpos) X.env) :: backTo pos (starEach [] X.env))) _ _ s
  refine Calls.spliced_cons (gx_make (RR := fun J ps H1 => ∃ (n : Nat) (PP : Nat → Hp → Prop), (∀ more : Array Value, TriplesOk (ps ++ more).toList → PP 0 (upd H1 P (.tbl (ps ++ more)))) ∧
    (∀ i H, i < n → PP i H → J.go i H ∧ ∀ v H2, J.yld i H v H2 → te (σ.set j (some v)) H2 fun y H3 => ∃ b, y = .bl b ∧ if b = true then PP (i + 1) H3 else Q (.bl false) H3) ∧ ∀ H, PP n H → J.stop n H ∧ Q (.bl true) H) hr TB hcode S hi hs I h fun J ps H1 more a s5 hR hT M => ?_)
  obtain ⟨cenv, code, s4, fp, it, tn, g, ga, hc, I4, hfp, hna, T, hS, hgs, hgen⟩ := M
  obtain ⟨n, PP, h0, hstep, hstop⟩ := hR
  refine Calls.spliced_nil ?_
  have hga : s5.heap.get? a = some ga := by
    obtain ⟨⟨σ', J5, _⟩, _, _⟩ := hS
    exact (J5.pin _ (List.mem_append_right _ List.mem_cons_self)).1
  have hb5 : AllBare s5.gens := by
    obtain ⟨⟨σ', J5, _⟩, _, _⟩ := hS
    exact J5.bare
  have room : Room k (X.A.in1.in1.deeper cenv) := (((hr.in1).in1).deeper _)
  subst hc
  have first := gx_first (Z := genCx X (X.A.in1.in1.deeper (genEnv scope (cloFrom X.env.cells scope.names []) s4.heap.objs.size code builtinsNs X.env)) s4 (upd H1 P (.tbl (ps ++ more))) (genEnv scope (cloFrom X.env.cells scope.names []) s4.heap.objs.size code builtinsNs X.env) fp)
    (n := n) (px := px) (iter := iter) (gpos := gpos) (scope := scope) (B := X.A.in1.in1) rfl over_loop0 rfl (fun e s z => z) S.co S.loc S.nd S.hj T (hel _ _ _ _ _ _ room) hna (fun i H hi hp => hstep i H hi hp) (fun H hp => (hstop H hp).1)
    (s5.setGen g .running) (s5.setGen g .running) _ (hS.regens (allBare_setGen hb5 rfl)) (h0 more hT)
  refine call_function_tree F.kind_all F.plain_all F.entry_all (F.args_all1 _) ?_
  unfold Builtin.«all»
  refine wpAny_bind (m := oneArg "all" _) (wpAny_pure ?_)
  refine wpAny_bind (wpAny_pyIter_gen (hgen _ hga) ?_)
  exact wpAny_pure ⟨plainId_quiet F.plain_all_loop _, all_loop (Z := genCx X (X.A.in1.in1.deeper (genEnv scope (cloFrom X.env.cells scope.names []) s4.heap.objs.size code builtinsNs X.env)) s4 (upd H1 P (.tbl (ps ++ more))) (genEnv scope (cloFrom X.env.cells scope.names []) s4.heap.objs.size code builtinsNs X.env) fp) (A := X.A) hr.hd (by have := hr.dp; show X.A.depth < _; omega) hgen (fun i y H hY => hY) (fun H hp => (hstop H hp).2) (fun b s' hB => by
    obtain ⟨σ', H', J', q⟩ := hB
    exact gx_back I4 hfp J' q) n 0 _ s5 (Nat.sub_zero _) ⟨hS, h0 more hT, Nat.zero_le _, _, hgs, rfl, first⟩⟩
end
end GX

/-! Gn: webs that are told of beside a def's table; defs whose code is known; enumerate; the end with tables. -/
namespace Gn
open PySem PySem.Spec PyProof.Rows L2 Dn
open Dx (Ex Sm fresh_back ex_l ex_t sq_of)
/-- data, and beside it the table at P -/
@[reducible] def pyT {α : Type} (ip : Py α) (P : Addr) : Py α where
  rel K x v H := ip.rel K x v H ∧ ∃ ps : Array Value, H P = some (.tbl ps) ∧ TriplesOk ps.toList
  mono := fun e ⟨h1, ps, h2, h3⟩ => by
    obtain ⟨more, q1, q2⟩ := e P _ h2
    exact ⟨ip.mono e h1, _, q1, q2 h3⟩
  dflt := ip.dflt
section
variable {K : PySem.W.Frag} {Γ : Dn.Ctx} {te ta : TE} {P : Addr} {α β : Type} {ip : Py α} {iq : Py β}
theorem evx_wt {x : α} (h : Evx (ip := pyT ip P) K te Γ x) : Evx (ip := ip) K te Γ x := fun σ R0 H R e E Q k => h σ R0 H R e E Q fun v H' R' g r => k v H' R' g r.1
/-- a slot that is told of beside the table tells of the table -/
theorem evx_tw {x : α} {y : β} {i : Nat} (hi : Γ[i]? = some (.dat (pyT iq P) y)) (h : Evx (ip := ip) K te Γ x) : Evx (ip := pyT ip P) K te Γ x := fun σ R0 H R e E Q k => h σ R0 H R e E Q fun v H' R' g r => by
  obtain ⟨u, _, _, ps, h2, h3⟩ := (E.grow g).ok i _ hi
  exact k v H' R' g ⟨r, ps, h2, h3⟩
/-- all(0 <= x < web.many for x in xs) -/
theorem evx_allMany {C : Addr} (hC : WebC K C) (cls : Cls K C) (na : NoAttr K C "many") {ns : List Int} {i : Nat} {p : WebD} (hw : Γ[i]? = some (.dat (pyT pyWeb P) p)) (h : Evx K te Γ ns) :
    Evx K (DnQ.tAllI K P (DnQ.elMany K i "many") te) Γ (ns.all fun k => decide (0 ≤ k) && decide (k < (p.n : Int))) := fun σ R0 H R e E Q k =>
  h σ R0 H R e E _ fun v H1 R1 g1 r1 => by
    obtain ⟨a, rfl, hl⟩ := list_ints r1
    obtain ⟨u, hu, ⟨b, D, dx, r, rfl, hD, hb, _⟩, ps, hP, ht⟩ := (E.grow g1).ok i _ hw
    obtain ⟨m0, hP1, t1⟩ := g1.inn P _ hP
    have eD : D = C := web_one hD hC
    subst eD
    refine ⟨a, ns, _, ps ++ m0, rfl, sq_of (g1.inn a _ hl), hP1, t1 ht, ⟨b, D, dx, _, p.n, hu, g1.inn b _ hb, cls, na, webF_many _ _, rfl⟩, fun more hm => ?_⟩
    exact k (.bl _) H1 (upd R1 P (.tbl (ps ++ m0 ++ more))) (g1.trans ⟨Ex.refl H1, g1.inn.trans (Dx.Ex.grown hP1 hm), Dx.Ex.grown hP1 hm, fun _ h _ => h⟩) rfl
end
/-! ### a def whose code object is known -/
structure FunC (K : PySem.W.Frag) (x qual : Str) (st : Stmt) (f : Addr) (fd : FuncData) (c : Addr) : Prop where
  F : Fun K x qual st f fd
  code : fd.code = .ref c
theorem def2C {P : Program} {w : World} {K : PySem.W.Frag} {mg : Str → Option Value} {base : Heap} {A0 A1 C : Type} {i0 : Py A0} {i1 : Py A1} {ic : Py C} {x qual : Str} {st : Stmt} {a c : Addr} {fd : FuncData} {N ps : List Str} {k : Nat} {pre : A0 → A1 → Prop} {f : A0 → A1 → C} (F : FunC K x qual st a fd c) (S : FnScope N ps (defScope st)) (hps : ps.length = 2) (us : Dn.Ctx) (hus : us = List.replicate (N.length - 2) Slot.un)
    (hbody : ∀ (A : Around) (outer : List PySem.Env) (s : Shared) (H : Hp) (Q : VK) (E : XK), Room k (A.deeper (envOfC qual (defScope st) s.heap.objs.size a (.ref c))) →
      ∃ t, PSs (cxOf CX0 P w K mg base N qual (defScope st) a (.ref c) A outer s H E).nox (defBody st) t ∧ ∀ (x0 : A0) (x1 : A1), pre x0 x1 → ∀ (W : Wd) (D : Ends), W.K = K → (∀ σ R, D.nx σ R = D.rt .non R) → RetD W D (f x0 x1) → Go W t D (.dat i0 x0 :: .dat i1 x1 :: us)) : FnOk P w K mg base CX0 (k + 1) a fd ps (sp2 K pre f) := by
  obtain ⟨oc, od, kV, doc, pm, an, cdv, ct, osl, e, lk, hcd⟩ := F.F.ex
  have ec : cdv = .ref c := by
    have q := F.code
    rw [e] at q
    exact q
  subst ec e
  refine fn_of lk hcd S (fun vs H Q E h => ?_) fun A outer s R vs Q E hr h => ?_
  · obtain ⟨x0, x1, v0, v1, H, rfl, _⟩ := h
    exact hps.symm
  · obtain ⟨x0, x1, v0, v1, H, rfl, e, r0, r1, hp, q⟩ := h
    obtain ⟨t, h1, h2⟩ := hbody A outer s R Q E hr
    subst hus
    exact ⟨t, h1.nox, h2 x0 x1 hp ⟨K, H, R, H⟩ _ rfl (fun _ _ => rfl) (fun v H' R' g r => q v H' R' g r) _ H R (Ex.refl H) (Gr.refl e) (Env.start (Are.cons (s := Slot.dat i0 x0) r0 (Are.cons (s := Slot.dat i1 x1) r1 Are.nil)) rfl)⟩
/-- a def of the module whose code object is known -/
structure DfC (K : PySem.W.Frag) (mg : Str → Option Value) (x qual : Str) (st : Stmt) (ps : List Str) (c : Addr) : Prop where
  ex : ∃ (f : Addr) (fd : FuncData), FunC K x qual st f fd c ∧ mg x = some (.ref f) ∧ Binds K fd ps []
theorem _root_.Dn.Dk.dfC {K : PySem.W.Frag} {mg : Str → Option Value} {h : Heap} {x qual : Str} {st : Stmt} {ps : List Str} {c t : Addr} (d : Dk K x qual st) (X : K.In h) (G : h.Ns mainGlobals mg) (ht : PySem.W.tabIn K x = some (c, t))
    (hb : ∀ (kV doc pm : Value) (an : Option Addr) (cdv ct : Value) (us : List Value), us.length = ps.length → bindArgs (PySem.W.fnOf x qual (defArgs st) (defBody st) (defScope st) .none kV doc pm an cdv ct) ⟨us, []⟩ = pure (ps.zip us)) : DfC K mg x qual st ps c := by
  obtain ⟨A, oc, od, an, kV, doc, pm, cdv, ct, osl, a, l, cd, k⟩ := d.ex
  have F := fun_mk (st := st) l cd k
  have hm := PySem.W.mg_of X G a
  exact ⟨A, _, ⟨F, PySem.W.law_code X G ht hm (X _ _ l) rfl⟩, hm, F.binds hb⟩
theorem DfC.cl {P : Program} {w : World} {K : PySem.W.Frag} {mg : Str → Option Value} {base : Heap} {CX : CXT} {k : Nat} {x qual : Str} {st : Stmt} {ps : List Str} {sp : Sp} {c : Addr} (d : DfC K mg x qual st ps c) (h : ∀ f fd, FunC K x qual st f fd c → FnOk P w K mg base CX k f fd ps sp) : Cl P w K mg base CX k x ps sp := by
  obtain ⟨f, fd, F, hm, hb⟩ := d.ex
  exact ⟨f, fd, h f fd F, hm, F.F.kp, hb⟩
theorem tabX {base : Heap} {mg : Str → Option Value} {c P : Addr} (h : LamX.TabB base mg c P) : GxR.TabB base mg c P := ⟨h.code, h.bm, h.gP⟩
/-! ### enumerate -/
/-- for k, x in enumerate(xs), with something known -/
theorem go_forEI {W : Wd} {Γ : Dn.Ctx} {D : Ends} {tu tz : TS} {tl : TE} {α : Type} {ip : Py α} {xs : List α} {i j : Nat} (I : Nat → Prop) (i0 : I 0) (h : Evx W.K tl Γ xs) (Γs : Nat → Dn.Ctx) (h0 : LeC Γ (Γs 0))
    (hs : ∀ (m : Nat) (x : α) (F : Hp), xs[m]? = some x → I m → Ex W.F F → Go (W.fl F) tu { D with nx := AtI (W.fl F) (I (m + 1)) (Γs (m + 1)), ct := AtI (W.fl F) (I (m + 1)) (Γs (m + 1)), bk := tz D } (((Γs m).set i (.dat pyInt (m : Int))).set j (.dat ip x)))
    (hd : I xs.length → Go W tz D (Γs xs.length)) : Go W (tSeq (tFor (iEnum W.K (tCons tl tNil)) (gTup W.K 2 (gCons (gName i) (gCons (gName j) gNil))) tu) tz) D Γ := fun σ H R f g E =>
  h σ W.R0 H R g.inn E _ fun v H1 R1 g1 r1 => by
    obtain ⟨a, vs, rfl, hl, hx⟩ := r1
    have l1 := paired_len hx
    refine ⟨a, vs, rfl, sq_of (g1.inn a _ hl), fun m k σ' R' => k = vs.length - m ∧ m ≤ vs.length ∧ AtI (W.fl H1) (I m) (Γs m) σ' R', ⟨vs.length, by simp, Nat.zero_le _, i0, H1, Ex.refl H1, g.trans g1, (E.grow g1).le h0⟩, ?_⟩
    rintro m k σ' R' ⟨rfl, hm, hI, H2, e2, g2, E2⟩
    have hsq : SqL W.K R' a vs := sq_of (g2.inn a _ (e2 a _ hl))
    by_cases hlt : m < vs.length
    · refine .inr ⟨⟨vs, vs[m], hsq, List.getElem?_eq_getElem hlt⟩, AtI (W.fl H1) (I (m + 1)) (Γs (m + 1)), fun σ2 R2 p2 => ⟨vs.length - (m + 1), by omega, rfl, hlt, p2⟩, fun x R2 y => ?_⟩
      obtain ⟨T, z, rfl, hT, rfl, hz⟩ := y
      have hz := hz vs hsq
      obtain ⟨x, q1, q2⟩ := paired_back hx hz
      have ga := Gr.alloc (o := HO.tup [.int (m : Nat), z]) g2.inn hT
      exact ⟨T, [.int (m : Nat), z], rfl, Dx.st_of upd_same, rfl, .int (m : Nat), [z], rfl, z, [], rfl, rfl, hs m x H1 q1 hI (f.trans g1.up) ((σ'.set i (some (.int (m : Nat)))).set j (some z)) H2 _ e2 (g2.trans ga) (((E2.grow ga).setDat rfl).setDat (ip.mono e2 q2))⟩
    · have e : m = vs.length := by omega
      subst e
      rw [← l1] at hI E2
      exact .inl ⟨⟨vs, hsq, Nat.le_refl _⟩, hd hI σ' H2 R' ((f.trans g1.up).trans e2) g2 E2⟩
/-! ### x not in (None, b) -/
theorem evx_notNone {K : PySem.W.Frag} {Γ : Dn.Ctx} {te tb : TE} {o : Option Bool} {b : Bool} (h : Evx K te Γ o) (hb : Evx K tb Γ b) (ho : o = none ∨ o = some b) :
    Evx K (tOp (rIn K true) te (tTup (tCons (tC .non) (tCons tb tNil)))) Γ false := fun σ R0 H R e E Q k =>
  h σ R0 H R e E _ fun v H1 R1 g1 r1 => hb σ R0 H1 R1 g1.inn (E.grow g1) _ fun u H2 R2 g2 r2 => by
    have r2 : u = .bl b := r2
    subst r2
    refine ⟨Dx.sz_of (by show 2 ≤ 100000; decide), fun p hp => ?_⟩
    have fl : flatV v = true ∧ inV v [V.non, .bl b] = true := by
      rcases ho with rfl | rfl
      · have r1 : v = .non := r1
        subst r1
        exact ⟨rfl, rfl⟩
      · have r1 : v = .bl b := r1
        subst r1
        cases b <;> exact ⟨rfl, rfl⟩
    refine ⟨p, [.non, .bl b], rfl, .inr (Dx.st_of upd_same), fl.1, rfl, ?_⟩
    rw [if_pos rfl, fl.2]
    exact k _ H2 _ ((g1.trans g2).trans (Gr.alloc g2.inn hp)) rfl
/-! ### the end, with tables -/
theorem walk_tabs {l : PySem.W.OpenLaw} {n k : Nat} {q : Program} {loose : List Str} {XP : (Str → Option Value) → Heap → Prop} {YP : World → Heap → Prop} {d : DefRec} {K : Params → PySem.W.Frag} {CX : World → CXT} {x : Str}
    (hn : l.most = some n) (hn2 : n ≤ sizeLine) (hdf : d.params.defaults = []) (hr : Room k callerA) (hY : ∀ (w : World) (h : Heap), YP w h → (K w.params).In h)
    (F : ∀ (w : World) (mg : Str → Option Value) (fa : Addr) (h : Heap), YP w h → (K w.params).In h → h.Ns mainGlobals mg → mg d.name = some (.ref fa) →
      (∀ (y : Str) (c P : Addr), ((recsOf q).any fun e => e.name == y) = true → PySem.W.tabIn (K w.params) y = some (c, P) → PySem.W.CodeHd h c P ∧ h.get? P = some { cls := .none, data := .fields #[] }) → LamX.LawAtS l w (K w.params) (CX w) k n x mg fa h)
    (hCX : ∀ (w : World) (H : Hp) (s : Shared) (e : Value) (s' : Shared), CX w [] H s (fun _ _ _ => False) e s' → False) :
    PySem.W.WalkO q loose XP YP l.row.toRowW d [] (fun f vs => PySem.call f vs) := by
  refine Att.attach_callB hn hdf fun w s₀ s₁ mg mb fa o pm cd doc a vs ns G Y ho hd hcd hmg hobj hints hlen hbits hg => ?_
  have KX := hY w _ Y
  have tabs : ∀ (y : Str) (c P : Addr), ((recsOf q).any fun e => e.name == y) = true → PySem.W.tabIn (K w.params) y = some (c, P) → PySem.W.CodeHd s₁.heap c P ∧ s₁.heap.get? P = some { cls := .none, data := .fields #[] } := fun y c P hy ht => by
    cases hf : (recsOf q).find? fun e => e.name == y with
    | none =>
      obtain ⟨e, he, e2⟩ := List.any_eq_true.mp hy
      exact absurd e2 (by simpa using List.find?_eq_none.mp hf e he)
    | some d2 => exact PySem.W.tab_of G.T KX hf ht
  obtain ⟨fd, cs, sp, hT, nT, C, hb, hsp, hF⟩ := F w mg fa _ Y KX G.T.g hmg tabs
  exact LamX.law_callTs KX G.T.g G.T.b G.T.builtins G.T.nolimit hg hT nT C G.T.bmain hobj hints (Nat.le_trans hlen hn2) hr hF hb (fun H hH hS => hsp H a ns hlen hbits hH hS) fun H e s' => hCX w H s₁ e s'
end Gn

/-! GX: readings of any(..), all(..). -/
namespace GX
open PySem PySem.Spec PyProof.Rows L2 Dn Gn
open Dx (Ex Sm fresh_back ex_l ex_t sq_of)
theorem gsc_by {X : Cx} {scope : Scope} {x : Str} {j : Nat} (h1 : scope.kind = .function) (h2 : scope.isCoroutine = false) (h3 : (scope.names.all fun y => y.2 != .cell) = true) (h4 : scope.names.lookup (".0" : Str) = some NameKind.local) (h5 : scope.names.lookup x = some .local)
    (h6 : (scope.names.all fun y => y.2 != .local || (y.1 == x || y.1 == ".0")) = true) (h7 : (scope.names.all fun y => y.2 != .free || (X.env.scope.names.lookup y.1 == some .cell || X.env.scope.names.lookup y.1 == some .free)) = true)
    (hj : X.N[j]? = some x) (nd : X.N.Nodup) (dotN : X.N.contains (".0" : Str) = false) : GSc X scope x j := by
  refine ⟨h1, h2, fun y hy z => ?_, h4, h5, fun y hy => ?_, fun y hy z => ?_, hj, nd, fun z => ?_⟩
  · have q := List.all_eq_true.mp h3 y hy
    rw [z] at q
    exact absurd q (by decide)
  · have q := List.all_eq_true.mp h6 _ (PySem.mem_of_lookup hy)
    simpa using q
  · have q := List.all_eq_true.mp h7 y hy
    rw [z] at q
    simpa using q
  · rw [List.contains_iff_mem.mpr z] at dotN
    cases dotN
section
variable {K : PySem.W.Frag} {Γ : Dn.Ctx} {tl tn te : TE} {P : Addr} {α β : Type} {ip : Py α} {iq : Py β} {i0 j : Nat} {y : β}
theorem any_take {xs : List α} {f : α → Bool} {i : Nat} {x : α} (h : xs[i]? = some x) : (xs.take (i + 1)).any f = ((xs.take i).any f || f x) := by
  obtain ⟨hl, e⟩ := List.getElem?_eq_some_iff.mp h
  rw [List.take_succ_eq_append_getElem hl, List.any_append, e]
  simp
theorem all_take {xs : List α} {f : α → Bool} {i : Nat} {x : α} (h : xs[i]? = some x) : (xs.take (i + 1)).all f = ((xs.take i).all f && f x) := by
  obtain ⟨hl, e⟩ := List.getElem?_eq_some_iff.mp h
  rw [List.take_succ_eq_append_getElem hl, List.all_append, e]
  simp
/-- any(f(x) for x in xs) -/
theorem evx_anyL {xs : List α} {f : α → Bool} (hw : Γ[i0]? = some (.dat (pyT iq P) y)) (h : Evx K tl Γ xs) (he : ∀ x ∈ xs, Evx K te (Γ.set j (.dat ip x)) (f x)) : Evx K (tAnyG P j (iList K tl) te) Γ (xs.any f) := fun σ R0 H R e E Q k =>
  h σ R0 H R e E _ fun v H1 R1 g1 r1 => by
    obtain ⟨a, vs, rfl, hl, hx⟩ := r1
    obtain ⟨u, hu, _, ps, hP, ht⟩ := (E.grow g1).ok i0 _ hw
    obtain ⟨m0, hP1, t1⟩ := g1.inn P _ hP
    have l1 := paired_len hx
    refine ⟨a, rfl, ⟨vs, sq_of (g1.inn a _ hl)⟩, ps ++ m0, hP1, t1 ht, xs.length, fun i R' => (xs.take i).any f = false ∧ ∃ H', Gr H1 R1 H' R', fun more hm => ⟨by rw [List.take_zero]; rfl, H1, ⟨Ex.refl H1, g1.inn.trans (Dx.Ex.grown hP1 hm), Dx.Ex.grown hP1 hm, fun _ h _ => h⟩⟩, fun i R' hi hp => ?_, fun R' hp => ?_⟩
    · obtain ⟨hf, H', g⟩ := hp
      have sq : SqL K R' a vs := sq_of (g.inn a _ (g.up a _ hl))
      have hvi : vs[i]? = some vs[i] := List.getElem?_eq_getElem (by omega)
      refine ⟨⟨vs, vs[i], sq, hvi⟩, fun v H2 hy => ?_⟩
      obtain ⟨rfl, hyx⟩ := hy
      have hvv := hyx vs sq
      obtain ⟨x, q1, q2⟩ := paired_back hx hvv
      refine he x (List.mem_of_getElem? q1) _ R0 H' H2 g.inn (((E.grow g1).grow g).setDat (ip.mono g.up q2)) _ fun w H3 R3 g3 r3 => ⟨f x, r3, ?_⟩
      cases hfx : f x with
      | true =>
        have e1 : xs.any f = true := List.any_eq_true.mpr ⟨x, List.mem_of_getElem? q1, hfx⟩
        rw [if_pos rfl, ← e1]
        exact k (.bl (xs.any f)) H3 R3 (g1.trans (g.trans g3)) rfl
      | false =>
        rw [if_neg (by decide)]
        exact ⟨by rw [any_take q1, hf, hfx]; rfl, H3, g.trans g3⟩
    · obtain ⟨hf, H', g⟩ := hp
      rw [List.take_length] at hf
      refine ⟨⟨vs, sq_of (g.inn a _ (g.up a _ hl)), by omega⟩, ?_⟩
      rw [← hf]
      exact k (.bl (xs.any f)) H' R' (g1.trans g) rfl
/-- all(f(x) for x in xs) -/
theorem evx_allL {xs : List α} {f : α → Bool} (hw : Γ[i0]? = some (.dat (pyT iq P) y)) (h : Evx K tl Γ xs) (he : ∀ x ∈ xs, Evx K te (Γ.set j (.dat ip x)) (f x)) : Evx K (tAllG P j (iList K tl) te) Γ (xs.all f) := fun σ R0 H R e E Q k =>
  h σ R0 H R e E _ fun v H1 R1 g1 r1 => by
    obtain ⟨a, vs, rfl, hl, hx⟩ := r1
    obtain ⟨u, hu, _, ps, hP, ht⟩ := (E.grow g1).ok i0 _ hw
    obtain ⟨m0, hP1, t1⟩ := g1.inn P _ hP
    have l1 := paired_len hx
    refine ⟨a, rfl, ⟨vs, sq_of (g1.inn a _ hl)⟩, ps ++ m0, hP1, t1 ht, xs.length, fun i R' => (xs.take i).all f = true ∧ ∃ H', Gr H1 R1 H' R', fun more hm => ⟨by rw [List.take_zero]; rfl, H1, ⟨Ex.refl H1, g1.inn.trans (Dx.Ex.grown hP1 hm), Dx.Ex.grown hP1 hm, fun _ h _ => h⟩⟩, fun i R' hi hp => ?_, fun R' hp => ?_⟩
    · obtain ⟨hf, H', g⟩ := hp
      have sq : SqL K R' a vs := sq_of (g.inn a _ (g.up a _ hl))
      have hvi : vs[i]? = some vs[i] := List.getElem?_eq_getElem (by omega)
      refine ⟨⟨vs, vs[i], sq, hvi⟩, fun v H2 hy => ?_⟩
      obtain ⟨rfl, hyx⟩ := hy
      have hvv := hyx vs sq
      obtain ⟨x, q1, q2⟩ := paired_back hx hvv
      refine he x (List.mem_of_getElem? q1) _ R0 H' H2 g.inn (((E.grow g1).grow g).setDat (ip.mono g.up q2)) _ fun w H3 R3 g3 r3 => ⟨f x, r3, ?_⟩
      cases hfx : f x with
      | false =>
        have e1 : xs.all f = false := List.all_eq_false.mpr ⟨x, List.mem_of_getElem? q1, by rw [hfx]; decide⟩
        rw [if_neg (by decide), ← e1]
        exact k (.bl (xs.all f)) H3 R3 (g1.trans (g.trans g3)) rfl
      | true =>
        rw [if_pos rfl]
        exact ⟨by rw [all_take q1, hf, hfx]; rfl, H3, g.trans g3⟩
    · obtain ⟨hf, H', g⟩ := hp
      rw [List.take_length] at hf
      refine ⟨⟨vs, sq_of (g.inn a _ (g.up a _ hl)), by omega⟩, ?_⟩
      rw [← hf]
      exact k (.bl (xs.all f)) H' R' (g1.trans g) rfl

theorem range_any {f : Nat → Bool} {i : Nat} : (List.range (i + 1)).any f = ((List.range i).any f || f i) := by
  rw [List.range_succ, List.any_append]
  simp
/-- any(f(k) for k in range(n)) -/
theorem evx_anyR {n : Int} {f : Nat → Bool} (hw : Γ[i0]? = some (.dat (pyT iq P) y)) (h : Evx K tn Γ n) (hn : 0 ≤ n ∧ n ≤ 100000) (he : ∀ (i : Nat), (i : Int) < n → Evx K te (Γ.set j (.dat pyInt (i : Int))) (f i)) : Evx K (tAnyG P j (iRng1 (tCons tn tNil)) te) Γ ((List.range n.toNat).any f) := fun σ R0 H R e E Q k =>
  h σ R0 H R e E _ fun v H1 R1 g1 r1 => by
    have r1 : v = .int n := r1
    subst r1
    obtain ⟨u, hu, _, ps, hP, ht⟩ := (E.grow g1).ok i0 _ hw
    obtain ⟨m0, hP1, t1⟩ := g1.inn P _ hP
    refine ⟨n, rfl, by omega, by omega, ps ++ m0, hP1, t1 ht, n.toNat, fun i R' => (List.range i).any f = false ∧ ∃ H', Gr H1 R1 H' R', fun more hm => ⟨rfl, H1, ⟨Ex.refl H1, g1.inn.trans (Dx.Ex.grown hP1 hm), Dx.Ex.grown hP1 hm, fun _ h _ => h⟩⟩, fun i R' hi hp => ⟨hi, fun v H2 hy => ?_⟩, fun R' hp => ⟨Nat.le_refl _, ?_⟩⟩
    · obtain ⟨hf, H', g⟩ := hp
      obtain ⟨rfl, rfl⟩ := hy
      refine he i (by omega) _ R0 H' H2 g.inn (((E.grow g1).grow g).setDat (show V.int (0 + (i : Int)) = V.int (i : Int) by rw [Int.zero_add])) _ fun w H3 R3 g3 r3 => ⟨f i, r3, ?_⟩
      cases hfx : f i with
      | true =>
        have e1 : (List.range n.toNat).any f = true := List.any_eq_true.mpr ⟨i, List.mem_range.mpr hi, hfx⟩
        rw [if_pos rfl, ← e1]
        exact k (.bl ((List.range n.toNat).any f)) H3 R3 (g1.trans (g.trans g3)) rfl
      | false =>
        rw [if_neg (by decide)]
        exact ⟨by rw [range_any, hf, hfx]; rfl, H3, g.trans g3⟩
    · obtain ⟨hf, H', g⟩ := hp
      rw [← hf]
      exact k (.bl ((List.range n.toNat).any f)) H' R' (g1.trans g) rfl

theorem range_all {f : Nat → Bool} {i : Nat} : (List.range (i + 1)).all f = ((List.range i).all f && f i) := by
  rw [List.range_succ, List.all_append]
  simp
/-- all(f(k) for k in range(n)) -/
theorem evx_allR {n : Int} {f : Nat → Bool} (hw : Γ[i0]? = some (.dat (pyT iq P) y)) (h : Evx K tn Γ n) (hn : 0 ≤ n ∧ n ≤ 100000) (he : ∀ (i : Nat), (i : Int) < n → Evx K te (Γ.set j (.dat pyInt (i : Int))) (f i)) : Evx K (tAllG P j (iRng1 (tCons tn tNil)) te) Γ ((List.range n.toNat).all f) := fun σ R0 H R e E Q k =>
  h σ R0 H R e E _ fun v H1 R1 g1 r1 => by
    have r1 : v = .int n := r1
    subst r1
    obtain ⟨u, hu, _, ps, hP, ht⟩ := (E.grow g1).ok i0 _ hw
    obtain ⟨m0, hP1, t1⟩ := g1.inn P _ hP
    refine ⟨n, rfl, by omega, by omega, ps ++ m0, hP1, t1 ht, n.toNat, fun i R' => (List.range i).all f = true ∧ ∃ H', Gr H1 R1 H' R', fun more hm => ⟨rfl, H1, ⟨Ex.refl H1, g1.inn.trans (Dx.Ex.grown hP1 hm), Dx.Ex.grown hP1 hm, fun _ h _ => h⟩⟩, fun i R' hi hp => ⟨hi, fun v H2 hy => ?_⟩, fun R' hp => ⟨Nat.le_refl _, ?_⟩⟩
    · obtain ⟨hf, H', g⟩ := hp
      obtain ⟨rfl, rfl⟩ := hy
      refine he i (by omega) _ R0 H' H2 g.inn (((E.grow g1).grow g).setDat (show V.int (0 + (i : Int)) = V.int (i : Int) by rw [Int.zero_add])) _ fun w H3 R3 g3 r3 => ⟨f i, r3, ?_⟩
      cases hfx : f i with
      | false =>
        have e1 : (List.range n.toNat).all f = false := List.all_eq_false.mpr ⟨i, List.mem_range.mpr hi, by rw [hfx]; decide⟩
        rw [if_neg (by decide), ← e1]
        exact k (.bl ((List.range n.toNat).all f)) H3 R3 (g1.trans (g.trans g3)) rfl
      | true =>
        rw [if_pos rfl]
        exact ⟨by rw [range_all, hf, hfx]; rfl, H3, g.trans g3⟩
    · obtain ⟨hf, H', g⟩ := hp
      rw [← hf]
      exact k (.bl ((List.range n.toNat).all f)) H' R' (g1.trans g) rfl
end
end GX
namespace Gn
open PySem PySem.Spec PyProof.Rows L2 Dn
open Dx (Ex Sm fresh_back ex_l ex_t sq_of)
theorem def3C {P : Program} {w : World} {K : PySem.W.Frag} {mg : Str → Option Value} {base : Heap} {A0 A1 A2 C : Type} {i0 : Py A0} {i1 : Py A1} {i2 : Py A2} {ic : Py C} {x qual : Str} {st : Stmt} {a c : Addr} {fd : FuncData} {N ps : List Str} {k : Nat} {pre : A0 → A1 → A2 → Prop} {f : A0 → A1 → A2 → C} (F : FunC K x qual st a fd c) (S : FnScope N ps (defScope st)) (hps : ps.length = 3) (us : Dn.Ctx) (hus : us = List.replicate (N.length - 3) Slot.un)
    (hbody : ∀ (A : Around) (outer : List PySem.Env) (s : Shared) (H : Hp) (Q : VK) (E : XK), Room k (A.deeper (envOfC qual (defScope st) s.heap.objs.size a (.ref c))) →
      ∃ t, PSs (cxOf CX0 P w K mg base N qual (defScope st) a (.ref c) A outer s H E).nox (defBody st) t ∧ ∀ (x0 : A0) (x1 : A1) (x2 : A2), pre x0 x1 x2 → ∀ (W : Wd) (D : Ends), W.K = K → (∀ σ R, D.nx σ R = D.rt .non R) → RetD W D (f x0 x1 x2) → Go W t D (.dat i0 x0 :: .dat i1 x1 :: .dat i2 x2 :: us)) : FnOk P w K mg base CX0 (k + 1) a fd ps (sp3 K pre f) := by
  obtain ⟨oc, od, kV, doc, pm, an, cdv, ct, osl, e, lk, hcd⟩ := F.F.ex
  have ec : cdv = .ref c := by
    have q := F.code
    rw [e] at q
    exact q
  subst ec e
  refine fn_of lk hcd S (fun vs H Q E h => ?_) fun A outer s R vs Q E hr h => ?_
  · obtain ⟨x0, x1, x2, v0, v1, v2, H, rfl, _⟩ := h
    exact hps.symm
  · obtain ⟨x0, x1, x2, v0, v1, v2, H, rfl, e, r0, r1, r2, hp, q⟩ := h
    obtain ⟨t, h1, h2⟩ := hbody A outer s R Q E hr
    subst hus
    exact ⟨t, h1.nox, h2 x0 x1 x2 hp ⟨K, H, R, H⟩ _ rfl (fun _ _ => rfl) (fun v H' R' g r => q v H' R' g r) _ H R (Ex.refl H) (Gr.refl e) (Env.start (Are.cons (s := Slot.dat i0 x0) r0 (Are.cons (s := Slot.dat i1 x1) r1 (Are.cons (s := Slot.dat i2 x2) r2 Are.nil))) rfl)⟩
end Gn

/-! GX: min(..) of a generator expression with a test. -/
namespace GX
open PySem PySem.Spec PyProof.Rows L2 GxR GenW
theorem passing_mem {pz : Nat → Bool} {n i k : Nat} : k ∈ passing pz n i ↔ i ≤ k ∧ k < n ∧ pz k = true := by
  unfold passing
  rw [List.mem_filter]
  have e : k ∈ (List.range n).drop i ↔ i ≤ k ∧ k < n := by
    rw [List.mem_iff_getElem?]
    constructor
    · intro ⟨m, hm⟩
      rw [List.getElem?_drop] at hm
      obtain ⟨hl, e⟩ := List.getElem?_eq_some_iff.mp hm
      rw [List.getElem_range] at e
      rw [List.length_range] at hl
      omega
    · intro ⟨h1, h2⟩
      refine ⟨k - i, ?_⟩
      rw [List.getElem?_drop, List.getElem?_eq_some_iff]
      refine ⟨by rw [List.length_range]; omega, ?_⟩
      rw [List.getElem_range]
      omega
  rw [e]
  constructor
  · intro ⟨⟨a, b⟩, c⟩
    exact ⟨a, b, c⟩
  · intro ⟨a, b, c⟩
    exact ⟨⟨a, b⟩, c⟩
theorem passing_add {pz : Nat → Bool} {n i : Nat} : ∀ d, i + d ≤ n → ∃ l, passing pz n i = l ++ passing pz n (i + d)
  | 0, _ => ⟨[], rfl⟩
  | d + 1, h => by
    obtain ⟨l, e⟩ := passing_add (pz := pz) (n := n) (i := i) d (by omega)
    cases q : pz (i + d) with
    | true =>
      rw [passing_true (by omega) q] at e
      exact ⟨l ++ [i + d], by rw [e, List.append_assoc]; rfl⟩
    | false =>
      rw [passing_false (by omega) q] at e
      exact ⟨l, e⟩
theorem passing_len {pz : Nat → Bool} {n i i' : Nat} (h1 : i ≤ n) (h2 : i' ≤ n) (e : (passing pz n i).length = (passing pz n i').length) : passing pz n i = passing pz n i' := by
  rcases Nat.le_total i i' with q | q
  · obtain ⟨l, e1⟩ := passing_add (pz := pz) (n := n) (i := i) (i' - i) (by omega)
    rw [show i + (i' - i) = i' by omega] at e1
    rw [e1, List.length_append] at e
    have : l = [] := List.length_eq_zero_iff.mp (by omega)
    rw [e1, this]
    rfl
  · obtain ⟨l, e1⟩ := passing_add (pz := pz) (n := n) (i := i') (i - i') (by omega)
    rw [show i' + (i - i') = i by omega] at e1
    rw [e1, List.length_append] at e
    have : l = [] := List.length_eq_zero_iff.mp (by omega)
    rw [e1, this]
    rfl
section
variable {Z : Cx} {J : It} {fp : List Addr} {it a S : Addr} {ga : Obj} {tn : Nat → Heap → Prop} {elt iter ifc : Expr} {x : Str} {px gpos : Pos} {scope : Scope} {te : TE} {tt : TT} {j n : Nat} {σ : L2.St} {PP : Nat → Hp → Prop} {YY : Nat → V → Hp → Prop} {pz : Nat → Bool}
/-- what stands while the generator sleeps, i items out; S: what the one that asks holds -/
structure SlpF (Z : Cx) (fp : List Addr) (a : Addr) (ga : Obj) (tn : Nat → Heap → Prop) (j : Nat) (σ : L2.St) (S : Addr) (o : Obj) (i : Nat) (H : Hp) (s : Shared) : Prop where
  inv : ∃ σ', Inv Z [(a, ga), (S, o)] σ' H s ∧ ∀ u, σ'.set j u = σ.set j u
  fpok : ∀ b ∈ fp, FpOk Z [(a, ga), (S, o)] H b
  st : tn i s.heap
abbrev GFF (Z : Cx) (a : Addr) (ga : Obj) (S : Addr) (PP : Nat → Hp → Prop) (n : Nat) : Nat → Shared → Shared → Prop := fun m s₀ s₁ => m = 1 ∧ ∀ o, s₀.heap.get? S = some o → ∃ σ' H, Inv Z [(a, ga), (S, o)] σ' H s₁ ∧ PP n H
abbrev GRF (Z : Cx) (a : Addr) (ga : Obj) (S : Addr) (PP : Nat → Hp → Prop) (n : Nat) : GenEnd := fun m s₀ r s₁ => ((r = .ok (.ret .none) ∨ r = .ok .next) ∧ GFF Z a ga S PP n m s₀ s₁) ∨ ∃ e, r = .error e ∧ (fun (_ : Value) (_ : Shared) => False) e s₁
def GPF (Z : Cx) (fp : List Addr) (a : Addr) (ga : Obj) (tn : Nat → Heap → Prop) (j : Nat) (σ : L2.St) (S : Addr) (PP : Nat → Hp → Prop) (YY : Nat → V → Hp → Prop) (pz : Nat → Bool) (n : Nat) : Protocol := fun m s₀ v s kap =>
  ∀ o, s₀.heap.get? S = some o → ∃ i y H, m = (passing pz n i).length ∧ i < n ∧ pz i = true ∧ RelV y v ∧ YY i y H ∧ SlpF Z fp a ga tn j σ S o (i + 1) H s ∧ (∀ s' H' o', SlpF Z fp a ga tn j σ S o' (i + 1) H' s' → PP (i + 1) H' → kap (.send .none) s')
theorem SlpF.regens {i : Nat} {H : Hp} {o : Obj} {s : Shared} (h : SlpF Z fp a ga tn j σ S o i H s) {G : Array GenState} (hG : AllBare G) : SlpF Z fp a ga tn j σ S o i H { s with gens := G } := by
  obtain ⟨⟨σ', I, hs⟩, h2, h3⟩ := h
  exact ⟨⟨σ', Inv.regens I hG, hs⟩, h2, h3⟩
theorem SlpF.at {i : Nat} {H : Hp} {o : Obj} {s : Shared} (h : SlpF Z fp a ga tn j σ S o i H s) : s.heap.get? S = some o := by
  obtain ⟨⟨σ', I, hs⟩, h2, h3⟩ := h
  exact (I.pin (S, o) (List.mem_append_right _ (List.mem_cons_of_mem _ List.mem_cons_self))).1
theorem gf_loop {B : Around} (hcalm : Z.calm = true) (hA : B.over (.compLoop (.GeneratorExp elt [⟨.Name x px, iter, [ifc], 0⟩] scope gpos) 0 (.ref it) .none Z.env) [] = Z.A) (hpn : Z.pn = []) (hxe : ∀ e s, Z.xe e s → False)
    (hco : Z.env.scope.isCoroutine = false) (hloc : Z.env.scope.names.lookup x = some .local) (hnd : Z.N.Nodup) (hj : Z.N[j]? = some x)
    (T : Turn Z.prog Z.w Z.K (.Name x px) J fp it tn) (hif : PT Z ifc tt) (hel : PE Z elt te)
    (hstep : ∀ i H, i < n → PP i H → J.go i H ∧ ∀ v H2, J.yld i H v H2 → tt (σ.set j (some v)) H2 fun b H3 => b = pz i ∧ if b = true then te (σ.set j (some v)) H3 (YY i) else PP (i + 1) H3) (hstop : ∀ H, PP n H → J.stop n H) :
    ∀ (k i : Nat) (s₀ s : Shared) (H : Hp) (o : Obj), n - i = k → i ≤ n → s₀.heap.get? S = some o → SlpF Z fp a ga tn j σ S o i H s → PP i H →
      Seg (model Z.prog Z.w) B (GRF Z a ga S PP n) (GPF Z fp a ga tn j σ S PP YY pz n) ((passing pz n i).length + 1) s₀ (.compLoop (.GeneratorExp elt [⟨.Name x px, iter, [ifc], 0⟩] scope gpos) 0 (.ref it) .none Z.env)
        ((model Z.prog Z.w).den (.compLoop (.GeneratorExp elt [⟨.Name x px, iter, [ifc], 0⟩] scope gpos) 0 (.ref it) .none Z.env)) [] s := by
  intro k
  induction k with
  | zero =>
    intro i s₀ s H o hk hi ho hS hP
    have hin : i = n := by omega
    subst hin
    obtain ⟨⟨σ', I, hs⟩, hf, st⟩ := hS
    show Seg _ B _ _ _ s₀ _ ((compTurn (.GeneratorExp elt [⟨.Name x px, iter, [ifc], 0⟩] scope gpos) 0 (.ref it) .none Z.env).onRaise (leaving Z.env)) [] s
    rw [compTurn_gen, Sem.onRaise_eq_wrap]
    refine seg_bind_wrap (wpAny_standAt ?_)
    refine seg_bind_wrap ?_
    rw [hA]
    refine wpAny_mono (T.done Z rfl rfl rfl hcalm i [(a, ga), (S, o)] s σ' H (fun _ _ => False) I hf st (hstop H hP)) (fun r s1 h1 => ?_) fun _ _ e => e.elim
    obtain ⟨rfl, I1⟩ := h1
    exact seg_end (.ok .next) (.inl ⟨.inr rfl, by rw [passing_end]; rfl, fun o' ho' => by rw [ho] at ho'; cases ho'; exact ⟨σ', H, I1, hP⟩⟩)
  | succ k ih =>
    intro i s₀ s H o hk hi ho hS hP
    have hlt : i < n := by omega
    obtain ⟨⟨σ', I, hs⟩, hf, st⟩ := hS
    obtain ⟨hgo, hy⟩ := hstep i H hlt hP
    show Seg _ B _ _ _ s₀ _ ((compTurn (.GeneratorExp elt [⟨.Name x px, iter, [ifc], 0⟩] scope gpos) 0 (.ref it) .none Z.env).onRaise (leaving Z.env)) [] s
    rw [compTurn_gen, Sem.onRaise_eq_wrap]
    refine seg_bind_wrap (wpAny_standAt ?_)
    refine seg_bind_wrap ?_
    rw [hA]
    refine wpAny_mono (T.item Z rfl rfl rfl hcalm i [(a, ga), (S, o)] s σ' H (fun _ _ => False) I hf st hgo) (fun r s1 h1 => ?_) fun _ _ e => e.elim
    obtain ⟨u, rfl, h2⟩ := h1
    refine seg_bind_wrap ?_
    rw [hA]
    refine wpAny_mono h2 (fun _ s2 h3 => ?_) fun _ _ e => e.elim
    obtain ⟨v, H2, I2, rv, hyd, st2, hf2⟩ := h3
    obtain ⟨pp, hp1, hp2⟩ := pins_for (T.obj _ _ st2)
    have I2p : Inv Z (pp ++ [(a, ga), (S, o)]) σ' H2 s2 := I2.pins_of fun p hp => by
      rcases List.mem_append.mp hp with z | z
      · obtain ⟨m1, m2, m3⟩ := hp2 p z
        have q := hf p.1 m1
        exact ⟨m2, hf2 p.1 m1, q.2.1, q.2.2.1, m3⟩
      · exact I2.pin p (List.mem_append_right _ z)
    refine seg_bind_wrap ?_
    rw [hA]
    refine wpAny_mono ((pg_name (pos := px) hnd hj (.inl hloc) (.inr hloc)).run (pp ++ [(a, ga), (S, o)]) s2 σ' H2 v u (fun σ3 H3 => σ3 = σ'.set j (some v) ∧ H3 = H2) I2p rv ⟨rfl, rfl⟩) (fun _ s3 h4 => ?_) fun e s e2 => (hxe e s e2).elim
    obtain ⟨σ3, H3, I3, rfl, rfl⟩ := h4
    have ht := hy v H3 hyd
    rw [← hs] at ht
    have back : ∀ {H4 : Hp} {s4 : Shared}, Inv Z (pp ++ [(a, ga), (S, o)]) (σ'.set j (some v)) H4 s4 → SlpF Z fp a ga tn j σ S o (i + 1) H4 s4 := fun {H4 s4} I4 => by
      have pinb : ∀ b ∈ fp, ∃ o, (b, o) ∈ pp ∧ s2.heap.get? b = some o ∧ s4.heap.get? b = some o ∧ H4 b = none := fun b hb => by
        obtain ⟨o, ho⟩ := hp1 b hb
        have q := I4.pin (b, o) (List.mem_append_right _ (List.mem_append_left _ ho))
        exact ⟨o, ho, (hp2 _ ho).2.1, q.1, q.2.1⟩
      refine ⟨⟨_, I4.pins_of fun p hp => I4.pin p (List.mem_append_right _ (List.mem_append_right _ hp)), fun o => by rw [List.set_set, hs]⟩, fun b hb => ?_, T.keep _ _ _ st2 fun b hb o e => ?_⟩
      · obtain ⟨o, _, _, _, q⟩ := pinb b hb
        exact ⟨q, (hf b hb).2⟩
      · obtain ⟨o2, _, e1, e2, _⟩ := pinb b hb
        rw [e1] at e
        cases e
        exact e2
    refine seg_bind_wrap ?_
    rw [List.forIn_cons, hA]
    simp only [if_true, List.forIn_nil]
    refine wpAny_bind (wpAny_bind (wpAny_mono (hif.run (pp ++ [(a, ga), (S, o)]) s3 _ H3 _ I3 ht) (fun ok s4 h5 => ?_) fun e s e2 => (hxe e s e2).elim))
    obtain ⟨H4, I4, hok, hq⟩ := h5
    refine wpAny_pure (wpAny_pure ?_)
    cases hb : pz i with
    | false =>
      rw [hb] at hok
      subst hok
      simp only [Bool.false_eq_true, if_false] at hq ⊢
      rw [passing_false hlt hb]
      exact seg_again rfl (ih (i + 1) s₀ s4 H4 o (by omega) hlt ho (back I4) hq)
    | true =>
      rw [hb] at hok
      subst hok
      simp only [if_true] at hq ⊢
      have hyo : ∀ v, yieldOut Z.env v = yieldValue v := fun v => by simp only [yieldOut, hco, Bool.false_eq_true, if_false]
      simp only [hyo]
      rw [Sem.bind_eq_wrap', Sem.bind_eq_wrap', Sem.wrap_wrap, Sem.wrap_wrap]
      refine seg_wrap ?_
      rw [hA]
      refine wpAny_mono (hel.run (pp ++ [(a, ga), (S, o)]) s4 _ H4 _ I4 hq) (fun y s5 h6 => ?_) fun e s e2 => (hxe e s e2).elim
      obtain ⟨yv, H5, I5, ry, hY⟩ := h6
      refine seg_at (seg_yield rfl rfl rfl fun o' ho' => ?_)
      rw [ho] at ho'
      cases ho'
      refine ⟨i, yv, H5, rfl, hlt, hb, ry, hY, back I5, fun s' H' o' hS' hP' => ?_⟩
      rw [passing_true hlt hb, List.length_cons]
      exact seg_again rfl (ih (i + 1) s' s' H' o' (by omega) hlt hS'.at hS' hP')
theorem gf_first {B : Around} (hcalm : Z.calm = true) (hA : B.over (.compLoop (.GeneratorExp elt [⟨.Name x px, iter, [ifc], 0⟩] scope gpos) 0 (.ref it) .none Z.env) [] = Z.A) (hpn : Z.pn = []) (hxe : ∀ e s, Z.xe e s → False)
    (hco : Z.env.scope.isCoroutine = false) (hloc : Z.env.scope.names.lookup x = some .local) (hnd : Z.N.Nodup) (hj : Z.N[j]? = some x)
    (T : Turn Z.prog Z.w Z.K (.Name x px) J fp it tn) (hif : PT Z ifc tt) (hel : PE Z elt te)
    (hstep : ∀ i H, i < n → PP i H → J.go i H ∧ ∀ v H2, J.yld i H v H2 → tt (σ.set j (some v)) H2 fun b H3 => b = pz i ∧ if b = true then te (σ.set j (some v)) H3 (YY i) else PP (i + 1) H3) (hstop : ∀ H, PP n H → J.stop n H)
    (s₀ s : Shared) (H : Hp) (o : Obj) (ho : s₀.heap.get? S = some o) (hS : SlpF Z fp a ga tn j σ S o 0 H s) (hP : PP 0 H) :
      Seg (model Z.prog Z.w) B (GRF Z a ga S PP n) (GPF Z fp a ga tn j σ S PP YY pz n) ((passing pz n 0).length + 1) s₀ (.compStart (.GeneratorExp elt [⟨.Name x px, iter, [ifc], 0⟩] scope gpos) 0 (.ref it) .none Z.env)
        ((model Z.prog Z.w).den (.compStart (.GeneratorExp elt [⟨.Name x px, iter, [ifc], 0⟩] scope gpos) 0 (.ref it) .none Z.env)) [] s := by
  have loop := gf_loop (B := B) (px := px) (iter := iter) (gpos := gpos) (scope := scope) hcalm hA hpn hxe hco hloc hnd hj T hif hel hstep hstop n 0 s₀ s H o (Nat.sub_zero _) (Nat.zero_le _) ho hS hP
  show Seg _ B _ _ _ s₀ _ ((compStart (.GeneratorExp elt [⟨.Name x px, iter, [ifc], 0⟩] scope gpos) 0 (.ref it) .none Z.env).onRaise (leaving Z.env)) [] s
  unfold compStart
  rw [Sem.onRaise_eq_wrap]
  show Seg _ B _ _ _ s₀ _ ((ask >>= _).wrap _ _ _ _) [] s
  refine seg_bind_wrap (wpAny_askSetting ?_)
  split
  · exact seg_again rfl loop
  · first
      | exact seg_bind_wrap (wpAny_rule (seg_bind_wrap (wpAny_standAt (seg_bind_wrap (T.self _ 0 s _ _ hS.st (seg_again rfl loop))))))
      | (refine seg_bind_wrap (wpAny_rule ?_); show Seg _ B _ _ _ s₀ _ ((standAt iter.pos >>= _).wrap _ _ _ _) [] s; exact seg_bind_wrap (wpAny_standAt (seg_bind_wrap (T.self _ 0 s _ _ hS.st (seg_again rfl loop)))))
/-- the generator sleeps, i items out, and can go on -/
structure GAtF (Z : Cx) (B : Around) (fp : List Addr) (a : Addr) (ga : Obj) (g : Nat) (tn : Nat → Heap → Prop) (j : Nat) (σ : L2.St) (S : Addr) (PP : Nat → Hp → Prop) (YY : Nat → V → Hp → Prop) (pz : Nat → Bool) (n : Nat) (o : Obj) (i : Nat) (H : Hp) (s : Shared) : Prop where
  slp : SlpF Z fp a ga tn j σ S o i H s
  le : i ≤ n
  gen : ∃ gs : GenState, s.gens[g]? = some gs ∧ gs.Goes (model Z.prog Z.w) B (GRF Z a ga S PP n) (GPF Z fp a ga tn j σ S PP YY pz n) ((passing pz n i).length + 1) (.send .none) (s.setGen g .running)
theorem gf_next {A1 : Around} {g i : Nat} {H : Hp} {o : Obj} {s : Shared} {E : Value → Shared → Prop} (hh : A1.handled = none) (hroom : A1.depth < recursionLimit) (hgen : ∀ h' : Heap, h'.get? a = some ga → h'.IsGen a g) (hlt : passing pz n i ≠ [])
    (G : GAtF Z A1.in1 fp a ga g tn j σ S PP YY pz n o i H s) :
    wpAny (model Z.prog Z.w) A1 (pyNext (.ref a)) (fun r s' => ∃ y v i' H', r = some v ∧ i ≤ i' ∧ i' < n ∧ pz i' = true ∧ passing pz n i = i' :: passing pz n (i' + 1) ∧ RelV y v ∧ YY i' y H' ∧ SlpF Z fp a ga tn j σ S o (i' + 1) H' s' ∧
      ∀ s'' H'' o'', s''.gens = s'.gens → SlpF Z fp a ga tn j σ S o'' (i' + 1) H'' s'' → PP (i' + 1) H'' → GAtF Z A1.in1 fp a ga g tn j σ S PP YY pz n o'' (i' + 1) H'' s'') E s := by
  obtain ⟨hS, hle, gs, hgs, hgo⟩ := G
  have hat := hS.at
  obtain ⟨⟨σ', I, hs⟩, hf, st⟩ := hS
  have hg : s.heap.IsGen a g := hgen _ (I.pin _ (List.mem_append_right _ List.mem_cons_self)).1
  have hsz : g + 1 ≤ s.gens.size := by
    have := (Array.getElem?_eq_some_iff.mp hgs).1
    omega
  refine wpAny_gsz hsz ?_
  refine next_genG hh I.nolimit hroom hg hgs hgo (fun v s₁ gs' hb hY => ?_) (fun s₁ hF => ?_) (fun e s₁ he => he.elim)
  · obtain ⟨i', y, H', hm, hi', hpz, ry, hYY, hS', hk⟩ := hY o hat
    have ei : passing pz n i = passing pz n i' := passing_len hle (by omega) (by omega)
    have em := passing_true hi' hpz
    have hii : i ≤ i' := by
      have : i' ∈ passing pz n i := by
        rw [ei, em]
        exact List.mem_cons_self
      exact (passing_mem.mp this).1
    intro hg1
    rw [setGen_size] at hg1
    obtain ⟨⟨σ2, I2, hs2⟩, hf2, st2⟩ := id hS'
    have hb2 : AllBare (s₁.setGen g gs').gens := allBare_setGen I2.bare hb
    have S2 : SlpF Z fp a ga tn j σ S o (i' + 1) H' (s₁.setGen g gs') := hS'.regens hb2
    refine ⟨y, v, i', H', rfl, hii, hi', hpz, ei.trans em, ry, hYY, S2, fun s'' H'' o'' eg hS'' hP'' => ⟨hS'', hi', gs', by rw [eg]; exact setGen_at (by omega), ?_⟩⟩
    obtain ⟨⟨σ4, I4, _⟩, _, _⟩ := id hS''
    have q := hk (s''.setGen g .running) H'' o'' (hS''.regens (allBare_setGen I4.bare rfl)) hP''
    have e : (passing pz n i).length = (passing pz n (i' + 1)).length + 1 := by rw [ei, em, List.length_cons]
    rw [← e]
    exact q
  · have h1 : (passing pz n i).length + 1 = 1 := hF.1
    exact absurd (List.length_eq_zero_iff.mp (by omega)) hlt
theorem gf_stop {A1 : Around} {g i : Nat} {H : Hp} {o : Obj} {s : Shared} {E : Value → Shared → Prop} (hh : A1.handled = none) (hroom : A1.depth < recursionLimit) (hgen : ∀ h' : Heap, h'.get? a = some ga → h'.IsGen a g) (hin : passing pz n i = [])
    (G : GAtF Z A1.in1 fp a ga g tn j σ S PP YY pz n o i H s) :
    wpAny (model Z.prog Z.w) A1 (pyNext (.ref a)) (fun r s' => r = none ∧ ∃ σ' H', Inv Z [(a, ga), (S, o)] σ' H' s' ∧ PP n H') E s := by
  obtain ⟨hS, hle, gs, hgs, hgo⟩ := G
  have hat := hS.at
  obtain ⟨⟨σ', I, hs⟩, hf, st⟩ := hS
  have hg : s.heap.IsGen a g := hgen _ (I.pin _ (List.mem_append_right _ List.mem_cons_self)).1
  refine next_genG hh I.nolimit hroom hg hgs hgo (fun v s₁ gs' hb hY => ?_) (fun s₁ hF => ?_) (fun e s₁ he => he.elim)
  · obtain ⟨i', y, H', hm, hi', hpz, _⟩ := hY o hat
    rw [passing_true hi' hpz, List.length_cons, hin] at hm
    have : (0 : Nat) = _ + 1 := hm
    omega
  · obtain ⟨_, hF2⟩ := hF
    obtain ⟨σ2, H2, I2, hP2⟩ := hF2 o hat
    intro h' kp
    refine ⟨rfl, σ2, H2, ?_, hP2⟩
    have I3 := Inv.regens I2 (G := (s₁.setGen g .finished).gens) (allBare_setGen I2.bare rfl)
    exact I3.kept (t' := s₁.toks) kp
end
theorem over_loop0F {A : Around} {elt : Expr} {gs : List Comprehension} {sc : Scope} {gp : Pos} {v1 v2 : Value} {env : PySem.Env} : A.over (.compLoop (.GeneratorExp elt gs sc gp) 0 v1 v2 env) [] = A.deeper env := over_loop0
section
variable {X : Cx} {pins : List (Addr × Obj)} {σ : L2.St} {H : Hp} {s : Shared}
/-- the generator is made -/
structure MadeF (X : Cx) (pins : List (Addr × Obj)) (σ : L2.St) (x : Str) (px gpos : Pos) (scope : Scope) (elt iter ifc : Expr) (j : Nat) (J : It) (H4 : Hp) (a : Addr) (s5 : Shared) : Prop where
  ex : ∃ (cenv : Env) (code : Value) (s4 : Shared) (fp : List Addr) (it : Addr) (tn : Nat → Heap → Prop) (g : Nat) (ga : Obj),
    cenv = genEnv scope (cloFrom X.env.cells scope.names []) s4.heap.objs.size code builtinsNs X.env ∧ Inv X pins σ H4 s4 ∧ (∀ b ∈ fp, FpOk X pins H4 b) ∧ (∀ b ∈ fp, b ≠ a) ∧
    Turn X.prog X.w X.K (.Name x px) J fp it tn ∧ Slp (genCx X (X.A.in1.in1.deeper cenv) s4 H4 cenv fp) fp a ga tn j σ 0 H4 s5 ∧
    s5.gens[g]? = some (.fresh (.compStart (.GeneratorExp elt [⟨.Name x px, iter, [ifc], 0⟩] scope gpos) 0 (.ref it) .none cenv)) ∧ (∀ h' : Heap, h'.get? a = some ga → h'.IsGen a g)
theorem gf_make {c P : Addr} {elt iter ifc : Expr} {x : Str} {px gpos : Pos} {scope : Scope} {wi : TI} {k j : Nat} {Q' : Value → Shared → Prop} {RR : It → Array Value → Hp → Prop}
    (hr : Room k X.A) (TB : TabB X.base X.mg c P) (hcode : X.env.code = .ref c) (S : GSc X scope x j) (hi : PI X (.Name x px) iter wi) (hs : ∀ v, genFold iter X.env v = pure v) (I : Inv X pins σ H s)
    (h : wi σ H fun J H1 => ∃ ps : Array Value, H1 P = some (.tbl ps) ∧ TriplesOk ps.toList ∧ RR J ps H1)
    (hQ : ∀ J ps H1 more a s5, RR J ps H1 → TriplesOk (ps ++ more).toList → MadeF X pins σ x px gpos scope elt iter ifc j J (upd H1 P (.tbl (ps ++ more))) a s5 → Q' (.ref a) s5) :
    wpAny (model X.prog X.w) X.A (eval (.GeneratorExp elt [⟨.Name x px, iter, [ifc], 0⟩] scope gpos) X.env) Q' X.xe s := by
  have hfree : ∀ y ∈ scope.names, y.2 = .free → ∃ c, X.env.cells.lookup y.1 = some c := fun y hy e => by
    rcases S.free y hy e with k | k
    · exact I.ok.has _ (.inl k)
    · exact I.ok.has _ (.inr k)
  refine wpAny_GeneratorExp_make S.co (closure_ok hfree) S.cell S.dot S.kind (by have := hr.dp; omega) ?_ hs
  refine wpAny_mono (hi.run pins s σ H _ I h) (fun xv s1 h1 => wpAny_mono h1 (fun itv s2 h2 => ?_) fun _ _ e => e) fun _ _ e => e
  obtain ⟨it, fp, tn, J, H1, rfl, I1, T, st0, hfp, ps, hP, ht, hR⟩ := h2
  have fpo := T.obj 0 _ st0
  have lim2 : s2.heap.NoLimit := I1.nolimit
  have hPs : s2.heap.get? P = some { cls := .none, data := .fields ps } := I1.hok P _ hP
  have cd : PySem.W.CodeHd s2.heap c P := TB.code.keeps fun b u e => I1.bk b u e
  have cont : ∀ (code : Value) (h3 : Heap) (tk : Nat) (ps' : Array Value), Heap.ExtBut P s2.heap h3 → s2.heap.objs.size ≤ h3.objs.size → h3.get? P = some { cls := .none, data := .fields ps' } → (∃ more, ps' = ps ++ more) → TriplesOk ps'.toList →
      wpAny (model X.prog X.w) X.A (builtinsFor X.env.globals X.env.builtins) (fun bi s₄ =>
        ∀ h', h'.Ns s₄.heap.objs.size (fun y => if y = ".0" then some (.ref it) else none) → Heap.SameBut s₄.heap.objs.size (s₄.heap.push { cls := .type "frame", data := .dict #[] }) h' →
          Q' (.ref h'.objs.size) { s₄ with
            gens := s₄.gens.push (.fresh (.compStart (.GeneratorExp elt [⟨.Name x px, iter, [ifc], 0⟩] scope gpos) 0 (.ref it) .none (genEnv scope (cloFrom X.env.cells scope.names []) s₄.heap.objs.size code bi X.env))),
            toks := s₄.toks + 1 + 1 + 1,
            heap := h'.push { cls := .type "generator", data := .fields #[.int s₄.gens.size 0, .str "<genexpr>" (s₄.toks + 1), .str (X.env.qual ++ "<genexpr>") (s₄.toks + 1 + 1)] } }) X.xe { s2 with heap := h3, toks := tk } := by
    intro code h3 tk ps' hx hsz hP3 hmore ht3
    obtain ⟨more, rfl⟩ := hmore
    obtain ⟨bm, ob, e1, e2, e3, e4, e5, e6, e7, e8⟩ := TB.bm
    have keep3 : ∀ b u, b ≠ P → s2.heap.get? b = some u → h3.get? b = some u := fun b u hb e => hx b u hb e
    refine wpAny_builtinsFor (m := X.mg) (by rw [I1.ok.glob]; exact (I1.mod.glob.keeps I1.bk).extBut hx TB.gP) e1 e2 (keep3 _ _ e4 (I1.bk _ _ e5)) e6 e7 e8 ?_
    intro h' hns hsb
    have I4 : Inv X pins σ (upd H1 P (.tbl (ps ++ more))) { s2 with heap := h3, toks := tk } := inv_tab (g' := s2.gens) (d' := s2.drawn) (t' := tk) I1 hP keep3 hP3 I1.bare
    have sz' : h'.objs.size = h3.objs.size + 1 := by rw [hsb.1, Heap.size_push]
    have kp1 : ∀ b o, h3.get? b = some o → h'.get? b = some o := fun b o e => hsb.extBut b o (Nat.ne_of_lt (Heap.lt_size e)) (Heap.get?_push_of_some _ e)
    have nP : ∀ b ∈ fp, b ≠ P := fun b hb z => by
      have q := (hfp b hb).1
      rw [z, hP] at q
      cases q
    have hfp4 : ∀ b ∈ fp, FpOk X pins (upd H1 P (.tbl (ps ++ more))) b := fun b hb => ⟨by rw [upd_ne (nP b hb)]; exact (hfp b hb).1, (hfp b hb).2⟩
    have fpo3 : ∀ b ∈ fp, ∃ o, h3.get? b = some o := fun b hb => by
      obtain ⟨o, ho, _⟩ := fpo b hb
      exact ⟨o, keep3 b o (nP b hb) ho⟩
    have lt3 : ∀ b ∈ fp, b < h3.objs.size := fun b hb => by
      obtain ⟨o, ho⟩ := fpo3 b hb
      exact Heap.lt_size ho
    refine hQ J ps H1 more _ _ hR ht3 ⟨_, code, { s2 with heap := h3, toks := tk }, fp, it, tn, s2.gens.size, { cls := .type "generator", data := .fields #[.int s2.gens.size 0, .str "<genexpr>" (tk + 1), .str (X.env.qual ++ "<genexpr>") (tk + 1 + 1)] }, rfl, I4, hfp4, fun b hb => Nat.ne_of_lt (Nat.lt_trans (lt3 b hb) (by rw [sz']; exact Nat.lt_succ_self _)), T, ?_, Array.getElem?_push_size .., fun hh e => ⟨_, _, _, e, rfl, rfl, rfl⟩⟩
    have J5 := gx_start (A := X.A.in1.in1.deeper (genEnv scope (cloFrom X.env.cells scope.names []) h3.objs.size code builtinsNs X.env)) (fp := fp) (a := h'.objs.size) (ga := { cls := .type "generator", data := .fields #[.int s2.gens.size 0, .str "<genexpr>" (tk + 1), .str (X.env.qual ++ "<genexpr>") (tk + 1 + 1)] })
      (h5 := h'.push { cls := .type "generator", data := .fields #[.int s2.gens.size 0, .str "<genexpr>" (tk + 1), .str (X.env.qual ++ "<genexpr>") (tk + 1 + 1)] })
      (g5 := s2.gens.push (.fresh (.compStart (.GeneratorExp elt [⟨.Name x px, iter, [ifc], 0⟩] scope gpos) 0 (.ref it) .none (genEnv scope (cloFrom X.env.cells scope.names []) h3.objs.size code builtinsNs X.env)))) (t5 := tk + 1 + 1 + 1)
      I4 S rfl hr.hd (Around.frames_deeper I4.ok.frames) hfp4 fpo3 (fun b o e => Heap.get?_push_of_some _ (kp1 b o e)) (hns.push _) (by show h3.objs.size < _; omega) (Heap.get?_push_size _ rfl) (fun v z => by cases z) (I4.bare.push rfl)
    refine ⟨⟨_, J5, fun o => by rw [List.set_set]⟩, fun b hb => ?_, T.keep _ _ _ st0 fun b hb o e => Heap.get?_push_of_some _ (kp1 b o (keep3 b o (nP b hb) e))⟩
    have q := hfp4 b hb
    refine ⟨q.1, Nat.ne_of_lt (lt3 b hb), fun z => ?_, .inl hb, fun y c e z => ?_, fun p hp z => ?_⟩
    · rcases List.mem_cons.mp (I4.stkSub b z) with w | w
      · exact q.2.1 w
      · exact q.2.2.1 w
    · exact (J5.ok.exf b hb).2 y c e z
    · have e : p = (h'.objs.size, { cls := .type "generator", data := .fields #[.int s2.gens.size 0, .str "<genexpr>" (tk + 1), .str (X.env.qual ++ "<genexpr>") (tk + 1 + 1)] }) := by simpa [genCx] using hp
      rw [e] at z
      have z : h'.objs.size = b := z
      exact absurd z (Nat.ne_of_gt (Nat.lt_trans (lt3 b hb) (by rw [sz']; exact Nat.lt_succ_self _)))
  refine ⟨lim2, ?_⟩
  cases hf : codeAmong gpos ps.toList with
  | none =>
    refine wpAny_genexprCodeX hcode (cd.code hPs ht) (cd.tab hPs) hf fun c' h' tk hx hge hlt hco' _ htab' _ => ?_
    obtain ⟨o1, vs, f1, tf, fl, tg, inF, tx, tt, op, _, _, _, _, _, _, _, _, _, htr, _⟩ := hco'
    exact cont _ h' tk _ hx (Nat.le_trans hge (Nat.le_of_lt hlt)) htab'.2 ⟨_, rfl⟩ htr
  | some cv =>
    refine wpAny_genexprCode_hit hcode (cd.code hPs ht) hf ?_
    exact cont cv s2.heap s2.toks ps (Heap.ExtBut.refl _ _) (Nat.le_refl _) hPs ⟨#[], by simp⟩ ht

end
section
variable {Z : Cx} {J : It} {fp : List Addr} {it a S : Addr} {ga : Obj} {tn : Nat → Heap → Prop} {elt iter ifc : Expr} {x : Str} {px gpos : Pos} {scope : Scope} {te : TE} {tt : TT} {j n : Nat} {σ : L2.St} {PP : Nat → Hp → Prop} {YY : Nat → V → Hp → Prop} {pz : Nat → Bool}
theorem inv_S {σ' : L2.St} {H : Hp} {s : Shared} {o o2 : Obj} {h2 : Heap} {t2 : Nat} (I : Inv Z [(a, ga), (S, o)] σ' H s) (ha : a ≠ S) (hs1 : Z.s_0.heap.objs.size ≤ S) (hc : ∀ x c, Z.env.cells.lookup x = some c → c ≠ S) (hpn : Z.pn = [])
    (h1 : ∀ b u, b ≠ S → s.heap.get? b = some u → h2.get? b = some u) (h2' : h2.get? S = some o2) (hcell : ∀ v, o2.data ≠ .cell v) : Inv Z [(a, ga), (S, o2)] σ' H { s with heap := h2, toks := t2 } := by
  have q := I.pin (S, o) (List.mem_append_right _ (List.mem_cons_of_mem _ List.mem_cons_self))
  have q2 : H S = none := q.2.1
  have q3 : S ≠ Z.env.locals := q.2.2.1
  have I1 : Inv Z [(a, ga)] σ' H s := I.pins_of fun p hp => I.pin p (List.mem_append_right _ (by
    rw [List.mem_singleton.mp hp]
    exact List.mem_cons_self))
  have ne : ∀ b u, H b = some u → b ≠ S := fun b u e z => by
    rw [z, q2] at e
    cases e
  have ns : ∀ {b : Addr}, b ∉ [S] → b ≠ S := fun hb z => hb (by rw [z]; exact List.mem_cons_self)
  have J : Inv Z [(a, ga)] σ' H { s with heap := h2, gens := s.gens, drawn := s.drawn, toks := t2 } := by
    refine I1.step (g' := s.gens) (d' := s.drawn) (ch := [S]) (fun b hb => ?_) (fun b u _ _ hn e _ => h1 b u (ns hn) e) (fun b u _ _ hn e _ => ⟨u.slots, h1 b u (ns hn) e⟩) (fun b u hn e n => n) (fun b u hn e => ⟨u, h1 b u (ns hn) e⟩) (fun _ _ e => e) (fun _ _ _ e => e) (fun b ps e => ⟨#[], by simpa using e⟩) (fun m hm => ?_) (fun b u e => ?_) I.bare
    · rw [List.mem_singleton.mp hb]
      refine ⟨.inr hs1, q3, hc, fun p hp => ?_⟩
      rw [hpn, List.nil_append] at hp
      rw [List.mem_singleton.mp hp]
      exact ha
    · obtain ⟨ob, es, ep, ho, r⟩ := hm
      exact ⟨ob, es, ep, h1 _ ob (Ne.symm q3) ho, r⟩
    · refine (I.hok b u e).stay (fun d v hd q => h1 d v ?_ q) (fun d q => q) fun d xs q => q
      rcases hd with z | z
      · rw [z]
        exact ne b u e
      · exact ne d _ z
  refine J.pins_of fun p hp => ?_
  rcases List.mem_cons.mp hp with z | z
  · rw [z]
    exact J.pin _ (List.mem_append_right _ List.mem_cons_self)
  · rw [List.mem_singleton.mp z]
    exact ⟨h2', q2, q3, q.2.2.2.1, hcell⟩
theorem SlpF.put {o o2 : Obj} {i : Nat} {H : Hp} {s : Shared} {h2 : Heap} {t2 : Nat} (h : SlpF Z fp a ga tn j σ S o i H s) (T : Turn Z.prog Z.w Z.K (.Name x px) J fp it tn) (ha : a ≠ S) (hs1 : Z.s_0.heap.objs.size ≤ S) (hc : ∀ x c, Z.env.cells.lookup x = some c → c ≠ S) (hpn : Z.pn = [])
    (h1 : ∀ b u, b ≠ S → s.heap.get? b = some u → h2.get? b = some u) (h2' : h2.get? S = some o2) (hcell : ∀ v, o2.data ≠ .cell v) : SlpF Z fp a ga tn j σ S o2 i H { s with heap := h2, toks := t2 } := by
  obtain ⟨⟨σ', I, hs⟩, hf, st⟩ := h
  have nS : ∀ b ∈ fp, b ≠ S := fun b hb z => (hf b hb).2.2.2.2.2 (S, o) (List.mem_append_right _ (List.mem_cons_of_mem _ List.mem_cons_self)) z.symm
  refine ⟨⟨σ', inv_S I ha hs1 hc hpn h1 h2' hcell, hs⟩, fun b hb => ?_, T.keep _ _ _ st fun b hb u e => h1 b u (nS b hb) e⟩
  obtain ⟨f1, f2, f3, f4, f5, f6⟩ := hf b hb
  refine ⟨f1, f2, f3, f4, f5, fun p hp => ?_⟩
  rw [hpn, List.nil_append] at hp
  rcases List.mem_cons.mp hp with z | z
  · exact f6 p (List.mem_append_right _ (by rw [z]; exact List.mem_cons_self))
  · rw [List.mem_singleton.mp z]
    exact Ne.symm (nS b hb)
theorem cmp_lt {prog : Program} {w : World} {A : Around} {Q : Value → Shared → Prop} {E : Value → Shared → Prop} {s : Shared} {y b : Int} {t u : Tok} (h : Q (.bool (decide (y < b))) s) : wpAny (model prog w) A (richCompare .Lt (.int y t) (.int b u)) Q E s :=
  richCompare_gives (op := .Lt) (typeIs_int s _ t) (typeIs_int s _ u) F.slot_int_lt F.entry_int_lt (F.args_int_lt_2 _ _) (gives_int_lt _ _ t u) (fun x => nomatch x) h
abbrev lS (us : Array Value) (c : Nat) : Obj := { cls := .type "list", dict := none, data := .seq us c, slots := #[] }
section
variable {R : Result → Shared → Prop}
theorem min_loopF {A : Around} {g : Nat} {Q : VK} (hh : A.handled = none) (hroom : A.depth < recursionLimit) (hgen : ∀ h' : Heap, h'.get? a = some ga → h'.IsGen a g) (T : Turn Z.prog Z.w Z.K (.Name x px) J fp it tn)
    (ha : a ≠ S) (hs1 : Z.s_0.heap.objs.size ≤ S) (hc : ∀ x c, Z.env.cells.lookup x = some c → c ≠ S) (hpn : Z.pn = []) (val : Nat → Int)
    (hY : ∀ i y H, YY i y H → y = .int (val i) ∧ PP (i + 1) H) (hN : ∀ b H, PP n H → (∃ p, p < n ∧ pz p = true ∧ b = val p) → (∀ p, p < n → pz p = true → b ≤ val p) → Q (.int b) H)
    (hR : ∀ b t s', (∃ σ' H', Inv Z [(a, ga)] σ' H' s' ∧ Q (.int b) H') → R (.ok (.ret (.int b t))) s') :
    ∀ (k i : Nat) (H : Hp) (s : Shared) (vb : Int) (tb : Tok) (c : Nat), (passing pz n i).length = k → (∃ p, p < n ∧ pz p = true ∧ vb = val p) → (∀ p, p < i → pz p = true → vb ≤ val p) → PP i H →
      GAtF Z A.in1.in1 fp a ga g tn j σ S PP YY pz n (lS #[.int vb tb, .int vb tb] c) i H s → codeAny (model Z.prog Z.w) A (.builtin "min.loop" ⟨[.ref a, .none, .ref S], []⟩) R s := by
  have hname : (toString "min" ++ toString ".loop" : String) = "min.loop" := by decide
  intro k
  induction k with
  | zero =>
    intro i H s vb tb c hk hex hle hP G
    have hin : passing pz n i = [] := List.length_eq_zero_iff.mp hk
    have hS := G.slp.at
    refine codeAny_builtin F.entry_min_loop ?_
    rw [Around.under_plainId F.plain_min_loop _]
    show wpAny _ A.in1 (seqItems? (.ref S) >>= _) _ _ s
    refine wpAny_bind (wpAny_seqItems hS rfl ?_)
    show wpAny _ A.in1 (tryCatch (pyNext (.ref a)) _ >>= _) _ _ s
    refine wpAny_bind (wpAny_tryCatch (wpAny_mono (gf_stop (A1 := A.in1) (E := fun _ _ => False) hh hroom hgen hin G) (fun r s' h => ?_) fun _ _ e => e.elim))
    obtain ⟨rfl, σ', H', I', hP'⟩ := h
    have hS' : s'.heap.get? S = some (lS #[.int vb tb, .int vb tb] c) := (I'.pin (S, _) (List.mem_append_right _ (List.mem_cons_of_mem _ List.mem_cons_self))).1
    show wpAny _ A.in1 (updateSeq S (fun _ => #[]) >>= _) _ _ _
    refine wpAny_bind ?_
    refine wpAny_updateSeq hS' rfl (wpAny_bind (wpAny_letGo (wpAny_pure ?_)))
    have I2 := inv_S (h2 := s'.heap.update S (Obj.mapSeq fun _ => #[])) (t2 := s'.toks) I' ha hs1 hc hpn (fun b u hb e => (Heap.get?_update_other _ _ (Ne.symm hb)).trans e) (Heap.get?_update_self _ hS' rfl) (fun v z => by cases z)
    refine hR vb tb _ ⟨σ', H', I2.pins_of fun p hp => I2.pin p (List.mem_append_right _ (by
      rw [List.mem_singleton.mp hp]
      exact List.mem_cons_self)), hN vb H' hP' hex fun p hp hz => ?_⟩
    by_cases hpi : p < i
    · exact hle p hpi hz
    · have : p ∈ passing pz n i := passing_mem.mpr ⟨by omega, hp, hz⟩
      rw [hin] at this
      cases this
  | succ k ih =>
    intro i H s vb tb c hk hex hle hP G
    have hne : passing pz n i ≠ [] := fun z => by
      rw [z] at hk
      cases hk
    have hS := G.slp.at
    refine codeAny_builtin F.entry_min_loop ?_
    rw [Around.under_plainId F.plain_min_loop _]
    show wpAny _ A.in1 (seqItems? (.ref S) >>= _) _ _ s
    refine wpAny_bind (wpAny_seqItems hS rfl ?_)
    show wpAny _ A.in1 (tryCatch (pyNext (.ref a)) _ >>= _) _ _ s
    refine wpAny_bind (wpAny_tryCatch (wpAny_mono (gf_next (A1 := A.in1) (E := fun _ _ => False) hh hroom hgen hne G) (fun r s' h => ?_) fun _ _ e => e.elim))
    obtain ⟨y, v, i', H', rfl, hii, hi', hz', ep, ry, hYY, hS2, hgo⟩ := h
    obtain ⟨rfl, hP'⟩ := hY i' y H' hYY
    obtain ⟨t, rfl⟩ := id ry
    have hS' := hS2.at
    have hk' : (passing pz n (i' + 1)).length = k := by
      rw [ep, List.length_cons] at hk
      omega
    have past : ∀ p, i ≤ p → p < i' → pz p = true → False := fun p h1 h2 h3 => by
      have : p ∈ passing pz n i := passing_mem.mpr ⟨h1, by omega, h3⟩
      rw [ep, ← passing_true hi' hz'] at this
      have := (passing_mem.mp this).1
      omega
    show wpAny _ A.in1 (tryCatch (holding [.int (val i') t, .int (val i') t] (richCompare .Lt (.int (val i') t) (.int vb tb) >>= _)) _ >>= _) _ _ _
    refine wpAny_bind (wpAny_tryCatch (wpAny_holding (wpAny_bind (cmp_lt ?_))))
    refine wpAny_bind (wpAny_holding (wpAny_truthy_bool ?_))
    refine wpAny_bind (wpAny_letGo (wpAny_pure ?_))
    cases hb : decide (val i' < vb) with
    | true =>
      have hb := of_decide_eq_true hb
      simp only [if_true]
      refine wpAny_bind ?_
      refine wpAny_updateSeq hS' rfl (wpAny_bind (wpAny_letGo ?_))
      rw [hname]
      have S3 := hS2.put (h2 := s'.heap.update S (Obj.mapSeq fun _ => #[.int (val i') t, .int (val i') t])) (t2 := s'.toks) T ha hs1 hc hpn (fun b u hb e => (Heap.get?_update_other _ _ (Ne.symm hb)).trans e) (Heap.get?_update_self _ hS' rfl) (fun v z => by cases z)
      refine wpAny_pure ⟨plainId_quiet F.plain_min_loop _, ih (i' + 1) H' _ (val i') t _ hk' ⟨i', hi', hz', rfl⟩ (fun p hp hz => ?_) hP' (hgo _ _ _ rfl S3 hP')⟩
      by_cases h1 : p < i
      · have := hle p h1 hz
        omega
      · by_cases h2 : p = i'
        · rw [h2]
          exact Int.le_refl _
        · exact (past p (by omega) (by omega) hz).elim
    | false =>
      have hb := of_decide_eq_false hb
      simp only [Bool.false_eq_true, if_false]
      refine wpAny_bind (wpAny_letGo ?_)
      rw [hname]
      refine wpAny_pure ⟨plainId_quiet F.plain_min_loop _, ih (i' + 1) H' _ vb tb c hk' hex (fun p hp hz => ?_) hP' (hgo _ _ _ rfl hS2 hP')⟩
      by_cases h1 : p < i
      · exact hle p h1 hz
      · by_cases h2 : p = i'
        · rw [h2]
          omega
        · exact (past p (by omega) (by omega) hz).elim
theorem min_firstF {A : Around} {g : Nat} {Q : VK} (hh : A.handled = none) (hroom : A.depth < recursionLimit) (hgen : ∀ h' : Heap, h'.get? a = some ga → h'.IsGen a g) (T : Turn Z.prog Z.w Z.K (.Name x px) J fp it tn)
    (ha : a ≠ S) (hs1 : Z.s_0.heap.objs.size ≤ S) (hc : ∀ x c, Z.env.cells.lookup x = some c → c ≠ S) (hpn : Z.pn = []) (val : Nat → Int)
    (hY : ∀ i y H, YY i y H → y = .int (val i) ∧ PP (i + 1) H) (hN : ∀ b H, PP n H → (∃ p, p < n ∧ pz p = true ∧ b = val p) → (∀ p, p < n → pz p = true → b ≤ val p) → Q (.int b) H)
    (hR : ∀ b t s', (∃ σ' H', Inv Z [(a, ga)] σ' H' s' ∧ Q (.int b) H') → R (.ok (.ret (.int b t))) s') (hex : ∃ p, p < n ∧ pz p = true) {H : Hp} {s : Shared} {c : Nat} (hP : PP 0 H)
    (G : GAtF Z A.in1.in1 fp a ga g tn j σ S PP YY pz n (lS #[] c) 0 H s) : codeAny (model Z.prog Z.w) A (.builtin "min.loop" ⟨[.ref a, .none, .ref S], []⟩) R s := by
  have hname : (toString "min" ++ toString ".loop" : String) = "min.loop" := by decide
  have hne : passing pz n 0 ≠ [] := fun z => by
    obtain ⟨p, h1, h2⟩ := hex
    have : p ∈ passing pz n 0 := passing_mem.mpr ⟨Nat.zero_le _, h1, h2⟩
    rw [z] at this
    cases this
  have hS := G.slp.at
  refine codeAny_builtin F.entry_min_loop ?_
  rw [Around.under_plainId F.plain_min_loop _]
  show wpAny _ A.in1 (seqItems? (.ref S) >>= _) _ _ s
  refine wpAny_bind (wpAny_seqItems hS rfl ?_)
  show wpAny _ A.in1 (tryCatch (pyNext (.ref a)) _ >>= _) _ _ s
  refine wpAny_bind (wpAny_tryCatch (wpAny_mono (gf_next (A1 := A.in1) (E := fun _ _ => False) hh hroom hgen hne G) (fun r s' h => ?_) fun _ _ e => e.elim))
  obtain ⟨y, v, i', H', rfl, hii, hi', hz', ep, ry, hYY, hS2, hgo⟩ := h
  obtain ⟨rfl, hP'⟩ := hY i' y H' hYY
  obtain ⟨t, rfl⟩ := id ry
  have hS' := hS2.at
  have past : ∀ p, p < i' → pz p = true → False := fun p h2 h3 => by
    have : p ∈ passing pz n 0 := passing_mem.mpr ⟨Nat.zero_le _, by omega, h3⟩
    rw [ep, ← passing_true hi' hz'] at this
    have := (passing_mem.mp this).1
    omega
  show wpAny _ A.in1 (updateSeq S (fun _ => #[.int (val i') t, .int (val i') t]) >>= _) _ _ _
  refine wpAny_bind ?_
  refine wpAny_updateSeq hS' rfl ?_
  rw [hname]
  have S3 := hS2.put (h2 := s'.heap.update S (Obj.mapSeq fun _ => #[.int (val i') t, .int (val i') t])) (t2 := s'.toks) T ha hs1 hc hpn (fun b u hb e => (Heap.get?_update_other _ _ (Ne.symm hb)).trans e) (Heap.get?_update_self _ hS' rfl) (fun v z => by cases z)
  refine wpAny_pure ⟨plainId_quiet F.plain_min_loop _, min_loopF (A := A) hh hroom hgen T ha hs1 hc hpn val hY hN hR _ (i' + 1) H' _ (val i') t _ rfl ⟨i', hi', hz', rfl⟩ (fun p hp hz => ?_) hP' (hgo _ _ _ rfl S3 hP')⟩
  by_cases h2 : p = i'
  · rw [h2]
    exact Int.le_refl _
  · exact (past p (by omega) hz).elim
end
end
/-- what min(..) of it asks and tells -/
def tMinG (P : Addr) (j : Nat) (wi : TI) (tt : TT) (te : TE) : TE := fun σ H Q => wi σ H fun J H1 => ∃ ps : Array Value, H1 P = some (.tbl ps) ∧ TriplesOk ps.toList ∧ ∃ (n : Nat) (pz : Nat → Bool) (val : Nat → Int) (PP : Nat → Hp → Prop),
  (∃ p, p < n ∧ pz p = true) ∧ (∀ more : Array Value, TriplesOk (ps ++ more).toList → PP 0 (upd H1 P (.tbl (ps ++ more)))) ∧
  (∀ i H, i < n → PP i H → J.go i H ∧ ∀ v H2, J.yld i H v H2 → tt (σ.set j (some v)) H2 fun b H3 => b = pz i ∧ if b = true then te (σ.set j (some v)) H3 (fun y H4 => y = .int (val i) ∧ PP (i + 1) H4) else PP (i + 1) H3) ∧
  ∀ H, PP n H → J.stop n H ∧ ∀ b, (∃ p, p < n ∧ pz p = true ∧ b = val p) → (∀ p, p < n → pz p = true → b ≤ val p) → Q (.int b) H
def GTst (X : Cx) (k : Nat) (scope : Scope) (ifc : Expr) (tt : TT) : Prop := ∀ (A : Around) (s : Shared) (H : Hp) (C : Addr) (code : Value) (fp : List Addr), Room k A → PT (genCx X A s H (genEnv scope (cloFrom X.env.cells scope.names []) C code builtinsNs X.env) fp) ifc tt
theorem gf_back {X : Cx} {pins : List (Addr × Obj)} {σ : L2.St} {A : Around} {s4 s' : Shared} {H4 H' : Hp} {cenv : PySem.Env} {fp : List Addr} {a : Addr} {ga : Obj} {σ' : L2.St} {Q : VK} {b : Int} {t : Tok} (I4 : Inv X pins σ H4 s4) (hfp : ∀ b ∈ fp, FpOk X pins H4 b) (J : Inv (genCx X A s4 H4 cenv fp) [(a, ga)] σ' H' s') (q : Q (.int b) H') : EP X pins σ Q (.int b t) s' := by
  have K := I4.call (h' := s'.heap) (g' := s'.gens) (d' := s'.drawn) (t' := s'.toks) (ch := fp) J.base J.hok J.bare fun b hb => ⟨(hfp b hb).2.2.2.1, (hfp b hb).2.1, (hfp b hb).2.2.2.2.1, (hfp b hb).2.2.2.2.2⟩
  rw [sh_eta s4 s' J.os] at K
  exact ⟨.int b, H', K, ⟨_, rfl⟩, q⟩
section
variable {X : Cx}
theorem pe_minG {c P : Addr} {elt iter ifc : Expr} {x : Str} {px p pos gpos : Pos} {scope : Scope} {wi : TI} {te : TE} {tt : TT} {k j : Nat}
    (hr : Room (k + 3) X.A) (hg : Gl X "min") (hm : X.mg "min" = none) (TB : TabB X.base X.mg c P) (hcode : X.env.code = .ref c) (S : GSc X scope x j) (hi : PI X (.Name x px) iter wi) (hif : GTst X k scope ifc tt) (hel : GEl X k scope elt te)
    (hs : ∀ v, genFold iter X.env v = pure v := by intro _; rfl) (hb : bootBuiltins "min" = some (.builtin "min") := by decide +kernel)
    (he : starEach [.GeneratorExp elt [⟨.Name x px, iter, [ifc], 0⟩] scope gpos] X.env = (false, eval (.GeneratorExp elt [⟨.Name x px, iter, [ifc], 0⟩] scope gpos) X.env) :: starEach [] X.env := by rfl) :
    PE X (.Call (.Name "min" p) [.GeneratorExp elt [⟨.Name x px, iter, [ifc], 0⟩] scope gpos] [] pos) (tMinG P j wi tt te) := by
  refine ⟨fun pins s σ H Q I h => ?_⟩
  refine wpAny_Call_Name_kw (ld_blt I hg hm hb ?_)
  refine PyProof.Rows.callWith_builtin1 ?_ he (by rfl)
  rw [he]
  show wpAny _ _ (spliced ((false, eval (.GeneratorExp elt [⟨.Name x px, iter, [ifc], 0⟩] scope gpos) X.env) :: backTo pos (starEach [] X.env))) _ _ s
  refine Calls.spliced_cons (gf_make (RR := fun J ps H1 => ∃ (n : Nat) (pz : Nat → Bool) (val : Nat → Int) (PP : Nat → Hp → Prop),
  (∃ p, p < n ∧ pz p = true) ∧ (∀ more : Array Value, TriplesOk (ps ++ more).toList → PP 0 (upd H1 P (.tbl (ps ++ more)))) ∧
  (∀ i H, i < n → PP i H → J.go i H ∧ ∀ v H2, J.yld i H v H2 → tt (σ.set j (some v)) H2 fun b H3 => b = pz i ∧ if b = true then te (σ.set j (some v)) H3 (fun y H4 => y = .int (val i) ∧ PP (i + 1) H4) else PP (i + 1) H3) ∧
  ∀ H, PP n H → J.stop n H ∧ ∀ b, (∃ p, p < n ∧ pz p = true ∧ b = val p) → (∀ p, p < n → pz p = true → b ≤ val p) → Q (.int b) H) hr TB hcode S hi hs I h fun J ps H1 more a s5 hR hT M => ?_)
  obtain ⟨cenv, code, s4, fp, it, tn, g, ga, hc, I4, hfp, hna, T, hS, hgs, hgen⟩ := M
  obtain ⟨n, pz, val, PP, hex, h0, hstep, hstop⟩ := hR
  refine Calls.spliced_nil ?_
  obtain ⟨⟨σ', J5, hσ⟩, hf5, st5⟩ := hS
  have hga : s5.heap.get? a = some ga := (J5.pin _ (List.mem_append_right _ List.mem_cons_self)).1
  have room : Room k (X.A.in1.in1.deeper cenv) := (((hr.in1).in1).deeper _)
  subst hc
  have hname : (toString "min" ++ toString ".loop" : String) = "min.loop" := by decide
  refine call_function_tree F.kind_min F.plain_min F.entry_min (F.args_min1 _) ?_
  show wpAny _ X.A.in1 (Builtin.Builtins.bindParams "min" ["key", "default"] 0 ⟨[], []⟩ >>= _) _ _ s5
  refine wpAny_bind (wpAny_of_eq (show Builtin.Builtins.bindParams "min" ["key", "default"] 0 ⟨[], []⟩ = pure [none, none] from rfl) ?_)
  refine wpAny_bind (wpAny_pure ?_)
  refine wpAny_bind (wpAny_pyIter_gen (hgen _ hga) ?_)
  refine wpAny_bind (wpAny_newObj_type ?_)
  rw [hname]
  have hsz := J5.sz
  have hlt : a < s5.heap.objs.size := Heap.lt_size hga
  have kp : ∀ b u, s5.heap.get? b = some u → (s5.heap.push (lS #[] 0)).get? b = some u := fun b u e => Heap.get?_push_of_some _ e
  have hcS : ∀ y c, (genCx X (X.A.in1.in1.deeper (genEnv scope (cloFrom X.env.cells scope.names []) s4.heap.objs.size code builtinsNs X.env)) s4 (upd H1 P (.tbl (ps ++ more))) (genEnv scope (cloFrom X.env.cells scope.names []) s4.heap.objs.size code builtinsNs X.env) fp).env.cells.lookup y = some c → c ≠ s5.heap.objs.size := fun y c e z => by
    obtain ⟨v, q⟩ := J5.cell y c e
    exact Nat.ne_of_lt q.lt z
  have J6 := (J5.kept (t' := s5.toks) kp)
  have hS6 : SlpF (genCx X (X.A.in1.in1.deeper (genEnv scope (cloFrom X.env.cells scope.names []) s4.heap.objs.size code builtinsNs X.env)) s4 (upd H1 P (.tbl (ps ++ more))) (genEnv scope (cloFrom X.env.cells scope.names []) s4.heap.objs.size code builtinsNs X.env) fp) fp a ga tn j σ s5.heap.objs.size (lS #[] 0) 0 (upd H1 P (.tbl (ps ++ more))) { s5 with heap := s5.heap.push (lS #[] 0), toks := s5.toks } := by
    have ltb : ∀ b ∈ fp, b < s5.heap.objs.size := fun b hb => by
      obtain ⟨o, ho, _⟩ := T.obj _ _ st5 b hb
      exact Heap.lt_size ho
    refine ⟨⟨σ', J6.pins_of fun p hp => ?_, hσ⟩, fun b hb => ?_, T.keep _ _ _ st5 fun b hb u e => kp b u e⟩
    · rcases List.mem_cons.mp hp with z | z
      · rw [z]
        exact J6.pin _ (List.mem_append_right _ List.mem_cons_self)
      · rw [List.mem_singleton.mp z]
        exact ⟨Heap.get?_push_size _ rfl, J5.hok.fresh (Nat.le_refl _), Nat.ne_of_gt J5.lt, J5.nofs (Nat.le_refl _), fun v z => by cases z⟩
    · obtain ⟨f1, f2, f3, f4, f5, f6⟩ := hf5 b hb
      refine ⟨f1, f2, f3, f4, f5, fun p hp => ?_⟩
      have hp : p ∈ ([] : List (Addr × Obj)) ++ [(a, ga), (s5.heap.objs.size, lS #[] 0)] := hp
      rw [List.nil_append] at hp
      rcases List.mem_cons.mp hp with z | z
      · exact f6 p (List.mem_append_right _ (by rw [z]; exact List.mem_cons_self))
      · rw [List.mem_singleton.mp z]
        exact Nat.ne_of_gt (ltb b hb)
  have first := gf_first (Z := genCx X (X.A.in1.in1.deeper (genEnv scope (cloFrom X.env.cells scope.names []) s4.heap.objs.size code builtinsNs X.env)) s4 (upd H1 P (.tbl (ps ++ more))) (genEnv scope (cloFrom X.env.cells scope.names []) s4.heap.objs.size code builtinsNs X.env) fp)
    (n := n) (px := px) (iter := iter) (gpos := gpos) (scope := scope) (B := X.A.in1.in1) (pz := pz) (PP := PP) (YY := fun i y H => y = .int (val i) ∧ PP (i + 1) H) rfl over_loop0F rfl (fun e s z => z) S.co S.loc S.nd S.hj T (hif _ _ _ _ _ _ room) (hel _ _ _ _ _ _ room) (fun i H hi hp => hstep i H hi hp) (fun H hp => (hstop H hp).1)
    ({ s5 with heap := s5.heap.push (lS #[] 0), toks := s5.toks }.setGen g .running) ({ s5 with heap := s5.heap.push (lS #[] 0), toks := s5.toks }.setGen g .running) _ _ hS6.at (hS6.regens (allBare_setGen J5.bare rfl)) (h0 more hT)
  exact wpAny_pure ⟨plainId_quiet F.plain_min_loop _, min_firstF (Z := genCx X (X.A.in1.in1.deeper (genEnv scope (cloFrom X.env.cells scope.names []) s4.heap.objs.size code builtinsNs X.env)) s4 (upd H1 P (.tbl (ps ++ more))) (genEnv scope (cloFrom X.env.cells scope.names []) s4.heap.objs.size code builtinsNs X.env) fp) (A := X.A) (YY := fun i y H => y = .int (val i) ∧ PP (i + 1) H) hr.hd (by have := hr.dp; show X.A.depth < _; omega) hgen T (Nat.ne_of_lt hlt) hsz hcS rfl val (fun i y H hY => hY) (fun b H hp => (hstop H hp).2 b) (fun b t s' hB => by
    obtain ⟨σ', H', J', q⟩ := hB
    exact gf_back I4 hfp J' q) hex (h0 more hT) ⟨hS6, Nat.zero_le _, _, hgs, rfl, first⟩⟩
end
end GX

/-! GX: the reading of min(..). -/
namespace GX
open PySem PySem.Spec PyProof.Rows L2 Dn Gn
open Dx (Ex Sm fresh_back ex_l ex_t sq_of)
/-- the least number below n that f takes -/
def leastF (f : Nat → Bool) (n : Nat) : Int := ((((List.range n).find? f).getD 0 : Nat) : Int)
theorem leastF_eq {f : Nat → Bool} {n : Nat} {b : Int} (h1 : ∃ p : Nat, p < n ∧ f p = true ∧ b = (p : Int)) (h2 : ∀ p : Nat, p < n → f p = true → b ≤ (p : Int)) : b = leastF f n := by
  obtain ⟨p, hp, fp, rfl⟩ := h1
  unfold leastF
  have e : (List.range n).find? f = some p := by
    rw [List.find?_range_eq_some]
    refine ⟨fp, List.mem_range.mpr hp, fun q hq => ?_⟩
    cases z : f q with
    | false => rfl
    | true =>
      have := h2 q (by omega) z
      omega
  rw [e]
  rfl
theorem leastF_is {f : Nat → Bool} {n : Nat} (h : ∃ p : Nat, p < n ∧ f p = true) : ∃ p : Nat, p < n ∧ f p = true ∧ leastF f n = (p : Int) ∧ ∀ q, q < p → f q = false := by
  unfold leastF
  cases e : (List.range n).find? f with
  | none =>
    obtain ⟨p, hp, fp⟩ := h
    have := List.find?_eq_none.mp e p (List.mem_range.mpr hp)
    exact absurd fp this
  | some p =>
    rw [List.find?_range_eq_some] at e
    obtain ⟨a, b, c⟩ := e
    refine ⟨p, List.mem_range.mp b, a, rfl, fun q hq => ?_⟩
    have := c q hq
    simpa using this
section
variable {K : PySem.W.Frag} {Γ : Dn.Ctx} {tl tn te : TE} {tt : TT} {P : Addr} {β : Type} {iq : Py β} {i0 j : Nat} {y : β}
/-- min(k for k in range(n) if f(k)) -/
theorem evx_minR {n : Int} {f : Nat → Bool} (hw : Γ[i0]? = some (.dat (pyT iq P) y)) (h : Evx K tn Γ n) (hn : 0 ≤ n ∧ n ≤ 100000) (hx : ∃ p : Nat, p < n.toNat ∧ f p = true) (ht : ∀ (i : Nat), (i : Int) < n → Evt K tt (Γ.set j (.dat pyInt (i : Int))) (f i)) (he : ∀ (i : Nat), (i : Int) < n → Evx K te (Γ.set j (.dat pyInt (i : Int))) (i : Int)) : Evx K (tMinG P j (iRng1 (tCons tn tNil)) tt te) Γ (leastF f n.toNat) := fun σ R0 H R e E Q k =>
  h σ R0 H R e E _ fun v H1 R1 g1 r1 => by
    have r1 : v = .int n := r1
    subst r1
    obtain ⟨u, hu, _, ps, hP, ht1⟩ := (E.grow g1).ok i0 _ hw
    obtain ⟨m0, hP1, t1⟩ := g1.inn P _ hP
    refine ⟨n, rfl, by omega, by omega, ps ++ m0, hP1, t1 ht1, n.toNat, f, fun i => (i : Int), fun i R' => ∃ H', Gr H1 R1 H' R', hx, fun more hm => ⟨H1, ⟨Ex.refl H1, g1.inn.trans (Dx.Ex.grown hP1 hm), Dx.Ex.grown hP1 hm, fun _ h _ => h⟩⟩, fun i R' hi hp => ⟨hi, fun v H2 hy => ?_⟩, fun R' hp => ⟨Nat.le_refl _, fun b hb1 hb2 => ?_⟩⟩
    · obtain ⟨H', g⟩ := hp
      obtain ⟨rfl, rfl⟩ := hy
      have E2 : Env K R0 H' H2 _ _ := ((E.grow g1).grow g).setDat (ip := pyInt) (x := (i : Int)) (i := j) (show V.int (0 + (i : Int)) = V.int (i : Int) by rw [Int.zero_add])
      refine ht i (by omega) _ R0 H' H2 g.inn E2 _ fun H3 R3 g3 => ⟨rfl, ?_⟩
      cases hfx : f i with
      | false =>
        rw [if_neg (by decide)]
        exact ⟨H3, g.trans g3⟩
      | true =>
        rw [if_pos rfl]
        refine he i (by omega) _ R0 H3 R3 g3.inn (E2.grow g3) _ fun w H4 R4 g4 r4 => ⟨?_, H4, (g.trans g3).trans g4⟩
        have r4 : w = .int (i : Int) := r4
        exact r4
    · obtain ⟨H', g⟩ := hp
      rw [← leastF_eq hb1 hb2] at k
      exact k (.int b) H' R' (g1.trans g) rfl
end
end GX

namespace Dn
open PySem PySem.Spec PyProof.Rows L2
open Dx (Ex Sm fresh_back ex_l ex_t sq_of)
theorem for_rev {K : PySem.W.Frag} {a : Addr} {xs : List V} {g : TG} {tb : TS} {D : Ends} {σ : L2.St} {H : Hp} (Pv : Nat → L2.St → Hp → Prop) (h0 : Pv 0 σ H) (hl : ∀ i σ H, i ≤ xs.length → Pv i σ H → SqL K H a xs)
    (hs : ∀ i x σ H, xs.reverse[i]? = some x → Pv i σ H → g x σ H fun σ2 H2 => tb { D with nx := Pv (i + 1), ct := Pv (i + 1), bk := D.nx } σ2 H2) (hd : ∀ σ H, Pv xs.length σ H → D.nx σ H) :
    ∃ W : Nat → Nat → L2.St → Hp → Prop, (∃ m, W 0 m σ H) ∧ ∀ i m σ H, W i m σ H →
      ((Itv K a xs.length).stop i H ∧ D.nx σ H) ∨ ((Itv K a xs.length).go i H ∧ ∃ N : L2.St → Hp → Prop, (∀ σ' H', N σ' H' → ∃ m', m' < m ∧ W (i + 1) m' σ' H') ∧ ∀ x H', (Itv K a xs.length).yld i H x H' → g x σ H' fun σ2 H2 => tb { D with nx := N, ct := N, bk := D.nx } σ2 H2) := by
  refine ⟨fun i m σ H => m = xs.length - i ∧ i ≤ xs.length ∧ Pv i σ H, ⟨xs.length, by simp, Nat.zero_le _, h0⟩, ?_⟩
  rintro i m σ H ⟨rfl, hi, p⟩
  have q := hl i σ H hi p
  by_cases hlt : i < xs.length
  · have e : xs[xs.length - 1 - i]? = some xs[xs.length - 1 - i] := List.getElem?_eq_getElem (by omega)
    refine .inr ⟨⟨hlt, xs, _, q, e⟩, Pv (i + 1), fun σ' H' p' => ⟨xs.length - (i + 1), by omega, rfl, hlt, p'⟩, fun x H' y => ?_⟩
    obtain ⟨e, y⟩ := y
    subst e
    exact hs i x σ _ (by rw [List.getElem?_reverse hlt]; exact y xs q) p
  · have e : i = xs.length := by omega
    subst e
    exact .inl ⟨Nat.le_refl _, hd σ H p⟩
section
variable {W : Wd} {Γ Δ : Ctx} {D : Ends} {t tz tu tw : TS} {ta tb te tl : TE} {tt : TT}
/-- for x in reversed(xs) -/
theorem go_forLRev {α : Type} {ip : Py α} {xs : List α} {j : Nat} (h : Evx W.K tl Γ xs) (Γs : Nat → Ctx) (h0 : LeC Γ (Γs 0))
    (hs : ∀ (i : Nat) (x : α) (F : Hp), xs.reverse[i]? = some x → Ex W.F F → Go (W.fl F) tu { D with nx := At (W.fl F) (Γs (i + 1)), ct := At (W.fl F) (Γs (i + 1)), bk := tz D } ((Γs i).set j (.dat ip x)))
    (hd : Go W tz D (Γs xs.length)) : Go W (tSeq (tFor (iRev W.K (tCons tl tNil)) (gName j) tu) tz) D Γ := fun σ H R f g E =>
  h σ W.R0 H R g.inn E _ fun v H1 R1 g1 r1 => by
    obtain ⟨a, vs, rfl, hl, hx⟩ := r1
    have l1 := paired_len hx
    refine ⟨a, vs, rfl, sq_of (g1.inn a _ hl), for_rev (K := W.K) (a := a) (xs := vs) (fun i => At (W.fl H1) (Γs i)) ⟨H1, Ex.refl H1, g.trans g1, (E.grow g1).le h0⟩ (fun i σ' R' _ p => ?_) (fun i y σ' R' hi p => ?_) (fun σ' R' p => ?_)⟩
    · obtain ⟨H2, e2, g2, E2⟩ := p
      exact sq_of (g2.inn a _ (e2 a _ hl))
    · obtain ⟨H2, e2, g2, E2⟩ := p
      have hlt : i < vs.length := by
        have := (List.getElem?_eq_some_iff.mp hi).1
        rw [List.length_reverse] at this
        exact this
      rw [List.getElem?_reverse hlt] at hi
      obtain ⟨x, q1, q2⟩ := paired_back hx hi
      exact hs i x H1 (by rw [List.getElem?_reverse (by omega), l1]; exact q1) (f.trans g1.up) (σ'.set j (some y)) H2 R' e2 g2 (E2.setDat (ip.mono e2 q2))
    · obtain ⟨H2, e2, g2, E2⟩ := p
      rw [← l1] at E2
      exact hd σ' H2 R' ((f.trans g1.up).trans e2) g2 E2
end
end Dn

/-! sorted(..) of pairs. -/
namespace Dn
open PySem PySem.Spec PyProof.Rows L2
open Dx
/-- a tuple of two ints, made by the program -/
abbrev pyTup2 : Py (Int × Int) where
  rel K t v H := ∃ a, v = .ref a ∧ H a = some (.tup [.int t.1, .int t.2])
  mono := fun e ⟨a, h1, h2⟩ => ⟨a, h1, e a _ h2⟩
  dflt := (0, 0)
theorem tup2_pair {K : PySem.W.Frag} {x : Int × Int} {v : V} {H : Hp} (h : pyTup2.rel K x v H) : (pyPair (ip := pyInt) (iq := pyInt)).rel K x v H := by
  obtain ⟨a, h1, h2⟩ := h
  exact ⟨a, .int x.1, .int x.2, h1, st_of h2, rfl, rfl⟩
theorem tups_pairs {K : PySem.W.Frag} {x : List (Int × Int)} {v : V} {H : Hp} (h : (pyList (ip := pyTup2)).rel K x v H) : (pyList (ip := pyPair (ip := pyInt) (iq := pyInt))).rel K x v H := by
  obtain ⟨a, vs, h1, h2, h3⟩ := h
  exact ⟨a, vs, h1, h2, paired_imp (fun _ _ z => tup2_pair z) h3⟩
section
variable {K : PySem.W.Frag} {Γ : Ctx} {te ta tb : TE}
theorem evx_weak {α : Type} {ip iq : Py α} {x : α} (hw : ∀ {v : V} {H : Hp}, ip.rel K x v H → iq.rel K x v H) (h : Evx (ip := ip) K te Γ x) : Evx (ip := iq) K te Γ x :=
  fun σ R0 H R e E Q k => h σ R0 H R e E Q fun v H1 R1 g r => k v H1 R1 g (hw r)
theorem evl_weak {α : Type} {ip iq : Py α} {x : List α} (hw : ∀ {y : α} {v : V} {H : Hp}, ip.rel K y v H → iq.rel K y v H) (h : Evl (ip := ip) K te Γ x) : Evl (ip := iq) K te Γ x :=
  fun σ R0 H R e E Q k => h σ R0 H R e E Q fun p vs H1 R1 g a b c d => k p vs H1 R1 g a b c (paired_imp (fun _ _ z => hw z) d)
theorem evx_tup2T {x y : Int} (ha : Evx K ta Γ x) (hb : Evx K tb Γ y) : Evx (ip := pyTup2) K (tTup (tCons ta (tCons tb tNil))) Γ (x, y) := fun σ R0 H R e E Q k =>
  ha σ R0 H R e E _ fun u H1 R1 g1 r1 => hb σ R0 H1 R1 g1.inn (E.grow g1) _ fun w H2 R2 g2 r2 => by
    have r1 : u = .int x := r1
    have r2 : w = .int y := r2
    subst r1 r2
    exact ⟨sz_of (by show 2 ≤ 100000; decide), fun p hp => k (.ref p) _ _ (g1.trans (g2.trans (Gr.told g2.inn hp))) ⟨p, rfl, upd_same⟩⟩
def leP (a b : Int × Int) : Bool := !SrtO.lexB b a
def sortP (xs : List (Int × Int)) : List (Int × Int) := xs.mergeSort leP
theorem leP_iff {a b : Int × Int} : leP a b = true ↔ ¬ (b.1 < a.1 ∨ (b.1 = a.1 ∧ b.2 < a.2)) := by
  unfold leP
  rw [Bool.not_eq_true', SrtO.lexB_no]
theorem sortP_perm (xs : List (Int × Int)) : (sortP xs).Perm xs := List.mergeSort_perm xs leP
theorem sortP_eq {xs ys : List (Int × Int)} (h : ys.Perm xs) (u : ys.Pairwise fun a b => SrtO.lexB b a = false) : ys = sortP xs := by
  refine List.Perm.eq_of_pairwise (le := fun a b => leP a b = true) (fun a b _ _ h1 h2 => ?_) (u.imp fun {a b} z => ?_) (List.pairwise_mergeSort (fun a b c h1 h2 => ?_) (fun a b => ?_) xs) (h.trans (sortP_perm xs).symm)
  · have h1 := leP_iff.mp h1
    have h2 := leP_iff.mp h2
    exact Prod.ext (by omega) (by omega)
  · unfold leP
    rw [z]
    rfl
  · have h1 := leP_iff.mp h1
    have h2 := leP_iff.mp h2
    exact leP_iff.mpr (by omega)
  · rw [Bool.or_eq_true, leP_iff, leP_iff]
    omega
/-- what a pair holds -/
def keyAt (H : Hp) : V → Int × Int
  | .ref t => match H t with
    | some (.tup [.int i, .int j]) => (i, j)
    | _ => (0, 0)
  | _ => (0, 0)
theorem keyAt_is {H : Hp} {x : Int × Int} {v : V} (h : pyTup2.rel K x v H) : keyAt H v = x := by
  obtain ⟨a, rfl, h2⟩ := h
  unfold keyAt
  simp only [h2]
theorem paired_keys {H : Hp} : ∀ {xs : List (Int × Int)} {vs : List V}, Paired (fun x v => pyTup2.rel K x v H) xs vs → vs.map (keyAt H) = xs
  | [], vs, h => by
    cases vs with
    | nil => rfl
    | cons v vs => cases h
  | x :: xs, vs, h => by
    cases vs with
    | nil => cases h
    | cons v vs =>
      have h1 : pyTup2.rel K x v H ∧ Paired (fun x v => pyTup2.rel K x v H) xs vs := by
        cases h with
        | cons a b => exact ⟨a, b⟩
      rw [List.map_cons, keyAt_is h1.1, paired_keys h1.2]
theorem paired_of {H : Hp} : ∀ {vs : List V}, (∀ v ∈ vs, pyTup2.rel K (keyAt H v) v H) → Paired (fun x v => pyTup2.rel K x v H) (vs.map (keyAt H)) vs
  | [], _ => .nil
  | v :: vs, h => .cons (h v List.mem_cons_self) (paired_of fun u hu => h u (List.mem_cons_of_mem _ hu))
theorem paired_mem {H : Hp} {xs : List (Int × Int)} {vs : List V} (h : Paired (fun x v => pyTup2.rel K x v H) xs vs) {v : V} (hv : v ∈ vs) : pyTup2.rel K (keyAt H v) v H := by
  obtain ⟨i, hi⟩ := List.mem_iff_getElem?.mp hv
  obtain ⟨x, _, r⟩ := paired_back h hi
  rw [keyAt_is r]
  exact r
/-- sorted(pairs) -/
theorem evl_srtP {ps : List (Int × Int)} (h : Evx (ip := pyList (ip := pyTup2)) K te Γ ps) : Evl (ip := pyTup2) K (tCB (rSortedPO K) (tCons te tNil)) Γ (sortP ps) := fun σ R0 H R e E Q k =>
  h σ R0 H R e E _ fun v H1 R1 g1 r1 => by
    obtain ⟨a, vs, rfl, hl, hx⟩ := r1
    refine ⟨a, vs, keyAt H1, rfl, sq_of (g1.inn a _ hl), fun x hv => ?_, fun ys p hs hb hf => ?_⟩
    · obtain ⟨t, e1, e2⟩ := paired_mem hx hv
      exact ⟨t, e1, g1.inn t _ e2⟩
    · have q : ys.map (keyAt H1) = sortP ps := by
        refine sortP_eq ?_ ?_
        · rw [← paired_keys hx]
          exact hb.perm.map _
        · rw [List.pairwise_map]
          exact hs
      rw [← q] at k
      exact k p ys H1 _ (g1.trans (Gr.alloc g1.inn hf)) (fresh_back g1.inn hf) (fresh_back g1.keep hf) upd_same (paired_of fun u hu => paired_mem hx (hb.perm.mem_iff.mp hu))
/-- xs + one's own list -/
theorem evl_catOwn {α : Type} {ip iq : Py α} {xs ys : List α} {i : Nat} (hw : ∀ {y : α} {v : V} {H : Hp}, iq.rel K y v H → ip.rel K y v H) (hi : Γ[i]? = some (.own iq ys)) (ha : Evx (ip := pyList (ip := ip)) K ta Γ xs) (hl : xs.length + ys.length ≤ 100000) : Evl (ip := ip) K (tOp rCat ta (tVar i)) Γ (xs ++ ys) := fun σ R0 H R e E Q k => by
  obtain ⟨p, ws, h1, h2, h3, h4, h5⟩ := E.ok i _ hi
  refine ha σ R0 H R e E _ fun u H1 R1 g1 r1 => ⟨.ref p, h1, ?_⟩
  obtain ⟨a, vs, rfl, h1', x1⟩ := r1
  have l1 := paired_len x1
  have l2 := paired_len h5
  refine ⟨a, p, vs, ws, rfl, rfl, g1.inn a _ h1', g1.keep p _ h4, sz_of (by omega), fun q hq => ?_⟩
  exact k q _ H1 _ (g1.trans (Gr.alloc g1.inn hq)) (fresh_back g1.inn hq) (fresh_back g1.keep hq) upd_same (paired_app x1 (paired_imp (fun _ _ z => hw z) (paired_mono g1.up h5)))
end
end Dn

/-! xs[:0:-1], remove, int(bool), in a pair. -/
namespace Dn
open PySem PySem.Spec PyProof.Rows L2
open Dx
/-! ### xs[:0:-1] -/
theorem fm_congr {α β : Type} {f g : α → Option β} : ∀ {l : List α}, (∀ x ∈ l, f x = g x) → l.filterMap f = l.filterMap g
  | [], _ => rfl
  | x :: l, h => by
    rw [List.filterMap_cons, List.filterMap_cons, h x List.mem_cons_self, fm_congr fun y hy => h y (List.mem_cons_of_mem _ hy)]
theorem pick_tail (items : Array Value) : slicePick items none (some 0) (some (-1)) = (items.toList.drop 1).reverse.toArray := by
  obtain ⟨l, rfl⟩ : ∃ l : List Value, items = l.toArray := ⟨items.toList, by simp⟩
  show slicePick l.toArray none (some 0) (some (-1)) = (l.drop 1).reverse.toArray
  cases l with
  | nil => rfl
  | cons a r =>
    have hp := PySem.W.krv_pick r.toArray
    unfold slicePick at hp ⊢
    rw [PySem.W.krv_bounds] at hp
    have hb : sliceBounds none (some 0) (some (-1)) (a :: r).toArray.size = ((r.length : Int), 0, -1) := by
      simp [sliceBounds]
      omega
    rw [hb]
    have h1 : sliceRange (r.length : Int) 0 (-1) = (List.range r.length).map fun k => r.length - k := by
      unfold sliceRange
      have h1 : ¬ ((-1 : Int) > 0) := by decide
      by_cases h : (r.length : Int) > 0
      · have e : ((r.length : Int) - 0 - -1 - 1) / (- -1) = (r.length : Int) := by
          rw [show (- -1 : Int) = 1 by decide, Int.ediv_one]
          omega
        simp only [h1, if_false, h, if_true, e, Int.toNat_natCast]
        apply List.map_congr_left
        intro k hk
        have := List.mem_range.mp hk
        omega
      · have e : r.length = 0 := by omega
        rw [e]
        simp
    have hp : ((sliceRange ((r.toArray.size : Int) - 1) (-1) (-1)).filterMap (r.toArray[·]?)).toArray = _ := hp
    rw [PySem.W.krv_sliceRange] at hp
    show ((sliceRange (r.length : Int) 0 (-1)).filterMap ((a :: r).toArray[·]?)).toArray = r.reverse.toArray
    have hp2 : (((List.range r.length).map fun k => r.length - 1 - k).filterMap (r.toArray[·]?)).toArray = r.reverse.toArray := by simpa using hp
    rw [h1, ← hp2]
    congr 1
    rw [List.filterMap_map, List.filterMap_map]
    refine fm_congr fun k hk => ?_
    have := List.mem_range.mp hk
    show (a :: r).toArray[r.length - k]? = r.toArray[r.length - 1 - k]?
    rw [List.getElem?_toArray, List.getElem?_toArray, show r.length - k = (r.length - 1 - k) + 1 by omega]
    rfl
def tRevT (K : PySem.W.Frag) (te : TE) (th ts : TO) : TE := fun σ H Q => te σ H fun x H1 => th σ H1 fun u H2 => u = some 0 ∧ ts σ H2 fun o H3 => o = some (-1) ∧ ∃ (a : Addr) (xs : List V), x = .ref a ∧ SqL K H3 a xs ∧ ∀ p, H3 p = none → Q (.ref p) (upd H3 p (.lst (xs.drop 1).reverse))
theorem vals_drop : ∀ {xs : List V} {us : List Value} (n : Nat), Vals xs us → Vals (xs.drop n) (us.drop n)
  | _, _, 0, h => h
  | _, _, _ + 1, .nil => .nil
  | _, _, n + 1, .cons _ t => vals_drop n t
theorem pe_revT {X : Cx} (K : PySem.W.Frag) {e hi st : Expr} {te : TE} {th ts : TO} {p2 pos : Pos} (he : PE X e te) (hh : PO X (some hi) th) (hs : PO X (some st) ts) (hK : X.K = K := by rfl) : PE X (.Subscript e (.Slice none (some hi) (some st) p2) pos) (tRevT K te th ts) := by
  subst hK
  refine ⟨fun pins s σ H Q I h => ?_⟩
  refine Subscript_ (thn (he.run pins s σ H _ I h) fun v s1 ⟨x, H1, I1, r1, q1⟩ => ?_)
  refine wpAny_Slice ?_
  rw [evalPart_none]
  refine wpAny_pure (thn (hh.run pins s1 σ H1 _ I1 q1) fun vu s2 ⟨u, H2, I2, pu, eu, q2⟩ => thn (hs.run pins s2 σ H2 _ I2 q2) fun vt s3 ⟨o, H3, I3, pt, eo, a, xs, ex, hx, q⟩ => ?_)
  subst eo ex eu
  cases r1
  have I4 : Inv X pins σ H3 { s3 with heap := s3.heap.push { cls := .type "slice", data := .fields #[.none, vu, vt] } } := I3.kept (t' := s3.toks) fun b ob q => Heap.get?_push_of_some _ q
  obtain ⟨its, r, ht, hz⟩ := I4.list hx
  have hlen := r.length
  show wpAny (model X.prog X.w) X.A (subscriptTail e (.Slice none (some hi) (some st) p2) (.ref a) (.ref s3.heap.objs.size)) (EP X pins σ Q) X.xe { s3 with heap := s3.heap.push { cls := .type "slice", data := .fields #[.none, vu, vt] } }
  refine tail_any (ops := [.ref a, .ref s3.heap.objs.size]) ht.isList.typeIs slot_list_getitem.lookup ?_ (by with_unfolding_all rfl)
  refine wpAny_getItem_list_slice ht.isList (Heap.IsSliceOf.new ..) .none pu pt (by simp) ?_ (by rw [List.size_toArray] <;> omega)
  rw [pick_tail]
  refine ⟨.ref _, _, I4.laid (t' := s3.toks) (o := .lst (xs.drop 1).reverse) (fun b ob q => Heap.get?_push_of_some _ q) (Nat.le_refl _) ?_, rfl, q _ (I4.hok.fresh (Nat.le_refl _))⟩
  refine ⟨by rw [List.length_reverse, List.length_drop]; omega, (its.drop 1).reverse, 0, (vals_drop 1 r).reverse, ?_⟩
  have e2 : (its.toArray.toList.drop 1).reverse.toArray = (its.drop 1).reverse.toArray := by simp
  rw [e2]
  exact Heap.get?_push_size _ rfl
theorem evl_revT {K : PySem.W.Frag} {Γ : Ctx} {te : TE} {th ts : TO} {α : Type} {ip : Py α} {xs : List α} (h : Evx K te Γ xs) (hh : Evo K th Γ (some 0)) (hs : Evo K ts Γ (some (-1))) : Evl K (tRevT K te th ts) Γ (xs.drop 1).reverse := fun σ R0 H R e E Q k =>
  h σ R0 H R e E _ fun u H1 R1 g1 r1 => hh σ R0 H1 R1 g1.inn (E.grow g1) _ fun H2 R2 g2 => ⟨rfl, hs σ R0 H2 R2 g2.inn ((E.grow g1).grow g2) _ fun H3 R3 g3 => by
    obtain ⟨a, vs, rfl, hl, x1⟩ := r1
    refine ⟨rfl, a, vs, rfl, sq_of (g3.inn a _ (g3.up a _ (g2.up a _ hl))), fun p hp => ?_⟩
    exact k p _ H3 _ (g1.trans (g2.trans (g3.trans (Gr.alloc g3.inn hp)))) (fresh_back g3.inn hp) (fresh_back (g1.keep.trans (g2.keep.trans g3.keep)) hp) upd_same (paired_rev (paired_drop 1 (paired_mono g3.up (paired_mono g2.up x1))))⟩
/-! ### own.remove(x) -/
theorem takes_neverR {X : Cx} : L2.Takes X (fun _ _ _ _ => False) := fun _ _ h => by
  obtain ⟨_, _, _, _, _, _, _, _, _, _, _, _, _, _, _, _, w⟩ := h
  exact w.elim
abbrev tRem0 (K : PySem.W.Frag) (to te : TE) : TE := tRemX K (fun _ _ _ _ => False) to te
theorem pe_rem0K {X : Cx} (K : PySem.W.Frag) {o e : Expr} {to te : TE} {apos cpos : Pos} (hc : X.calm = true) (ho : PE X o to) (he : PE X e te) (hK : X.K = K := by rfl) (hbase : attributeBase o "remove" X.env (eval o X.env) = eval o X.env := by rfl)
    (hfew : ((backTo cpos (starEach [e] X.env)).all (fun x => !x.1) && (backToKw cpos (keywordEach [] X.env)).all (fun x => x.1.isSome)
      && decide (([e] : List Expr).length + ([] : List Keyword).length + (if ([] : List Keyword).isEmpty then 0 else 1) < 30)) = true := by rfl)
    (hline : (apos.endLine == cpos.line) = true := by rfl) (hs : starEach [e] X.env = (false, eval e X.env) :: starEach [] X.env := by rfl) (hplain : (backTo cpos (starEach [] X.env)).any (·.1) = false := by rfl) :
    PE X (.Call (.Attribute o "remove" apos) [e] [] cpos) (tRem0 K to te) := hK ▸ pe_remX hc takes_neverR ho he hbase hfew hline hs hplain
theorem go_rem {W : Wd} {Γ : Ctx} {D : Ends} {te : TE} {tz : TS} {xs : List Int} {x : Int} {i : Nat} (hi : Γ[i]? = some (.own pyInt xs)) (h : Evx W.K te Γ x) (hx : x ∈ xs) (k : Go W tz D (Γ.set i (.own pyInt (xs.erase x)))) :
    Go W (tSeq (tDrop (tRem0 W.K (tVar i) te)) tz) D Γ := fun σ H R f g E => by
  obtain ⟨p, vs, h1, h2, h3, h4, h5⟩ := E.ok i _ hi
  have ev := ints_vals h5
  subst ev
  refine ⟨.ref p, h1, Or.inl ⟨rfl, _, sq_of h4⟩, h σ W.R0 H R g.inn E _ fun v H' R' g' r => ?_⟩
  have hp' : H' p = none := g'.new p h2 (by rw [h4]; intro z; cases z)
  refine ⟨p, xs, x, rfl, r, g'.keep p _ h4, fun _ => ?_, fun z => absurd hx z⟩
  exact k σ H' (upd R' p (.lst ((xs.erase x).map V.int))) (f.trans g'.up) ((g.trans g').mut hp' h3) ((E.grow g').mutOwn (by rw [hi]; trivial) h1 hp' h3 (ints_rel _))
/-! ### int(b); in a pair -/
theorem evx_intB {K : PySem.W.Frag} {Γ : Ctx} {te : TE} {b : Bool} (h : Evx K te Γ b) : Evx K (tCB (fun xs H Q => (∃ i : Int, xs = [.int i] ∧ Q (.int i) H) ∨ ∃ k, xs = [.bl k] ∧ Q (.int (if k then 1 else 0)) H) (tCons te tNil)) Γ (if b then (1 : Int) else 0) := fun σ R0 H R e E Q k =>
  h σ R0 H R e E _ fun v H1 R1 g1 r1 => .inr ⟨b, by rw [show v = .bl b from r1], k _ H1 R1 g1 rfl⟩
theorem rv_inT {K : PySem.W.Frag} {i a b : Int} : Rv K (rIn K false) i ((a, b) : Int × Int) (decide (i ∈ [a, b])) := fun u w H R e h1 h2 Q k => by
  obtain ⟨p, x, y, rfl, hl, rx, ry⟩ := h2
  have h1' : u = .int i := h1
  have rx : x = .int a := rx
  have ry : y = .int b := ry
  subst h1' rx ry
  refine ⟨p, _, rfl, Or.inr (ex_t e hl), rfl, flat_ints [a, b], k _ H R (Gr.refl e) ?_⟩
  show V.bl _ = V.bl _
  have q := inV_ints (i := i) (ns := [a, b])
  exact congrArg V.bl q
end Dn

/-! Dn: a def of three that raises one class or another; slots told anew. -/
namespace Dn
open PySem PySem.Spec PyProof.Rows L2 Dx Gn
section
variable {A0 A1 A2 C : Type} [i0 : Py A0] [i1 : Py A1] [i2 : Py A2] [ic : Py C]
/-- a def of three that raises the class bad tells, if any -/
def sxw3 (K : PySem.W.Frag) (pre : A0 → A1 → A2 → Prop) (bad : A0 → A1 → A2 → Option Addr) (f : A0 → A1 → A2 → C) : Sp := fun vs R Q E => ∃ (x0 : A0) (x1 : A1) (x2 : A2) (v0 v1 v2 : V) (H : Hp), vs = [v0, v1, v2] ∧ Ex H R ∧ i0.rel K x0 v0 H ∧ i1.rel K x1 v1 H ∧ i2.rel K x2 v2 H ∧ pre x0 x1 x2 ∧
  (bad x0 x1 x2 = none → ∀ v H' R', Gr H R H' R' → ic.rel K (f x0 x1 x2) v H' → Q v R') ∧ ∀ c, bad x0 x1 x2 = some c → ∀ H' R', Gr H R H' R' → E (.ref c) none R'
theorem evz_callw3 {W : Wd} {Γ : Ctx} {pre : A0 → A1 → A2 → Prop} {bad : A0 → A1 → A2 → Option Addr} {f : A0 → A1 → A2 → C} {x0 : A0} {x1 : A1} {x2 : A2} {t0 t1 t2 : TE} {E : L2.St → XK} (h0 : Evx W.K t0 Γ x0) (h1 : Evx W.K t1 Γ x1) (h2 : Evx W.K t2 Γ x2) (hp : pre x0 x1 x2) : Evz W (tCallS (sxw3 W.K pre bad f) E (tCons t0 (tCons t1 (tCons t2 tNil)))) Γ (bad x0 x1 x2).isSome (f x0 x1 x2) (fun σ R => E σ (.ref ((bad x0 x1 x2).getD 0)) none R) := fun σ H R ff gg EE Q k kx =>
  h0 σ W.R0 H R gg.inn EE _ fun u0 H0 S0 g0 r0 => h1 σ W.R0 H0 S0 g0.inn (EE.grow g0) _ fun u1 H1 S1 g1 r1 => h2 σ W.R0 H1 S1 g1.inn ((EE.grow g0).grow g1) _ fun u2 H2 S2 g2 r2 =>
  have g := g0.trans (g1.trans g2)
  ⟨x0, x1, x2, u0, u1, u2, H2, rfl, g2.inn, i0.mono (g1.up.trans g2.up) r0, i1.mono g2.up r1, r2, hp, fun hb v H' R' g' r' => k (by rw [hb]; rfl) v H' R' (g.trans g') r', fun c hb H' R' g' => by
    have q := kx (by rw [hb]; rfl) H' R' (g.trans g')
    rw [hb] at q
    exact q⟩
theorem defxw3 {P : Program} {w : World} {K : PySem.W.Frag} {mg : Str → Option Value} {base : Heap} {x qual : Str} {st : Stmt} {a : Addr} {fd : FuncData} {N ps : List Str} {k : Nat} {pre : A0 → A1 → A2 → Prop} {bad : A0 → A1 → A2 → Option Addr} {f : A0 → A1 → A2 → C} (F : Fun K x qual st a fd) (S : FnScope N ps (defScope st)) (hps : ps.length = 3) (us : Ctx) (hus : us = List.replicate (N.length - 3) Slot.un)
    (hbody : ∀ (cdv : Value) (A : Around) (outer : List PySem.Env) (s : Shared) (H : Hp) (Q : VK) (E : XK), Room k (A.deeper (envOfC qual (defScope st) s.heap.objs.size a cdv)) →
      ∃ t, PSs (cxOf (L2N.CX P w) P w K mg base N qual (defScope st) a cdv A outer s H E) (defBody st) t ∧ ∀ (x0 : A0) (x1 : A1) (x2 : A2), pre x0 x1 x2 → ∀ (W : Wd) (D : Ends), W.K = K → (∀ σ R, D.nx σ R = D.rt .non R) → (bad x0 x1 x2 = none → RetD W D (f x0 x1 x2)) → (∀ c, bad x0 x1 x2 = some c → ∀ H' R', Gr W.H0 W.R0 H' R' → E (.ref c) none R') → Go W t D (.dat i0 x0 :: .dat i1 x1 :: .dat i2 x2 :: us)) : FnOk P w K mg base (L2N.CX P w) (k + 1) a fd ps (sxw3 K pre bad f) := by
  refine okN F S (fun vs H Q E h => ?_) (fun cdv A outer s R vs Q E hr h => ?_)
  · obtain ⟨x0, x1, x2, v0, v1, v2, H, rfl, _⟩ := h
    exact hps.symm
  · obtain ⟨x0, x1, x2, v0, v1, v2, H, rfl, e, r0, r1, r2, hp, q, qx⟩ := h
    obtain ⟨t, h1, h2⟩ := hbody cdv A outer s R Q E hr
    subst hus
    exact ⟨t, h1, h2 x0 x1 x2 hp ⟨K, H, R, H⟩ _ rfl (fun _ _ => rfl) (fun hb v H' R' g r => q hb v H' R' g r) (fun c hb H' R' g => qx c hb H' R' g) _ H R (Ex.refl H) (Gr.refl e) (Env.start (Are.cons (s := Slot.dat i0 x0) r0 (Are.cons (s := Slot.dat i1 x1) r1 (Are.cons (s := Slot.dat i2 x2) r2 Are.nil))) rfl)⟩
end
section
variable {K : PySem.W.Frag} {Γ : Ctx} {te : TE} {α : Type} {ip iq : Py α} {P : Addr}
/-- told beside the table, the rest told less of -/
theorem evx_wtI {x : α} (hw : ∀ {v : V} {H : Hp}, ip.rel K x v H → iq.rel K x v H) (h : Evx (ip := pyT ip P) K te Γ x) : Evx (ip := pyT iq P) K te Γ x :=
  evx_weak (ip := pyT ip P) (iq := pyT iq P) (fun {v H} (r : ip.rel K x v H ∧ _) => ⟨hw r.1, r.2⟩) h
end
/-- a slot that holds something, told as that -/
theorem go_got {W : Wd} {Γ : Ctx} {D : Ends} {t : TS} {α : Type} {ip : Py α} {x : α} {i : Nat} (hi : Γ[i]? = some (.dat (pyOpt (ip := ip)) (some x))) (k : Go W t D (Γ.set i (.dat ip x))) : Go W t D Γ := fun σ H R f g E => by
  obtain ⟨v, h1, h2⟩ := E.ok i _ hi
  have q := k σ H R f g
  have e : σ.set i (some v) = σ := by
    have hl := (List.getElem?_eq_some_iff.mp h1)
    obtain ⟨hl, h3⟩ := hl
    rw [← h3]
    exact List.set_getElem_self hl
  have E2 := E.setDat (ip := ip) (x := x) (i := i) (v := v) h2
  rw [e] at E2
  exact q E2
end Dn

/-! max(.., key=len, default=[]); list(dict); not in a pair. -/
namespace Dn
open PySem PySem.Spec PyProof.Rows L2
open Dx
instance scOptI : Sc (Option Int) := ⟨fun {K x v H H'} h => by
  cases x with
  | none => exact h
  | some y => exact h⟩
theorem cmp_gt {prog : Program} {w : World} {A : Around} {Q : Value → Shared → Prop} {E : Value → Shared → Prop} {s : Shared} {y b : Int} {t u : Tok} (h : Q (.bool (decide (y > b))) s) : wpAny (model prog w) A (richCompare .Gt (.int y t) (.int b u)) Q E s :=
  richCompare_gives (op := .Gt) (typeIs_int s _ t) (typeIs_int s _ u) PySem.F.slot_int_gt PySem.F.entry_int_gt (PySem.F.args_int_gt_2 _ _) (gives_int_gt _ _ t u) (fun x => nomatch x) h
abbrev btL (ns : List Nat) : Nat → Nat → Bool := fun i j => decide (((ns.getD i 0 : Nat) : Int) > ((ns.getD j 0 : Nat) : Int))
theorem maxLen_raw {prog : Program} {w : World} {A : Around} {E Q : Value → Shared → Prop} {s : Shared} {l : Addr} {its : List Value} {ns : List Nat} {d : Value} (hh : A.handled = none) (hl : s.heap.IsList l its.toArray)
    (hit : ∀ (i : Nat) (v : Value), its[i]? = some v → ∃ (b : Addr) (us : Array Value), v = .ref b ∧ s.heap.IsList b us ∧ us.size = ns.getD i 0 ∧ (us.size : Int) < 2 ^ 63)
    (h0 : its = [] → ∀ h' tk, (∀ b o, s.heap.get? b = some o → h'.get? b = some o) → Q d { s with heap := h', toks := tk })
    (h1 : its ≠ [] → ∀ v h' tk, its[argBest (btL ns) (its.length - 1)]? = some v → (∀ b o, s.heap.get? b = some o → h'.get? b = some o) → Q v { s with heap := h', toks := tk }) :
    wpAny (model prog w) A (call (.builtin "max") [.ref l] [(Str.ofString "key", .builtin "len"), (Str.ofString "default", d)]) Q E s := by
  have hlt : l < s.heap.objs.size := by
    obtain ⟨_, e, _⟩ := hl
    exact Heap.lt_size e
  have kp0 : ∀ b o, s.heap.get? b = some o → (s.heap.push { cls := .type "list_iterator", data := .fields #[.ref l, .int 0 0] }).get? b = some o := fun b o e => Heap.get?_push_of_some _ e
  have fin : ∀ s' : Shared, ((∀ b o, (s.heap.push { cls := .type "list_iterator", data := .fields #[.ref l, .int 0 0] }).get? b = some o → b ≠ s.heap.objs.size → s'.heap.get? b = some o) ∧ s'.gens = s.gens ∧ s'.drawn = s.drawn ∧ s'.os = s.os) → s' = { s with heap := s'.heap, toks := s'.toks } ∧ ∀ b o, s.heap.get? b = some o → s'.heap.get? b = some o := fun s' hJ => by
    obtain ⟨j1, j2, j3, j4⟩ := hJ
    refine ⟨?_, fun b o e => j1 b o (kp0 b o e) (Nat.ne_of_lt (Heap.lt_size e))⟩
    cases s'
    cases j2
    cases j3
    cases j4
    rfl
  refine PySem.call_max_walkKBD (wpAny_pyIter_list hl ⟨s.heap.objs.size, [s.heap.objs.size, l], [s.heap.objs.size], fun a b => b = a, its.toArray.size, fun i v => its.toArray[i]? = some v, _,
    fun s' => (∀ b o, (s.heap.push { cls := .type "list_iterator", data := .fields #[.ref l, .int 0 0] }).get? b = some o → b ≠ s.heap.objs.size → s'.heap.get? b = some o) ∧ s'.gens = s.gens ∧ s'.drawn = s.drawn ∧ s'.os = s.os,
    fun i k _ => ∃ t, k = .int ((ns.getD i 0 : Nat) : Int) t, btL ns, rfl, (Walks.list (A := A.in1) hh s.heap.objs.size l (Nat.ne_of_lt hlt) its.toArray).toS, ⟨⟨_, Heap.get?_push_size _ rfl, rfl, rfl⟩, hl.push _⟩, fun b hb => ?_, ⟨fun s1 s2 hJ hm => ?_, fun i k s1 s2 hV _ => hV, fun i v s1 o Q1 E1 hi hP hJ hst hS hk => ?_, fun i j ki kj s1 Q1 E1 hJ hi hj hq => ?_⟩, ⟨fun b o e _ => e, rfl, rfl, rfl⟩, fun hn s' hJ => ?_, fun hn v s' hP hJ => ?_⟩)
  · show b < (s.heap.push _).objs.size
    rw [Heap.size_push]
    rcases List.mem_cons.mp hb with rfl | hb
    · exact Nat.lt_succ_self _
    · rcases List.mem_cons.mp hb with rfl | hb
      · exact Nat.lt_succ_of_lt hlt
      · cases hb
  · obtain ⟨j1, j2, j3, j4⟩ := hJ
    refine ⟨fun b o e hb => hm.heap b o (fun z => ?_) (j1 b o e hb), hm.gens.trans j2, hm.drawn.trans j3, hm.os.trans j4⟩
    rcases List.mem_cons.mp z with z | z
    · rw [z] at e
      exact absurd (Heap.lt_size e) (Nat.lt_irrefl _)
    · exact hb (List.mem_singleton.mp z)
  · have hP : its.toArray[i]? = some v := hP
    rw [List.getElem?_toArray] at hP
    obtain ⟨b, us, rfl, hb, hn, hf⟩ := hit i v hP
    have hb1 : s1.heap.IsList b us := by
      obtain ⟨ob, e, r⟩ := hb
      exact ⟨ob, hJ.1 b ob (kp0 b ob e) (Nat.ne_of_lt (Heap.lt_size e)), r⟩
    refine Calls.call_len_list hb1 hf ?_
    rw [hn]
    exact hk _ _ hJ hst hS ⟨_, rfl⟩ fun _ _ z => z
  · obtain ⟨t, rfl⟩ := hi
    obtain ⟨u, rfl⟩ := hj
    exact cmp_gt hq
  · obtain ⟨e, kp⟩ := fin s' hJ
    rw [e]
    exact h0 (by rw [List.size_toArray] at hn; exact List.length_eq_zero_iff.mp hn) _ _ kp
  · obtain ⟨e, kp⟩ := fin s' hJ
    rw [e]
    have hP : its.toArray[argBest (btL ns) (its.toArray.size - 1)]? = some v := hP
    rw [List.getElem?_toArray, List.size_toArray] at hP
    refine h1 (fun z => ?_) v _ _ hP kp
    rw [z] at hn
    exact absurd hn (by decide)
def tMaxLen (K : PySem.W.Frag) (ta : TA) (td : TE) : TE := fun σ H Q => ta σ H fun us H1 => td σ H1 fun y H2 => ∃ (a d : Addr) (vs : List V) (ns : List Nat), us = [.ref a] ∧ y = .ref d ∧ SqL K H2 a vs ∧ (∀ (i : Nat) (v : V), vs[i]? = some v → ∃ (b : Addr) (ys : List V), v = .ref b ∧ SqL K H2 b ys ∧ ys.length = ns.getD i 0) ∧
  (vs = [] → Q (.ref d) H2) ∧ (vs ≠ [] → ∀ v, vs[argBest (btL ns) (vs.length - 1)]? = some v → Q v H2)
theorem pe_maxLen {X : Cx} (K : PySem.W.Frag) {e dflt : Expr} {ta : TA} {td : TE} {p p2 kp kp2 pos : Pos} (hc : X.calm = true) (hg : Gl X "max") (hm : X.mg "max" = none) (hg2 : Gl X "len") (hm2 : X.mg "len" = none) (ha : PA X [e] ta) (hd : PE X dflt td) (hK : X.K = K := by rfl)
    (hb : bootBuiltins "max" = some (.builtin "max") := by decide +kernel) (hs : backTo pos (starEach [e] X.env) = (false, eval e X.env) :: backTo pos (starEach [] X.env) := by rfl) (hpl : (backTo pos (starEach [e] X.env)).any (·.1) = false := by rfl) :
    PE X (.Call (.Name "max" p) [e] [⟨some "key", .Name "len" p2, kp⟩, ⟨some "default", dflt, kp2⟩] pos) (tMaxLen K ta td) := by
  subst hK
  refine ⟨fun pins s σ H Q I h => ?_⟩
  refine wpAny_Call_Name_kw (ld_blt I hg hm hb ?_)
  refine PyProof.Rows.callWith_kw ?_ hs hpl
  refine thn (ha.run pos pins s σ H _ I h) fun us s1 ⟨vs0, H1, I1, r1, q1⟩ => ?_
  · refine PyProof.Rows.kws_cons (ld_blt I1 hg2 hm2 boot_len ?_)
    refine PyProof.Rows.kws_cons (thn (hd.run pins s1 σ H1 _ I1 q1) fun v s2 hq2 => PyProof.Rows.kws_nil ?_)
    obtain ⟨y, H2, I2, ry, a, d, vs, ns, rfl, rfl, hs1, hit, q0, q2⟩ := hq2
    obtain rfl := Vals.ref1 r1
    cases ry
    obtain ⟨its, rv, pl, hz⟩ := I2.list hs1
    have hlen := rv.length
    show wpAny _ _ (call (.builtin "max") [.ref a] [(Str.ofString "key", .builtin "len"), (Str.ofString "default", .ref d)]) _ _ s2
    refine maxLen_raw (ns := ns) (I2.ok.hd hc) pl.isList (fun i v hv => ?_) (fun e h' tk kp => ?_) (fun e v h' tk hv kp => ?_)
    · have hi : i < vs.length := by
        have := (List.getElem?_eq_some_iff.mp hv).1
        omega
      obtain ⟨b, ys, e1, hb1, hn⟩ := hit i vs[i] (List.getElem?_eq_getElem hi)
      obtain ⟨u, hu, ru⟩ := rv.get (List.getElem?_eq_getElem hi)
      rw [hv] at hu
      cases hu
      rw [e1] at ru
      cases ru
      obtain ⟨its2, rv2, pl2, hz2⟩ := I2.list hb1
      have hlen2 := rv2.length
      have hn63 := line63
      exact ⟨b, its2.toArray, rfl, pl2.isList, by rw [List.size_toArray]; omega, by rw [List.size_toArray]; omega⟩
    · have ev : vs = [] := List.length_eq_zero_iff.mp (by rw [hlen, e]; rfl)
      exact ⟨.ref d, H2, I2.kept kp, rfl, q0 ev⟩
    · have ev : vs ≠ [] := fun z => e (List.length_eq_zero_iff.mp (by rw [← hlen, z]; rfl))
      rw [← hlen] at hv
      have hi : argBest (btL ns) (vs.length - 1) < vs.length := by
        have := (List.getElem?_eq_some_iff.mp hv).1
        omega
      obtain ⟨u, hu, ru⟩ := rv.get (List.getElem?_eq_getElem hi)
      rw [hv] at hu
      cases hu
      exact ⟨_, H2, I2.kept kp, ru, q2 ev _ (List.getElem?_eq_getElem hi)⟩
section
variable {K : PySem.W.Frag} {Γ : Ctx} {te td : TE}
/-- a longest one, the first such -/
def maxLenF (xs : List (List Int)) : List Int := xs.getD (argBest (btL (xs.map List.length)) (xs.length - 1)) []
theorem evx_maxLen {xs : List (List Int)} (h : Evx K te Γ xs) (hd : Evx K td Γ ([] : List Int)) : Evx K (tMaxLen K (tCons te tNil) td) Γ (maxLenF xs) := fun σ R0 H R e E Q k =>
  h σ R0 H R e E _ fun u H1 R1 g1 r1 => hd σ R0 H1 R1 g1.inn (E.grow g1) _ fun w H2 R2 g2 r2 => by
    obtain ⟨a, vs, rfl, hl, hx⟩ := r1
    obtain ⟨d, ds, rfl, hl2, hx2⟩ := id r2
    have l1 := paired_len hx
    refine ⟨a, d, vs, xs.map List.length, rfl, rfl, sq_of (g2.inn a _ (g2.up a _ hl)), fun i v hv => ?_, fun ev => ?_, fun ev v hv => ?_⟩
    · obtain ⟨x, q1, b, us, rfl, hb, hp⟩ := paired_back hx hv
      refine ⟨b, us, rfl, sq_of (g2.inn b _ (g2.up b _ hb)), ?_⟩
      rw [← paired_len hp, List.getD_eq_getElem?_getD, List.getElem?_map, q1]
      rfl
    · have ex : xs = [] := List.length_eq_zero_iff.mp (by rw [l1, ev]; rfl)
      subst ex
      exact k (.ref d) H2 R2 (g1.trans g2) r2
    · obtain ⟨x, q1, rx⟩ := paired_back hx hv
      rw [← l1] at q1
      have em : maxLenF xs = x := by
        unfold maxLenF
        rw [List.getD_eq_getElem?_getD, q1]
        rfl
      rw [em] at k
      exact k v H2 R2 (g1.trans g2) ((pyList (ip := pyInt)).mono g2.up rx)
theorem evl_listD {D : List (Int × Int)} (h : Evx (ip := pyDict) K te Γ D) : Evl K (tCB rListD (tCons te tNil)) Γ (D.map (·.1)) := fun σ R0 H R e E Q k =>
  h σ R0 H R e E _ fun u H1 R1 g1 r1 => by
    obtain ⟨a, rfl, hl⟩ := r1
    refine ⟨a, _, rfl, g1.inn a _ hl, fun q hq => ?_⟩
    refine k q _ H1 _ (g1.trans (Gr.alloc g1.inn hq)) (fresh_back g1.inn hq) (fresh_back g1.keep hq) upd_same ?_
    have ev : (D.map fun t => ((Sum.inl t.1 : Key), V.int t.2)).map (fun kv => kV kv.1) = (D.map (·.1)).map V.int := by
      rw [List.map_map, List.map_map]
      rfl
    have q := ints_rel (K := K) (H := H1) (D.map (·.1))
    rw [← ev] at q
    exact q
theorem evl_ofN {α : Type} {ip : Py α} {o : Option (List α)} {xs : List α} (h : Evn K te Γ o) (e : o = some xs) : Evl K te Γ xs := fun σ R0 H R e1 E Q k =>
  h σ R0 H R e1 E Q (fun z => by rw [e] at z; cases z) fun ys hy p vs H' R' g a b c d => by
    rw [e] at hy
    cases hy
    exact k p vs H' R' g a b c d
theorem rv_notinT {i a b : Int} : Rv K (rIn K true) i ((a, b) : Int × Int) (!decide (i ∈ [a, b])) := fun u w H R e h1 h2 Q k => by
  obtain ⟨p, x, y, rfl, hl, rx, ry⟩ := h2
  have h1' : u = .int i := h1
  have rx : x = .int a := rx
  have ry : y = .int b := ry
  subst h1' rx ry
  refine ⟨p, _, rfl, Or.inr (ex_t e hl), rfl, flat_ints [a, b], k _ H R (Gr.refl e) ?_⟩
  show V.bl _ = V.bl _
  have q := inV_ints (i := i) (ns := [a, b])
  exact congrArg (fun z => V.bl (!z)) q
end
end Dn

/-! Gn: a verdict as data. -/
namespace Gn
open PySem PySem.Spec PyProof.Rows L2 Dn
abbrev pyOL : Py (Option (List Int)) := pyOpt (ip := pyList (ip := pyInt))
structure VerD where
  order : Option (List Int)
  ring : Option (List Int)
  crowd : Option (List Int)
  colours : Option (List Int)
  many : Int
def VerC (K : PySem.W.Frag) (C : Addr) : Prop := PySem.W.nsIn K mainGlobals "Verdict" = some (some (.ref C))
theorem ver_one {K : PySem.W.Frag} {C D : Addr} (h : VerC K D) (g : VerC K C) : D = C := by
  unfold VerC at h g
  rw [h] at g
  injection g with g
  injection g with g
  injection g
def verF (o r c k : V) (n : Int) : List (Str × V) := putF "many" (.int n) (putF "_colours" k (putF "_crowd" c (putF "_ring" r (putF "_order" o []))))
@[reducible] def pyVer : Py VerD where
  rel K x v H := ∃ (a C dx : Addr) (o r c k : V), v = .ref a ∧ VerC K C ∧ H a = some (.ins C dx (verF o r c k x.many)) ∧ pyOL.rel K x.order o H ∧ pyOL.rel K x.ring r H ∧ pyOL.rel K x.crowd c H ∧ pyOL.rel K x.colours k H
  mono := fun e ⟨a, C, dx, o, r, c, k, h1, h2, h3, h4, h5, h6, h7⟩ => ⟨a, C, dx, o, r, c, k, h1, h2, e a _ h3, pyOL.mono e h4, pyOL.mono e h5, pyOL.mono e h6, pyOL.mono e h7⟩
  dflt := ⟨none, none, none, none, 0⟩
/-- what __init__ does to the new instance -/
def spVInit (K : PySem.W.Frag) (C : Addr) : Sp := fun vs R Q _ => ∃ (x dx : Addr) (d : VerD) (v1 v2 v3 v4 : V) (H R0 : Hp), vs = [.ref x, v1, v2, v3, v4, .int d.many] ∧ pyOL.rel K d.order v1 H ∧ pyOL.rel K d.ring v2 H ∧ pyOL.rel K d.crowd v3 H ∧ pyOL.rel K d.colours v4 H ∧
  Gr H R0 H R ∧ Dx.Ex H R0 ∧ R0 x = none ∧ R x = some (.ins C dx []) ∧ ∀ (o r c k : V) H' R', Gr H R0 H' R' → H' x = none → R' x = some (.ins C dx (verF o r c k d.many)) → pyOL.rel K d.order o H' → pyOL.rel K d.ring r H' → pyOL.rel K d.crowd c H' → pyOL.rel K d.colours k H' → Q .non R'
theorem evx_mkVer {K : PySem.W.Frag} {Γ : Dn.Ctx} {C : Addr} {t0 t1 t2 t3 t4 : TE} {E : XK} {d : VerD} (hC : VerC K C) (h0 : Evx (ip := pyOL) K t0 Γ d.order) (h1 : Evx (ip := pyOL) K t1 Γ d.ring) (h2 : Evx (ip := pyOL) K t2 Γ d.crowd) (h3 : Evx (ip := pyOL) K t3 Γ d.colours) (h4 : Evx K t4 Γ d.many) :
    Evx (ip := pyVer) K (tMake C (spVInit K C) [] E (tCons t0 (tCons t1 (tCons t2 (tCons t3 (tCons t4 tNil)))))) Γ d := fun σ R0 H R e EE Q k =>
  h0 σ R0 H R e EE _ fun u0 H0 S0 g0 r0 => h1 σ R0 H0 S0 g0.inn (EE.grow g0) _ fun u1 H1 S1 g1 r1 => h2 σ R0 H1 S1 g1.inn ((EE.grow g0).grow g1) _ fun u2 H2 S2 g2 r2 => h3 σ R0 H2 S2 g2.inn (((EE.grow g0).grow g1).grow g2) _ fun u3 H3 S3 g3 r3 => h4 σ R0 H3 S3 g3.inn ((((EE.grow g0).grow g1).grow g2).grow g3) _ fun u4 H4 S4 g4 r4 x dx hx hdx ne => by
    have r4' : u4 = .int d.many := r4
    subst r4'
    have ga := Gr.alloc (o := HO.own x) g4.inn hdx
    have hx2 : upd S4 dx (.own x) x = none := by rw [upd_ne ne.symm]; exact hx
    have gb := Gr.alloc (o := HO.ins C dx []) ga.inn hx2
    refine ⟨x, dx, d, u0, u1, u2, u3, H4, S4, rfl, pyOL.mono (((g1.up.trans g2.up).trans g3.up).trans g4.up) r0, pyOL.mono ((g2.up.trans g3.up).trans g4.up) r1, pyOL.mono (g3.up.trans g4.up) r2, pyOL.mono g4.up r3, ga.trans gb, g4.inn, hx, upd_same, fun o r c kk H' R' g' q1 q2 p0 p1 p2 p3 => ⟨rfl, ?_⟩⟩
    have gall := ((((g0.trans g1).trans g2).trans g3).trans g4).trans g'
    have xR : R x = none := Dx.fresh_back ((((g0.trans g1).trans g2).trans g3).trans g4).keep hx
    refine k (.ref x) (upd H' x (.ins C dx (verF o r c kk d.many))) R' ⟨gall.up.trans (Dx.Ex.new q1), ex_tell gall.inn q2, gall.keep, fun b h1 h2 => ?_⟩ ⟨x, C, dx, o, r, c, kk, rfl, hC, upd_same, pyOL.mono (Dx.Ex.new q1) p0, pyOL.mono (Dx.Ex.new q1) p1, pyOL.mono (Dx.Ex.new q1) p2, pyOL.mono (Dx.Ex.new q1) p3⟩
    have nb : b ≠ x := fun z => h2 (by rw [z]; exact xR)
    rw [upd_ne nb]
    exact gall.new b h1 h2
/-- what the class is known by -/
structure VerK (K : PySem.W.Frag) (C : Addr) : Prop where
  c : VerC K C
  cls : Cls K C
  n1 : NoAttr K C "_order"
  n2 : NoAttr K C "_ring"
  n3 : NoAttr K C "_crowd"
  n4 : NoAttr K C "_colours"
  n5 : NoAttr K C "many"
end Gn

/-! Dn: list.index of ints. -/
namespace Dn
open PySem PySem.Spec PyProof.Rows L2 Dx
theorem mt_indexK {X : Cx} (K : PySem.W.Frag) (hK : X.K = K := by rfl) : MtR X "list.index" (rIndex K) := hK ▸ mt_index
theorem first_ix : ∀ {ns : List Int} {k : Int}, k ∈ ns → ns[ns.idxOf k]? = some k ∧ ∀ m, m < ns.idxOf k → ns[m]? ≠ some k
  | [], k, h => absurd h (by simp)
  | a :: r, k, h => by
    by_cases e : a = k
    · subst e
      rw [List.idxOf_cons_self]
      exact ⟨rfl, fun m hm => absurd hm (Nat.not_lt_zero _)⟩
    · have hr : k ∈ r := by
        rcases List.mem_cons.mp h with z | z
        · exact absurd z.symm e
        · exact z
      obtain ⟨h1, h2⟩ := first_ix hr
      have ec : (a :: r).idxOf k = r.idxOf k + 1 := by
        rw [List.idxOf_cons, beq_eq_false_iff_ne.mpr e]
        rfl
      rw [ec]
      refine ⟨h1, fun m hm => ?_⟩
      cases m with
      | zero =>
        intro z
        exact e (Option.some.inj z)
      | succ m => exact h2 m (by omega)
theorem evx_index {K : PySem.W.Frag} {Γ : Ctx} {to te : TE} {ns : List Int} {k : Int} (ho : Evx K to Γ ns) (he : Evx K te Γ k) (hm : k ∈ ns) : Evx K (tBM K "list" (rIndex K) to (tCons te tNil)) Γ ((ns.idxOf k : Nat) : Int) := fun σ R0 H R e E Q kk =>
  ho σ R0 H R e E _ fun v H1 R1 g1 r1 => by
    obtain ⟨a, rfl, h1⟩ := list_ints r1
    obtain ⟨i1, i2⟩ := first_ix hm
    refine .inl ⟨rfl, _, sq_of (g1.inn a _ h1)⟩ |> fun q => ⟨q, ?_⟩
    refine he σ R0 H1 R1 g1.inn (E.grow g1) _ fun w H2 R2 g2 r2 => ?_
    have r2 : w = .int k := r2
    subst r2
    refine ⟨a, ns.map V.int, .int k, ns.idxOf k, .int k, rfl, rfl, sq_of (g2.inn a _ (g2.up a _ h1)), rfl, List.all_eq_true.mpr fun z hz => ?_, by rw [List.getElem?_map, i1]; rfl, ?_, fun m z' hm2 hz' => ?_, kk _ H2 R2 (g1.trans g2) rfl⟩
    · obtain ⟨n, _, rfl⟩ := List.mem_map.mp hz
      rfl
    · show (k == k) = true
      simp
    · rw [List.getElem?_map] at hz'
      cases q : ns[m]? with
      | none =>
        rw [q] at hz'
        cases hz'
      | some n =>
        rw [q] at hz'
        cases hz'
        have ne : n ≠ k := fun z => i2 m hm2 (by rw [q, z])
        show (n == k) = false
        simpa using ne
end Dn

/-! Dn: what surely raises; defs that raise one class or another. -/
namespace Dn
open PySem PySem.Spec PyProof.Rows L2 Dx
/-- it raises, whatever is wanted behind it -/
def Evr (W : Wd) (te : TE) (Γ : Ctx) : Prop := ∀ (σ : L2.St) (H R : Hp), Ex W.F H → Gr W.H0 W.R0 H R → Env W.K W.R0 H R σ Γ → ∀ Q : VK, te σ R Q
section
variable {W : Wd} {Γ : Ctx} {D : Ends} {te tb : TE} {r : R2} {tu tw tz : TS} {A0 A1 C : Type} {i0 : Py A0} {i1 : Py A1} {ic : Py C}
theorem go_ifOpR (h : Evr W te Γ) : Go W (tSeq (tIfS (tTest (tOp r te tb)) tu tw) tz) D Γ := fun σ H R f g E => h σ H R f g E _
theorem evr_callx2 {pre : A0 → A1 → Prop} {bad : A0 → A1 → Bool} {cls : Addr} {f : A0 → A1 → C} {x0 : A0} {x1 : A1} {t0 t1 : TE} {E0 : XK} (h0 : Evx W.K t0 Γ x0) (h1 : Evx W.K t1 Γ x1) (hp : pre x0 x1) (hb : bad x0 x1 = true) (hx : ∀ H' R', Gr W.H0 W.R0 H' R' → E0 (.ref cls) none R') :
    Evr W (tCall (sx2 W.K pre bad cls f) [] E0 (tCons t0 (tCons t1 tNil))) Γ := fun σ H R ff gg EE Q =>
  h0 σ W.R0 H R gg.inn EE _ fun u0 H0 S0 g0 r0 => h1 σ W.R0 H0 S0 g0.inn (EE.grow g0) _ fun u1 H1 S1 g1 r1 =>
  ⟨x0, x1, u0, u1, H1, rfl, g1.inn, i0.mono g1.up r0, r1, hp, (fun z => by rw [hb] at z; cases z), fun _ H' R' g' => hx H' R' (gg.trans ((g0.trans g1).trans g'))⟩
end
section
variable {A0 A1 C : Type} [i0 : Py A0] [i1 : Py A1] [ic : Py C]
/-- a def of two that raises the class bad tells, if any -/
def sxw2 (K : PySem.W.Frag) (pre : A0 → A1 → Prop) (bad : A0 → A1 → Option Addr) (f : A0 → A1 → C) : Sp := fun vs R Q E => ∃ (x0 : A0) (x1 : A1) (v0 v1 : V) (H : Hp), vs = [v0, v1] ∧ Ex H R ∧ i0.rel K x0 v0 H ∧ i1.rel K x1 v1 H ∧ pre x0 x1 ∧
  (bad x0 x1 = none → ∀ v H' R', Gr H R H' R' → ic.rel K (f x0 x1) v H' → Q v R') ∧ ∀ c, bad x0 x1 = some c → ∀ H' R', Gr H R H' R' → E (.ref c) none R'
theorem evx_callw2 {K : PySem.W.Frag} {Γ : Ctx} {pre : A0 → A1 → Prop} {bad : A0 → A1 → Option Addr} {f : A0 → A1 → C} {x0 : A0} {x1 : A1} {t0 t1 : TE} {E0 : XK} (h0 : Evx K t0 Γ x0) (h1 : Evx K t1 Γ x1) (hp : pre x0 x1) (hb : bad x0 x1 = none) : Evx K (tCall (sxw2 K pre bad f) [] E0 (tCons t0 (tCons t1 tNil))) Γ (f x0 x1) := fun σ R0 H R e E Q k =>
  h0 σ R0 H R e E _ fun u0 H0 S0 g0 r0 => h1 σ R0 H0 S0 g0.inn (E.grow g0) _ fun u1 H1 S1 g1 r1 =>
  ⟨x0, x1, u0, u1, H1, rfl, g1.inn, i0.mono g1.up r0, r1, hp, fun _ v H' R' g' r' => k v H' R' ((g0.trans g1).trans g') r', (fun c z => by rw [hb] at z; cases z)⟩
theorem evz_callw2 {W : Wd} {Γ : Ctx} {pre : A0 → A1 → Prop} {bad : A0 → A1 → Option Addr} {f : A0 → A1 → C} {x0 : A0} {x1 : A1} {t0 t1 : TE} {E : L2.St → XK} (h0 : Evx W.K t0 Γ x0) (h1 : Evx W.K t1 Γ x1) (hp : pre x0 x1) : Evz W (tCallS (sxw2 W.K pre bad f) E (tCons t0 (tCons t1 tNil))) Γ (bad x0 x1).isSome (f x0 x1) (fun σ R => E σ (.ref ((bad x0 x1).getD 0)) none R) := fun σ H R ff gg EE Q k kx =>
  h0 σ W.R0 H R gg.inn EE _ fun u0 H0 S0 g0 r0 => h1 σ W.R0 H0 S0 g0.inn (EE.grow g0) _ fun u1 H1 S1 g1 r1 =>
  ⟨x0, x1, u0, u1, H1, rfl, g1.inn, i0.mono g1.up r0, r1, hp, fun hb v H' R' g' r' => k (by rw [hb]; rfl) v H' R' ((g0.trans g1).trans g') r', fun c hb H' R' g' => by
    have q := kx (by rw [hb]; rfl) H' R' ((g0.trans g1).trans g')
    rw [hb] at q
    exact q⟩
theorem defxw2 {P : Program} {w : World} {K : PySem.W.Frag} {mg : Str → Option Value} {base : Heap} {x qual : Str} {st : Stmt} {a : Addr} {fd : FuncData} {N ps : List Str} {k : Nat} {pre : A0 → A1 → Prop} {bad : A0 → A1 → Option Addr} {f : A0 → A1 → C} (F : Fun K x qual st a fd) (S : FnScope N ps (defScope st)) (hps : ps.length = 2) (us : Ctx) (hus : us = List.replicate (N.length - 2) Slot.un)
    (hbody : ∀ (cdv : Value) (A : Around) (outer : List PySem.Env) (s : Shared) (H : Hp) (Q : VK) (E : XK), Room k (A.deeper (envOfC qual (defScope st) s.heap.objs.size a cdv)) →
      ∃ t, PSs (cxOf (L2N.CX P w) P w K mg base N qual (defScope st) a cdv A outer s H E) (defBody st) t ∧ ∀ (x0 : A0) (x1 : A1), pre x0 x1 → ∀ (W : Wd) (D : Ends), W.K = K → (∀ σ R, D.nx σ R = D.rt .non R) → (bad x0 x1 = none → RetD W D (f x0 x1)) → (∀ c, bad x0 x1 = some c → ∀ H' R', Gr W.H0 W.R0 H' R' → E (.ref c) none R') → Go W t D (.dat i0 x0 :: .dat i1 x1 :: us)) : FnOk P w K mg base (L2N.CX P w) (k + 1) a fd ps (sxw2 K pre bad f) := by
  refine okN F S (fun vs H Q E h => ?_) (fun cdv A outer s R vs Q E hr h => ?_)
  · obtain ⟨x0, x1, v0, v1, H, rfl, _⟩ := h
    exact hps.symm
  · obtain ⟨x0, x1, v0, v1, H, rfl, e, r0, r1, hp, q, qx⟩ := h
    obtain ⟨t, h1, h2⟩ := hbody cdv A outer s R Q E hr
    subst hus
    exact ⟨t, h1, h2 x0 x1 hp ⟨K, H, R, H⟩ _ rfl (fun _ _ => rfl) (fun hb v H' R' g r => q hb v H' R' g r) (fun c hb H' R' g => qx c hb H' R' g) _ H R (Ex.refl H) (Gr.refl e) (Env.start (Are.cons (s := Slot.dat i0 x0) r0 (Are.cons (s := Slot.dat i1 x1) r1 Are.nil)) rfl)⟩
theorem defxw2C {P : Program} {w : World} {K : PySem.W.Frag} {mg : Str → Option Value} {base : Heap} {x qual : Str} {st : Stmt} {a c : Addr} {fd : FuncData} {N ps : List Str} {k : Nat} {pre : A0 → A1 → Prop} {bad : A0 → A1 → Option Addr} {f : A0 → A1 → C} (F : Gn.FunC K x qual st a fd c) (S : FnScope N ps (defScope st)) (hps : ps.length = 2) (us : Ctx) (hus : us = List.replicate (N.length - 2) Slot.un)
    (hbody : ∀ (A : Around) (outer : List PySem.Env) (s : Shared) (H : Hp) (Q : VK) (E : XK), Room k (A.deeper (envOfC qual (defScope st) s.heap.objs.size a (.ref c))) →
      ∃ t, PSs (cxOf (L2N.CX P w) P w K mg base N qual (defScope st) a (.ref c) A outer s H E) (defBody st) t ∧ ∀ (x0 : A0) (x1 : A1), pre x0 x1 → ∀ (W : Wd) (D : Ends), W.K = K → (∀ σ R, D.nx σ R = D.rt .non R) → (bad x0 x1 = none → RetD W D (f x0 x1)) → (∀ c, bad x0 x1 = some c → ∀ H' R', Gr W.H0 W.R0 H' R' → E (.ref c) none R') → Go W t D (.dat i0 x0 :: .dat i1 x1 :: us)) : FnOk P w K mg base (L2N.CX P w) (k + 1) a fd ps (sxw2 K pre bad f) := by
  obtain ⟨oc, od, kV, doc, pm, an, cdv, ct, osl, e, lk, hcd⟩ := F.F.ex
  have ec : cdv = .ref c := by
    have q := F.code
    rw [e] at q
    exact q
  subst ec e
  refine fn_of lk hcd S (fun vs H Q E h => ?_) fun A outer s R vs Q E hr h => ?_
  · obtain ⟨x0, x1, v0, v1, H, rfl, _⟩ := h
    exact hps.symm
  · obtain ⟨x0, x1, v0, v1, H, rfl, e, r0, r1, hp, q, qx⟩ := h
    obtain ⟨t, h1, h2⟩ := hbody A outer s R Q E hr
    subst hus
    exact ⟨t, h1, h2 x0 x1 hp ⟨K, H, R, H⟩ _ rfl (fun _ _ => rfl) (fun hb v H' R' g r => q hb v H' R' g r) (fun c hb H' R' g => qx c hb H' R' g) _ H R (Ex.refl H) (Gr.refl e) (Env.start (Are.cons (s := Slot.dat i0 x0) r0 (Are.cons (s := Slot.dat i1 x1) r1 Are.nil)) rfl)⟩
end
theorem evz_calll3 {A0 A1 A2 C : Type} {i0 : Py A0} {i1 : Py A1} {i2 : Py A2} {ic : Py C} {W : Wd} {Γ : Ctx} {pre : A0 → A1 → A2 → Prop} {bad : A0 → A1 → A2 → Bool} {cls : Addr} {f : A0 → A1 → A2 → List C} {x0 : A0} {x1 : A1} {x2 : A2} {t0 t1 t2 : TE} {E : L2.St → XK} (h0 : Evx W.K t0 Γ x0) (h1 : Evx W.K t1 Γ x1) (h2 : Evx W.K t2 Γ x2) (hp : pre x0 x1 x2) :
    Evz (ip := pyList (ip := ic)) W (tCallS (sxl3 W.K pre bad cls f) E (tCons t0 (tCons t1 (tCons t2 tNil)))) Γ (bad x0 x1 x2) (f x0 x1 x2) (fun σ R => E σ (.ref cls) none R) := fun σ H R ff gg EE Q k kx =>
  h0 σ W.R0 H R gg.inn EE _ fun u0 H0 S0 g0 r0 => h1 σ W.R0 H0 S0 g0.inn (EE.grow g0) _ fun u1 H1 S1 g1 r1 => h2 σ W.R0 H1 S1 g1.inn ((EE.grow g0).grow g1) _ fun u2 H2 S2 g2 r2 =>
  have g := g0.trans (g1.trans g2)
  ⟨x0, x1, x2, u0, u1, u2, H2, rfl, g2.inn, i0.mono (g1.up.trans g2.up) r0, i1.mono g2.up r1, r2, hp, fun hb p ys H' R' g' q1 q2 q3 q4 => own_res (Q := Q) (fun v H'' R'' g'' r => k hb v H'' R'' g'' r) (g.trans g') q1 (fresh_back g.keep q2) q3 q4, fun hb H' R' g' => kx hb H' R' (g.trans g')⟩
end Dn

/-! Dn: a tuple of two lists that are one's own. -/
namespace Dn
open PySem PySem.Spec PyProof.Rows L2 Dx
abbrev pyLL : Py (List Int × List Int) := pyPair (ip := pyList (ip := pyInt)) (iq := pyList (ip := pyInt))
theorem own_lt {Γ : Ctx} {j : Nat} (h : isOwn Γ[j]?) : j < Γ.length := by
  by_cases hl : j < Γ.length
  · exact hl
  · rw [List.getElem?_eq_none (by omega)] at h
    exact h.elim
section
variable {K : PySem.W.Frag} {R0 H R H' R' : Hp} {σ : L2.St} {Γ : Ctx}
theorem Env.pre {τ : L2.St} {Δ : Ctx} (E : Env K R0 H R (σ ++ τ) (Γ ++ Δ)) (hl : σ.length = Γ.length) : Env K R0 H R σ Γ := by
  refine ⟨hl, fun j s h => ?_, fun i j p n h1 h2 h3 => ?_⟩
  · have hj := (List.getElem?_eq_some_iff.mp h).1
    have q := E.ok j s (by rw [List.getElem?_append_left hj]; exact h)
    rw [List.getElem?_append_left (by omega)] at q
    exact q
  · have l1 := own_lt h1
    have l2 := own_lt h2
    have q := E.dis i j p n (by rw [List.getElem?_append_left l1]; exact h1) (by rw [List.getElem?_append_left l2]; exact h2) (by rw [List.getElem?_append_left (by omega)]; exact h3)
    rw [List.getElem?_append_left (by omega)] at q
    exact q
theorem Env.ext1 {a : Addr} {xs : List Int} (E : Env K R0 H R σ Γ) (ha : H a = none) (a0 : R0 a = none) (ra : R a = some (.lst (xs.map V.int))) (na : ∀ (j : Nat) (q : Addr), isOwn Γ[j]? → σ[j]? = some (some (V.ref q)) → q ≠ a) :
    Env K R0 H R (σ ++ [some (.ref a)]) (Γ ++ [.own pyInt xs]) := by
  refine ⟨by rw [List.length_append, List.length_append, E.len]; rfl, fun j s h => ?_, fun i j p n h1 h2 h3 h4 => ?_⟩
  · by_cases hj : j < Γ.length
    · rw [List.getElem?_append_left hj] at h
      rw [List.getElem?_append_left (by rw [E.len]; exact hj)]
      exact E.ok j s h
    · have hl := (List.getElem?_eq_some_iff.mp h).1
      rw [List.length_append, List.length_singleton] at hl
      have e : j = Γ.length := by omega
      subst e
      rw [List.getElem?_append_right (Nat.le_refl _), Nat.sub_self] at h
      rw [List.getElem?_append_right (by rw [E.len]; exact Nat.le_refl _), E.len, Nat.sub_self]
      cases h
      exact ⟨a, _, rfl, ha, a0, ra, ints_rel xs⟩
  · have l1 := own_lt h1
    have l2 := own_lt h2
    rw [List.length_append, List.length_singleton] at l1 l2
    have up : ∀ c, c < Γ.length → isOwn (Γ ++ [Slot.own pyInt xs])[c]? → isOwn Γ[c]? := fun c hc h => by
      rw [List.getElem?_append_left hc] at h
      exact h
    have at_ : ∀ c, c < Γ.length → (σ ++ [some (V.ref a)])[c]? = σ[c]? := fun c hc => List.getElem?_append_left (by rw [E.len]; exact hc)
    have at2 : (σ ++ [some (V.ref a)])[Γ.length]? = some (some (V.ref a)) := by
      rw [List.getElem?_append_right (by rw [E.len]; exact Nat.le_refl _), E.len, Nat.sub_self]
      rfl
    by_cases c1 : i < Γ.length
    · by_cases c2 : j < Γ.length
      · rw [at_ i c1] at h3
        rw [at_ j c2] at h4
        exact E.dis i j p n (up i c1 h1) (up j c2 h2) h3 h4
      · have e : j = Γ.length := by omega
        rw [e, at2] at h4
        rw [at_ i c1] at h3
        have ep : a = p := by
          injection h4 with h4
          injection h4 with h4
          injection h4
        exact na i p (up i c1 h1) h3 ep.symm
    · have e1 : i = Γ.length := by omega
      have c2 : j < Γ.length := by omega
      rw [e1, at2] at h3
      rw [at_ j c2] at h4
      have ep : a = p := by
        injection h3 with h3
        injection h3 with h3
        injection h3
      exact na j p (up j c2 h2) h4 ep.symm
/-- one's own list is told of -/
theorem own_tell {α : Type} {ip : Py α} {xs : List α} {i : Nat} (E : Env K R0 H R σ Γ) (e : Ex H R) (hi : Γ[i]? = some (.own ip xs)) :
    ∃ Hs, Ex Hs R ∧ Env K R0 Hs R σ (Γ.set i (.dat (pyList (ip := ip)) xs)) ∧ (∀ H' R', Gr Hs R H' R' → ∃ H2, Gr H R H2 R') ∧ (∀ F, Ex F H → Ex F Hs) ∧ (∀ H0, Gr H0 R0 H R → Gr H0 R0 Hs R) ∧ ∀ b o, H b = some o → Hs b = some o := by
  obtain ⟨p, vs, h1, h2, h3, h4, h5⟩ := E.ok i _ hi
  refine ⟨upd H p (.lst vs), ex_tell e h4, E.freeze hi h1 h2 h5, fun H' R' g => ⟨fun b => if b = p then none else H' b, fun b o hb => ?_, fun b o hb => ?_, g.keep, fun b q1 q2 => ?_⟩, fun F hF => Ex.mut hF (fresh_back hF h2), fun H0 g => ⟨Ex.mut g.up (fresh_back g.up h2), ex_tell g.inn h4, g.keep, fun b q1 q2 => ?_⟩, fun b o hb => ?_⟩
  · have nb : b ≠ p := fun z => by
      rw [z, h2] at hb
      cases hb
    show Sm o (if b = p then none else H' b)
    rw [if_neg nb]
    exact g.up b o (by rw [upd_ne nb]; exact hb)
  · by_cases nb : b = p
    · have hb' : (if b = p then none else H' b) = some o := hb
      rw [if_pos nb] at hb'
      cases hb'
    · have hb' : (if b = p then none else H' b) = some o := hb
      rw [if_neg nb] at hb'
      exact g.inn b o hb'
  · show (if b = p then none else H' b) = none
    by_cases nb : b = p
    · rw [if_pos nb]
    · rw [if_neg nb]
      exact g.new b (by rw [upd_ne nb]; exact q1) q2
  · have nb : b ≠ p := fun z => q2 (by rw [z]; exact h3)
    rw [upd_ne nb]
    exact g.new b q1 q2
  · have nb : b ≠ p := fun z => by
      rw [z, h2] at hb
      cases hb
    rw [upd_ne nb]
    exact hb
/-- the tuple at the slot i, its lists one's own -/
def TT2 (K : PySem.W.Frag) (R0 : Hp) (i : Nat) (Γ : Ctx) (xs ys : List Int) (σ : L2.St) (H R : Hp) : Prop := ∃ (q a b : Addr), σ[i]? = some (some (.ref q)) ∧ H q = some (.tup [.ref a, .ref b]) ∧ σ.length = Γ.length ∧ Env K R0 H R (σ ++ [some (.ref a)] ++ [some (.ref b)]) (Γ ++ [.own pyInt xs] ++ [.own pyInt ys])
theorem TT2.grow {i : Nat} {xs ys : List Int} (T : TT2 K R0 i Γ xs ys σ H R) (g : Gr H R H' R') : TT2 K R0 i Γ xs ys σ H' R' := by
  obtain ⟨q, a, b, h1, h2, h3, h4⟩ := T
  exact ⟨q, a, b, h1, g.up q _ h2, h3, h4.grow g⟩
theorem TT2.env {i : Nat} {xs ys : List Int} (T : TT2 K R0 i Γ xs ys σ H R) : Env K R0 H R σ Γ := by
  obtain ⟨q, a, b, h1, h2, h3, h4⟩ := T
  rw [List.append_assoc, List.append_assoc] at h4
  exact h4.pre h3
theorem at_a {Γ : Ctx} {u v : Slot} : (Γ ++ [u] ++ [v])[Γ.length]? = some u := by
  rw [List.append_assoc, List.getElem?_append_right (Nat.le_refl _), Nat.sub_self]
  rfl
theorem at_b {Γ : Ctx} {u v : Slot} : (Γ ++ [u] ++ [v])[Γ.length + 1]? = some v := by
  rw [List.append_assoc, List.getElem?_append_right (Nat.le_add_right _ 1), Nat.add_sub_cancel_left]
  rfl
theorem st_a {σ : L2.St} {u v : Option V} : (σ ++ [u] ++ [v])[σ.length]? = some u := by
  rw [List.append_assoc, List.getElem?_append_right (Nat.le_refl _), Nat.sub_self]
  rfl
theorem st_b {σ : L2.St} {u v : Option V} : (σ ++ [u] ++ [v])[σ.length + 1]? = some v := by
  rw [List.append_assoc, List.getElem?_append_right (Nat.le_add_right _ 1), Nat.add_sub_cancel_left]
  rfl
theorem set_a {Γ : Ctx} {u v w : Slot} : (Γ ++ [u] ++ [v]).set Γ.length w = Γ ++ [w] ++ [v] := by
  rw [List.append_assoc, List.set_append_right _ _ (Nat.le_refl _), Nat.sub_self, List.append_assoc]
  rfl
theorem set_b {Γ : Ctx} {u v w : Slot} : (Γ ++ [u] ++ [v]).set (Γ.length + 1) w = Γ ++ [u] ++ [w] := by
  rw [List.append_assoc, List.set_append_right _ _ (Nat.le_add_right _ 1), Nat.add_sub_cancel_left, List.append_assoc]
  rfl
theorem TT2.tell {i : Nat} {xs ys : List Int} (T : TT2 K R0 i Γ xs ys σ H R) (e : Ex H R) :
    ∃ Hs, Ex Hs R ∧ Env K R0 Hs R σ (Γ.set i (.dat pyLL (xs, ys))) ∧ (∀ H' R', Gr Hs R H' R' → ∃ H2, Gr H R H2 R') ∧ (∀ F, Ex F H → Ex F Hs) ∧ (∀ H0, Gr H0 R0 H R → Gr H0 R0 Hs R) := by
  obtain ⟨q, a, b, h1, h2, h3, h4⟩ := T
  obtain ⟨H1, e1, E1, b1, f1, g1, k1⟩ := own_tell h4 e at_a
  rw [set_a] at E1
  obtain ⟨H2, e2, E2, b2, f2, g2, k2⟩ := own_tell E1 e1 at_b
  rw [set_b] at E2
  refine ⟨H2, e2, ?_, fun H' R' g => ?_, fun F hF => f2 F (f1 F hF), fun H0 g => g2 H0 (g1 H0 g)⟩
  · have ra := E2.ok Γ.length _ at_a
    have rb := E2.ok (Γ.length + 1) _ at_b
    rw [← h3, st_a] at ra
    rw [← h3, st_b] at rb
    obtain ⟨va, ea, ra⟩ := ra
    obtain ⟨vb, eb, rb⟩ := rb
    cases ea
    cases eb
    have E0 : Env K R0 H2 R σ Γ := by
      rw [List.append_assoc, List.append_assoc] at E2
      exact E2.pre h3
    have rel : pyLL.rel K (xs, ys) (.ref q) H2 := ⟨q, .ref a, .ref b, rfl, st_of (k2 q _ (k1 q _ h2)), ra, rb⟩
    have E3 := E0.setDat (ip := pyLL) (x := (xs, ys)) (i := i) (v := .ref q) rel
    have es : σ.set i (some (.ref q)) = σ := by
      obtain ⟨hl, h5⟩ := List.getElem?_eq_some_iff.mp h1
      rw [← h5]
      exact List.set_getElem_self hl
    rw [es] at E3
    exact E3
  · obtain ⟨H3, g3⟩ := b2 H' R' g
    exact b1 H3 R' g3
end
def GoT (W : Wd) (i : Nat) (t : TS) (D : Ends) (Γ : Ctx) (xs ys : List Int) : Prop := ∀ (σ : L2.St) (H R : Hp), Ex W.F H → Gr W.H0 W.R0 H R → TT2 W.K W.R0 i Γ xs ys σ H R → t D σ R
/-- an expression that gives such a tuple -/
def Ev2 (K : PySem.W.Frag) (te : TE) (Γ : Ctx) (xs ys : List Int) : Prop := ∀ (σ : L2.St) (R0 H R : Hp), Ex H R → Env K R0 H R σ Γ → ∀ Q : VK, (∀ (q a b : Addr) H' R', Gr H R H' R' → H' q = some (.tup [.ref a, .ref b]) → H' a = none → R a = none → R' a = some (.lst (xs.map V.int)) → H' b = none → R b = none → R' b = some (.lst (ys.map V.int)) → a ≠ b → Q (.ref q) R') → te σ R Q
section
variable {W : Wd} {Γ Δ : Ctx} {D : Ends} {t tz tu tw : TS} {te : TE} {tt : TT} {i : Nat} {xs ys : List Int}
theorem go_two (h : Ev2 W.K te Γ xs ys) (hi : i < Γ.length) (k : GoT W i tz D (Γ.set i .un) xs ys) : Go W (tSeq (tAsg te (gName i)) tz) D Γ := fun σ H R f g E =>
  h σ W.R0 H R g.inn E _ fun q a b H' R' g' hq ha ra ra' hb rb rb' ne => by
    have E1 : Env W.K W.R0 H' R' (σ.set i (some (.ref q))) (Γ.set i .un) := (E.grow g').setUn
    have own : ∀ (c : Addr), R c = none → ∀ (j : Nat) (z : Addr), isOwn (Γ.set i Slot.un)[j]? → (σ.set i (some (V.ref q)))[j]? = some (some (V.ref z)) → z ≠ c := fun c hc j z ho hz => by
      have nij : i ≠ j := fun e => by
        rw [e] at ho
        by_cases hl : j < Γ.length
        · rw [List.getElem?_set_self hl] at ho
          exact ho
        · rw [List.getElem?_eq_none (by rw [List.length_set]; omega)] at ho
          exact ho
      rw [List.getElem?_set_ne nij] at ho hz
      exact E.own_ne ho hz hc
    have E2 := E1.ext1 (xs := xs) ha (fresh_back g.keep ra) ra' (own a ra)
    have E3 := E2.ext1 (xs := ys) hb (fresh_back g.keep rb) rb' fun j z ho hz => by
      have hl := own_lt ho
      rw [List.length_append, List.length_singleton] at hl
      by_cases hj : j < (Γ.set i Slot.un).length
      · rw [List.getElem?_append_left hj] at ho
        rw [List.getElem?_append_left (by rw [E1.len]; exact hj)] at hz
        exact own b rb j z ho hz
      · have e : j = (Γ.set i Slot.un).length := by omega
        rw [e, ← E1.len, List.getElem?_append_right (Nat.le_refl _), Nat.sub_self] at hz
        cases hz
        exact ne
    exact k _ H' R' (f.trans g'.up) (g.trans g') ⟨q, a, b, List.getElem?_set_self (by rw [E.len]; exact hi), hq, E1.len, E3⟩
theorem got_skip {b : Bool} (h : Evt W.K tt (Γ.set i (.dat pyLL (xs, ys))) b) (e : b = false) (k : GoT W i tz D Γ xs ys) : GoT W i (tSeq (tIfS tt tu tNext) tz) D Γ xs ys := fun σ H R f g T => by
  obtain ⟨Hs, es, Es, back, _, _⟩ := T.tell g.inn
  refine h σ W.R0 Hs R es Es _ fun H' R' g' => ?_
  obtain ⟨H2, g2⟩ := back H' R' g'
  rw [e]
  exact iteF (k σ H2 R' (f.trans g2.up) (g.trans g2) (T.grow g2))
theorem got_app1 {x : Int} (h : Evx W.K te Γ x) (hl : xs.length < 100000) (k : GoT W i tz D Γ (xs ++ [x]) ys) : GoT W i (tSeq (tDrop (tBM W.K "list" rAppend (tOp (rIxT W.K) (tVar i) (tC (.int 0))) (tCons te tNil))) tz) D Γ xs ys := fun σ H R f g T => by
  have E := T.env
  obtain ⟨q, a, b, h1, h2, h3, h4⟩ := T
  have oa := h4.ok Γ.length _ at_a
  rw [← h3, st_a] at oa
  obtain ⟨a', vs, e1, a1, a2, a3, a4⟩ := oa
  cases e1
  have ev := ints_vals a4
  subst ev
  refine ⟨.ref q, h1, q, _, 0, .ref a, rfl, rfl, ex_t g.inn (st_of h2), rfl, Or.inl ⟨rfl, _, sq_of a3⟩, h σ W.R0 H R g.inn E _ fun v H' R' g' r => ?_⟩
  have r : v = .int x := r
  subst r
  have a1' : H' a = none := g'.new a a1 (by rw [a3]; intro z; cases z)
  refine ⟨a, _, _, rfl, rfl, g'.keep a _ a3, sz_lt (by rw [List.length_map]; exact hl), ?_⟩
  have e : xs.map V.int ++ [V.int x] = (xs ++ [x]).map V.int := by rw [List.map_append]; rfl
  rw [e]
  have E2 := (h4.grow g').mutOwn (i := Γ.length) (ip := pyInt) (ys := xs ++ [x]) (by rw [at_a]; trivial) (by rw [← h3]; exact st_a) a1' a2 (ints_rel _)
  rw [set_a] at E2
  exact k σ H' _ (f.trans g'.up) ((g.trans g').mut a1' a2) ⟨q, a, b, h1, g'.up q _ h2, h3, E2⟩
theorem got_app2 {x : Int} (h : Evx W.K te Γ x) (hl : ys.length < 100000) (k : GoT W i tz D Γ xs (ys ++ [x])) : GoT W i (tSeq (tDrop (tBM W.K "list" rAppend (tOp (rIxT W.K) (tVar i) (tC (.int 1))) (tCons te tNil))) tz) D Γ xs ys := fun σ H R f g T => by
  have E := T.env
  obtain ⟨q, a, b, h1, h2, h3, h4⟩ := T
  have oa := h4.ok (Γ.length + 1) _ at_b
  rw [← h3, st_b] at oa
  obtain ⟨a', vs, e1, a1, a2, a3, a4⟩ := oa
  cases e1
  have ev := ints_vals a4
  subst ev
  refine ⟨.ref q, h1, q, _, 1, .ref b, rfl, rfl, ex_t g.inn (st_of h2), rfl, Or.inl ⟨rfl, _, sq_of a3⟩, h σ W.R0 H R g.inn E _ fun v H' R' g' r => ?_⟩
  have r : v = .int x := r
  subst r
  have a1' : H' b = none := g'.new b a1 (by rw [a3]; intro z; cases z)
  refine ⟨b, _, _, rfl, rfl, g'.keep b _ a3, sz_lt (by rw [List.length_map]; exact hl), ?_⟩
  have e : ys.map V.int ++ [V.int x] = (ys ++ [x]).map V.int := by rw [List.map_append]; rfl
  rw [e]
  have E2 := (h4.grow g').mutOwn (i := Γ.length + 1) (ip := pyInt) (ys := ys ++ [x]) (by rw [at_b]; trivial) (by rw [← h3]; exact st_b) a1' a2 (ints_rel _)
  rw [set_b] at E2
  exact k σ H' _ (f.trans g'.up) ((g.trans g').mut a1' a2) ⟨q, a, b, h1, g'.up q _ h2, h3, E2⟩
theorem got_freeze (k : Go W t D (Γ.set i (.dat pyLL (xs, ys)))) : GoT W i t D Γ xs ys := fun σ H R f g T => by
  obtain ⟨Hs, es, Es, _, fF, gG⟩ := T.tell g.inn
  exact k σ Hs R (fF _ f) (gG _ g) Es
/-- return a, b: lists of one's own -/
def RetTwo (W : Wd) (D : Ends) (t : List Int × List Int) : Prop := ∀ (q a b : Addr) H R, Gr W.H0 W.R0 H R → H q = some (.tup [.ref a, .ref b]) → H a = none → W.R0 a = none → R a = some (.lst (t.1.map V.int)) → H b = none → W.R0 b = none → R b = some (.lst (t.2.map V.int)) → a ≠ b → D.rt (.ref q) R
theorem go_retTwo {j : Nat} (hij : i ≠ j) (hi : Γ[i]? = some (.own pyInt xs)) (hj : Γ[j]? = some (.own pyInt ys)) (k : RetTwo W D (xs, ys)) : Go W (tSeq (tRet (tTup (tCons (tVar i) (tCons (tVar j) tNil)))) tz) D Γ := fun σ H R f g E => by
  obtain ⟨a, vs, a1, a2, a3, a4, a5⟩ := E.ok i _ hi
  obtain ⟨b, ws, b1, b2, b3, b4, b5⟩ := E.ok j _ hj
  have ev := ints_vals a5
  subst ev
  have ew := ints_vals b5
  subst ew
  refine ⟨.ref a, a1, .ref b, b1, sz_of (by show 2 ≤ 100000; decide), fun q hq => ?_⟩
  have na : a ≠ q := fun z => by
    rw [z, hq] at a4
    cases a4
  have nb : b ≠ q := fun z => by
    rw [z, hq] at b4
    cases b4
  have nab : a ≠ b := fun z => by
    subst z
    exact E.dis i j a hij (by rw [hi]; trivial) (by rw [hj]; trivial) a1 b1
  exact k q a b (upd H q (.tup [.ref a, .ref b])) (upd R q (.tup [.ref a, .ref b])) (g.trans (Gr.told g.inn hq)) upd_same (by rw [upd_ne na]; exact a2) a3 (by rw [upd_ne na]; exact a4) (by rw [upd_ne nb]; exact b2) b3 (by rw [upd_ne nb]; exact b4) nab
end
/-- a def of one that hands back such a tuple -/
def spTwo {A0 : Type} [i0 : Py A0] (K : PySem.W.Frag) (pre : A0 → Prop) (f : A0 → List Int × List Int) : Sp := fun vs R Q _ => ∃ (x0 : A0) (v0 : V) (H : Hp), vs = [v0] ∧ Ex H R ∧ i0.rel K x0 v0 H ∧ pre x0 ∧
  ∀ (q a b : Addr) H' R', Gr H R H' R' → H' q = some (.tup [.ref a, .ref b]) → H' a = none → R a = none → R' a = some (.lst ((f x0).1.map V.int)) → H' b = none → R b = none → R' b = some (.lst ((f x0).2.map V.int)) → a ≠ b → Q (.ref q) R'
theorem ev2_call {A0 : Type} {i0 : Py A0} {K : PySem.W.Frag} {Γ : Ctx} {pre : A0 → Prop} {f : A0 → List Int × List Int} {x0 : A0} {t0 : TE} {E0 : XK} (h0 : Evx K t0 Γ x0) (hp : pre x0) : Ev2 K (tCall (spTwo K pre f) [] E0 (tCons t0 tNil)) Γ (f x0).1 (f x0).2 := fun σ R0 H R e E Q k =>
  h0 σ R0 H R e E _ fun u0 H0 S0 g0 r0 => ⟨x0, u0, H0, rfl, g0.inn, r0, hp, fun q a b H' R' g' q1 q2 q3 q4 q5 q6 q7 q8 => k q a b H' R' (g0.trans g') q1 q2 (fresh_back g0.keep q3) q4 q5 (fresh_back g0.keep q6) q7 q8⟩
theorem evx_two {K : PySem.W.Frag} {Γ : Ctx} {te : TE} {xs ys : List Int} (h : Ev2 K te Γ xs ys) : Evx (ip := pyLL) K te Γ (xs, ys) := fun σ R0 H R e E Q k =>
  h σ R0 H R e E Q fun q a b H' R' g hq ha ra ra' hb rb rb' ne => by
    have e1 : Ex (upd H' a (.lst (xs.map V.int))) R' := ex_tell g.inn ra'
    have e2 : Ex (upd (upd H' a (.lst (xs.map V.int))) b (.lst (ys.map V.int))) R' := ex_tell e1 rb'
    have hb1 : upd H' a (.lst (xs.map V.int)) b = none := by rw [upd_ne ne.symm]; exact hb
    refine k (.ref q) _ R' ⟨g.up.trans ((Ex.new ha).trans (Ex.new hb1)), e2, g.keep, fun c h1 h2 => ?_⟩ ⟨q, .ref a, .ref b, rfl, st_of ?_, ⟨a, _, rfl, ?_, ints_rel _⟩, ⟨b, _, rfl, upd_same, ints_rel _⟩⟩
    · have na : c ≠ a := fun z => h2 (by rw [z]; exact ra)
      have nb : c ≠ b := fun z => h2 (by rw [z]; exact rb)
      rw [upd_ne nb, upd_ne na]
      exact g.new c h1 h2
    · have na : q ≠ a := fun z => by
        rw [z, ha] at hq
        cases hq
      have nb : q ≠ b := fun z => by
        rw [z, hb] at hq
        cases hq
      rw [upd_ne nb, upd_ne na]
      exact hq
    · rw [upd_ne ne, upd_same]
theorem defTwo {P : Program} {w : World} {K : PySem.W.Frag} {mg : Str → Option Value} {base : Heap} {A0 : Type} [i0 : Py A0] {x qual : Str} {st : Stmt} {a : Addr} {fd : FuncData} {N ps : List Str} {k : Nat} {pre : A0 → Prop} {f : A0 → List Int × List Int} (F : Fun K x qual st a fd) (S : FnScope N ps (defScope st)) (hps : ps.length = 1) (us : Ctx) (hus : us = List.replicate (N.length - 1) Slot.un)
    (hbody : ∀ (cdv : Value) (A : Around) (outer : List PySem.Env) (s : Shared) (H : Hp) (Q : VK) (E : XK), Room k (A.deeper (envOfC qual (defScope st) s.heap.objs.size a cdv)) →
      ∃ t, PSs (cxOf CX0 P w K mg base N qual (defScope st) a cdv A outer s H E).nox (defBody st) t ∧ ∀ (x0 : A0), pre x0 → ∀ (W : Wd) (D : Ends), W.K = K → (∀ σ R, D.nx σ R = D.rt .non R) → RetTwo W D (f x0) → Go W t D (.dat i0 x0 :: us)) : FnOk P w K mg base CX0 (k + 1) a fd ps (spTwo K pre f) := by
  refine F.ok S (fun vs H Q E h => ?_) (fun cdv A outer s R vs Q E hr h => ?_)
  · obtain ⟨x0, v0, H, rfl, _⟩ := h
    exact hps.symm
  · obtain ⟨x0, v0, H, rfl, e, r0, hp, q⟩ := h
    obtain ⟨t, h1, h2⟩ := hbody cdv A outer s R Q E hr
    subst hus
    exact ⟨t, h1, h2 x0 hp ⟨K, H, R, H⟩ _ rfl (fun _ _ => rfl) (fun z a b H' R' g q1 q2 q3 q4 q5 q6 q7 q8 => q z a b H' R' g q1 q2 q3 q4 q5 q6 q7 q8) _ H R (Ex.refl H) (Gr.refl e) (Env.start (Are.cons (s := Slot.dat i0 x0) r0 Are.nil) rfl)⟩
end Dn

open PySem PySem.Spec PyProof.Rows L2 Dn
local macro_rules | `(tactic| walk_at "rv") => `(tactic| with_reducible first
  | exact rv_i0
  | exact rv_b0
  | exact rv_eqI
  | exact rv_neI
  | exact rv_eqB
  | exact rv_neB
  | exact rv_eqS
  | exact rv_neS
  | exact rv_in
  | exact rv_notin
  | exact rv_ixT0
  | exact rv_ixT1
  | (refine rv_mod ?_; first | omega | skip)
  | (refine rv_div ?_; first | omega | skip)
  | exact rv_mul (cmul_r ⟨by decide, by decide⟩)
  | exact rv_mul (cmul_l ⟨by decide, by decide⟩)
  | apply rv_mul
  | exact rv_pow (cpow_of ⟨by decide, by decide, by decide⟩)
  | (refine rv_ixL ?_; first | omega | skip)
  | (refine rv_ixScr ?_; first | omega | skip))
local macro_rules | `(tactic| walk_at "ev") => `(tactic| first
  | ((with_reducible apply evx_var); rfl)
  | ((with_reducible apply evx_lenScr); ((with_reducible apply evx_var); rfl))
  | with_reducible first
    | exact evx_int
    | exact evx_bl
    | exact evx_str
    | exact eva_nil
    | exact evo_none
    | exact evt_yes
    | apply evt_test
    | apply evt_B
    | apply evt_and
    | apply evt_or
    | apply evt_not
    | apply evx_andV
    | apply evx_orV
    | apply evx_notV
    | apply evx_chain
    | apply evx_if
    | apply evx_isk
    | infer_instance
    | exact k_ii
    | exact k_ib
    | exact k_bb
    | exact k_ll
    | exact k_tt
    | exact k_ss
    | apply evx_neg
    | apply eva_cons
    | apply evo_some
    | apply evx_len
    | apply evx_lenT2
    | apply evx_max2
    | apply evx_min2
    | apply evx_tup2
    | apply evx_tup3
    | apply evx_op
    | apply evs_nil
    | apply evs_cons
    | apply evl_disp
    | apply evl_cat
    | apply evl_rep
    | apply evl_slice
    | apply evl_listof
    | apply evl_rng2
    | apply evl_rng1
    | (apply Evl.x; first | apply evl_disp | apply evl_cat | apply evl_rep | apply evl_slice | apply evl_listof | apply evl_rng2 | apply evl_rng1)
    | apply evx_call1
    | apply evx_call2
    | apply evx_call3
    | apply evx_call4
    | apply evx_call5
    | walk_at "rv"
    | intro _
    | exact trivial)
local macro_rules | `(tactic| walk_at "evs") => `(tactic| repeat' walk_at "ev")
local macro_rules | `(tactic| walk_at "side") => `(tactic| (try dsimp only [List.length_cons, List.length_nil]); omega)
local macro_rules | `(tactic| walk_at "evo") => `(tactic| (walk_at "evs") <;> walk_at "side")
local macro_rules | `(tactic| walk_at "cx") => `(tactic| try dsimp only [cxOf, Cx.nox])
local macro_rules | `(tactic| walk_at "le") => `(tactic| (try dsimp only [List.set]); repeat' (with_reducible first
  | exact LeC.nil
  | apply LeC.un
  | apply LeC.eq
  | apply LeC.dat
  | apply LeC.own
  | apply LeC.obj
  | apply LeC.pin))
local macro_rules | `(tactic| walk_at "noown") => `(tactic| (try dsimp only [List.set]); repeat' (with_reducible first | exact NoOwn.nil | apply NoOwn.un | apply NoOwn.dat))
namespace Gn
open PySem PySem.Spec PyProof.Rows L2 Dn
def top (i : Nat) : Stmt := PySem.Challenge.pw_shortring_k05_taken.main.body.getD i (.Pass ⟨0, 0, 0, 0⟩)
abbrev s__law_cell_at : Stmt := top 39
abbrev n__law_cell_at : List Str := ["_law_script", "_law_k"]
abbrev p__law_cell_at : List Str := ["_law_script", "_law_k"]
theorem sc__law_cell_at : FnScope n__law_cell_at p__law_cell_at (defScope s__law_cell_at) := ⟨rfl, rfl, rfl, by decide +kernel, rfl, by decide +kernel, by decide +kernel⟩

abbrev s__law_mixed : Stmt := top 42
abbrev n__law_mixed : List Str := ["_law_cell", "_law_k"]
abbrev p__law_mixed : List Str := ["_law_cell", "_law_k"]
theorem sc__law_mixed : FnScope n__law_mixed p__law_mixed (defScope s__law_mixed) := ⟨rfl, rfl, rfl, by decide +kernel, rfl, by decide +kernel, by decide +kernel⟩

abbrev s__law_many : Stmt := top 45
abbrev n__law_many : List Str := ["_law_script", "_law_cell"]
abbrev p__law_many : List Str := ["_law_script"]
theorem sc__law_many : FnScope n__law_many p__law_many (defScope s__law_many) := ⟨rfl, rfl, rfl, by decide +kernel, rfl, by decide +kernel, by decide +kernel⟩

section
variable {P : Program} {w : World} {K : PySem.W.Frag} {mg : Str → Option Value} {base : Heap}
theorem ok__law_cell_at {f : Addr} {fd : FuncData} (T : Gb mg) (F : Fun K "_law_cell_at" "_law_cell_at" s__law_cell_at f fd) :
    FnOk P w K mg base CX0 1 f fd p__law_cell_at (sp2 K (fun (s : Scr) (k : Int) => 0 ≤ k) cellAt) := by
  refine def2 F sc__law_cell_at rfl [] rfl (fun cdv A outer s H Q E hr => ⟨_, (pss_cons (ps_if (pt_cmpR op_lt (pv 1) (pe_callB (call_len_seqK K) rfl T.len PySem.boot_len (pa_cons (pv 0) pa_nil)) (nomark _))
 (pss_cons (ps_ret (pe_ix (ix_listK K) (pv 0) (pv 1) (fun _ _ => rfl)))
 pss_nil)
 pss_nil)
 (pss_cons (ps_ret pe_int)
 pss_nil)), fun s k hp W D hK hn hret => ?_⟩)
  subst hK

  refine go_if (b := decide (k < (s.ns.length : Int))) (by walk_at "evs") (fun hb => ?_) (fun hb => ?_)
  · refine go_ret2 (x := gt s.ns k) (evx_op (evx_var rfl) (evx_var rfl) (rv_ixScr ⟨hp, of_decide_eq_true hb⟩)) ?_
    have e : cellAt s k = gt s.ns k := if_pos (of_decide_eq_true hb)
    rw [e] at hret
    exact hret
  · refine go_fall ?_
    refine go_ret2 (x := (0 : Int)) evx_int ?_
    have e : cellAt s k = 0 := if_neg (of_decide_eq_false hb)
    rw [e] at hret
    exact hret
theorem ok__law_mixed {f : Addr} {fd : FuncData} (F : Fun K "_law_mixed" "_law_mixed" s__law_mixed f fd) :
    FnOk P w K mg base CX0 1 f fd p__law_mixed (sp2 K (fun (_ _ : Int) => True) mixed) := by
  refine def2 F sc__law_mixed rfl [] rfl (fun cdv A outer s H Q E hr => ⟨_, (pss_cons (ps_ret (pe_op op_mod (pe_op op_mul (pe_op op_add (pv 0) (pe_op op_mul pe_int (pv 1))) pe_int) pe_int))
 pss_nil), fun c k hp W D hK hn hret => ?_⟩)
  subst hK

  exact go_ret2 (evx_is (by walk_at "evs") (by rfl)) hret
end

abbrev s__law_earlier : Stmt := top 43
abbrev n__law_earlier : List Str := ["_law_script", "_law_many_here", "_law_ring", "_law_rows_here", "_law_k", "_law_cell", "_law_row", "_law_mate", "_law_left", "_law_one"]
abbrev p__law_earlier : List Str := ["_law_script", "_law_many_here", "_law_ring"]
theorem sc__law_earlier : FnScope n__law_earlier p__law_earlier (defScope s__law_earlier) := ⟨rfl, rfl, rfl, by decide +kernel, rfl, by decide +kernel, by decide +kernel⟩

abbrev s__law_any_rows : Stmt := top 44
abbrev n__law_any_rows : List Str := ["_law_script", "_law_many_here", "_law_share", "_law_parts", "_law_rows_here", "_law_k", "_law_cells", "_law_j"]
abbrev p__law_any_rows : List Str := ["_law_script", "_law_many_here"]
theorem sc__law_any_rows : FnScope n__law_any_rows p__law_any_rows (defScope s__law_any_rows) := ⟨rfl, rfl, rfl, by decide +kernel, rfl, by decide +kernel, by decide +kernel⟩

abbrev s__law_banded : Stmt := top 46
abbrev n__law_banded : List Str := ["_law_many_here", "_law_cell", "_law_size", "_law_k"]
abbrev p__law_banded : List Str := ["_law_many_here", "_law_cell"]
theorem sc__law_banded : FnScope n__law_banded p__law_banded (defScope s__law_banded) := ⟨rfl, rfl, rfl, by decide +kernel, rfl, by decide +kernel, by decide +kernel⟩

abbrev s__law_ringed : Stmt := top 47
abbrev n__law_ringed : List Str := ["_law_many_here", "_law_cell", "_law_size", "_law_step", "_law_k", "_law_rows_here"]
abbrev p__law_ringed : List Str := ["_law_many_here", "_law_cell"]
theorem sc__law_ringed : FnScope n__law_ringed p__law_ringed (defScope s__law_ringed) := ⟨rfl, rfl, rfl, by decide +kernel, rfl, by decide +kernel, by decide +kernel⟩

abbrev s__law_hubbed : Stmt := top 48
abbrev n__law_hubbed : List Str := ["_law_many_here", "_law_cell", "_law_size", "_law_k"]
abbrev p__law_hubbed : List Str := ["_law_many_here", "_law_cell"]
theorem sc__law_hubbed : FnScope n__law_hubbed p__law_hubbed (defScope s__law_hubbed) := ⟨rfl, rfl, rfl, by decide +kernel, rfl, by decide +kernel, by decide +kernel⟩

abbrev s__law_rows : Stmt := top 49
abbrev n__law_rows : List Str := ["_law_script", "_law_many_here", "_law_kind", "_law_cell"]
abbrev p__law_rows : List Str := ["_law_script", "_law_many_here"]
theorem sc__law_rows : FnScope n__law_rows p__law_rows (defScope s__law_rows) := ⟨rfl, rfl, rfl, by decide +kernel, rfl, by decide +kernel, by decide +kernel⟩

abbrev s__law_name : Stmt := top 50
abbrev n__law_name : List Str := ["_law_script", "_law_many_here", "_law_k", "_law_cell"]
abbrev p__law_name : List Str := ["_law_script", "_law_many_here", "_law_k"]
theorem sc__law_name : FnScope n__law_name p__law_name (defScope s__law_name) := ⟨rfl, rfl, rfl, by decide +kernel, rfl, by decide +kernel, by decide +kernel⟩

abbrev s__law_ties : Stmt := top 51
abbrev n__law_ties : List Str := ["_law_script", "_law_many_here", "_law_rows_here", "_law_ties_here", "_law_k", "_law_one", "_law_pair"]
abbrev p__law_ties : List Str := ["_law_script", "_law_many_here", "_law_rows_here"]
theorem sc__law_ties : FnScope n__law_ties p__law_ties (defScope s__law_ties) := ⟨rfl, rfl, rfl, by decide +kernel, rfl, by decide +kernel, by decide +kernel⟩

section
variable {P : Program} {w : World} {K : PySem.W.Frag} {mg : Str → Option Value} {base : Heap}
abbrev C_cell (P : Program) (w : World) (K : PySem.W.Frag) (mg : Str → Option Value) (base : Heap) : Prop := Cl P w K mg base CX0 1 "_law_cell_at" p__law_cell_at (sp2 K (fun (s : Scr) (k : Int) => 0 ≤ k) cellAt)
abbrev C_mixed (P : Program) (w : World) (K : PySem.W.Frag) (mg : Str → Option Value) (base : Heap) : Prop := Cl P w K mg base CX0 1 "_law_mixed" p__law_mixed (sp2 K (fun (_ _ : Int) => True) mixed)
theorem ok__law_name {f : Addr} {fd : FuncData} (T : Gb mg) (c__law_cell_at : C_cell P w K mg base) (F : Fun K "_law_name" "_law_name" s__law_name f fd) :
    FnOk P w K mg base CX0 2 f fd p__law_name (sp3 K (fun (_ : Scr) (n _ : Int) => 0 < n) nameOf) := by
  refine def3 F sc__law_name rfl [.un] rfl (fun cdv A outer s H Q E hr => ⟨_, (pss_cons (ps_set (i := 3) sc__law_name.nd rfl (.inl rfl) (pe_cl c__law_cell_at hr rfl pass0 (pa_cons (pv 0) (pa_cons pe_int pa_nil))))
 (pss_cons (ps_if (pt_cmpR op_eq (pe_op op_mod (pv 3) pe_int) pe_int (nomark _))
 (pss_cons (ps_ret (pe_op op_mod (pe_op op_sub (pe_op op_fdiv (pv 3) pe_int) (pv 2)) (pv 1)))
 pss_nil)
 pss_nil)
 (pss_cons (ps_ret (pe_op op_mod (pe_op op_add (pe_op op_fdiv (pv 3) pe_int) (pv 2)) (pv 1)))
 pss_nil))), fun s n k hp W D hK hn hret => ?_⟩)
  subst hK

  refine go_asg (x := cellAt s 1) (by walk_at "evo") ?_
  refine go_ifr (cellAt s 1 % 2 = 1) (by walk_at "evo") rfl (fun h => ?_) (fun h => ?_)
  · exact go_retI (by walk_at "evo") (by unfold nameOf; rw [if_pos h]) hret
  · exact go_retI (by walk_at "evo") (by unfold nameOf; rw [if_neg h]) hret
end

end Gn
namespace Gn
def many (s : Scr) : Int := if cellAt s 0 / 9 % 16 = 3 then cellAt s 0 / 144 % 61 else if cellAt s 0 / 9 % 8 = 5 then 9 + cellAt s 0 / 72 % 12 else cellAt s 0 % 9
theorem many_range (s : Scr) : 0 ≤ many s ∧ many s ≤ 60 := by
  unfold many
  split
  · omega
  · split
    · omega
    · omega
section
variable {P : Program} {w : World} {K : PySem.W.Frag} {mg : Str → Option Value} {base : Heap}
abbrev C_many (P : Program) (w : World) (K : PySem.W.Frag) (mg : Str → Option Value) (base : Heap) : Prop := Cl P w K mg base CX0 2 "_law_many" p__law_many (sp1 K (fun (_ : Scr) => True) many)
theorem ok__law_many {f : Addr} {fd : FuncData} (T : Gb mg) (c__law_cell_at : C_cell P w K mg base) (F : Fun K "_law_many" "_law_many" s__law_many f fd) :
    FnOk P w K mg base CX0 2 f fd p__law_many (sp1 K (fun (_ : Scr) => True) many) := by
  refine def1 F sc__law_many rfl [.un] rfl (fun cdv A outer s H Q E hr => ⟨_, (pss_cons (ps_set (i := 1) sc__law_many.nd rfl (.inl rfl) (pe_cl c__law_cell_at hr rfl pass0 (pa_cons (pv 0) (pa_cons pe_int pa_nil))))
 (pss_cons (ps_if (pt_cmpR op_eq (pe_op op_mod (pe_op op_fdiv (pv 1) pe_int) pe_int) pe_int (nomark _))
 (pss_cons (ps_ret (pe_op op_mod (pe_op op_fdiv (pv 1) pe_int) pe_int))
 pss_nil)
 pss_nil)
 (pss_cons (ps_if (pt_cmpR op_eq (pe_op op_mod (pe_op op_fdiv (pv 1) pe_int) pe_int) pe_int (nomark _))
 (pss_cons (ps_ret (pe_op op_add pe_int (pe_op op_mod (pe_op op_fdiv (pv 1) pe_int) pe_int)))
 pss_nil)
 pss_nil)
 (pss_cons (ps_ret (pe_op op_mod (pv 1) pe_int))
 pss_nil)))), fun s hp W D hK hn hret => ?_⟩)
  subst hK

  refine go_asg (x := cellAt s 0) (by walk_at "evo") ?_
  refine go_ifr (cellAt s 0 / 9 % 16 = 3) (by walk_at "evo") rfl (fun h => ?_) (fun h => ?_)
  · exact go_retI (by walk_at "evo") (by unfold many; rw [if_pos h]) hret
  refine go_ifr (cellAt s 0 / 9 % 8 = 5) (by walk_at "evo") rfl (fun h2 => ?_) (fun h2 => ?_)
  · exact go_retI (by walk_at "evo") (by unfold many; rw [if_neg h, if_pos h2]) hret
  · exact go_retI (by walk_at "evo") (by unfold many; rw [if_neg h, if_neg h2]) hret
end
end Gn
namespace Gn
section
variable {P : Program} {w : World} {K : PySem.W.Frag} {mg : Str → Option Value} {base : Heap}
theorem ok__law_any_rows {f : Addr} {fd : FuncData} (T : Gb mg) (c__law_cell_at : C_cell P w K mg base) (c__law_mixed : C_mixed P w K mg base) (F : Fun K "_law_any_rows" "_law_any_rows" s__law_any_rows f fd) :
    FnOk P w K mg base CX0 2 f fd p__law_any_rows (sp2 K (fun (_ : Scr) (n : Int) => 0 ≤ n ∧ n ≤ 60) (fun s n => anyRows s n.toNat)) := by
  refine def2 F sc__law_any_rows rfl [.un, .un, .un, .un, .un, .un] rfl (fun cdv A outer s H Q E hr => ⟨_, (pss_cons (ps_set (i := 2) sc__law_any_rows.nd rfl (.inr rfl) (pe_op op_add pe_int (pe_op op_mod (pe_op op_fdiv (pe_cl c__law_cell_at hr rfl pass0 (pa_cons (pv 0) (pa_cons pe_int pa_nil))) pe_int) pe_int)))
 (pss_cons (ps_set (i := 3) sc__law_any_rows.nd rfl (.inr rfl) pe_int)
 (pss_cons (ps_if (pt_cmpR op_gt (pv 1) pe_int (nomark _))
 (pss_cons (ps_set (i := 3) sc__law_any_rows.nd rfl (.inr rfl) pe_int)
 pss_nil)
 pss_nil)
 (pss_cons (ps_set (i := 4) sc__law_any_rows.nd rfl (.inl rfl) (pe_lst pa_nil))
 (pss_cons (ps_for PassesOwn.never rfl (pi_range1 rfl T.range (pa_cons (pv 1) pa_nil)) (pg_name (i := 5) sc__law_any_rows.nd rfl (.inr rfl))
 (pss_cons (ps_set (i := 6) sc__law_any_rows.nd rfl (.inr rfl) (pe_lc (own := [("_law_j", 7)]) rfl sc__law_any_rows.nd (pi_range1 rfl T.range (pa_cons (pv 5) pa_nil)) (blkOk_by (N := n__law_any_rows) (sc := defScope s__law_any_rows) (own := [("_law_j", 7)]) (by decide +kernel)) (fun _ _ _ _ _ => (pg_name (i := 7) sc__law_any_rows.nd rfl (.inl rfl))) (fun _ _ _ _ _ => pts_nil) (fun _ _ _ _ _ => (pe_cl c__law_mixed hr rfl pass0 (pa_cons (pe_cl c__law_cell_at hr rfl pass0 (pa_cons (pv 0) (pa_cons (pe_op op_add pe_int (pe_op op_mod (pe_op op_add (pe_op op_mul pe_int (pv 5)) (pe_op op_mul pe_int (pv 7))) pe_int)) pa_nil))) (pa_cons (pe_op op_add (pe_op op_mul pe_int (pv 5)) (pv 7)) pa_nil))))))
 (pss_cons (ps_expr (pe_bmK K (pa := PySem.F.plainAttrs_list) (slot := PySem.F.slot_list_append) (hty := PySem.F.type_list_append) (hm := mt_append) (ho := (pv 4)) (ha := (pa_cons (pe_lc (own := [("_law_j", 7)]) rfl sc__law_any_rows.nd (pi_range1 rfl T.range (pa_cons (pv 5) pa_nil)) (blkOk_by (N := n__law_any_rows) (sc := defScope s__law_any_rows) (own := [("_law_j", 7)]) (by decide +kernel)) (fun _ _ _ _ _ => (pg_name (i := 7) sc__law_any_rows.nd rfl (.inl rfl))) (fun _ _ _ _ _ => (pts_one (pt_cmpR op_lt (pe_op op_mod (pe_ix (ix_listK K) (pv 6) (pv 7) (fun _ _ => rfl)) (pv 3)) (pv 2) (nomark _)))) (fun _ _ _ _ _ => (pv 7))) pa_nil))))
 pss_nil)))
 (pss_cons (ps_ret (pv 4))
 pss_nil)))))), fun s n hp W D hK hn hret => ?_⟩)
  subst hK

  have en : ((n.toNat : Nat) : Int) = n := by omega
  refine go_asg (x := 1 + cellAt s 2 / 8 % 4) (by walk_at "evo") ?_
  refine go_asg (x := (5 : Int)) (by walk_at "evo") ?_
  refine go_ifset (b := decide (n > 20)) (y := (40 : Int)) rfl (by walk_at "evo") (fun _ => by walk_at "evo") ?_
  have ep : (if decide (n > 20) = true then (40 : Int) else 5) = (if ((n.toNat : Nat) : Int) > 20 then 40 else 5) := by
    rw [en]
    simp
  rw [ep]
  generalize hshare : 1 + cellAt s 2 / 8 % 4 = share
  generalize hparts : (if ((n.toNat : Nat) : Int) > 20 then (40 : Int) else 5) = parts
  have pp : 0 < parts := by
    rw [← hparts]
    split <;> omega
  refine go_own (xs := ([] : List (List Int))) (by walk_at "evo") ?_
  refine go_forR (n := n) (by walk_at "evo") (by omega) (fun i => [.dat pyScr s, .dat pyInt n, .dat pyInt share, .dat pyInt parts, .own (pyList (α := Int)) ((List.range i).map (anyRow s share parts)), .un, .un, .un]) (by walk_at "le"; rfl) (fun i G hi hG => ?_) ?_
  · refine go_asg (x := (List.range ((i : Int)).toNat).map fun (j : Nat) => anyCells s (i : Int) (j : Int)) (Evl.x (evl_lcN _ (by walk_at "evo") (by omega) (by decide) (fun j hj => evx_is (by walk_at "evo") (by rfl)))) ?_
    refine go_app (x := anyRow s share parts i) rfl (Evl.x (evl_is (evl_lcR (fun (j : Nat) => decide (anyCells s (i : Int) ((j : Nat) : Int) % parts < share)) (fun (j : Nat) => ((j : Nat) : Int)) (by walk_at "evo") (by omega) (by decide) (fun j hj => evt_is (by walk_at "evs" <;> first | omega | (rw [List.length_map, List.length_range]; omega)) (by
      have e : gt ((List.range ((i : Int)).toNat).map fun (j : Nat) => anyCells s (i : Int) (j : Int)) (j : Int) = anyCells s (i : Int) (j : Int) := gt_nat (by rw [List.getElem?_map, List.getElem?_range (by omega)]; rfl)
      rw [e])) (fun j hj _ => by walk_at "evo")) (by rw [Int.toNat_natCast]; rfl))) (by rw [List.length_map, List.length_range]; omega) ?_
    exact go_end nx_at (by walk_at "le"; rw [List.range_succ, List.map_append]; rfl)
  · refine go_freeze 4 rfl ?_
    exact go_retI (by walk_at "evo") (by unfold anyRows; rw [hshare, hparts]) hret
theorem ok__law_banded {f : Addr} {fd : FuncData} (T : Gb mg) (F : Fun K "_law_banded" "_law_banded" s__law_banded f fd) :
    FnOk P w K mg base CX0 1 f fd p__law_banded (sp2 K (fun (n _ : Int) => 0 ≤ n ∧ n ≤ 60) (fun n c => banded n.toNat c)) := by
  refine def2 F sc__law_banded rfl [.un, .un] rfl (fun cdv A outer s H Q E hr => ⟨_, (pss_cons (ps_set (i := 2) sc__law_banded.nd rfl (.inr rfl) (pe_op op_mod (pv 1) pe_int))
 (pss_cons (ps_if (pt_cmpR op_gt (pv 0) pe_int (nomark _))
 (pss_cons (ps_set (i := 2) sc__law_banded.nd rfl (.inr rfl) (pe_op op_mod (pv 1) pe_int))
 pss_nil)
 pss_nil)
 (pss_cons (ps_ret (pe_lc (own := [("_law_k", 3)]) rfl sc__law_banded.nd (pi_range1 rfl T.range (pa_cons (pv 0) pa_nil)) (blkOk_by (N := n__law_banded) (sc := defScope s__law_banded) (own := [("_law_k", 3)]) (by decide +kernel)) (fun _ _ _ _ _ => (pg_name (i := 3) sc__law_banded.nd rfl (.inl rfl))) (fun _ _ _ _ _ => pts_nil) (fun _ _ _ _ _ => (pe_listRg rfl rfl T.list (prg_2 rfl T.range (pe_callB (call_max2 rfl) rfl T.max (by decide +kernel) (pa_cons pe_int (pa_cons (pe_op op_sub (pv 3) (pv 2)) pa_nil))) (pv 3))))))
 pss_nil))), fun n c hp W D hK hn hret => ?_⟩)
  subst hK

  have en : ((n.toNat : Nat) : Int) = n := by omega
  refine go_asg (x := c % 20) (by walk_at "evo") ?_
  refine go_ifset (b := decide (n > 20)) (y := c % 6) rfl (by walk_at "evo") (fun _ => by walk_at "evo") ?_
  have ep : (if decide (n > 20) = true then c % 6 else c % 20) = (if ((n.toNat : Nat) : Int) > 20 then c % 6 else c % 20) := by
    rw [en]
    simp
  rw [ep]
  have hs : 0 ≤ (if ((n.toNat : Nat) : Int) > 20 then c % 6 else c % 20) ∧ (if ((n.toNat : Nat) : Int) > 20 then c % 6 else c % 20) < 20 := by split <;> omega
  generalize hsz : (if ((n.toNat : Nat) : Int) > 20 then c % 6 else c % 20) = size at hs ⊢
  refine go_retI (Evl.x (evl_lcN (fun (k : Nat) => rng (mx 0 ((k : Int) - size)) (k : Int)) (by walk_at "evo") (by omega) (by decide) (fun k hk => evx_is (by walk_at "evs" <;> first | omega | (split <;> omega)) (by rfl)))) ?_ hret
  unfold banded
  rw [hsz]
theorem ok__law_ringed {f : Addr} {fd : FuncData} (T : Gb mg) (F : Fun K "_law_ringed" "_law_ringed" s__law_ringed f fd) :
    FnOk P w K mg base CX0 1 f fd p__law_ringed (sp2 K (fun (n _ : Int) => 0 ≤ n ∧ n ≤ 60) (fun n c => ringed n.toNat c)) := by
  refine def2 F sc__law_ringed rfl [.un, .un, .un, .un] rfl (fun cdv A outer s H Q E hr => ⟨_, (pss_cons (ps_set (i := 2) sc__law_ringed.nd rfl (.inl rfl) (pe_op op_add pe_int (pe_op op_mod (pv 1) pe_int)))
 (pss_cons (ps_set (i := 3) sc__law_ringed.nd rfl (.inl rfl) (pe_op op_add (pv 2) (pe_op op_mod (pe_op op_fdiv (pv 1) pe_int) pe_int)))
 (pss_cons (ps_setLc (i := 5) (own := [("_law_k", 4)]) rfl sc__law_ringed.nd rfl rfl (sw_true rfl rfl rfl (by decide +kernel)) (pi_range1 rfl T.range (pa_cons (pv 0) pa_nil)) (blkOk_by (N := n__law_ringed) (sc := defScope s__law_ringed) (own := [("_law_k", 4)]) (by decide +kernel)) (fun _ _ _ _ _ => (pg_name (i := 4) sc__law_ringed.nd rfl (.inl rfl))) (fun _ _ _ _ _ => pts_nil) (fun _ _ _ _ _ => (pe_listRg rfl rfl T.list (prg_2 rfl T.range (pe_callB (call_max2 rfl) rfl T.max (by decide +kernel) (pa_cons pe_int (pa_cons (pe_op op_sub (pv 4) pe_int) pa_nil))) (pv 4)))))
 (pss_cons (ps_for PassesOwn.never rfl (pi_range1 rfl T.range (pa_cons (pv 0) pa_nil)) (pg_name (i := 4) sc__law_ringed.nd rfl (.inl rfl))
 (pss_cons (ps_if (pt_cmpR op_eq (pe_op op_mod (pv 4) (pv 3)) (pe_op op_sub (pv 2) pe_int) (nomark _))
 (pss_cons (ps_asg (pe_lst (pa_cons (pe_op op_sub (pe_op op_add (pv 4) pe_int) (pv 2)) (pa_cons (pe_op op_sub (pv 4) pe_int) pa_nil))) (pg_sub (pv 5) (pv 4) set_list))
 pss_nil)
 pss_nil)
 pss_nil))
 (pss_cons (ps_ret (pv 5))
 pss_nil))))), fun n c hp W D hK hn hret => ?_⟩)
  subst hK

  have h5 : 4 ≤ ringSize c := by unfold ringSize; omega
  have h6 : 0 < ringStep c := by unfold ringStep; omega
  refine go_asg (x := ringSize c) (evx_is (by walk_at "evo") (by rfl)) ?_
  refine go_asg (x := ringStep c) (evx_is (by walk_at "evo") (by rfl)) ?_
  refine go_own (xs := (List.range n.toNat).map chainRow) (evl_lcN chainRow (by walk_at "evo") (by omega) (by decide) (fun k hk => evx_is (by walk_at "evs" <;> first | omega | (split <;> omega)) (by rfl))) ?_
  refine go_forR (n := n) (by walk_at "evo") (by omega) (fun i => [.dat pyInt n, .dat pyInt c, .dat pyInt (ringSize c), .dat pyInt (ringStep c), .un, .own (pyList (α := Int)) (ringedTo n.toNat c i)]) (by walk_at "le"; rfl) (fun i G hi hG => ?_) ?_
  · have hl := (ringedTo_ok n.toNat c i (by omega)).1
    refine go_ifr ((i : Int) % ringStep c = ringSize c - 1) (by walk_at "evo") rfl (fun h => ?_) (fun h => ?_)
    · refine go_setL (x := [(i : Int) + 1 - ringSize c, (i : Int) - 1]) (j := (i : Int)) rfl (by walk_at "evo") (by walk_at "evo") (by rw [hl]; omega) ?_
      exact go_fall (go_end nx_at (by walk_at "le"; rw [ringed_succ, if_pos h, Int.toNat_natCast]))
    · exact go_end nx_at (by walk_at "le"; rw [ringed_succ, if_neg h])
  · refine go_freeze 5 rfl ?_
    exact go_retI (by walk_at "evo") (by rfl) hret
theorem ok__law_hubbed {f : Addr} {fd : FuncData} (T : Gb mg) (F : Fun K "_law_hubbed" "_law_hubbed" s__law_hubbed f fd) :
    FnOk P w K mg base CX0 1 f fd p__law_hubbed (sp2 K (fun (n _ : Int) => 0 ≤ n ∧ n ≤ 60) (fun n c => hubbed n.toNat c)) := by
  refine def2 F sc__law_hubbed rfl [.un, .un] rfl (fun cdv A outer s H Q E hr => ⟨_, (pss_cons (ps_set (i := 2) sc__law_hubbed.nd rfl (.inr rfl) (pe_ix (ix_listK K) (pe_lst (pa_cons pe_int (pa_cons pe_int (pa_cons pe_int (pa_cons (pe_op op_mod (pe_op op_fdiv (pv 1) pe_int) pe_int) pa_nil))))) (pe_op op_mod (pv 1) pe_int) (fun _ _ => rfl)))
 (pss_cons (ps_if (pt_cmpR op_gt (pv 0) pe_int (nomark _))
 (pss_cons (ps_set (i := 2) sc__law_hubbed.nd rfl (.inr rfl) (pe_op op_mod (pv 2) pe_int))
 pss_nil)
 pss_nil)
 (pss_cons (ps_ret (pe_lc (own := [("_law_k", 3)]) rfl sc__law_hubbed.nd (pi_range1 rfl T.range (pa_cons (pv 0) pa_nil)) (blkOk_by (N := n__law_hubbed) (sc := defScope s__law_hubbed) (own := [("_law_k", 3)]) (by decide +kernel)) (fun _ _ _ _ _ => (pg_name (i := 3) sc__law_hubbed.nd rfl (.inl rfl))) (fun _ _ _ _ _ => pts_nil) (fun _ _ _ _ _ => (pe_listRg rfl rfl T.list (prg_1 rfl T.range (pe_callB (call_min2 rfl) rfl T.min (by decide +kernel) (pa_cons (pv 3) (pa_cons (pv 2) pa_nil))))))))
 pss_nil))), fun n c hp W D hK hn hret => ?_⟩)
  subst hK

  have en : ((n.toNat : Nat) : Int) = n := by omega
  refine go_asg (x := gt [1, 2, 3, c / 4 % 30] (c % 4)) (by walk_at "evo") ?_
  refine go_ifset (b := decide (n > 30)) (y := gt [1, 2, 3, c / 4 % 30] (c % 4) % 8) rfl (by walk_at "evo") (fun _ => by walk_at "evo") ?_
  have ep : (if decide (n > 30) = true then gt [1, 2, 3, c / 4 % 30] (c % 4) % 8 else gt [1, 2, 3, c / 4 % 30] (c % 4)) = hubSize n.toNat c := by
    unfold hubSize
    rw [en]
    simp
  rw [ep]
  have hs := hubSize_pos n.toNat c
  exact go_retI (Evl.x (evl_lcN (fun (k : Nat) => rng 0 (if hubSize n.toNat c < (k : Int) then hubSize n.toNat c else (k : Int))) (by walk_at "evo") (by omega) (by decide) (fun k hk => by walk_at "evs" <;> first | omega | (split <;> omega)))) (by rfl) hret
end
end Gn
namespace Gn
section
variable {P : Program} {w : World} {K : PySem.W.Frag} {mg : Str → Option Value} {base : Heap}
abbrev PreN (n : Int) : Prop := 0 ≤ n ∧ n ≤ 60
abbrev C_name (P : Program) (w : World) (K : PySem.W.Frag) (mg : Str → Option Value) (base : Heap) : Prop := Cl P w K mg base CX0 2 "_law_name" p__law_name (sp3 K (fun (_ : Scr) (n _ : Int) => 0 < n) nameOf)
abbrev C_earlier (P : Program) (w : World) (K : PySem.W.Frag) (mg : Str → Option Value) (base : Heap) : Prop := Cl P w K mg base CX0 2 "_law_earlier" p__law_earlier (sp3 K (fun (_ : Scr) (n ring : Int) => (0 ≤ n ∧ n ≤ 60) ∧ (ring ≤ 0 ∨ 4 ≤ ring)) (fun s n ring => earlier s n.toNat ring))
abbrev C_any (P : Program) (w : World) (K : PySem.W.Frag) (mg : Str → Option Value) (base : Heap) : Prop := Cl P w K mg base CX0 2 "_law_any_rows" p__law_any_rows (sp2 K (fun (_ : Scr) (n : Int) => 0 ≤ n ∧ n ≤ 60) (fun s n => anyRows s n.toNat))
abbrev C_banded (P : Program) (w : World) (K : PySem.W.Frag) (mg : Str → Option Value) (base : Heap) : Prop := Cl P w K mg base CX0 1 "_law_banded" p__law_banded (sp2 K (fun (n _ : Int) => 0 ≤ n ∧ n ≤ 60) (fun n c => banded n.toNat c))
abbrev C_ringed (P : Program) (w : World) (K : PySem.W.Frag) (mg : Str → Option Value) (base : Heap) : Prop := Cl P w K mg base CX0 1 "_law_ringed" p__law_ringed (sp2 K (fun (n _ : Int) => 0 ≤ n ∧ n ≤ 60) (fun n c => ringed n.toNat c))
abbrev C_hubbed (P : Program) (w : World) (K : PySem.W.Frag) (mg : Str → Option Value) (base : Heap) : Prop := Cl P w K mg base CX0 1 "_law_hubbed" p__law_hubbed (sp2 K (fun (n _ : Int) => 0 ≤ n ∧ n ≤ 60) (fun n c => hubbed n.toNat c))
abbrev C_rows (P : Program) (w : World) (K : PySem.W.Frag) (mg : Str → Option Value) (base : Heap) : Prop := Cl P w K mg base CX0 3 "_law_rows" p__law_rows (sp2 K (fun (_ : Scr) (n : Int) => 0 ≤ n ∧ n ≤ 60) (fun s n => rowsOf s n.toNat))
abbrev C_ties (P : Program) (w : World) (K : PySem.W.Frag) (mg : Str → Option Value) (base : Heap) : Prop := Cl P w K mg base CX0 3 "_law_ties" p__law_ties (sp3 K (fun (_ : Scr) (n : Int) (rows : List (List Int)) => (0 ≤ n ∧ n ≤ 60) ∧ RowsOk n.toNat rows) (fun s n rows => tiesOf s n.toNat rows))
theorem ok__law_rows {f : Addr} {fd : FuncData} (T : Gb mg) (c__law_cell_at : C_cell P w K mg base) (c__law_earlier : C_earlier P w K mg base) (c__law_any_rows : C_any P w K mg base) (c__law_banded : C_banded P w K mg base) (c__law_ringed : C_ringed P w K mg base) (c__law_hubbed : C_hubbed P w K mg base) (F : Fun K "_law_rows" "_law_rows" s__law_rows f fd) :
    FnOk P w K mg base CX0 3 f fd p__law_rows (sp2 K (fun (_ : Scr) (n : Int) => 0 ≤ n ∧ n ≤ 60) (fun s n => rowsOf s n.toNat)) := by
  refine def2 F sc__law_rows rfl [.un, .un] rfl (fun cdv A outer s H Q E hr => ⟨_, (pss_cons (ps_set (i := 2) sc__law_rows.nd rfl (.inl rfl) (pe_op op_mod (pe_cl c__law_cell_at hr rfl pass0 (pa_cons (pv 0) (pa_cons pe_int pa_nil))) pe_int))
 (pss_cons (ps_set (i := 3) sc__law_rows.nd rfl (.inl rfl) (pe_op op_fdiv (pe_cl c__law_cell_at hr rfl pass0 (pa_cons (pv 0) (pa_cons pe_int pa_nil))) pe_int))
 (pss_cons (ps_if (PW.pt (pw_and (pt_cmpR op_eq (pv 2) pe_int (nomark _)) (pw_and1 (pt_cmpR op_gt (pv 1) pe_int (nomark _)))))
 (pss_cons (ps_ret (pe_cl c__law_earlier hr rfl pass0 (pa_cons (pv 0) (pa_cons (pv 1) (pa_cons (pe_op op_add pe_int (pe_op op_mod (pv 3) (pe_op op_sub (pv 1) pe_int))) pa_nil)))))
 pss_nil)
 pss_nil)
 (pss_cons (ps_if (PW.pt (pw_and (pt_chain op_lt op_lt pe_int (pv 2) pe_int) (pw_and1 (pt_cmpR op_lt (pv 1) pe_int (nomark _)))))
 (pss_cons (ps_ret (pe_cl c__law_any_rows hr rfl pass0 (pa_cons (pv 0) (pa_cons (pv 1) pa_nil))))
 pss_nil)
 pss_nil)
 (pss_cons (ps_if (pt_cmpR op_eq (pv 2) pe_int (nomark _))
 (pss_cons (ps_ret (pe_cl c__law_banded hr rfl pass0 (pa_cons (pv 1) (pa_cons (pv 3) pa_nil))))
 pss_nil)
 pss_nil)
 (pss_cons (ps_if (pt_cmpR op_eq (pv 2) pe_int (nomark _))
 (pss_cons (ps_ret (pe_cl c__law_ringed hr rfl pass0 (pa_cons (pv 1) (pa_cons (pv 3) pa_nil))))
 pss_nil)
 pss_nil)
 (pss_cons (ps_if (pt_cmpR op_eq (pv 2) pe_int (nomark _))
 (pss_cons (ps_ret (pe_cl c__law_hubbed hr rfl pass0 (pa_cons (pv 1) (pa_cons (pv 3) pa_nil))))
 pss_nil)
 pss_nil)
 (pss_cons (ps_ret (pe_cl c__law_earlier hr rfl pass0 (pa_cons (pv 0) (pa_cons (pv 1) (pa_cons pe_int pa_nil)))))
 pss_nil)))))))), fun s n hp W D hK hn hret => ?_⟩)
  subst hK
  have en : ((n.toNat : Nat) : Int) = n := by omega
  have er : rowsOf s n.toNat = if cellAt s 2 % 8 = 1 ∧ n > 3 then earlier s n.toNat (4 + cellAt s 2 / 8 % (n - 3))
    else if (1 < cellAt s 2 % 8 ∧ cellAt s 2 % 8 < 5) ∧ n < 41 then anyRows s n.toNat
    else if cellAt s 2 % 8 = 5 then banded n.toNat (cellAt s 2 / 8)
    else if cellAt s 2 % 8 = 6 then ringed n.toNat (cellAt s 2 / 8)
    else if cellAt s 2 % 8 = 7 then hubbed n.toNat (cellAt s 2 / 8)
    else earlier s n.toNat 0 := by
    unfold rowsOf
    rw [en]
  rw [er] at hret
  refine go_asg (x := cellAt s 2 % 8) (by walk_at "evo") ?_
  refine go_asg (x := cellAt s 2 / 8) (by walk_at "evo") ?_
  generalize cellAt s 2 % 8 = kind at hret ⊢
  generalize cellAt s 2 / 8 = cell at hret ⊢
  refine go_ifr (kind = 1 ∧ n > 3) (by walk_at "evo") (by simp) (fun h => ?_) (fun h => ?_)
  · have hm := Int.emod_nonneg cell (show n - 3 ≠ 0 by omega)
    exact go_retI (by walk_at "evo") (by rw [if_pos h]) hret
  rw [if_neg h] at hret
  refine go_ifr ((1 < kind ∧ kind < 5) ∧ n < 41) (by walk_at "evo") (by simp) (fun h => ?_) (fun h => ?_)
  · exact go_retI (by walk_at "evo") (by rw [if_pos h]) hret
  rw [if_neg h] at hret
  refine go_ifr (kind = 5) (by walk_at "evo") (by simp) (fun h => ?_) (fun h => ?_)
  · exact go_retI (by walk_at "evo") (by rw [if_pos h]) hret
  rw [if_neg h] at hret
  refine go_ifr (kind = 6) (by walk_at "evo") (by simp) (fun h => ?_) (fun h => ?_)
  · exact go_retI (by walk_at "evo") (by rw [if_pos h]) hret
  rw [if_neg h] at hret
  refine go_ifr (kind = 7) (by walk_at "evo") (by simp) (fun h => ?_) (fun h => ?_)
  · exact go_retI (by walk_at "evo") (by rw [if_pos h]) hret
  rw [if_neg h] at hret
  exact go_retI (by walk_at "evo") (by rfl) hret
theorem ok__law_ties {f : Addr} {fd : FuncData} (T : Gb mg) (c__law_name : C_name P w K mg base) (F : Fun K "_law_ties" "_law_ties" s__law_ties f fd) :
    FnOk P w K mg base CX0 3 f fd p__law_ties (sp3 K (fun (_ : Scr) (n : Int) (rows : List (List Int)) => (0 ≤ n ∧ n ≤ 60) ∧ RowsOk n.toNat rows) (fun s n rows => tiesOf s n.toNat rows)) := by
  refine def3 F sc__law_ties rfl [.un, .un, .un, .un] rfl (fun cdv A outer s H Q E hr => ⟨_, (pss_cons (ps_set (i := 3) sc__law_ties.nd rfl (.inl rfl) (pe_lst pa_nil))
 (pss_cons (ps_for PassesOwn.never rfl (pi_range1 rfl T.range (pa_cons (pv 1) pa_nil)) (pg_name (i := 4) sc__law_ties.nd rfl (.inl rfl))
 (pss_cons (ps_for PassesOwn.never rfl (pi_listK K (hl := (pe_ix (ix_listK K) (pv 2) (pv 4) (fun _ _ => rfl)))) (pg_name (i := 5) sc__law_ties.nd rfl (.inl rfl))
 (pss_cons (ps_set (i := 6) sc__law_ties.nd rfl (.inl rfl) (pe_tup (pa_cons (pe_cl c__law_name hr rfl pass0 (pa_cons (pv 0) (pa_cons (pv 1) (pa_cons (pv 4) pa_nil)))) (pa_cons (pe_cl c__law_name hr rfl pass0 (pa_cons (pv 0) (pa_cons (pv 1) (pa_cons (pv 5) pa_nil)))) pa_nil))))
 (pss_cons (ps_if (pt_cmpR op_eq (pe_op op_mod (pe_op op_add (pv 4) (pv 5)) pe_int) pe_int (nomark _))
 (pss_cons (ps_set (i := 6) sc__law_ties.nd rfl (.inl rfl) (pe_tup (pa_cons (pe_ix (ix_tupK K) (pv 6) pe_int (fun _ _ => rfl)) (pa_cons (pe_ix (ix_tupK K) (pv 6) pe_int (fun _ _ => rfl)) pa_nil))))
 pss_nil)
 pss_nil)
 (pss_cons (ps_expr (pe_bmK K (pa := PySem.F.plainAttrs_list) (slot := PySem.F.slot_list_append) (hty := PySem.F.type_list_append) (hm := mt_append) (ho := (pv 3)) (ha := (pa_cons (pv 6) pa_nil))))
 pss_nil))))
 pss_nil))
 (pss_cons (ps_ret (pe_op op_cat (pe_op op_cat (pe_op op_cat (pv 3) (pe_lc (own := [("_law_pair", 6)]) rfl sc__law_ties.nd (pi_listK K (hl := (pe_slice (sl_listK K) (pv 3) po_none (po_some pe_int)))) (blkOk_by (N := n__law_ties) (sc := defScope s__law_ties) (own := [("_law_pair", 6)]) (by decide +kernel)) (fun _ _ _ _ _ => (pg_name (i := 6) sc__law_ties.nd rfl (.inl rfl))) (fun _ _ _ _ _ => pts_nil) (fun _ _ _ _ _ => (pe_tup (pa_cons (pe_ix (ix_tupK K) (pv 6) pe_int (fun _ _ => rfl)) (pa_cons (pe_ix (ix_tupK K) (pv 6) pe_int (fun _ _ => rfl)) pa_nil)))))) (pe_slice (sl_listK K) (pv 3) (po_some pe_int) (po_some pe_int))) (pe_op op_rep (pe_slice (sl_listK K) (pv 3) po_none (po_some pe_int)) pe_int)))
 pss_nil))), fun s n rows hp W D hK hn hret => ?_⟩)
  subst hK
  obtain ⟨hp, hrows⟩ := hp
  have en : ((n.toNat : Nat) : Int) = n := by omega
  have hto : ∀ i, i ≤ n.toNat → (tiesTo s n rows i).length ≤ 2000 := fun i hi => by
    have h := (tiesTo_ok s hrows i hi).2
    rw [en] at h
    have : i * i ≤ 60 * 60 := Nat.mul_le_mul (by omega) (by omega)
    omega
  refine go_own (xs := ([] : List (Int × Int))) (by walk_at "evo") ?_
  refine go_forR (n := n) (by walk_at "evo") (by omega) (fun i => [.dat pyScr s, .dat pyInt n, .dat (pyList (ip := pyList (ip := pyInt))) rows, .own (pyPair (α := Int) (β := Int)) (tiesTo s n rows i), .un, .un, .un]) (by walk_at "le"; rfl) (fun i G hi hG => ?_) ?_
  · have hl := hrows.1
    refine go_forL (xs := gt rows (i : Int)) (by walk_at "evs"; all_goals omega) (fun m => [.dat pyScr s, .dat pyInt n, .dat (pyList (ip := pyList (ip := pyInt))) rows, .own (pyPair (α := Int) (β := Int)) (tiesTo s n rows i ++ ((gt rows (i : Int)).take m).map (tieOf s n (i : Int))), .dat pyInt (i : Int), .un, .un]) (by walk_at "le"; simp) (fun m one G2 hone hG2 => ?_) ?_
    · have hrow := hrows.2 i _ (by
        have q := gt_get (ip := pyList (α := Int)) (xs := rows) (i := (i : Int)) (by omega)
        rw [Int.toNat_natCast] at q
        exact q)
      have hm := (List.getElem?_eq_some_iff.mp hone).1
      refine go_asg (x := (nameOf s n (i : Int), nameOf s n one)) (by walk_at "evo") ?_
      refine go_ifset (b := decide (((i : Int) + one) % 2 = 1)) (y := (nameOf s n one, nameOf s n (i : Int))) rfl (by walk_at "evo") (fun _ => by walk_at "evo") ?_
      have et : (if decide (((i : Int) + one) % 2 = 1) = true then (nameOf s n one, nameOf s n (i : Int)) else (nameOf s n (i : Int), nameOf s n one)) = tieOf s n (i : Int) one := by
        unfold tieOf
        simp
      rw [et]
      refine go_app (x := tieOf s n (i : Int) one) rfl (by walk_at "evo") (by
        have h1 := hto i (by omega)
        rw [List.length_append, List.length_map, List.length_take]
        omega) ?_
      refine go_end nx_at (by
        walk_at "le"
        rw [List.take_succ_eq_append_getElem hm, (List.getElem?_eq_some_iff.mp hone).2, List.map_append, List.append_assoc]
        rfl)
    · exact go_end nx_at (by walk_at "le"; rw [List.take_length, tiesTo_succ])
  · have h1 := hto n.toNat (by omega)
    refine go_freeze 3 rfl ?_
    refine go_retI (y := tiesOf s n.toNat rows) (Evl.x (evl_cat (xs := tiesTo s n rows n.toNat ++ (cut (tiesTo s n rows n.toNat) none (some 3)).map (fun t => (t.2, t.1)) ++ cut (tiesTo s n rows n.toNat) (some 1) (some 4)) (ys := (List.replicate 2 (cut (tiesTo s n rows n.toNat) none (some 1))).flatten)
      (Evl.x (evl_cat (Evl.x (evl_cat (by walk_at "evo") (Evl.x (evl_lcM (xs := cut (tiesTo s n rows n.toNat) none (some 3)) (fun (t : Int × Int) => (t.2, t.1)) (by walk_at "evo") ?_ (by decide) (fun t _ => by walk_at "evo"))) ?_)) (by walk_at "evo") ?_)) (Evl.x (evl_rep (n := 2) (by walk_at "evo") (by walk_at "evo") (by omega) ?_)) ?_)) ?_ hret
    · have := cut_len (tiesTo s n rows n.toNat) none (some 3)
      omega
    · have := cut_len (tiesTo s n rows n.toNat) none (some 3)
      rw [List.length_map]
      omega
    · have := cut_len (tiesTo s n rows n.toNat) none (some 3)
      have := cut_len (tiesTo s n rows n.toNat) (some 1) (some 4)
      rw [List.length_append, List.length_map]
      omega
    · have := cut_len (tiesTo s n rows n.toNat) none (some 1)
      show _ * 2 ≤ 100000
      omega
    · have := cut_len (tiesTo s n rows n.toNat) none (some 3)
      have := cut_len (tiesTo s n rows n.toNat) (some 1) (some 4)
      have := cut_len (tiesTo s n rows n.toNat) none (some 1)
      simp only [List.length_append, List.length_map, List.replicate, List.flatten_cons, List.flatten_nil, List.length_nil]
      omega
    · unfold tiesOf
      rw [en]
theorem ok__law_earlier {f : Addr} {fd : FuncData} (T : Gb mg) (c__law_cell_at : C_cell P w K mg base) (c__law_mixed : C_mixed P w K mg base) (F : Fun K "_law_earlier" "_law_earlier" s__law_earlier f fd) :
    FnOk P w K mg base CX0 2 f fd p__law_earlier (sp3 K (fun (_ : Scr) (n ring : Int) => (0 ≤ n ∧ n ≤ 60) ∧ (ring ≤ 0 ∨ 4 ≤ ring)) (fun s n ring => earlier s n.toNat ring)) := by
  refine def3 F sc__law_earlier rfl [.un, .un, .un, .un, .un, .un, .un] rfl (fun cdv A outer s H Q E hr => ⟨_, (pss_cons (ps_set (i := 3) sc__law_earlier.nd rfl (.inl rfl) (pe_lst pa_nil))
 (pss_cons (ps_for PassesOwn.never rfl (pi_range1 rfl T.range (pa_cons (pv 1) pa_nil)) (pg_name (i := 4) sc__law_earlier.nd rfl (.inl rfl))
 (pss_cons (ps_set (i := 5) sc__law_earlier.nd rfl (.inl rfl) (pe_cl c__law_mixed hr rfl pass0 (pa_cons (pe_cl c__law_cell_at hr rfl pass0 (pa_cons (pv 0) (pa_cons (pe_op op_add pe_int (pv 4)) pa_nil))) (pa_cons (pv 4) pa_nil))))
 (pss_cons (ps_set (i := 6) sc__law_earlier.nd rfl (.inl rfl) (pe_lst pa_nil))
 (pss_cons (ps_if (pt_chain op_lt op_lt pe_int (pv 4) (pv 2))
 (pss_cons (ps_set (i := 6) sc__law_earlier.nd rfl (.inl rfl) (pe_lst (pa_cons (pe_op op_sub (pv 4) pe_int) pa_nil)))
 (pss_cons (ps_if (pt_cmpR op_eq (pv 4) (pe_op op_sub (pv 2) pe_int) (nomark _))
 (pss_cons (ps_set (i := 6) sc__law_earlier.nd rfl (.inl rfl) (pe_lst (pa_cons pe_int (pa_cons (pe_op op_sub (pv 4) pe_int) pa_nil))))
 pss_nil)
 pss_nil)
 pss_nil))
 (pss_cons (ps_if (PW.pt (pw_and (pt_cmpR op_gt (pv 4) pe_int (nomark _)) (pw_and1 (pt_cmpR op_ne (pe_op op_mod (pv 5) pe_int) pe_int (nomark _)))))
 (pss_cons (ps_set (i := 7) sc__law_earlier.nd rfl (.inl rfl) (pe_op op_mod (pe_op op_fdiv (pv 5) pe_int) (pv 4)))
 (pss_cons (ps_set (i := 6) sc__law_earlier.nd rfl (.inl rfl) (pe_lst (pa_cons (pv 7) pa_nil)))
 (pss_cons (ps_set (i := 8) sc__law_earlier.nd rfl (.inl rfl) (pe_op op_fdiv (pe_op op_fdiv (pv 5) pe_int) (pv 4)))
 (pss_cons (ps_for PassesOwn.never rfl (pi_listK K (hl := (pe_ix (ix_listK K) (pv 3) (pv 7) (fun _ _ => rfl)))) (pg_name (i := 9) sc__law_earlier.nd rfl (.inl rfl))
 (pss_cons (ps_if (PW.pt (pw_and (pt_cmpR op_gt (pe_op op_mod (pv 8) pe_int) pe_int (nomark _)) (pw_and1 (PW.pt (pw_or (pt_cmpR op_ge (pv 7) (pv 2) (nomark _)) (pw_or1 (pt_cmpR op_lt (pe_callB (call_len_seqK K) rfl T.len PySem.boot_len (pa_cons (pv 6) pa_nil)) pe_int (nomark _))))))))
 (pss_cons (ps_expr (pe_bmK K (pa := PySem.F.plainAttrs_list) (slot := PySem.F.slot_list_append) (hty := PySem.F.type_list_append) (hm := mt_append) (ho := (pv 6)) (ha := (pa_cons (pv 9) pa_nil))))
 pss_nil)
 pss_nil)
 (pss_cons (ps_set (i := 8) sc__law_earlier.nd rfl (.inl rfl) (pe_op op_fdiv (pv 8) pe_int))
 pss_nil)))
 pss_nil))))
 pss_nil)
 pss_nil))
 (pss_cons (ps_expr (pe_bmK K (pa := PySem.F.plainAttrs_list) (slot := PySem.F.slot_list_append) (hty := PySem.F.type_list_append) (hm := mt_append) (ho := (pv 3)) (ha := (pa_cons (pv 6) pa_nil))))
 pss_nil)))))
 (pss_cons (ps_ret (pv 3))
 pss_nil))), fun s n ring hp W D hK hn hret => ?_⟩)
  subst hK
  obtain ⟨hp, hring⟩ := hp
  refine go_own (xs := ([] : List (List Int))) (by walk_at "evo") ?_
  refine go_forR (n := n) (by walk_at "evo") (by omega) (fun i => [.dat pyScr s, .dat pyInt n, .dat pyInt ring, .own (pyList (α := Int)) (earlier s i ring), .un, .un, .un, .un, .un, .un]) (by walk_at "le"; rfl) (fun i G hi hG => ?_) ?_
  · have hok := earlier_ok s ring hring i
    have hl := hok.1
    generalize hrow : earlierRow s ring (earlier s i ring) (i : Int) = row
    have hrow0 := hrow
    refine go_asg (x := mixed (cellAt s (3 + (i : Int))) (i : Int)) (by walk_at "evo") ?_
    refine go_own (xs := ([] : List Int)) (by walk_at "evo") ?_
    have hm := mixed_range (cellAt s (3 + (i : Int))) (i : Int)
    unfold earlierRow at hrow
    generalize mixed (cellAt s (3 + (i : Int))) (i : Int) = cell at hrow hm ⊢
    dsimp only [List.set]
    refine go_ifj [.dat pyScr s, .dat pyInt n, .dat pyInt ring, .own (pyList (α := Int)) (earlier s i ring), .dat pyInt (i : Int), .un, .own pyInt row, .un, .un, .un] (0 < (i : Int) ∧ (i : Int) < ring) (by walk_at "evo") (by simp) (fun h D' hD' => ?_) (fun h D' hD' => ?_) ?_
    · rw [if_pos h] at hrow
      refine go_own (xs := [(i : Int) - 1]) (by walk_at "evo") ?_
      refine go_ifr ((i : Int) = ring - 1) (by walk_at "evo") rfl (fun h2 => ?_) (fun h2 => ?_)
      · rw [if_pos h2] at hrow
        refine go_own (xs := [0, (i : Int) - 1]) (by walk_at "evo") ?_
        exact go_fall (go_end hD' (by walk_at "le"; exact hrow))
      · rw [if_neg h2] at hrow
        exact go_end hD' (by walk_at "le"; exact hrow)
    · rw [if_neg h] at hrow
      refine go_ifr ((i : Int) > 0 ∧ cell % 9 ≠ 8) (by walk_at "evo") (by simp) (fun h2 => ?_) (fun h2 => ?_)
      · rw [if_pos h2] at hrow
        refine go_asg (x := cell / 9 % (i : Int)) (by walk_at "evo") ?_
        refine go_own (xs := [cell / 9 % (i : Int)]) (by walk_at "evo") ?_
        refine go_asg (x := cell / 9 / (i : Int)) (by walk_at "evo") ?_
        have hmate : 0 ≤ cell / 9 % (i : Int) ∧ cell / 9 % (i : Int) < (i : Int) := ⟨Int.emod_nonneg _ (by omega), Int.emod_lt_of_pos _ (by omega)⟩
        unfold mateFold at hrow
        generalize cell / 9 % (i : Int) = mate at hrow hmate ⊢
        generalize cell / 9 / (i : Int) = left0 at hrow ⊢
        have hsmall := (hok.2 _ _ (gt_get (ip := pyList (α := Int)) (xs := earlier s i ring) (i := mate) (by omega)))
        generalize hst : (fun m : Nat => ((gt (earlier s i ring) mate).take m).foldl (mateStep mate ring) ([mate], left0)) = st
        have hst0 : st 0 = ([mate], left0) := by rw [← hst]; rfl
        have hstS : ∀ m x, (gt (earlier s i ring) mate)[m]? = some x → st (m + 1) = mateStep mate ring (st m) x := fun m x hx => by rw [← hst]; exact foldl_take hx
        have hstL : ∀ m, m ≤ (gt (earlier s i ring) mate).length → (st m).1.length ≤ m + 1 := fun m => by
          induction m with
          | zero => intro _; rw [hst0]; simp
          | succ m ih =>
            intro hm2
            have := ih (by omega)
            rw [hstS m _ (List.getElem?_eq_getElem (by omega))]
            unfold mateStep
            dsimp only
            split
            · rw [List.length_append]; simp; omega
            · omega
        have hend : (st (gt (earlier s i ring) mate).length).1 = row := by
          rw [← hst]
          dsimp only
          rw [List.take_length]
          exact hrow
        clear hst hrow
        dsimp only [List.set]
        refine go_forL (xs := gt (earlier s i ring) mate) (evx_ixOwn rfl (by walk_at "evo") (by omega)) (fun m => [.dat pyScr s, .dat pyInt n, .dat pyInt ring, .own (pyList (α := Int)) (earlier s i ring), .dat pyInt (i : Int), .un, .own pyInt (st m).1, .dat pyInt mate, .dat pyInt (st m).2, .un]) (by walk_at "le" <;> rw [hst0]) (fun m one G2 hone hG2 => ?_) ?_
        · have hmlt := (List.getElem?_eq_some_iff.mp hone).1
          have e1 := hstS m one hone
          dsimp only [List.set]
          refine go_ifj [.dat pyScr s, .dat pyInt n, .dat pyInt ring, .own (pyList (α := Int)) (earlier s i ring), .dat pyInt (i : Int), .un, .own pyInt (st (m + 1)).1, .dat pyInt mate, .dat pyInt (st m).2, .un] ((st m).2 % 3 > 0 ∧ (mate ≥ ring ∨ ((st m).1.length : Int) < 2)) (evt_look 6 rfl (by walk_at "evo")) (by simp) (fun h3 D3 hD3 => ?_) (fun h3 D3 hD3 => ?_) ?_
          · refine go_app (x := one) rfl (by walk_at "evo") (by have := hstL m (by omega); omega) ?_
            exact go_end hD3 (by walk_at "le"; rw [e1]; unfold mateStep; rw [if_pos h3])
          · exact go_end hD3 (by walk_at "le"; rw [e1]; unfold mateStep; rw [if_neg h3])
          · refine go_asg (x := (st m).2 / 3) (by walk_at "evo") ?_
            exact go_end nx_at (by walk_at "le"; rw [e1]; rfl)
        · rw [hend]
          exact go_fall (go_end hD' (by walk_at "le"))
      · rw [if_neg h2] at hrow
        exact go_end hD' (by walk_at "le"; exact hrow)
    · refine go_freeze 6 rfl ?_
      refine go_app (x := row) rfl (by walk_at "evo") (by omega) ?_
      exact go_end nx_at (by walk_at "le"; rw [earlier_succ, hrow0])
  · refine go_freeze 3 rfl ?_
    exact go_retI (by walk_at "evo") (by rfl) hret
end
end Gn
namespace Gn
abbrev s__law_near : Stmt := top 52
abbrev n__law_near : List Str := ["_law_many_here", "_law_ties_here", "_law_near_here", "_law_one", "_law_other", "_law_k", "_law_row"]
abbrev p__law_near : List Str := ["_law_many_here", "_law_ties_here"]
theorem sc__law_near : FnScope n__law_near p__law_near (defScope s__law_near) := ⟨rfl, rfl, rfl, by decide +kernel, rfl, by decide +kernel, by decide +kernel⟩

section
variable {P : Program} {w : World} {K : PySem.W.Frag} {mg : Str → Option Value} {base : Heap}
abbrev PreW (n : Int) (ts : List (Int × Int)) : Prop := (0 ≤ n ∧ n ≤ 60) ∧ TiesOk n ts ∧ ts.length ≤ 4000
abbrev C_near (P : Program) (w : World) (K : PySem.W.Frag) (mg : Str → Option Value) (base : Heap) : Prop := Cl P w K mg base CX0 1 "_law_near" p__law_near (sp2 K PreW (fun n ts => nbrs n.toNat ts))
theorem ok__law_near {f : Addr} {fd : FuncData} (T : Gb mg) (F : Fun K "_law_near" "_law_near" s__law_near f fd) :
    FnOk P w K mg base CX0 1 f fd p__law_near (sp2 K PreW (fun n ts => nbrs n.toNat ts)) := by
  refine def2 F sc__law_near rfl [.un, .un, .un, .un, .un] rfl (fun cdv A outer s H Q E hr => ⟨_, (pss_cons (ps_setLc (i := 2) (own := [("_law_k", 5)]) rfl sc__law_near.nd rfl rfl (sw_true rfl rfl rfl (by decide +kernel)) (pi_range1 rfl T.range (pa_cons (pv 0) pa_nil)) (blkOk_by (N := n__law_near) (sc := defScope s__law_near) (own := [("_law_k", 5)]) (by decide +kernel)) (fun _ _ _ _ _ => (pg_name (i := 5) sc__law_near.nd rfl (.inl rfl))) (fun _ _ _ _ _ => pts_nil) (fun _ _ _ _ _ => (pe_lst pa_nil)))
 (pss_cons (ps_for PassesOwn.never rfl (pi_listK K (hl := (pv 1))) (pg_tupK K (hc := rfl) (n := 2) (h := (pgs_cons (pg_name (i := 3) sc__law_near.nd rfl (.inl rfl)) (pgs_cons (pg_name (i := 4) sc__law_near.nd rfl (.inl rfl)) pgs_nil))))
 (pss_cons (ps_if (pt_cmpR (op_notIn_seqK K) (pv 4) (pe_ix (ix_listK K) (pv 2) (pv 3) (fun _ _ => rfl)) rfl)
 (pss_cons (ps_expr (pe_bmK K (pa := PySem.F.plainAttrs_list) (slot := PySem.F.slot_list_append) (hty := PySem.F.type_list_append) (hm := mt_append) (ho := (pe_ix (ix_listK K) (pv 2) (pv 3) (fun _ _ => rfl))) (ha := (pa_cons (pv 4) pa_nil))))
 (pss_cons (ps_expr (pe_bmK K (pa := PySem.F.plainAttrs_list) (slot := PySem.F.slot_list_append) (hty := PySem.F.type_list_append) (hm := mt_append) (ho := (pe_ix (ix_listK K) (pv 2) (pv 4) (fun _ _ => rfl))) (ha := (pa_cons (pv 3) pa_nil))))
 pss_nil))
 pss_nil)
 pss_nil))
 (pss_cons (ps_ret (pe_lc (own := [("_law_row", 6)]) rfl sc__law_near.nd (pi_listK K (hl := (pv 2))) (blkOk_by (N := n__law_near) (sc := defScope s__law_near) (own := [("_law_row", 6)]) (by decide +kernel)) (fun _ _ _ _ _ => (pg_name (i := 6) sc__law_near.nd rfl (.inl rfl))) (fun _ _ _ _ _ => pts_nil) (fun _ _ _ _ _ => (pe_callB (cr_sortedIK K) rfl T.sorted (by decide +kernel) (pa_cons (pv 6) pa_nil)))))
 pss_nil))), fun n ts hp W D hK hn hret => ?_⟩)
  subst hK
  obtain ⟨hp, hts, hlen⟩ := hp
  have en : ((n.toNat : Nat) : Int) = n := by omega
  have hts' : TiesOk ((n.toNat : Nat) : Int) ts := by rw [en]; exact hts
  refine gon_init (n := n) (by walk_at "noown") (by walk_at "evo") (by omega) (by decide) (by simp) ?_
  dsimp only [List.set]
  refine gon_forP (xs := ts) (by decide) (by walk_at "evo") [.dat pyInt n, .dat (pyList (ip := pyPair (ip := pyInt) (iq := pyInt))) ts, .un, .un, .un, .un, .un] (nearTo n.toNat ts) (by walk_at "le") (by rfl) (fun m x y G hxy hG => ?_) ?_
  · have hm := (List.getElem?_eq_some_iff.mp hxy).1
    obtain ⟨k, nd⟩ := nearTo_kept hts' m (by omega)
    have ok := hts _ (List.mem_of_getElem? hxy)
    dsimp only at ok
    have e1 : nearTo n.toNat ts (m + 1) = nearStep (nearTo n.toNat ts m) (x, y) := foldl_take hxy
    have l1 := addTo_len (nearTo n.toNat ts m) x y
    have s1 := k.sml x (by omega)
    have s2 := k.sml y (by omega)
    have g2 : gt (addTo (nearTo n.toNat ts m) x y) y = gt (nearTo n.toNat ts m) y := by
      rw [gt_addTo (by rw [k.len]; omega) (by rw [k.len]; omega), if_neg ok.2.2.2.2]
    dsimp only [List.set]
    refine gon_ifnot (x := y) (a := x) (by walk_at "evo") (by walk_at "evo") (by rw [k.len]; omega) (fun hin => ?_) (fun hin => ?_)
    · refine gon_app (a := x) (x := y) (by walk_at "noown") (by walk_at "evo") (by walk_at "evo") (by rw [k.len]; omega) (by omega) ?_
      refine gon_app (a := y) (x := x) (by walk_at "noown") (by walk_at "evo") (by walk_at "evo") (by show 0 ≤ y ∧ y < ((addTo (nearTo n.toNat ts m) x y).length : Int); rw [l1, k.len]; omega) (by show (gt (addTo (nearTo n.toNat ts m) x y) y).length < 100000; rw [g2]; omega) ?_
      exact gon_fall (gon_to (fun _ _ z => z) (by walk_at "le") (by rw [e1]; unfold nearStep; rw [if_pos hin]; rfl))
    · exact gon_fall (gon_to (fun _ _ z => z) (by walk_at "le") (by rw [e1]; unfold nearStep; rw [if_neg (fun z => z hin)]))
  · obtain ⟨k, nd⟩ := nearTo_kept hts' ts.length (Nat.le_refl _)
    refine gon_freeze (by walk_at "noown") (by simp) ?_
    exact go_retI (Evl.x (evl_lcM (xs := nearTo n.toNat ts ts.length) srt (by walk_at "evo") (by rw [k.len]; omega) (by decide) (fun row _ => Evl.x (evl_srt (by walk_at "evo"))))) (near_end hts') hret
end
end Gn
namespace Gn
abbrev s__rows_of : Stmt := top 12
abbrev n__rows_of : List Str := ["many", "ties", "rows", "one", "other", "point", "row"]
abbrev p__rows_of : List Str := ["many", "ties"]
theorem sc__rows_of : FnScope n__rows_of p__rows_of (defScope s__rows_of) := ⟨rfl, rfl, rfl, by decide +kernel, rfl, by decide +kernel, by decide +kernel⟩

abbrev s_web_of : Stmt := top 9
abbrev n_web_of : List Str := ["many", "ties", "one", "other"]
abbrev p_web_of : List Str := ["many", "ties"]
theorem sc_web_of : FnScope n_web_of p_web_of (defScope s_web_of) := ⟨rfl, rfl, rfl, by decide +kernel, rfl, by decide +kernel, by decide +kernel⟩

abbrev s_Web___init__ : Stmt := inClass (top 8) 0
abbrev n_Web___init__ : List Str := ["self", "many", "ties"]
abbrev p_Web___init__ : List Str := ["self", "many", "ties"]
theorem sc_Web___init__ : FnScope n_Web___init__ p_Web___init__ (defScope s_Web___init__) := ⟨rfl, rfl, rfl, by decide +kernel, rfl, by decide +kernel, by decide +kernel⟩

abbrev s_Web_beside : Stmt := inClass (top 8) 1
abbrev n_Web_beside : List Str := ["self", "point"]
abbrev p_Web_beside : List Str := ["self", "point"]
theorem sc_Web_beside : FnScope n_Web_beside p_Web_beside (defScope s_Web_beside) := ⟨rfl, rfl, rfl, by decide +kernel, rfl, by decide +kernel, by decide +kernel⟩

abbrev s_Web_tied : Stmt := inClass (top 8) 2
abbrev n_Web_tied : List Str := ["self", "one", "other"]
abbrev p_Web_tied : List Str := ["self", "one", "other"]
theorem sc_Web_tied : FnScope n_Web_tied p_Web_tied (defScope s_Web_tied) := ⟨rfl, rfl, rfl, by decide +kernel, rfl, by decide +kernel, by decide +kernel⟩

abbrev s_Web_ties : Stmt := inClass (top 8) 3
abbrev n_Web_ties : List Str := ["self", "low", "high"]
abbrev p_Web_ties : List Str := ["self"]
theorem sc_Web_ties : FnScope n_Web_ties p_Web_ties (defScope s_Web_ties) := ⟨rfl, rfl, rfl, by decide +kernel, rfl, by decide +kernel, by decide +kernel⟩

abbrev s_Web__need : Stmt := inClass (top 8) 4
abbrev n_Web__need : List Str := ["self", "point"]
abbrev p_Web__need : List Str := ["self", "point"]
theorem sc_Web__need : FnScope n_Web__need p_Web__need (defScope s_Web__need) := ⟨rfl, rfl, rfl, by decide +kernel, rfl, by decide +kernel, by decide +kernel⟩

section
variable {P : Program} {w : World} {K : PySem.W.Frag} {mg : Str → Option Value} {base : Heap}
abbrev C_rows_of (P : Program) (w : World) (K : PySem.W.Frag) (mg : Str → Option Value) (base : Heap) : Prop := Cl P w K mg base CX0 1 "_rows_of" p__rows_of (spf2 K PreW (fun n ts => nbrs n.toNat ts))
theorem ok__rows_of {f : Addr} {fd : FuncData} (T : Gb mg) (F : Fun K "_rows_of" "_rows_of" s__rows_of f fd) :
    FnOk P w K mg base CX0 1 f fd p__rows_of (spf2 K PreW (fun n ts => nbrs n.toNat ts)) := by
  refine deff2 F sc__rows_of rfl [.un, .un, .un, .un, .un] rfl (fun cdv A outer s H Q E hr => ⟨_, (pss_cons (ps_setLc (i := 2) (own := [("point", 5)]) rfl sc__rows_of.nd rfl rfl (sw_true rfl rfl rfl (by decide +kernel)) (pi_range1 rfl T.range (pa_cons (pv 0) pa_nil)) (blkOk_by (N := n__rows_of) (sc := defScope s__rows_of) (own := [("point", 5)]) (by decide +kernel)) (fun _ _ _ _ _ => (pg_name (i := 5) sc__rows_of.nd rfl (.inl rfl))) (fun _ _ _ _ _ => pts_nil) (fun _ _ _ _ _ => (pe_lst pa_nil)))
 (pss_cons (ps_for PassesOwn.never rfl (pi_listK K (hl := (pv 1))) (pg_tupK K (hc := rfl) (n := 2) (h := (pgs_cons (pg_name (i := 3) sc__rows_of.nd rfl (.inl rfl)) (pgs_cons (pg_name (i := 4) sc__rows_of.nd rfl (.inl rfl)) pgs_nil))))
 (pss_cons (ps_expr (pe_bmK K (pa := PySem.F.plainAttrs_list) (slot := PySem.F.slot_list_append) (hty := PySem.F.type_list_append) (hm := mt_append) (ho := (pe_ix (ix_listK K) (pv 2) (pv 3) (fun _ _ => rfl))) (ha := (pa_cons (pv 4) pa_nil))))
 (pss_cons (ps_expr (pe_bmK K (pa := PySem.F.plainAttrs_list) (slot := PySem.F.slot_list_append) (hty := PySem.F.type_list_append) (hm := mt_append) (ho := (pe_ix (ix_listK K) (pv 2) (pv 4) (fun _ _ => rfl))) (ha := (pa_cons (pv 3) pa_nil))))
 pss_nil)))
 (pss_cons (ps_ret (pe_lc (own := [("row", 6)]) rfl sc__rows_of.nd (pi_listK K (hl := (pv 2))) (blkOk_by (N := n__rows_of) (sc := defScope s__rows_of) (own := [("row", 6)]) (by decide +kernel)) (fun _ _ _ _ _ => (pg_name (i := 6) sc__rows_of.nd rfl (.inl rfl))) (fun _ _ _ _ _ => pts_nil) (fun _ _ _ _ _ => (pe_sortsetK K (w := w) (hw := rfl) (hc := rfl) (hg := rfl) (hm := T.sorted) (hg2 := rfl) (hm2 := T.set) (ha := (pv 6))))))
 pss_nil))), fun n ts hp W D hK hn hret => ?_⟩)
  subst hK
  obtain ⟨hp, hts, hlen⟩ := hp
  have en : ((n.toNat : Nat) : Int) = n := by omega
  have hts' : TiesOk ((n.toNat : Nat) : Int) ts := by rw [en]; exact hts
  refine gon_init (n := n) (by walk_at "noown") (by walk_at "evo") (by omega) (by decide) (by simp) ?_
  dsimp only [List.set]
  refine gon_forP (xs := ts) (by decide) (by walk_at "evo") [.dat pyInt n, .dat (pyList (ip := pyPair (ip := pyInt) (iq := pyInt))) ts, .un, .un, .un, .un, .un] (bothTo n.toNat ts) (by walk_at "le") (by rfl) (fun m x y G hxy hG => ?_) ?_
  · have hm := (List.getElem?_eq_some_iff.mp hxy).1
    have k := both_kept hts' m (by omega)
    have ok := hts _ (List.mem_of_getElem? hxy)
    dsimp only at ok
    have e1 : bothTo n.toNat ts (m + 1) = bothStep (bothTo n.toNat ts m) (x, y) := foldl_take hxy
    have l1 := addTo_len (bothTo n.toNat ts m) x y
    have s1 := k.sml x (by omega)
    have s2 := k.sml y (by omega)
    have g2 : gt (addTo (bothTo n.toNat ts m) x y) y = gt (bothTo n.toNat ts m) y := by
      rw [gt_addTo (by rw [k.len]; omega) (by rw [k.len]; omega), if_neg ok.2.2.2.2]
    dsimp only [List.set]
    refine gon_app (a := x) (x := y) (by walk_at "noown") (by walk_at "evo") (by walk_at "evo") (by rw [k.len]; omega) (by omega) ?_
    refine gon_app (a := y) (x := x) (by walk_at "noown") (by walk_at "evo") (by walk_at "evo") (by show 0 ≤ y ∧ y < ((addTo (bothTo n.toNat ts m) x y).length : Int); rw [l1, k.len]; omega) (by show (gt (addTo (bothTo n.toNat ts m) x y) y).length < 100000; rw [g2]; omega) ?_
    exact gon_to (fun _ _ z => z) (by walk_at "le") (by rw [e1]; rfl)
  · have k := both_kept hts' ts.length (Nat.le_refl _)
    obtain ⟨b1, b2⟩ := both_end (by omega) hts'
    refine gon_freeze (by walk_at "noown") (by simp) ?_
    exact go_retF (evf_lcM (xs := bothTo n.toNat ts ts.length) rise (by walk_at "evo") (by rw [k.len]; omega) (by decide) (fun row hrow => (evl_sortset (by walk_at "evo") (by have := (b2 row hrow).1; omega) (b2 row hrow).2))) b1 hret
end
end Gn
namespace Gn
section
variable {P : Program} {w : World} {K : PySem.W.Frag} {mg : Str → Option Value} {base : Heap} {C_Web C_NoPoint C_BadWeb : Addr}
abbrev M_need (P : Program) (w : World) (K : PySem.W.Frag) (mg : Str → Option Value) (base : Heap) (C N : Addr) : Prop := Mt P w K mg base (L2N.CX P w) 1 C "_need" p_Web__need (sx2 K (fun (_ : WebD) (_ : Int) => True) noPt N (fun _ _ => ()))
abbrev M_beside (P : Program) (w : World) (K : PySem.W.Frag) (mg : Str → Option Value) (base : Heap) (C N : Addr) : Prop := Mt P w K mg base (L2N.CX P w) 2 C "beside" p_Web_beside (sxl2 K (fun (p : WebD) (_ : Int) => WebOk p) noPt N (fun p a => gt p.rows a))
abbrev badTied (p : WebD) (a b : Int) : Bool := noPt p a || noPt p b
abbrev M_tied (P : Program) (w : World) (K : PySem.W.Frag) (mg : Str → Option Value) (base : Heap) (C N : Addr) : Prop := Mt P w K mg base (L2N.CX P w) 2 C "tied" p_Web_tied (sx3 K (fun (p : WebD) (_ _ : Int) => WebOk p) badTied N (fun p a b => decide (b ∈ gt p.rows a)))
abbrev M_ties (P : Program) (w : World) (K : PySem.W.Frag) (mg : Str → Option Value) (base : Heap) (C : Addr) : Prop := Mt P w K mg base CX0 1 C "ties" p_Web_ties (sl1 K WebOk pairsUp)
theorem ok_Web__need {f : Addr} {fd : FuncData} (T : Gb mg) (wk : WebK K C_Web) (XC_NoPoint : Ec K mg "NoPoint" C_NoPoint) (F : Fun K "_need" "Web._need" s_Web__need f fd) :
    FnOk P w K mg base (L2N.CX P w) 1 f fd p_Web__need (sx2 K (fun (_ : WebD) (_ : Int) => True) noPt C_NoPoint (fun _ _ => ())) := by
  refine defx2 F sc_Web__need rfl [] rfl (fun cdv A outer s H Q E hr => ⟨_, (pss_cons (ps_if (pt_not (pt_chain op_le op_lt pe_int (pv 1) (pe_fldK K (he := (pv 0)) (hb := rfl))))
 (pss_cons (L2N.ps_raise rfl (L2N.takes_of rfl rfl rfl rfl) (XC_NoPoint.made rfl))
 pss_nil)
 pss_nil)
 pss_nil), fun p a hp W D hK hn hret hbad => ?_⟩)
  subst hK
  refine go_ifr (noPt p a = true) (b := noPt p a) (evt_not (evt_test (evx_chain evx_int (evx_var rfl) (fun _ => evx_many wk.c wk.cls wk.nm (evx_var rfl))))) (by simp) (fun h => ?_) (fun h => ?_)
  · exact go_raise (fun σ R Q h => h) (hbad h)
  · exact go_none hn (hret (by simpa using h))
theorem ok_Web_beside {f : Addr} {fd : FuncData} (T : Gb mg) (wk : WebK K C_Web) (c_Web__need : M_need P w K mg base C_Web C_NoPoint) (F : Fun K "beside" "Web.beside" s_Web_beside f fd) :
    FnOk P w K mg base (L2N.CX P w) 2 f fd p_Web_beside (sxl2 K (fun (p : WebD) (_ : Int) => WebOk p) noPt C_NoPoint (fun p a => gt p.rows a)) := by
  refine deflx2 F sc_Web_beside rfl [] rfl (fun cdv A outer s H Q E hr => ⟨_, (pss_cons (ps_expr (pe_mtcS c_Web__need hr (pv 0) (L2N.takes_of rfl rfl rfl rfl) (pa_cons (pv 1) pa_nil)))
 (pss_cons (ps_ret (pe_callTy (call_list_ofK K) rfl T.list (by decide +kernel) (pa_cons (pe_ix (ix_listK K) (pe_fldK K (he := (pv 0)) (hb := rfl)) (pv 1) (fun _ _ => rfl)) pa_nil)))
 pss_nil)), fun p a hp W D hK hn hret hbad => ?_⟩)
  subst hK
  refine go_dropz (evz_wm2 wk.c (webF_no (by decide +kernel) (by decide +kernel)) (evx_var rfl) (evx_var rfl) trivial) (fun hb => nx_const (hbad hb)) (fun hb => ?_)
  have h2 := noPt_no hb
  have h3 := hp.2.1
  exact go_retL (evl_listof (evx_op (evx_rows wk.c wk.cls wk.nr (evx_var rfl)) (evx_var rfl) (rv_ixL (by omega)))) rfl (hret hb)
theorem ok_Web_tied {f : Addr} {fd : FuncData} (T : Gb mg) (wk : WebK K C_Web) (c_Web__need : M_need P w K mg base C_Web C_NoPoint) (F : Fun K "tied" "Web.tied" s_Web_tied f fd) :
    FnOk P w K mg base (L2N.CX P w) 2 f fd p_Web_tied (sx3 K (fun (p : WebD) (_ _ : Int) => WebOk p) badTied C_NoPoint (fun p a b => decide (b ∈ gt p.rows a))) := by
  refine defx3 F sc_Web_tied rfl [] rfl (fun cdv A outer s H Q E hr => ⟨_, (pss_cons (ps_expr (pe_mtcS c_Web__need hr (pv 0) (L2N.takes_of rfl rfl rfl rfl) (pa_cons (pv 1) pa_nil)))
 (pss_cons (ps_expr (pe_mtcS c_Web__need hr (pv 0) (L2N.takes_of rfl rfl rfl rfl) (pa_cons (pv 2) pa_nil)))
 (pss_cons (ps_ret (pe_cmpR (op_in_seqK K) (pv 2) (pe_ix (ix_listK K) (pe_fldK K (he := (pv 0)) (hb := rfl)) (pv 1) (fun _ _ => rfl)) rfl))
 pss_nil))), fun p a b hp W D hK hn hret hbad => ?_⟩)
  subst hK
  refine go_dropz (evz_wm2 wk.c (webF_no (by decide +kernel) (by decide +kernel)) (evx_var rfl) (evx_var rfl) trivial) (fun hb => nx_const (hbad (by unfold badTied; rw [hb]; rfl))) (fun hb => ?_)
  refine go_dropz (evz_wm2 wk.c (webF_no (by decide +kernel) (by decide +kernel)) (evx_var rfl) (evx_var rfl) trivial) (fun hb2 => nx_const (hbad (by unfold badTied; rw [hb, hb2]; rfl))) (fun hb2 => ?_)
  have h2 := noPt_no hb
  have h3 := hp.2.1
  exact go_retI (evx_op (evx_var rfl) (evx_op (evx_rows wk.c wk.cls wk.nr (evx_var rfl)) (evx_var rfl) (rv_ixL (by omega))) rv_in) rfl (hret (by unfold badTied; rw [hb, hb2]; rfl))
theorem ok_Web_ties {f : Addr} {fd : FuncData} (T : Gb mg) (wk : WebK K C_Web) (F : Fun K "ties" "Web.ties" s_Web_ties f fd) :
    FnOk P w K mg base CX0 1 f fd p_Web_ties (sl1 K WebOk pairsUp) := by
  refine defl1 F sc_Web_ties rfl [.un, .un] rfl (fun cdv A outer s H Q E hr => ⟨_, (pss_cons (ps_ret (pe_lc2 (own := [("low", 1), ("high", 2)]) (vs1 := [2]) rfl sc_Web_ties.nd (pi_range1 rfl T.range (pa_cons (pe_fldK K (he := (pv 0)) (hb := rfl)) pa_nil)) (blkOk_by (N := n_Web_ties) (sc := defScope s_Web_ties) (own := [("low", 1), ("high", 2)]) (by decide +kernel)) (by decide) (fun _ _ _ _ _ => (pg_name (i := 1) sc_Web_ties.nd rfl (.inl rfl))) (fun _ _ _ _ _ => pts_nil) (fun _ _ _ _ _ => (pi_listK K (hl := (pe_ix (ix_listK K) (pe_fldK K (he := (pv 0)) (hb := rfl)) (pv 1) (fun _ _ => rfl))))) (fun _ _ _ _ _ => (pg_name (i := 2) sc_Web_ties.nd rfl (.inl rfl))) (fun _ _ _ _ _ => (pts_one (pt_cmpR op_lt (pv 1) (pv 2) (nomark _)))) (fun _ _ _ _ _ => (pe_tup (pa_cons (pv 1) (pa_cons (pv 2) pa_nil))))))
 pss_nil), fun p hp W D hK hn hret => ?_⟩)
  subst hK
  have h3 := hp.2.1
  have h4 := hp.1
  have hl : ∀ k : Nat, (k : Int) < (p.n : Int) → (gt p.rows (k : Int)).length ≤ 60 := fun k hk => gt_len hp _ (by omega)
  refine go_retL (xs := pairsUp p) ?_ rfl hret
  refine evl_lc2RL (n := (p.n : Int)) (fun k => gt p.rows (k : Int)) (fun k x => decide ((k : Int) < x)) (fun k x => ((k : Int), x)) (evx_many wk.c wk.cls wk.nm (evx_var rfl)) (by omega) (by decide) (by decide) (fun i hi => ?_) (fun k hk => ?_) (fun k hk => ?_) (fun k x hk hx => ?_) (fun k x hk hx hf => ?_)
  · have := flat2_len (row := fun k => ((gt p.rows (k : Int)).filter (fun x => decide ((k : Int) < x))).map fun x => ((k : Int), x)) (m := 60) (i := i) fun k hk => by
      have h5 := hl k (by omega)
      have h6 := List.length_filter_le (fun x => decide ((k : Int) < x)) (gt p.rows (k : Int))
      show (List.map _ (List.filter _ _)).length ≤ 60
      rw [List.length_map]
      omega
    omega
  · have := hl k hk
    show (gt p.rows (k : Int)).length ≤ 40000
    omega
  · exact evx_op (evx_rows wk.c wk.cls wk.nr (evx_var rfl)) (evx_var rfl) (rv_ixL (by omega))
  · exact evt_test (evx_op (evx_var rfl) (evx_var rfl) rv_b0)
  · exact evx_tup2 (evx_var rfl) (evx_var rfl)
abbrev Mk_Web (P : Program) (w : World) (K : PySem.W.Frag) (mg : Str → Option Value) (base : Heap) (C : Addr) : Prop := Mc P w K mg base CX0 2 "Web" C p_Web___init__ (spInit K C)
theorem ok_Web_init {f : Addr} {fd : FuncData} (T : Gb mg) (wk : WebK K C_Web) (c__rows_of : C_rows_of P w K mg base) (F : Fun K "__init__" "Web.__init__" s_Web___init__ f fd) :
    FnOk P w K mg base CX0 2 f fd p_Web___init__ (spInit K C_Web) := by
  refine F.ok sc_Web___init__ (fun vs H Q E h => ?_) (fun cdv A outer s R vs Q E hr h => ?_)
  · obtain ⟨_, _, _, _, _, _, _, rfl, _⟩ := h
    rfl
  · obtain ⟨x, dx, n, ts, v, H, R0, rfl, hts, hp, g0, e0, x0, hx, q⟩ := h
    refine ⟨_, (pss_cons (ps_fldK K (ha := (pv 0)) (hv := (pv 1)) (hs := rfl))
 (pss_cons (ps_fldK K (ha := (pv 0)) (hv := (pe_cl c__rows_of hr rfl pass0 (pa_cons (pv 1) (pa_cons (pv 2) pa_nil)))) (hs := rfl))
 pss_nil)), ?_⟩
    have xH : H x = none := by
      cases z : H x with
      | none => rfl
      | some o =>
        exact absurd x0 (e0 x o z).some
    have st : ∀ {R' : Hp}, Env K R0 H R' (L2.start n_Web___init__ [.ref x, .int n, v]) [.dat pyErr ⟨x⟩, .dat pyInt n, .dat (pyList (ip := pyPair (α := Int) (β := Int))) ts] := fun {R'} =>
      Env.start (Are.cons (s := Slot.dat pyErr (⟨x⟩ : ErrV)) rfl (Are.cons (s := Slot.dat pyInt n) rfl (Are.cons (s := Slot.dat (pyList (ip := pyPair (α := Int) (β := Int))) ts) hts Are.nil))) rfl
    refine ⟨.int n, rfl, .ref x, rfl, x, C_Web, dx, [], rfl, hx, wk.cls, wk.nm, by decide, ?_⟩
    have g1 := g0.mut (o := HO.ins C_Web dx (putF "many" (.int n) [])) xH x0
    have noO : NoOwn [.dat pyErr ⟨x⟩, .dat pyInt n, .dat (pyList (ip := pyPair (α := Int) (β := Int))) ts] := by walk_at "noown"
    refine (show Evf K _ _ (nbrs n.toNat ts) from evf_call2 (pre := PreW) (f := fun (n : Int) ts => nbrs n.toNat ts) (evx_var (i := 1) rfl) (evx_var (i := 2) rfl) hp) _ R0 H _ g1.inn st _ fun u H2 R2 g2 r2 => ?_
    have hx2 := g2.keep x _ upd_same
    have xH2 : H2 x = none := g2.new x xH (by rw [upd_same]; intro z; cases z)
    obtain ⟨r, rs, rfl, hr1, hr2⟩ := id r2
    refine ⟨.ref x, rfl, x, C_Web, dx, _, rfl, hx2, wk.cls, wk.nr, (show (1 : Nat) < 1000 from by decide), ?_⟩
    refine q r H2 _ ((g1.trans g2).mut xH2 x0) xH2 ?_ ((pyList (ip := pyList (ip := pyInt))).mono (newp_old g1.keep) r2)
    rw [upd_same]
    unfold webF
    have en : ((n.toNat : Nat) : Int) = n := by have := hp.1; omega
    rw [en]
end
end Gn
namespace Gn
theorem dec_tt (b : Bool) : b = decide (b = true) := by cases b <;> rfl
def badTie (n : Int) (t : Int × Int) : Bool := !(decide (0 ≤ (if t.2 < t.1 then t.2 else t.1)) && decide ((if t.2 < t.1 then t.2 else t.1) < (if t.2 > t.1 then t.2 else t.1)) && decide ((if t.2 > t.1 then t.2 else t.1) < n))
def badWeb (n : Int) (ts : List (Int × Int)) : Bool := !(decide (0 ≤ n) && decide (n ≤ 60)) || ts.any (badTie n)
theorem badTie_no {n : Int} {t : Int × Int} (h : badTie n t = false) : 0 ≤ t.1 ∧ t.1 < n ∧ 0 ≤ t.2 ∧ t.2 < n ∧ t.1 ≠ t.2 := by
  unfold badTie at h
  simp only [Bool.not_eq_false', Bool.and_eq_true, decide_eq_true_eq] at h
  obtain ⟨⟨h1, h2⟩, h3⟩ := h
  by_cases a : t.2 < t.1
  · rw [if_pos a] at h1 h2
    rw [if_neg (by omega)] at h2 h3
    omega
  · rw [if_neg a] at h1 h2
    by_cases b : t.2 > t.1
    · rw [if_pos b] at h2 h3
      omega
    · rw [if_neg b] at h2 h3
      omega
theorem badTie_yes {n : Int} {t : Int × Int} (h : ¬ (0 ≤ t.1 ∧ t.1 < n ∧ 0 ≤ t.2 ∧ t.2 < n ∧ t.1 ≠ t.2)) : badTie n t = true := by
  cases q : badTie n t with
  | true => rfl
  | false => exact absurd (badTie_no q) h
theorem badTie_ok {n : Int} {t : Int × Int} (h : 0 ≤ t.1 ∧ t.1 < n ∧ 0 ≤ t.2 ∧ t.2 < n ∧ t.1 ≠ t.2) : badTie n t = false := by
  unfold badTie
  simp only [Bool.not_eq_false', Bool.and_eq_true, decide_eq_true_eq]
  by_cases a : t.2 < t.1
  · rw [if_pos a, if_neg (by omega)]
    omega
  · rw [if_neg a, if_pos (by omega)]
    omega
theorem badWeb_no {n : Int} {ts : List (Int × Int)} (h : badWeb n ts = false) : (0 ≤ n ∧ n ≤ 60) ∧ TiesOk n ts := by
  unfold badWeb at h
  rw [Bool.or_eq_false_iff] at h
  refine ⟨by simpa using h.1, fun t ht => badTie_no ?_⟩
  have := List.any_eq_false.mp h.2 t ht
  simpa using this
theorem badWeb_ok {n : Int} {ts : List (Int × Int)} (h : 0 ≤ n ∧ n ≤ 60) (g : TiesOk n ts) : badWeb n ts = false := by
  unfold badWeb
  rw [Bool.or_eq_false_iff]
  refine ⟨by simpa using h, List.any_eq_false.mpr fun t ht => ?_⟩
  rw [badTie_ok (g t ht)]
  decide
section
variable {P : Program} {w : World} {K : PySem.W.Frag} {mg : Str → Option Value} {base : Heap} {C_Web C_NoPoint C_BadWeb : Addr}
abbrev webAt (n : Int) (ts : List (Int × Int)) : WebD := ⟨n.toNat, nbrs n.toNat ts⟩
abbrev spWeb (K : PySem.W.Frag) (C : Addr) : Sp := sxf2 K (fun (_ : Int) (ts : List (Int × Int)) => ts.length ≤ 4000) badWeb C webAt
abbrev C_web_of (P : Program) (w : World) (K : PySem.W.Frag) (mg : Str → Option Value) (base : Heap) (C : Addr) : Prop := Cl P w K mg base (L2N.CX P w) 4 "web_of" p_web_of (spWeb K C)
theorem ok_web_of {f : Addr} {fd : FuncData} (T : Gb mg) (g_MOST : ∃ t, mg "MOST" = some (.int 60 t)) (wk : WebK K C_Web) (XC_BadWeb : Ec K mg "BadWeb" C_BadWeb) (c_Web : Mk_Web P w K mg base C_Web) (F : Fun K "web_of" "web_of" s_web_of f fd) :
    FnOk P w K mg base (L2N.CX P w) 4 f fd p_web_of (spWeb K C_BadWeb) := by
  refine deffx2 F sc_web_of rfl [.un, .un] rfl (fun cdv A outer s H Q E hr => ⟨_, (pss_cons (ps_if (pt_not (pt_chain op_le op_le pe_int (pv 0) (pe_gint g_MOST rfl)))
 (pss_cons (L2N.ps_raise rfl (L2N.takes_of rfl rfl rfl rfl) (XC_BadWeb.made1 rfl (pe_joined (.cons pe_str (.cons (pe_fmt (pe_gint g_MOST rfl)) (.cons pe_str .nil))))))
 pss_nil)
 pss_nil)
 (pss_cons (ps_for (passes_of rfl) rfl (pi_listK K (hl := (pv 1))) (pg_tupK K (hc := rfl) (n := 2) (h := (pgs_cons (pg_name (i := 2) sc_web_of.nd rfl (.inl rfl)) (pgs_cons (pg_name (i := 3) sc_web_of.nd rfl (.inl rfl)) pgs_nil))))
 (pss_cons (ps_if (pt_not (pt_chain3 op_le op_lt op_lt pe_int (pe_callB (call_min2 rfl) rfl T.min (by decide +kernel) (pa_cons (pv 2) (pa_cons (pv 3) pa_nil))) (pe_callB (call_max2 rfl) rfl T.max (by decide +kernel) (pa_cons (pv 2) (pa_cons (pv 3) pa_nil))) (pv 0)))
 (pss_cons (L2N.ps_raise rfl (L2N.takes_of rfl rfl rfl rfl) (XC_BadWeb.made rfl))
 pss_nil)
 pss_nil)
 pss_nil))
 (pss_cons (ps_ret (pe_mkc c_Web hr rfl pass0 (pa_cons (pv 0) (pa_cons (pv 1) pa_nil))))
 pss_nil))), fun n ts hp W D hK hn hret hbad => ?_⟩)
  subst hK
  refine go_ifr ((!(decide (0 ≤ n) && decide (n ≤ 60))) = true) (b := !(decide (0 ≤ n) && decide (n ≤ 60))) (evt_not (evt_test (evx_chain evx_int (evx_var rfl) (fun _ => evx_int)))) (dec_tt _) (fun h => ?_) (fun h => ?_)
  · refine go_raise1 (evx_js (.cons evx_str (.cons (evx_fmtI evx_int (by decide)) (.cons evx_str .nil))) (fun m hm => ?_)) (hbad (by unfold badWeb; rw [h]; rfl))
    rcases m with _ | _ | _ | _ | m
    · decide +kernel
    · decide +kernel
    · decide +kernel
    · decide +kernel
    · simp at hm
  have h' : (!(decide (0 ≤ n) && decide (n ≤ 60))) = false := by simpa using h
  refine go_forPI (xs := ts) (fun i => (ts.take i).any (badTie n) = false) (by rfl) (by walk_at "evo") (fun _ => [.dat pyInt n, .dat (pyList (ip := pyPair (ip := pyInt) (iq := pyInt))) ts, .un, .un]) (by walk_at "le") (fun i x y G hxy hI hG => ?_) (fun hI => ?_)
  · refine go_ifr (badTie n (x, y) = true) (b := badTie n (x, y)) (evt_not (evt_test (evx_chain3 evx_int (evx_min2 (evx_var rfl) (evx_var rfl)) (fun _ => evx_max2 (evx_var rfl) (evx_var rfl)) (evx_var rfl)))) (by simp) (fun hb => ?_) (fun hb => ?_)
    · refine go_raise (fun σ R Q h => h) (hbad ?_)
      unfold badWeb
      rw [Bool.or_eq_true, List.any_eq_true]
      exact .inr ⟨(x, y), List.mem_of_getElem? hxy, hb⟩
    · refine go_end (nx_atI ?_) (by walk_at "le")
      rw [take_snoc hxy, List.any_append, hI]
      simpa using hb
  · rw [List.take_length] at hI
    have hw : badWeb n ts = false := by
      unfold badWeb
      rw [h', hI]
      rfl
    have ok := badWeb_no hw
    exact go_retF (evf_mkWeb wk.c (evx_var rfl) (evx_var rfl) ⟨ok.1, ok.2, hp⟩) rfl (hret hw)
end
end Gn
namespace Gn
abbrev s__law_whole : Stmt := top 40
abbrev n__law_whole : List Str := ["_law_found"]
abbrev p__law_whole : List Str := ["_law_found"]
theorem sc__law_whole : FnScope n__law_whole p__law_whole (defScope s__law_whole) := ⟨rfl, rfl, rfl, by decide +kernel, rfl, by decide +kernel, by decide +kernel⟩

abbrev s__law_numbers : Stmt := top 41
abbrev n__law_numbers : List Str := ["_law_found", "_law_due", "_law_k"]
abbrev p__law_numbers : List Str := ["_law_found", "_law_due"]
theorem sc__law_numbers : FnScope n__law_numbers p__law_numbers (defScope s__law_numbers) := ⟨rfl, rfl, rfl, by decide +kernel, rfl, by decide +kernel, by decide +kernel⟩

section
variable {P : Program} {w : World} {K : PySem.W.Frag} {mg : Str → Option Value} {base : Heap} {C_Web C_NoPoint C_BadWeb C_WebError C_BadText C_BadOrder C_HasGap : Addr}
abbrev C_whole (P : Program) (w : World) (K : PySem.W.Frag) (mg : Str → Option Value) (base : Heap) : Prop := Cl P w K mg base CX0 1 "_law_whole" p__law_whole (sp1 K (fun (_ : Int) => True) (fun _ => true))
abbrev C_numbers (P : Program) (w : World) (K : PySem.W.Frag) (mg : Str → Option Value) (base : Heap) : Prop := Cl P w K mg base CX0 2 "_law_numbers" p__law_numbers (sp2 K (fun (a b : List Int) => a = b ∧ a.length ≤ 5000) (fun _ _ => true))
theorem ok__law_whole {f : Addr} {fd : FuncData} (T : Gb mg) (F : Fun K "_law_whole" "_law_whole" s__law_whole f fd) : FnOk P w K mg base CX0 1 f fd p__law_whole (sp1 K (fun (_ : Int) => True) (fun _ => true)) := by
  refine def1 F sc__law_whole rfl [] rfl (fun cdv A outer s H Q E hr => ⟨_, (pss_cons (ps_ret (pe_and (pe_callB (call_isiKn K) rfl T.isinstance (by decide +kernel) (pa_cons (pv 0) (pa_cons (pe_bltn (v := .ty "int") rfl T.int (by decide +kernel) rfl) pa_nil))) (pe_one (pe_not (pe_callB (call_isiKn K) rfl T.isinstance (by decide +kernel) (pa_cons (pv 0) (pa_cons (pe_bltn (v := .ty "bool") rfl T.bool (by decide +kernel) rfl) pa_nil)))))))
 pss_nil), fun x hp W D hK hn hret => ?_⟩)
  subst hK
  exact go_retI (evx_andV (evx_isk (evx_var rfl) inferInstance k_ii) (fun _ => evx_notV (evx_isk (evx_var rfl) inferInstance k_ib))) rfl hret
theorem ok__law_numbers {f : Addr} {fd : FuncData} (T : Gb mg) (c__law_whole : C_whole P w K mg base) (F : Fun K "_law_numbers" "_law_numbers" s__law_numbers f fd) : FnOk P w K mg base CX0 2 f fd p__law_numbers (sp2 K (fun (a b : List Int) => a = b ∧ a.length ≤ 5000) (fun _ _ => true)) := by
  refine def2 F sc__law_numbers rfl [.un] rfl (fun cdv A outer s H Q E hr => ⟨_, (pss_cons (ps_if (PW.pt (pw_or (pt_not (pt_val (pe_callB (call_isiKn K) rfl T.isinstance (by decide +kernel) (pa_cons (pv 0) (pa_cons (pe_bltn (v := .ty "list") rfl T.list (by decide +kernel) rfl) pa_nil))))) (pw_or1 (pt_cmpR op_ne (pe_callB (call_len_seqK K) rfl T.len PySem.boot_len (pa_cons (pv 0) pa_nil)) (pe_callB (call_len_seqK K) rfl T.len PySem.boot_len (pa_cons (pv 1) pa_nil)) (nomark _)))))
 (pss_cons (ps_ret pe_bl)
 pss_nil)
 pss_nil)
 (pss_cons (ps_for PassesOwn.never rfl (pi_range1 rfl T.range (pa_cons (pe_callB (call_len_seqK K) rfl T.len PySem.boot_len (pa_cons (pv 1) pa_nil)) pa_nil)) (pg_name (i := 2) sc__law_numbers.nd rfl (.inl rfl))
 (pss_cons (ps_if (PW.pt (pw_or (pt_not (pt_val (pe_cl c__law_whole hr rfl pass0 (pa_cons (pe_ix (ix_listK K) (pv 0) (pv 2) (fun _ _ => rfl)) pa_nil)))) (pw_or1 (pt_cmpR op_ne (pe_ix (ix_listK K) (pv 0) (pv 2) (fun _ _ => rfl)) (pe_ix (ix_listK K) (pv 1) (pv 2) (fun _ _ => rfl)) (nomark _)))))
 (pss_cons (ps_ret pe_bl)
 pss_nil)
 pss_nil)
 pss_nil))
 (pss_cons (ps_ret pe_bl)
 pss_nil))), fun a b hp W D hK hn hret => ?_⟩)
  subst hK
  obtain ⟨rfl, hl⟩ := hp
  refine go_skip (by walk_at "evo") (by simp) ?_
  refine go_forR (n := (a.length : Int)) (by walk_at "evo") (by omega) (fun _ => [.dat (pyList (ip := pyInt)) a, .dat (pyList (ip := pyInt)) a, .un]) (by walk_at "le") (fun i G hi hG => ?_) ?_
  · refine go_skip (by walk_at "evo") (by simp) ?_
    exact go_end nx_at (by walk_at "le")
  · exact go_retI (by walk_at "evo") rfl hret
end
end Gn
namespace Gn
abbrev s__fits : Stmt := top 33
abbrev n__fits : List Str := ["web", "crowd", "point", "member"]
abbrev p__fits : List Str := ["web", "crowd", "point"]
theorem sc__fits : FnScope n__fits p__fits (defScope s__fits) := ⟨rfl, rfl, rfl, by decide +kernel, rfl, by decide +kernel, by decide +kernel⟩

abbrev s__could_grow : Stmt := top 32
abbrev n__could_grow : List Str := ["web", "crowd", "point"]
abbrev p__could_grow : List Str := ["web", "crowd"]
theorem sc__could_grow : FnScope n__could_grow p__could_grow (defScope s__could_grow) := ⟨rfl, rfl, rfl, by decide +kernel, rfl, by decide +kernel, by decide +kernel⟩

section
variable {P : Program} {w : World} {K : PySem.W.Frag} {mg : Str → Option Value} {base : Heap} {C_Web C_NoPoint C_BadWeb : Addr} {cF tF cG tG : Addr}
def fitsF (p : WebD) (cr : List Int) (a : Int) : Bool := cr.all fun m => decide (m ∈ gt p.rows a)
abbrev PreF (p : WebD) (cr : List Int) (a : Int) : Prop := WebOk p ∧ inr p a = true ∧ ∀ m ∈ cr, inr p m = true
abbrev spFits (K : PySem.W.Frag) (tF : Addr) : Sp := sp3 (i0 := pyT pyWeb tF) K PreF fitsF
abbrev C_fits (P : Program) (w : World) (K : PySem.W.Frag) (mg : Str → Option Value) (base : Heap) (tF : Addr) : Prop := Cl P w K mg base CX0 6 "_fits" p__fits (spFits K tF)
theorem ok__fits {f : Addr} {fd : FuncData} (T : Gb mg) (wk : WebK K C_Web) (TB : GxR.TabB base mg cF tF) (c_Web_tied : M_tied P w K mg base C_Web C_NoPoint) (F : FunC K "_fits" "_fits" s__fits f fd cF) :
    FnOk P w K mg base CX0 6 f fd p__fits (spFits K tF) := by
  refine def3C F sc__fits rfl [.un] rfl (fun A outer s H Q E hr => ⟨_, (pss_cons (ps_ret (GX.pe_allG (j := 3) hr rfl T.all TB rfl (GX.gsc_by (j := 3) rfl rfl (by decide +kernel) rfl rfl (by decide +kernel) (by rfl) rfl sc__fits.nd (by rfl)) (pi_listK K (hl := (pv 1))) (fun _ _ _ _ _ _ hrG => (pe_mtc c_Web_tied hrG (pv 0) passN (pa_cons (pv 2) (pa_cons (pv 3) pa_nil))))))
 pss_nil), fun p cr a hp W D hK hn hret => ?_⟩)
  subst hK
  obtain ⟨wok, ha, hm⟩ := hp
  refine go_retI (GX.evx_allL (i0 := 0) (f := fun m => decide (m ∈ gt p.rows a)) rfl (evx_var rfl) (fun m hmem => ?_)) rfl hret
  exact evx_wmx3 wk.c (webF_no (by decide +kernel) (by decide +kernel)) (evx_wt (evx_var rfl)) (evx_var rfl) (evx_var rfl) wok (by unfold badTied; rw [inr_pt ha, inr_pt (hm m hmem)]; rfl)
abbrev pyT2 (tF tG : Addr) : Py WebD := pyT (pyT pyWeb tF) tG
def growF (p : WebD) (cr : List Int) : Bool := (List.range p.n).any fun (k : Nat) => fitsF p cr (k : Int)
abbrev PreG (p : WebD) (cr : List Int) : Prop := WebOk p ∧ ∀ m ∈ cr, inr p m = true
abbrev spGrow (K : PySem.W.Frag) (tF tG : Addr) : Sp := sp2 (i0 := pyT2 tF tG) K PreG growF
abbrev C_grow (P : Program) (w : World) (K : PySem.W.Frag) (mg : Str → Option Value) (base : Heap) (tF tG : Addr) : Prop := Cl P w K mg base CX0 10 "_could_grow" p__could_grow (spGrow K tF tG)
theorem ok__could_grow {f : Addr} {fd : FuncData} (T : Gb mg) (wk : WebK K C_Web) (TB : GxR.TabB base mg cG tG) (c__fits : C_fits P w K mg base tF) (F : FunC K "_could_grow" "_could_grow" s__could_grow f fd cG) :
    FnOk P w K mg base CX0 10 f fd p__could_grow (spGrow K tF tG) := by
  refine def2C F sc__could_grow rfl [.un] rfl (fun A outer s H Q E hr => ⟨_, (pss_cons (ps_ret (GX.pe_anyG (j := 2) hr rfl T.any TB rfl (GX.gsc_by (j := 2) rfl rfl (by decide +kernel) rfl rfl (by decide +kernel) (by rfl) rfl sc__could_grow.nd (by rfl)) (pi_range1 rfl T.range (pa_cons (pe_fldK K (he := (pv 0)) (hb := rfl)) pa_nil)) (fun _ _ _ _ _ _ hrG => (pe_cl c__fits hrG rfl pass0 (pa_cons (pv 0) (pa_cons (pv 1) (pa_cons (pv 2) pa_nil)))))))
 pss_nil), fun p cr hp W D hK hn hret => ?_⟩)
  subst hK
  obtain ⟨wok, hm⟩ := hp
  have h60 := wok.1
  refine go_retI (GX.evx_anyR (i0 := 0) (n := (p.n : Int)) (f := fun (k : Nat) => fitsF p cr (k : Int)) rfl (evx_many wk.c wk.cls wk.nm (evx_wt (evx_wt (evx_var rfl)))) (by omega) (fun k hk => ?_)) (by rw [Int.toNat_natCast]; rfl) hret
  exact evx_call3 (f := fitsF) (evx_wt (evx_var rfl)) (evx_var rfl) (evx_var rfl) ⟨wok, inr_iff.mpr (by omega), hm⟩
end
end Gn
namespace Gn
abbrev s_is_order : Stmt := top 14
abbrev n_is_order : List Str := ["web", "order"]
abbrev p_is_order : List Str := ["web", "order"]
theorem sc_is_order : FnScope n_is_order p_is_order (defScope s_is_order) := ⟨rfl, rfl, rfl, by decide +kernel, rfl, by decide +kernel, by decide +kernel⟩

abbrev s__need_order : Stmt := top 18
abbrev n__need_order : List Str := ["web", "order"]
abbrev p__need_order : List Str := ["web", "order"]
theorem sc__need_order : FnScope n__need_order p__need_order (defScope s__need_order) := ⟨rfl, rfl, rfl, by decide +kernel, rfl, by decide +kernel, by decide +kernel⟩

abbrev s_behind : Stmt := top 15
abbrev n_behind : List Str := ["web", "order", "point", "beside", "other"]
abbrev p_behind : List Str := ["web", "order", "point"]
theorem sc_behind : FnScope n_behind p_behind (defScope s_behind) := ⟨rfl, rfl, rfl, by decide +kernel, rfl, by decide +kernel, by decide +kernel⟩

section
variable {P : Program} {w : World} {K : PySem.W.Frag} {mg : Str → Option Value} {base : Heap} {C_Web C_NoPoint C_BadWeb C_BadOrder C_HasGap : Addr}
def isOrd (p : WebD) (ord : List Int) : Bool := decide (sortI ord = rng 0 (p.n : Int))
theorem isOrd_mem {p : WebD} {ord : List Int} (h : isOrd p ord = true) {a : Int} : a ∈ ord ↔ inr p a = true := by
  have e : sortI ord = rng 0 (p.n : Int) := of_decide_eq_true h
  rw [← sortI_mem, e, rng_mem, inr_iff]
theorem isOrd_len {p : WebD} {ord : List Int} (h : isOrd p ord = true) : ord.length = p.n := by
  have e : sortI ord = rng 0 (p.n : Int) := of_decide_eq_true h
  rw [← sortI_len, e, rng_len]
  omega
abbrev C_is_order (P : Program) (w : World) (K : PySem.W.Frag) (mg : Str → Option Value) (base : Heap) : Prop := Cl P w K mg base CX0 1 "is_order" p_is_order (sp2 K (fun (p : WebD) (ord : List Int) => WebOk p) isOrd)
theorem ok_is_order {f : Addr} {fd : FuncData} (T : Gb mg) (wk : WebK K C_Web) (F : Fun K "is_order" "is_order" s_is_order f fd) :
    FnOk P w K mg base CX0 1 f fd p_is_order (sp2 K (fun (p : WebD) (ord : List Int) => WebOk p) isOrd) := by
  refine def2 F sc_is_order rfl [] rfl (fun cdv A outer s H Q E hr => ⟨_, (pss_cons (ps_ret (pe_cmpR (op_eqDK K (hu := hr.units)) (pe_callB (cr_sortedIK K) rfl T.sorted (by decide +kernel) (pa_cons (pv 1) pa_nil)) (pe_listRg rfl rfl T.list (prg_1 rfl T.range (pe_fldK K (he := (pv 0)) (hb := rfl)))) (nomark _)))
 pss_nil), fun p ord hp W D hK hn hret => ?_⟩)
  subst hK
  have h60 := hp.1
  exact go_retI (evx_op (Evl.x (evl_sortI (evx_var rfl))) (Evl.x (evl_rng1 (evx_many wk.c wk.cls wk.nm (evx_var rfl)) (by omega))) (rv_eqD (n := 1) inferInstance (by decide))) rfl hret
abbrev badOrd (p : WebD) (ord : List Int) : Bool := !isOrd p ord
abbrev C_need (P : Program) (w : World) (K : PySem.W.Frag) (mg : Str → Option Value) (base : Heap) (C : Addr) : Prop := Cl P w K mg base (L2N.CX P w) 2 "_need_order" p__need_order (sx2 K (fun (p : WebD) (ord : List Int) => WebOk p) badOrd C (fun _ _ => ()))
theorem ok__need_order {f : Addr} {fd : FuncData} (T : Gb mg) (XC_BadOrder : Ec K mg "BadOrder" C_BadOrder) (c_is_order : C_is_order P w K mg base) (F : Fun K "_need_order" "_need_order" s__need_order f fd) :
    FnOk P w K mg base (L2N.CX P w) 2 f fd p__need_order (sx2 K (fun (p : WebD) (ord : List Int) => WebOk p) badOrd C_BadOrder (fun _ _ => ())) := by
  refine defx2 F sc__need_order rfl [] rfl (fun cdv A outer s H Q E hr => ⟨_, (pss_cons (ps_if (pt_not (pt_val (pe_cl c_is_order hr rfl pass0 (pa_cons (pv 0) (pa_cons (pv 1) pa_nil)))))
 (pss_cons (L2N.ps_raise rfl (L2N.takes_of rfl rfl rfl rfl) (XC_BadOrder.made rfl))
 pss_nil)
 pss_nil)
 pss_nil), fun p ord hp W D hK hn hret hbad => ?_⟩)
  subst hK
  refine go_ifr (badOrd p ord = true) (b := badOrd p ord) (evt_not (evt_B (evx_call2 (f := isOrd) (evx_var rfl) (evx_var rfl) hp))) (by simp) (fun h => ?_) (fun h => ?_)
  · exact go_raise (fun σ R Q h => h) (hbad h)
  · exact go_none hn (hret (by simpa using h))
def behindF (p : WebD) (ord : List Int) (a : Int) : List Int := (ord.drop (ord.idxOf a + 1)).filter fun x => decide (x ∈ gt p.rows a)
abbrev PreBh (p : WebD) (ord : List Int) (a : Int) : Prop := WebOk p ∧ inr p a = true
abbrev spBh (K : PySem.W.Frag) (C : Addr) : Sp := sxl3 K PreBh (fun p ord _ => badOrd p ord) C behindF
abbrev C_behind (P : Program) (w : World) (K : PySem.W.Frag) (mg : Str → Option Value) (base : Heap) (C : Addr) : Prop := Cl P w K mg base (L2N.CX P w) 3 "behind" p_behind (spBh K C)
theorem ok_behind {f : Addr} {fd : FuncData} (T : Gb mg) (wk : WebK K C_Web) (c__need_order : C_need P w K mg base C_BadOrder) (c_Web_beside : M_beside P w K mg base C_Web C_NoPoint) (F : Fun K "behind" "behind" s_behind f fd) :
    FnOk P w K mg base (L2N.CX P w) 3 f fd p_behind (spBh K C_BadOrder) := by
  refine deflx3 F sc_behind rfl [.un, .un] rfl (fun cdv A outer s H Q E hr => ⟨_, (pss_cons (ps_expr (pe_clS c__need_order hr rfl (L2N.takes_of rfl rfl rfl rfl) (pa_cons (pv 0) (pa_cons (pv 1) pa_nil))))
 (pss_cons (ps_set (i := 3) sc_behind.nd rfl (.inr rfl) (pe_mtcS c_Web_beside hr (pv 0) (L2N.takes_of rfl rfl rfl rfl) (pa_cons (pv 2) pa_nil)))
 (pss_cons (ps_ret (pe_lc (own := [("other", 4)]) rfl sc_behind.nd (pi_listK K (hl := (pe_slice (sl_listK K) (pv 1) (po_some (pe_op op_add (pe_bmK K (pa := PySem.F.plainAttrs_list) (slot := PySem.F.slot_list_index) (hty := PySem.F.type_list_index) (hm := mt_indexK K) (ho := (pv 1)) (ha := (pa_cons (pv 2) pa_nil))) pe_int)) po_none))) (blkOk_by (N := n_behind) (sc := defScope s_behind) (own := [("other", 4)]) (by decide +kernel)) (fun _ _ _ _ _ => (pg_name (i := 4) sc_behind.nd rfl (.inl rfl))) (fun _ _ _ _ _ => (pts_one (pt_cmpR (op_in_seqK K) (pv 4) (pv 3) rfl))) (fun _ _ _ _ _ => (pv 4))))
 pss_nil))), fun p ord a hp W D hK hn hret hbad => ?_⟩)
  subst hK
  obtain ⟨wok, ha⟩ := hp
  refine go_dropz (evz_call2 (evx_var rfl) (evx_var rfl) wok) (fun hb => nx_const (hbad hb)) (fun hb => ?_)
  have ho : isOrd p ord = true := by simpa using hb
  have hl := isOrd_len ho
  have h60 := wok.1
  have hm := (isOrd_mem ho).mpr ha
  have hr := gt_len wok a (inr_iff.mp ha)
  have hcl := cut_len ord (some (((ord.idxOf a : Nat) : Int) + 1)) none
  refine go_asgz (evz_wml2 (x0 := p) (x1 := a) (m := "beside") (f := fun p a => gt p.rows a) wk.c (webF_no (by decide +kernel) (by decide +kernel)) (evx_var rfl) (evx_var rfl) wok) (fun z => by rw [inr_pt ha] at z; cases z) (fun _ => ?_)
  refine go_retL (evl_lcX (xs := cut ord (some (((ord.idxOf a : Nat) : Int) + 1)) none) (fun o => decide (o ∈ gt p.rows a)) (fun o => o) (Evl.x (evl_slice (evx_var rfl) (evo_some (evx_op (evx_index (evx_var rfl) (evx_var rfl) hm) evx_int rv_i0)) evo_none)) (by omega) (by decide) (fun o _ => evt_test (evx_op (evx_var rfl) (evx_var rfl) rv_in)) (fun o _ _ => evx_var rfl)) ?_ (hret hb)
  rw [List.map_id', cut_drop]
  rfl
end
end Gn
namespace Gn
abbrev s_untied : Stmt := top 10
abbrev n_untied : List Str := ["web", "points", "at", "one", "other"]
abbrev p_untied : List Str := ["web", "points"]
theorem sc_untied : FnScope n_untied p_untied (defScope s_untied) := ⟨rfl, rfl, rfl, by decide +kernel, rfl, by decide +kernel, by decide +kernel⟩

abbrev s__first_untied : Stmt := top 11
abbrev n__first_untied : List Str := ["web", "one", "others", "beside", "other"]
abbrev p__first_untied : List Str := ["web", "one", "others"]
theorem sc__first_untied : FnScope n__first_untied p__first_untied (defScope s__first_untied) := ⟨rfl, rfl, rfl, by decide +kernel, rfl, by decide +kernel, by decide +kernel⟩

section
variable {P : Program} {w : World} {K : PySem.W.Frag} {mg : Str → Option Value} {base : Heap} {C_Web C_NoPoint C_BadWeb : Addr}
abbrev C_first (P : Program) (w : World) (K : PySem.W.Frag) (mg : Str → Option Value) (base : Heap) : Prop := Cl P w K mg base CX0 3 "_first_untied" p__first_untied (sp3 K (fun (p : WebD) (a : Int) (xs : List Int) => WebOk p ∧ inr p a = true) firstUn)
theorem ok__first_untied {f : Addr} {fd : FuncData} (T : Gb mg) (wk : WebK K C_Web) (c_Web_beside : M_beside P w K mg base C_Web C_NoPoint) (F : Fun K "_first_untied" "_first_untied" s__first_untied f fd) :
    FnOk P w K mg base CX0 3 f fd p__first_untied (sp3 K (fun (p : WebD) (a : Int) (xs : List Int) => WebOk p ∧ inr p a = true) firstUn) := by
  refine def3 F sc__first_untied rfl [.un, .un] rfl (fun cdv A outer s H Q E hr => ⟨_, (pss_cons (ps_set (i := 3) sc__first_untied.nd rfl (.inl rfl) (pe_callTy (call_setofK K w rfl) rfl T.set PyProof.Rows.boot_set (pa_cons (pe_mtc c_Web_beside hr (pv 0) passN (pa_cons (pv 1) pa_nil)) pa_nil)))
 (pss_cons (ps_for PassesOwn.never rfl (pi_listK K (hl := (pv 2))) (pg_name (i := 4) sc__first_untied.nd rfl (.inl rfl))
 (pss_cons (ps_if (pt_cmpR (or_snotinK w) (pv 4) (pv 3) rfl)
 (pss_cons (ps_ret (pv 4))
 pss_nil)
 pss_nil)
 pss_nil))
 (pss_cons (ps_ret pe_non)
 pss_nil))), fun p a xs hp W D hK hn hret => ?_⟩)
  subst hK
  obtain ⟨hp, ha⟩ := hp
  have hl := gt_len hp a (inr_iff.mp ha)
  refine go_asg (ip := pySet w) (x := gt p.rows a) (evx_setof (Evl.x (evl_wmx2 (x0 := p) (x1 := a) (m := "beside") (f := fun p a => gt p.rows a) wk.c (webF_no (by decide +kernel) (by decide +kernel)) (evx_var rfl) (evx_var rfl) hp (inr_pt ha))) (by omega)) ?_
  refine go_forLI (xs := xs) (fun m => firstUn p a xs = firstUn p a (xs.drop m)) rfl (evx_var rfl) (fun _ => [.dat pyWeb p, .dat pyInt a, .dat (pyList (ip := pyInt)) xs, .dat (pySet w) (gt p.rows a), .un]) (by walk_at "le") (fun m x G hx hI hG => ?_) (fun hI => ?_)
  · have hd : xs.drop m = x :: xs.drop (m + 1) := by
      obtain ⟨h1, h2⟩ := List.getElem?_eq_some_iff.mp hx
      rw [List.drop_eq_getElem_cons h1, h2]
    have st : firstUn p a (xs.drop m) = if (!decide (x ∈ gt p.rows a)) = true then some x else firstUn p a (xs.drop (m + 1)) := by
      rw [hd]
      unfold firstUn
      rw [List.find?_cons]
      cases (!decide (x ∈ gt p.rows a)) <;> rfl
    dsimp only [List.set]
    refine go_ifr ((!decide (x ∈ gt p.rows a)) = true) (b := !decide (x ∈ gt p.rows a)) (evt_test (evx_op (evx_var rfl) (evx_var rfl) rv_snotin)) (by simp) (fun h => ?_) (fun h => ?_)
    · exact go_retI (x := some x) (evx_some (evx_var rfl)) (by rw [hI, st, if_pos h]) hret
    · refine go_next ?_
      exact nx_toI (by rw [hI, st, if_neg h]) (by walk_at "le")
  · refine go_retI (x := (none : Option Int)) evx_nonO ?_ hret
    rw [hI, List.drop_length]
    rfl
abbrev C_untied (P : Program) (w : World) (K : PySem.W.Frag) (mg : Str → Option Value) (base : Heap) : Prop := Cl P w K mg base CX0 4 "untied" p_untied (sp2 K (fun (p : WebD) (xs : List Int) => WebOk p ∧ ∀ x ∈ xs, inr p x = true) untiedF)
theorem ok_untied {f : Addr} {fd : FuncData} (T : Gb mg) (c__first_untied : C_first P w K mg base) (F : Fun K "untied" "untied" s_untied f fd) :
    FnOk P w K mg base CX0 4 f fd p_untied (sp2 K (fun (p : WebD) (xs : List Int) => WebOk p ∧ ∀ x ∈ xs, inr p x = true) untiedF) := by
  refine def2 F sc_untied rfl [.un, .un, .un] rfl (fun cdv A outer s H Q E hr => ⟨_, (pss_cons (ps_for PassesOwn.never rfl (pi_enum rfl T.enumerate (pa_cons (pv 1) pa_nil)) (pg_tupK K (hc := rfl) (n := 2) (h := (pgs_cons (pg_name (i := 2) sc_untied.nd rfl (.inl rfl)) (pgs_cons (pg_name (i := 3) sc_untied.nd rfl (.inl rfl)) pgs_nil))))
 (pss_cons (ps_set (i := 4) sc_untied.nd rfl (.inl rfl) (pe_cl c__first_untied hr rfl pass0 (pa_cons (pv 0) (pa_cons (pv 3) (pa_cons (pe_slice (sl_listK K) (pv 1) (po_some (pe_op op_add (pv 2) pe_int)) po_none) pa_nil)))))
 (pss_cons (ps_if (pt_cmpR op_notN (pv 4) pe_non (nomark _))
 (pss_cons (ps_ret (pe_tup (pa_cons (pv 3) (pa_cons (pv 4) pa_nil))))
 pss_nil)
 pss_nil)
 pss_nil)))
 (pss_cons (ps_ret pe_non)
 pss_nil)), fun p xs hp W D hK hn hret => ?_⟩)
  subst hK
  refine go_forEI (xs := xs) (fun m => untiedF p xs = untiedF p (xs.drop m)) rfl (evx_var rfl) (fun _ => [.dat pyWeb p, .dat (pyList (ip := pyInt)) xs, .un, .un, .un]) (by walk_at "le") (fun m x G hx hI hG => ?_) (fun hI => ?_)
  · have hd : xs.drop m = x :: xs.drop (m + 1) := by
      obtain ⟨h1, h2⟩ := List.getElem?_eq_some_iff.mp hx
      rw [List.drop_eq_getElem_cons h1, h2]
    dsimp only [List.set]
    refine go_asg (x := firstUn p x (xs.drop (m + 1))) (evx_is (evx_call3 (f := firstUn) (evx_var rfl) (evx_var rfl) (Evl.x (evl_slice (evx_var rfl) (evo_some (evx_op (evx_var rfl) evx_int rv_i0)) evo_none)) ⟨hp.1, hp.2 x (List.mem_of_getElem? hx)⟩) (by rw [cut_drop])) ?_
    have st : untiedF p (xs.drop m) = match firstUn p x (xs.drop (m + 1)) with | some o => some (x, o) | none => untiedF p (xs.drop (m + 1)) := by rw [hd]; rfl
    generalize firstUn p x (xs.drop (m + 1)) = o at st ⊢
    refine go_ifr (o.isSome = true) (b := o.isSome) (evt_test (evx_op (evx_var rfl) evx_non (rv_notN (nn := inferInstance)))) (by simp) (fun h => ?_) (fun h => ?_)
    · cases o with
      | none => cases h
      | some y =>
        exact go_retI (x := some (x, y)) (evx_some (evx_tup2 (evx_var rfl) (evx_got (evx_var rfl)))) (by rw [hI, st]) hret
    · cases o with
      | some y => exact absurd rfl h
      | none =>
        refine go_next ?_
        exact nx_toI (by rw [hI, st]) (by walk_at "le")
  · refine go_retI (x := (none : Option (Int × Int))) evx_nonO ?_ hret
    rw [hI, List.drop_length]
    rfl
end
end Gn
namespace Gn
abbrev s_gap : Stmt := top 16
abbrev n_gap : List Str := ["web", "order", "point", "pair"]
abbrev p_gap : List Str := ["web", "order"]
theorem sc_gap : FnScope n_gap p_gap (defScope s_gap) := ⟨rfl, rfl, rfl, by decide +kernel, rfl, by decide +kernel, by decide +kernel⟩

section
variable {P : Program} {w : World} {K : PySem.W.Frag} {mg : Str → Option Value} {base : Heap} {C_Web C_NoPoint C_BadWeb C_BadOrder C_HasGap : Addr}
abbrev G3 := Tri Int Int Int
def gapOf (p : WebD) (ord : List Int) : List Int → Option G3
  | [] => none
  | a :: r => match untiedF p (behindF p ord a) with
    | some t => some ⟨a, t.1, t.2⟩
    | none => gapOf p ord r
def gapF (p : WebD) (ord : List Int) : Option G3 := gapOf p ord ord
theorem behind_in {p : WebD} {ord : List Int} (h : isOrd p ord = true) (a : Int) : ∀ x ∈ behindF p ord a, inr p x = true := fun x hx => by
  unfold behindF at hx
  exact (isOrd_mem h).mp (List.mem_of_mem_drop (List.mem_filter.mp hx).1)
abbrev spGap (K : PySem.W.Frag) (C : Addr) : Sp := sx2 K (fun (p : WebD) (ord : List Int) => WebOk p) badOrd C gapF
abbrev C_gap (P : Program) (w : World) (K : PySem.W.Frag) (mg : Str → Option Value) (base : Heap) (C : Addr) : Prop := Cl P w K mg base (L2N.CX P w) 5 "gap" p_gap (spGap K C)
theorem ok_gap {f : Addr} {fd : FuncData} (T : Gb mg) (c__need_order : C_need P w K mg base C_BadOrder) (c_untied : C_untied P w K mg base) (c_behind : C_behind P w K mg base C_BadOrder) (F : Fun K "gap" "gap" s_gap f fd) :
    FnOk P w K mg base (L2N.CX P w) 5 f fd p_gap (spGap K C_BadOrder) := by
  refine defx2 F sc_gap rfl [.un, .un] rfl (fun cdv A outer s H Q E hr => ⟨_, (pss_cons (ps_expr (pe_clS c__need_order hr rfl (L2N.takes_of rfl rfl rfl rfl) (pa_cons (pv 0) (pa_cons (pv 1) pa_nil))))
 (pss_cons (ps_for (passes_of rfl) rfl (pi_listK K (hl := (pv 1))) (pg_name (i := 2) sc_gap.nd rfl (.inl rfl))
 (pss_cons (ps_set (i := 3) sc_gap.nd rfl (.inl rfl) (pe_cl c_untied hr rfl pass0 (pa_cons (pv 0) (pa_cons (pe_cl c_behind hr rfl (L2N.passes_call (L2N.takes_of rfl rfl rfl rfl) (fun _ _ _ _ z => z)) (pa_cons (pv 0) (pa_cons (pv 1) (pa_cons (pv 2) pa_nil)))) pa_nil))))
 (pss_cons (ps_if (pt_cmpR op_notN (pv 3) pe_non (nomark _))
 (pss_cons (ps_ret (pe_tup (pa_cons (pv 2) (pa_cons (pe_ix (ix_tupK K) (pv 3) pe_int (fun _ _ => rfl)) (pa_cons (pe_ix (ix_tupK K) (pv 3) pe_int (fun _ _ => rfl)) pa_nil)))))
 pss_nil)
 pss_nil)
 pss_nil)))
 (pss_cons (ps_ret pe_non)
 pss_nil))), fun p ord wok W D hK hn hret hbad => ?_⟩)
  subst hK
  refine go_dropz (evz_call2 (evx_var rfl) (evx_var rfl) wok) (fun hb => nx_const (hbad hb)) (fun hb => ?_)
  have ho : isOrd p ord = true := by simpa using hb
  have hret := hret hb
  refine go_forLI (xs := ord) (fun m => gapF p ord = gapOf p ord (ord.drop m)) rfl (evx_var rfl) (fun _ => [.dat pyWeb p, .dat (pyList (ip := pyInt)) ord, .un, .un]) (by walk_at "le") (fun m x G hx hI hG => ?_) (fun hI => ?_)
  · have hd : ord.drop m = x :: ord.drop (m + 1) := by
      obtain ⟨h1, h2⟩ := List.getElem?_eq_some_iff.mp hx
      rw [List.drop_eq_getElem_cons h1, h2]
    have hin := (isOrd_mem ho).mp (List.mem_of_getElem? hx)
    have st : gapOf p ord (ord.drop m) = match untiedF p (behindF p ord x) with | some t => some (⟨x, t.1, t.2⟩ : G3) | none => gapOf p ord (ord.drop (m + 1)) := by rw [hd]; rfl
    dsimp only [List.set]
    refine go_asg (x := untiedF p (behindF p ord x)) (evx_call2 (f := untiedF) (evx_var rfl) (Evl.x (evl_callx3 (f := behindF) (evx_var rfl) (evx_var rfl) (evx_var rfl) ⟨wok, hin⟩ hb)) ⟨wok, behind_in ho x⟩) ?_
    generalize untiedF p (behindF p ord x) = o at st ⊢
    refine go_ifr (o.isSome = true) (b := o.isSome) (evt_test (evx_op (evx_var rfl) evx_non (rv_notN (nn := inferInstance)))) (by simp) (fun h => ?_) (fun h => ?_)
    · cases o with
      | none => cases h
      | some t =>
        refine go_retI (x := some (⟨x, t.1, t.2⟩ : G3)) (evx_some (evx_tup3 (evx_var rfl) (evx_op (evx_got (evx_var rfl)) evx_int rv_ixT0) (evx_op (evx_got (evx_var rfl)) evx_int rv_ixT1))) ?_ hret
        rw [hI, st]
    · cases o with
      | some t => exact absurd rfl h
      | none =>
        refine go_next ?_
        exact nx_toI (by rw [hI, st]) (by walk_at "le")
  · refine go_retI (x := (none : Option G3)) evx_nonO ?_ hret
    rw [hI, List.drop_length]
    rfl
end
end Gn
namespace Gn
abbrev s__need_no_gap : Stmt := top 30
abbrev n__need_no_gap : List Str := ["web", "order"]
abbrev p__need_no_gap : List Str := ["web", "order"]
theorem sc__need_no_gap : FnScope n__need_no_gap p__need_no_gap (defScope s__need_no_gap) := ⟨rfl, rfl, rfl, by decide +kernel, rfl, by decide +kernel, by decide +kernel⟩

abbrev s__crowd_of : Stmt := top 31
abbrev n__crowd_of : List Str := ["web", "order", "point"]
abbrev p__crowd_of : List Str := ["web", "order", "point"]
theorem sc__crowd_of : FnScope n__crowd_of p__crowd_of (defScope s__crowd_of) := ⟨rfl, rfl, rfl, by decide +kernel, rfl, by decide +kernel, by decide +kernel⟩

section
variable {P : Program} {w : World} {K : PySem.W.Frag} {mg : Str → Option Value} {base : Heap} {C_Web C_NoPoint C_BadWeb C_BadOrder C_HasGap : Addr}
/-- which refusal comes, if any -/
def badGap (B G : Addr) (p : WebD) (ord : List Int) : Option Addr := if badOrd p ord = true then some B else if (gapF p ord).isSome = true then some G else none
abbrev spNng (K : PySem.W.Frag) (B G : Addr) : Sp := sxw2 K (fun (p : WebD) (ord : List Int) => WebOk p) (badGap B G) (fun _ _ => ())
abbrev C_nng (P : Program) (w : World) (K : PySem.W.Frag) (mg : Str → Option Value) (base : Heap) (B G : Addr) : Prop := Cl P w K mg base (L2N.CX P w) 6 "_need_no_gap" p__need_no_gap (spNng K B G)
theorem ok__need_no_gap {f : Addr} {fd : FuncData} (T : Gb mg) (XC_HasGap : Ec K mg "HasGap" C_HasGap) (c_gap : C_gap P w K mg base C_BadOrder) (F : Fun K "_need_no_gap" "_need_no_gap" s__need_no_gap f fd) :
    FnOk P w K mg base (L2N.CX P w) 6 f fd p__need_no_gap (spNng K C_BadOrder C_HasGap) := by
  refine defxw2 F sc__need_no_gap rfl [] rfl (fun cdv A outer s H Q E hr => ⟨_, (pss_cons (ps_if (pt_cmpR op_notN (pe_cl c_gap hr rfl (L2N.passes_call (L2N.takes_of rfl rfl rfl rfl) (fun _ _ _ _ z => z)) (pa_cons (pv 0) (pa_cons (pv 1) pa_nil))) pe_non (nomark _))
 (pss_cons (L2N.ps_raise rfl (L2N.takes_of rfl rfl rfl rfl) (XC_HasGap.made rfl))
 pss_nil)
 pss_nil)
 pss_nil), fun p ord wok W D hK hn hret hbad => ?_⟩)
  subst hK
  cases hb : badOrd p ord with
  | true => exact go_ifOpR (evr_callx2 (f := gapF) (evx_var rfl) (evx_var rfl) wok hb (hbad _ (by unfold badGap; rw [if_pos hb])))
  | false =>
    have nb : ¬ badOrd p ord = true := by rw [hb]; decide
    refine go_ifr ((gapF p ord).isSome = true) (b := (gapF p ord).isSome) (evt_test (evx_op (evx_callx2 (f := gapF) (evx_var rfl) (evx_var rfl) wok hb) evx_non (rv_notN (nn := inferInstance)))) (by simp) (fun h => ?_) (fun h => ?_)
    · exact go_raise (fun σ R Q h => h) (hbad _ (by unfold badGap; rw [if_neg nb, if_pos h]))
    · exact go_none hn (hret (by unfold badGap; rw [if_neg nb, if_neg h]))
def crowdOfF (p : WebD) (ord : List Int) (a : Int) : List Int := sortI ([a] ++ behindF p ord a)
abbrev PreCo (p : WebD) (ord : List Int) (a : Int) : Prop := WebOk p ∧ isOrd p ord = true ∧ inr p a = true
abbrev spCo (K : PySem.W.Frag) (C : Addr) : Sp := sxl3 K PreCo (fun (_ : WebD) (_ : List Int) (_ : Int) => false) C crowdOfF
abbrev C_crowdOf (P : Program) (w : World) (K : PySem.W.Frag) (mg : Str → Option Value) (base : Heap) (C : Addr) : Prop := Cl P w K mg base (L2N.CX P w) 4 "_crowd_of" p__crowd_of (spCo K C)
theorem ok__crowd_of {f : Addr} {fd : FuncData} (T : Gb mg) (c_behind : C_behind P w K mg base C_BadOrder) (F : Fun K "_crowd_of" "_crowd_of" s__crowd_of f fd) :
    FnOk P w K mg base (L2N.CX P w) 4 f fd p__crowd_of (spCo K C_BadOrder) := by
  refine deflx3 F sc__crowd_of rfl [] rfl (fun cdv A outer s H Q E hr => ⟨_, (pss_cons (ps_ret (pe_callB (cr_sortedIK K) rfl T.sorted (by decide +kernel) (pa_cons (pe_op op_cat (pe_lst (pa_cons (pv 2) pa_nil)) (pe_cl c_behind hr rfl (L2N.passes_call (L2N.takes_of rfl rfl rfl rfl) (fun _ _ _ _ z => z)) (pa_cons (pv 0) (pa_cons (pv 1) (pa_cons (pv 2) pa_nil))))) pa_nil)))
 pss_nil), fun p ord a hp W D hK hn hret hbad => ?_⟩)
  subst hK
  obtain ⟨wok, ho, ha⟩ := hp
  have h60 := wok.1
  have hl := isOrd_len ho
  have hb : badOrd p ord = false := by
    show (!isOrd p ord) = false
    rw [ho]
    rfl
  have bl : (behindF p ord a).length ≤ ord.length := by
    unfold behindF
    have h1 := List.length_filter_le (fun x => decide (x ∈ gt p.rows a)) (ord.drop (ord.idxOf a + 1))
    have h2 : (ord.drop (ord.idxOf a + 1)).length ≤ ord.length := by rw [List.length_drop]; omega
    omega
  exact go_retL (evl_sortI (Evl.x (evl_cat (Evl.x (evl_disp (evs_cons (evx_var rfl) evs_nil) (by show 1 ≤ 100000; decide))) (Evl.x (evl_callx3 (f := behindF) (evx_var rfl) (evx_var rfl) (evx_var rfl) ⟨wok, ha⟩ hb)) (by show 1 + _ ≤ 100000; omega)))) rfl (hret rfl)
end
end Gn
namespace Gn
abbrev s_full_crowds : Stmt := top 28
abbrev n_full_crowds : List Str := ["web", "order", "crowds", "point", "crowd"]
abbrev p_full_crowds : List Str := ["web", "order"]
theorem sc_full_crowds : FnScope n_full_crowds p_full_crowds (defScope s_full_crowds) := ⟨rfl, rfl, rfl, by decide +kernel, rfl, by decide +kernel, by decide +kernel⟩

section
variable {P : Program} {w : World} {K : PySem.W.Frag} {mg : Str → Option Value} {base : Heap} {C_Web C_NoPoint C_BadWeb C_BadOrder C_HasGap : Addr} {tF tG : Addr}
def fullTo (p : WebD) (ord : List Int) (m : Nat) : List (List Int) := ((ord.take m).map (crowdOfF p ord)).filter fun cr => !growF p cr
theorem fullTo_succ {p : WebD} {ord : List Int} {m : Nat} {a : Int} (h : ord[m]? = some a) : fullTo p ord (m + 1) = fullTo p ord m ++ (if growF p (crowdOfF p ord a) = true then [] else [crowdOfF p ord a]) := by
  unfold fullTo
  rw [take_snoc h, List.map_append, List.filter_append]
  cases q : growF p (crowdOfF p ord a) with
  | true => simp [q]
  | false => simp [q]
theorem crowd_in {p : WebD} {ord : List Int} (ho : isOrd p ord = true) {a : Int} (ha : inr p a = true) : ∀ m ∈ crowdOfF p ord a, inr p m = true := fun m hm => by
  unfold crowdOfF at hm
  rcases List.mem_append.mp (sortI_mem.mp hm) with z | z
  · rw [List.mem_singleton.mp z]
    exact ha
  · exact behind_in ho a m z
theorem badGap_none {B G : Addr} {p : WebD} {ord : List Int} (h : badGap B G p ord = none) : isOrd p ord = true ∧ gapF p ord = none := by
  unfold badGap at h
  split at h
  · cases h
  · rename_i q
    split at h
    · cases h
    · rename_i q2
      exact ⟨by simpa using q, by cases z : gapF p ord with | none => rfl | some t => rw [z] at q2; exact absurd rfl q2⟩
abbrev spFull (K : PySem.W.Frag) (tF tG B G : Addr) : Sp := sxw2 (i0 := pyT2 tF tG) K (fun (p : WebD) (ord : List Int) => WebOk p) (badGap B G) (fun p ord => fullTo p ord ord.length)
abbrev C_full (P : Program) (w : World) (K : PySem.W.Frag) (mg : Str → Option Value) (base : Heap) (tF tG B G : Addr) : Prop := Cl P w K mg base (L2N.CX P w) 11 "full_crowds" p_full_crowds (spFull K tF tG B G)
theorem ok_full_crowds {f : Addr} {fd : FuncData} (T : Gb mg) (c__need_no_gap : C_nng P w K mg base C_BadOrder C_HasGap) (c__crowd_of : C_crowdOf P w K mg base C_BadOrder) (c__could_grow : C_grow P w K mg base tF tG) (F : Fun K "full_crowds" "full_crowds" s_full_crowds f fd) :
    FnOk P w K mg base (L2N.CX P w) 11 f fd p_full_crowds (spFull K tF tG C_BadOrder C_HasGap) := by
  refine defxw2 (i0 := pyT2 tF tG) F sc_full_crowds rfl [.un, .un, .un] rfl (fun cdv A outer s H Q E hr => ⟨_, (pss_cons (ps_expr (pe_clS c__need_no_gap hr rfl (L2N.takes_of rfl rfl rfl rfl) (pa_cons (pv 0) (pa_cons (pv 1) pa_nil))))
 (pss_cons (ps_set (i := 2) sc_full_crowds.nd rfl (.inl rfl) (pe_lst pa_nil))
 (pss_cons (ps_for (passes_of rfl) rfl (pi_listK K (hl := (pv 1))) (pg_name (i := 3) sc_full_crowds.nd rfl (.inl rfl))
 (pss_cons (ps_set (i := 4) sc_full_crowds.nd rfl (.inl rfl) (pe_clS c__crowd_of hr rfl (L2N.takes_of rfl rfl rfl rfl) (pa_cons (pv 0) (pa_cons (pv 1) (pa_cons (pv 3) pa_nil)))))
 (pss_cons (ps_if (pt_not (pt_val (pe_cl c__could_grow hr rfl pass0 (pa_cons (pv 0) (pa_cons (pv 4) pa_nil)))))
 (pss_cons (ps_expr (pe_bmK K (pa := PySem.F.plainAttrs_list) (slot := PySem.F.slot_list_append) (hty := PySem.F.type_list_append) (hm := mt_append) (ho := (pv 2)) (ha := (pa_cons (pv 4) pa_nil))))
 pss_nil)
 pss_nil)
 pss_nil)))
 (pss_cons (ps_ret (pv 2))
 pss_nil)))), fun p ord wok W D hK hn hret hbad => ?_⟩)
  subst hK
  refine go_dropz (evz_callw2 (f := fun (_ : WebD) (_ : List Int) => ()) (evx_wt (evx_wt (evx_var rfl))) (evx_var rfl) wok) (fun hb => nx_const (hbad _ (by
    cases q : badGap C_BadOrder C_HasGap p ord with
    | none => rw [q] at hb; cases hb
    | some c => rfl))) (fun hb => ?_)
  have hb : badGap C_BadOrder C_HasGap p ord = none := by
    cases q : badGap C_BadOrder C_HasGap p ord with
    | none => rfl
    | some c => rw [q] at hb; cases hb
  obtain ⟨ho, hg⟩ := badGap_none hb
  have hret := hret hb
  have h60 := wok.1
  have hl := isOrd_len ho
  refine go_own (xs := ([] : List (List Int))) (evl_disp evs_nil (by show 0 ≤ 100000; decide)) ?_
  refine go_forL (xs := ord) (evx_var rfl) (fun m => [.dat (pyT2 tF tG) p, .dat (pyList (ip := pyInt)) ord, .own (pyList (ip := pyInt)) (fullTo p ord m), .un, .un]) (by walk_at "le" <;> rfl) (fun m x G hx hG => ?_) ?_
  · have hin := (isOrd_mem ho).mp (List.mem_of_getElem? hx)
    have hm := (List.getElem?_eq_some_iff.mp hx).1
    have fl : (fullTo p ord m).length ≤ m := by
      unfold fullTo
      have h1 := List.length_filter_le (fun cr => !growF p cr) ((ord.take m).map (crowdOfF p ord))
      rw [List.length_map, List.length_take] at h1
      omega
    rw [fullTo_succ hx]
    dsimp only [List.set]
    refine go_asgz (evz_calll3 (f := crowdOfF) (evx_wt (evx_wt (evx_var rfl))) (evx_var rfl) (evx_var rfl) ⟨wok, ho, hin⟩) (fun z => by cases z) (fun _ => ?_)
    have ci := crowd_in ho hin
    generalize crowdOfF p ord x = cr at ci ⊢
    dsimp only [List.set]
    refine go_if (b := !growF p cr) (evt_not (evt_B (evx_call2 (f := growF) (evx_var rfl) (evx_var rfl) ⟨wok, ci⟩))) (fun h => ?_) (fun h => ?_)
    · have h : growF p cr = false := by simpa using h
      rw [h, if_neg (by decide)]
      refine go_app (i := 2) (x := cr) rfl (evx_var rfl) (by omega) ?_
      exact go_next (nx_to (by walk_at "le"))
    · have h : growF p cr = true := by simpa using h
      rw [h, if_pos rfl, List.append_nil]
      exact go_next (go_next (nx_to (by walk_at "le")))
  · refine go_freeze 2 rfl ?_
    exact go_retI (evx_var rfl) rfl hret
end
end Gn
namespace Gn
abbrev s__next_to_go : Stmt := top 19
abbrev n__next_to_go : List Str := ["web", "left", "point", "other"]
abbrev p__next_to_go : List Str := ["web", "left"]
theorem sc__next_to_go : FnScope n__next_to_go p__next_to_go (defScope s__next_to_go) := ⟨rfl, rfl, rfl, by decide +kernel, rfl, by decide +kernel, by decide +kernel⟩

abbrev s_taken : Stmt := top 17
abbrev n_taken : List Str := ["web", "gone", "left", "point"]
abbrev p_taken : List Str := ["web"]
theorem sc_taken : FnScope n_taken p_taken (defScope s_taken) := ⟨rfl, rfl, rfl, by decide +kernel, rfl, by decide +kernel, by decide +kernel⟩

section
variable {P : Program} {w : World} {K : PySem.W.Frag} {mg : Str → Option Value} {base : Heap} {C_Web C_NoPoint C_BadWeb : Addr}
/-! ### taking away -/
/-- the webs that are judged -/
structure PreJ (p : WebD) : Prop where
  wok : WebOk p
  inn : InWeb p.n p.rows
  sym : SymW p.n p.rows
  irr : ∀ a, inr p a = true → a ∉ gt p.rows a
  up : ∀ a, inr p a = true → (gt p.rows a).Pairwise (· < ·)
def goes (p : WebD) (left : List Int) (a : Int) : Bool := (untiedF p ((gt p.rows a).filter fun o => decide (o ∈ left))).isNone
def nextF (p : WebD) (left : List Int) : Option Int := left.find? (goes p left)
abbrev PreNx (p : WebD) (left : List Int) : Prop := PreJ p ∧ left.length ≤ 100 ∧ ∀ x ∈ left, inr p x = true
abbrev C_next (P : Program) (w : World) (K : PySem.W.Frag) (mg : Str → Option Value) (base : Heap) : Prop := Cl P w K mg base CX0 5 "_next_to_go" p__next_to_go (sp2 K PreNx nextF)
theorem ok__next_to_go {f : Addr} {fd : FuncData} (T : Gb mg) (wk : WebK K C_Web) (c_Web_beside : M_beside P w K mg base C_Web C_NoPoint) (c_untied : C_untied P w K mg base) (F : Fun K "_next_to_go" "_next_to_go" s__next_to_go f fd) :
    FnOk P w K mg base CX0 5 f fd p__next_to_go (sp2 K PreNx nextF) := by
  refine def2 F sc__next_to_go rfl [.un, .un] rfl (fun cdv A outer s H Q E hr => ⟨_, (pss_cons (ps_for PassesOwn.never rfl (pi_listK K (hl := (pv 1))) (pg_name (i := 2) sc__next_to_go.nd rfl (.inl rfl))
 (pss_cons (ps_if (pt_cmpR op_isN (pe_cl c_untied hr rfl pass0 (pa_cons (pv 0) (pa_cons (pe_lc (own := [("other", 3)]) rfl sc__next_to_go.nd (pi_listK K (hl := (pe_mtc c_Web_beside hr (pv 0) passN (pa_cons (pv 2) pa_nil)))) (blkOk_by (N := n__next_to_go) (sc := defScope s__next_to_go) (own := [("other", 3)]) (by decide +kernel)) (fun _ _ _ _ _ => (pg_name (i := 3) sc__next_to_go.nd rfl (.inl rfl))) (fun _ _ _ _ _ => (pts_one (pt_cmpR (op_in_seqK K) (pv 3) (pv 1) rfl))) (fun _ _ _ _ _ => (pv 3))) pa_nil))) pe_non (nomark _))
 (pss_cons (ps_ret (pv 2))
 pss_nil)
 pss_nil)
 pss_nil))
 (pss_cons (ps_ret pe_non)
 pss_nil)), fun p left hp W D hK hn hret => ?_⟩)
  subst hK
  obtain ⟨hj, hl, hin⟩ := hp
  have wok := hj.wok
  have iw := hj.inn
  refine go_forLI (xs := left) (fun m => nextF p left = (left.drop m).find? (goes p left)) rfl (evx_var rfl) (fun _ => [.dat pyWeb p, .dat (pyList (ip := pyInt)) left, .un, .un]) (by walk_at "le" <;> rfl) (fun m x F0 hx hI hG => ?_) (fun hI => ?_)
  · have hd : left.drop m = x :: left.drop (m + 1) := by
      obtain ⟨h1, h2⟩ := List.getElem?_eq_some_iff.mp hx
      rw [List.drop_eq_getElem_cons h1, h2]
    have hxin := hin x (List.mem_of_getElem? hx)
    have hxi := inr_iff.mp hxin
    rw [hd, List.find?_cons] at hI
    have gl := gt_len wok x hxi
    have fl := List.length_filter_le (fun o => decide (o ∈ left)) (gt p.rows x)
    dsimp only [List.set]
    refine go_ifr (goes p left x = true) (b := goes p left x) (evt_test (evx_op (evx_call2 (f := fun p xs => untiedF p xs) (evx_var rfl) (Evl.x (evl_is (evl_lcX (xs := gt p.rows x) (fun o => decide (o ∈ left)) (fun o => o) (Evl.x (evl_wmx2 (x0 := p) (x1 := x) (m := "beside") (f := fun p a => gt p.rows a) wk.c (webF_no (by decide +kernel) (by decide +kernel)) (evx_var rfl) (evx_var rfl) wok (inr_pt hxin))) (by omega) (by decide) (fun o _ => evt_test (evx_op (evx_var rfl) (evx_var rfl) rv_in)) (fun o _ _ => evx_var rfl)) (List.map_id' _))) ⟨wok, fun y hy => inr_iff.mpr (iw x y hxi (List.mem_filter.mp hy).1)⟩) evx_non (rv_isN (nn := inferInstance)))) (dec_tt _) (fun h => ?_) (fun h => ?_)
    · refine go_retI (x := some x) (evx_some (evx_var rfl)) ?_ hret
      rw [hI, h]
    · refine go_next ?_
      refine nx_toI ?_ (by walk_at "le")
      have h : goes p left x = false := Bool.eq_false_iff.mpr h
      rw [hI, h]
  · refine go_retI (x := (none : Option Int)) evx_nonO ?_ hret
    rw [hI, List.drop_length]
    rfl
def tkStep (p : WebD) (st : List Int × List Int) : List Int × List Int := match nextF p st.2 with
  | some a => (st.1 ++ [a], st.2.erase a)
  | none => st
def tk (p : WebD) : Nat → List Int × List Int
  | 0 => ([], rng 0 (p.n : Int))
  | k + 1 => tkStep p (tk p k)
def takenF (p : WebD) : List Int × List Int := tk p p.n
theorem nextF_in {p : WebD} {left : List Int} {a : Int} (h : nextF p left = some a) : a ∈ left := List.mem_of_find?_eq_some h
theorem nextF_goes {p : WebD} {left : List Int} {a : Int} (h : nextF p left = some a) : goes p left a = true := List.find?_some h
structure TkI (p : WebD) (st : List Int × List Int) : Prop where
  nd : st.2.Nodup
  inn : ∀ x, x ∈ st.2 → inr p x = true
  len : st.1.length + st.2.length = p.n
  perm : (st.1 ++ st.2).Perm (rng 0 (p.n : Int))
theorem rng_nodup (n : Nat) : (rng 0 (n : Int)).Nodup := by
  unfold rng
  refine List.Pairwise.map _ (fun a b h => ?_) List.nodup_range
  intro e
  omega
theorem TkI.start (p : WebD) : TkI p ([], rng 0 (p.n : Int)) := ⟨rng_nodup _, fun x hx => inr_iff.mpr (by rw [rng_mem] at hx; exact hx), by show 0 + (rng 0 (p.n : Int)).length = p.n; rw [rng_len]; omega, .refl _⟩
theorem TkI.step {p : WebD} {st : List Int × List Int} (h : TkI p st) : TkI p (tkStep p st) := by
  unfold tkStep
  cases e : nextF p st.2 with
  | none => exact h
  | some a =>
    have ha := nextF_in e
    refine ⟨h.nd.erase _, fun x hx => h.inn x (List.mem_of_mem_erase hx), ?_, ?_⟩
    · show (st.1 ++ [a]).length + (st.2.erase a).length = p.n
      rw [List.length_append, List.length_singleton, List.length_erase_of_mem ha]
      have := h.len
      have := List.length_pos_of_mem ha
      omega
    · show (st.1 ++ [a] ++ st.2.erase a).Perm _
      rw [List.append_assoc]
      exact ((List.perm_cons_erase ha).symm.append_left st.1).trans h.perm
theorem TkI.all (p : WebD) : ∀ k, TkI p (tk p k)
  | 0 => .start p
  | k + 1 => (TkI.all p k).step
theorem tk_stop {p : WebD} {k : Nat} (h : nextF p (tk p k).2 = none) : ∀ m, tk p (k + m) = tk p k
  | 0 => rfl
  | m + 1 => by
    have e : tk p (k + (m + 1)) = tkStep p (tk p (k + m)) := rfl
    rw [e, tk_stop h m]
    unfold tkStep
    rw [h]
theorem tk_go {p : WebD} : ∀ k, (∃ j, j < k ∧ nextF p (tk p j).2 = none) ∨ (tk p k).1.length = k
  | 0 => .inr rfl
  | k + 1 => by
    rcases tk_go (p := p) k with ⟨j, h1, h2⟩ | h
    · exact .inl ⟨j, by omega, h2⟩
    · cases e : nextF p (tk p k).2 with
      | none => exact .inl ⟨k, by omega, e⟩
      | some a =>
        refine .inr ?_
        show (tkStep p (tk p k)).1.length = k + 1
        unfold tkStep
        rw [e]
        show ((tk p k).1 ++ [a]).length = k + 1
        rw [List.length_append, List.length_singleton, h]
theorem taken_end (p : WebD) : nextF p (takenF p).2 = none := by
  unfold takenF
  rcases tk_go (p := p) p.n with ⟨j, h1, h2⟩ | h
  · have e := tk_stop h2 (p.n - j)
    rw [show j + (p.n - j) = p.n by omega] at e
    rw [e]
    exact h2
  · have q := (TkI.all p p.n).len
    have e : (tk p p.n).2 = [] := List.length_eq_zero_iff.mp (by omega)
    rw [e]
    rfl
abbrev spTaken (K : PySem.W.Frag) : Sp := spTwo K PreJ takenF
abbrev C_taken (P : Program) (w : World) (K : PySem.W.Frag) (mg : Str → Option Value) (base : Heap) : Prop := Cl P w K mg base CX0 6 "taken" p_taken (spTaken K)
theorem ok_taken {f : Addr} {fd : FuncData} (T : Gb mg) (wk : WebK K C_Web) (c__next_to_go : C_next P w K mg base) (F : Fun K "taken" "taken" s_taken f fd) :
    FnOk P w K mg base CX0 6 f fd p_taken (spTaken K) := by
  refine defTwo F sc_taken rfl [.un, .un, .un] rfl (fun cdv A outer s H Q E hr => ⟨_, (pss_cons (ps_set (i := 1) sc_taken.nd rfl (.inl rfl) (pe_lst pa_nil))
 (pss_cons (ps_set (i := 2) sc_taken.nd rfl (.inl rfl) (pe_listRg rfl rfl T.list (prg_1 rfl T.range (pe_fldK K (he := (pv 0)) (hb := rfl)))))
 (pss_cons (ps_set (i := 3) sc_taken.nd rfl (.inl rfl) (pe_cl c__next_to_go hr rfl pass0 (pa_cons (pv 0) (pa_cons (pv 2) pa_nil))))
 (pss_cons (ps_while PassesOwn.never (pt_cmpR op_notN (pv 3) pe_non (nomark _))
 (pss_cons (ps_expr (pe_bmK K (pa := PySem.F.plainAttrs_list) (slot := PySem.F.slot_list_append) (hty := PySem.F.type_list_append) (hm := mt_append) (ho := (pv 1)) (ha := (pa_cons (pv 3) pa_nil))))
 (pss_cons (ps_expr (pe_rem0K K (hc := rfl) (ho := (pv 2)) (he := (pv 3))))
 (pss_cons (ps_set (i := 3) sc_taken.nd rfl (.inl rfl) (pe_cl c__next_to_go hr rfl pass0 (pa_cons (pv 0) (pa_cons (pv 2) pa_nil))))
 pss_nil))))
 (pss_cons (ps_ret (pe_tup (pa_cons (pv 1) (pa_cons (pv 2) pa_nil))))
 pss_nil))))), fun p hp W D hK hn hret => ?_⟩)
  subst hK
  have h60 := hp.wok.1
  refine go_own (xs := ([] : List Int)) (evl_disp evs_nil (by show 0 ≤ 100000; decide)) ?_
  refine go_own (xs := rng 0 (p.n : Int)) (evl_rng1 (evx_many wk.c wk.cls wk.nm (evx_var rfl)) (by omega)) ?_
  have nx : ∀ {Γ : Dn.Ctx} {k : Nat}, Γ[0]? = some (.dat pyWeb p) → Γ[2]? = some (.own pyInt (tk p k).2) → ∃ te, te = te := fun _ _ => ⟨0, rfl⟩
  have len : ∀ k, (tk p k).2.length ≤ 60 := fun k => by
    have := (TkI.all p k).len
    omega
  refine go_asg (ip := pyOpt (ip := pyInt)) (x := nextF p (rng 0 (p.n : Int))) (evx_look (sc := scOptI) 2 rfl (evx_call2 (f := nextF) (evx_var rfl) (evx_var rfl) ⟨hp, by have := len 0; have e : (tk p 0).2 = rng 0 (p.n : Int) := rfl; rw [e] at this; omega, fun x hx => (TkI.all p 0).inn x hx⟩)) ?_
  dsimp only [List.set]
  refine go_while (S := Nat) 0 (fun k => [.dat pyWeb p, .own pyInt (tk p k).1, .own pyInt (tk p k).2, .dat (pyOpt (ip := pyInt)) (nextF p (tk p k).2)]) (fun k => p.n + 1 - k) (fun k => (nextF p (tk p k).2).isSome) (by walk_at "le" <;> rfl) (fun k => (tk p k).1.length = k) rfl (fun k _ => evt_test (evx_op (evx_var rfl) evx_non (rv_notN (nn := inferInstance)))) (fun k G hk hc hG => ?_) (fun k hk hc => ?_)
  · have ti := TkI.all p k
    have ti2 := TkI.all p (k + 1)
    have l2 := len (k + 1)
    obtain ⟨a, ha⟩ := Option.isSome_iff_exists.mp hc
    have e : tk p (k + 1) = ((tk p k).1 ++ [a], (tk p k).2.erase a) := by
      show tkStep p (tk p k) = _
      unfold tkStep
      rw [ha]
    have ain := nextF_in ha
    have hlen := ti.len
    have hpos := List.length_pos_of_mem ain
    have hk2 : (tk p (k + 1)).1.length = k + 1 := by
      rw [e]
      show ((tk p k).1 ++ [a]).length = k + 1
      rw [List.length_append, List.length_singleton, hk]
    rw [ha]
    refine go_got (i := 3) (x := a) rfl ?_
    dsimp only [List.set]
    refine go_app (i := 1) (x := a) rfl (evx_var rfl) (by omega) ?_
    dsimp only [List.set]
    refine go_rem (i := 2) (x := a) rfl (evx_var rfl) ain ?_
    dsimp only [List.set]
    have e1 : (tk p k).1 ++ [a] = (tk p (k + 1)).1 := by rw [e]
    have e2 : (tk p k).2.erase a = (tk p (k + 1)).2 := by rw [e]
    rw [e1, e2]
    refine go_asg (ip := pyOpt (ip := pyInt)) (x := nextF p (tk p (k + 1)).2) (evx_look (sc := scOptI) 2 rfl (evx_call2 (f := nextF) (evx_var rfl) (evx_var rfl) ⟨hp, by omega, fun x hx => ti2.inn x hx⟩)) ?_
    dsimp only [List.set]
    refine go_next ?_
    exact nx_turn (Γs := fun k => [.dat pyWeb p, .own pyInt (tk p k).1, .own pyInt (tk p k).2, .dat (pyOpt (ip := pyInt)) (nextF p (tk p k).2)]) (m := fun k => p.n + 1 - k) (I := fun k => (tk p k).1.length = k) (k + 1) (by show p.n + 1 - (k + 1) < p.n + 1 - k; omega) hk2 (by walk_at "le")
  · have hc : nextF p (tk p k).2 = none := by
      cases q : nextF p (tk p k).2 with
      | none => rfl
      | some a => rw [q] at hc; cases hc
    have hkn : k ≤ p.n := by
      have := (TkI.all p k).len
      omega
    have e := tk_stop hc (p.n - k)
    rw [show k + (p.n - k) = p.n by omega] at e
    have e : takenF p = ((tk p k).1, (tk p k).2) := e
    rw [e] at hret
    exact go_retTwo (by decide) rfl rfl hret
end
end Gn
namespace Gn
abbrev s_way : Stmt := top 21
abbrev n_way : List Str := ["web", "start", "goal", "shut", "onward", "points"]
abbrev p_way : List Str := ["web", "start", "goal", "shut"]
theorem sc_way : FnScope n_way p_way (defScope s_way) := ⟨rfl, rfl, rfl, by decide +kernel, rfl, by decide +kernel, by decide +kernel⟩

abbrev s__onward : Stmt := top 26
abbrev n__onward : List Str := ["web", "goal", "shut", "barred", "onward", "edge", "further", "point", "other"]
abbrev p__onward : List Str := ["web", "goal", "shut"]
theorem sc__onward : FnScope n__onward p__onward (defScope s__onward) := ⟨rfl, rfl, rfl, by decide +kernel, rfl, by decide +kernel, by decide +kernel⟩

theorem gt_last {xs : List Int} {i : Nat} {a : Int} (h : xs[i]? = some a) : gtm (xs.take (i + 1)) (-1) = a := by
  have hl := (List.getElem?_eq_some_iff.mp h).1
  have e : (xs.take (i + 1)).length = i + 1 := by rw [List.length_take]; omega
  unfold gtm
  rw [if_neg (by decide), e]
  have e2 : (-1 + ((i + 1 : Nat) : Int)) = ((i : Nat) : Int) := by omega
  rw [e2]
  exact gt_nat (by rw [List.getElem?_take_of_lt (by omega)]; exact h)
abbrev badWay (p : WebD) (s t : Int) (_ : List Int) : Bool := noPt p s || noPt p t
theorem bad_way (p : WebD) (s t : Int) (shut : List Int) : (!(decide (0 ≤ (if t < s then t else s)) && decide ((if t < s then t else s) ≤ (if t > s then t else s)) && decide ((if t > s then t else s) < (p.n : Int)))) = decide (badWay p s t shut = true) := by
  rw [Bool.eq_iff_iff]
  unfold badWay noPt
  by_cases a : t < s
  · rw [if_pos a, if_neg (by omega)]
    simp
    omega
  · rw [if_neg a]
    by_cases b : t > s
    · rw [if_pos b]
      simp
      omega
    · rw [if_neg b]
      simp
      omega
section
variable {P : Program} {w : World} {K : PySem.W.Frag} {mg : Str → Option Value} {base : Heap} {C_Web C_NoPoint C_BadWeb : Addr}
abbrev PreO (p : WebD) (t : Int) (shut : List Int) : Prop := WebOk p ∧ InWeb p.n p.rows ∧ (0 ≤ t ∧ t < (p.n : Int)) ∧ shut.length ≤ 4000
abbrev onwardF (p : WebD) (t : Int) (shut : List Int) : List (Int × Int) := (bfs p.rows shut t p.n).1
abbrev spOn (K : PySem.W.Frag) : Sp := sp3 (ic := pyDict) K PreO onwardF
abbrev C_onward (P : Program) (w : World) (K : PySem.W.Frag) (mg : Str → Option Value) (base : Heap) : Prop := Cl P w K mg base CX0 3 "_onward" p__onward (spOn K)
theorem ok__onward {f : Addr} {fd : FuncData} (T : Gb mg) (wk : WebK K C_Web) (c_Web_beside : M_beside P w K mg base C_Web C_NoPoint) (F : Fun K "_onward" "_onward" s__onward f fd) :
    FnOk P w K mg base CX0 3 f fd p__onward (spOn K) := by
  refine def3 (ic := pyDict) F sc__onward rfl [.un, .un, .un, .un, .un, .un] rfl (fun cdv A outer s H Q E hr => ⟨_, (pss_cons (ps_set (i := 3) sc__onward.nd rfl (.inl rfl) (pe_callTy (call_setofK K w rfl) rfl T.set PyProof.Rows.boot_set (pa_cons (pv 2) pa_nil)))
 (pss_cons (ps_set (i := 4) sc__onward.nd rfl (.inl rfl) (pe_disp (pps_cons (pv 1) (pv 1) pps_nil) rfl rfl (by simp) (by decide)))
 (pss_cons (ps_set (i := 5) sc__onward.nd rfl (.inl rfl) (pe_lst (pa_cons (pv 1) pa_nil)))
 (pss_cons (ps_while PassesOwn.never (pt_truthK K (pv 5) (by intro _; rfl))
 (pss_cons (ps_set (i := 6) sc__onward.nd rfl (.inl rfl) (pe_lst pa_nil))
 (pss_cons (ps_for PassesOwn.never rfl (pi_listK K (hl := (pv 5))) (pg_name (i := 7) sc__onward.nd rfl (.inl rfl))
 (pss_cons (ps_for PassesOwn.never rfl (pi_listK K (hl := (pe_mtc c_Web_beside hr (pv 0) passN (pa_cons (pv 7) pa_nil)))) (pg_name (i := 8) sc__onward.nd rfl (.inl rfl))
 (pss_cons (ps_if (PW.pt (pw_and (pt_cmp (pc_dnotin (hu_of hr) (pv 8) (pv 4)) rfl) (pw_and1 (pt_cmpR (or_snotinK w) (pv 8) (pv 3) rfl))))
 (pss_cons (ps_dput (hu_of hr) (pv 4) (pv 8) (pv 7) rfl)
 (pss_cons (ps_expr (pe_bmK K (pa := PySem.F.plainAttrs_list) (slot := PySem.F.slot_list_append) (hty := PySem.F.type_list_append) (hm := mt_append) (ho := (pv 6)) (ha := (pa_cons (pv 8) pa_nil))))
 pss_nil))
 pss_nil)
 pss_nil))
 pss_nil))
 (pss_cons (ps_set (i := 5) sc__onward.nd rfl (.inl rfl) (pv 6))
 pss_nil))))
 (pss_cons (ps_ret (pv 4))
 pss_nil))))), fun p t shut hp W D hK hn hret => ?_⟩)
  subst hK
  obtain ⟨wok, hw, ht, hl⟩ := hp
  refine go_asg (ip := pySet w) (x := shut) (evx_setof (evx_var rfl) hl) ?_
  refine go_dnew (x := t) (y := t) (evx_var rfl) (evx_var rfl) ?_
  refine go_asg (x := [t]) (Evl.x (evl_disp (evs_cons (evx_var rfl) evs_nil) (by show 1 ≤ 100000; decide))) ?_
  dsimp only [List.set]
  refine go_while (S := Nat) 0 (fun k => [.dat pyWeb p, .dat pyInt t, .dat (pyList (ip := pyInt)) shut, .dat (pySet w) shut, .obj (dO (bfs p.rows shut t k).1), .dat (pyList (ip := pyInt)) (bfs p.rows shut t k).2, .un, .un, .un]) (fun k => p.n + 1 - k) (fun k => !(bfs p.rows shut t k).2.isEmpty) (by walk_at "le" <;> rfl) (fun k => k ≤ p.n) (Nat.zero_le _) (fun k _ => evt_truL (evx_var rfl)) (fun k G hk hc hG => ?_) (fun k hk hc => ?_)
  · obtain ⟨sm, em⟩ := bfs_sml (shut := shut) hw ht k
    have kn : k + 1 ≤ p.n := by
      have h1 := bfs_long (rows := p.rows) (shut := shut) (s := t) k (fun z => by rw [z] at hc; cases hc)
      have h2 := sm.len
      omega
    have e1 : bfs p.rows shut t (k + 1) = (bfs p.rows shut t k).2.foldl (visits p.rows shut) ((bfs p.rows shut t k).1, []) := rfl
    have wn := wok.1
    generalize bfs p.rows shut t k = bk at sm em e1 hc ⊢
    obtain ⟨D0, edge⟩ := bk
    have sm0 : Sml p.n (D0, []) := sm.drop
    dsimp only at em e1 ⊢
    refine go_own (xs := ([] : List Int)) (evl_disp evs_nil (by show 0 ≤ 100000; decide)) ?_
    dsimp only [List.set]
    refine go_forL (xs := edge) (evx_var rfl) (fun m => [.dat pyWeb p, .dat pyInt t, .dat (pyList (ip := pyInt)) shut, .dat (pySet w) shut, .obj (dO ((edge.take m).foldl (visits p.rows shut) (D0, [])).1), .dat (pyList (ip := pyInt)) edge, .own pyInt ((edge.take m).foldl (visits p.rows shut) (D0, [])).2, .un, .un]) (by walk_at "le" <;> rfl) (fun m x G2 hx hG2 => ?_) ?_
    · have sE := Sml.edge (shut := shut) hw (edge.take m) (fun a ha => em a (List.mem_of_mem_take ha)) sm0
      have hxr := em x (List.mem_of_getElem? hx)
      have eN : (edge.take (m + 1)).foldl (visits p.rows shut) (D0, []) = visits p.rows shut ((edge.take m).foldl (visits p.rows shut) (D0, [])) x := foldl_take hx
      rw [eN]
      generalize (edge.take m).foldl (visits p.rows shut) (D0, []) = st at sE ⊢
      have hrl := gt_len wok x hxr
      have eV : visits p.rows shut st x = (gt p.rows x).foldl (visit shut x) st := rfl
      rw [eV]
      have hin := fun o ho => hw x o hxr ho
      dsimp only [List.set]
      refine go_forL (xs := gt p.rows x) (Evl.x (evl_wmx2 (x0 := p) (x1 := x) (m := "beside") (f := fun p a => gt p.rows a) wk.c (webF_no (by decide +kernel) (by decide +kernel)) (evx_var rfl) (evx_var rfl) wok (inr_pt (inr_iff.mpr hxr)))) (fun i => [.dat pyWeb p, .dat pyInt t, .dat (pyList (ip := pyInt)) shut, .dat (pySet w) shut, .obj (dO (((gt p.rows x).take i).foldl (visit shut x) st).1), .dat (pyList (ip := pyInt)) edge, .own pyInt (((gt p.rows x).take i).foldl (visit shut x) st).2, .dat pyInt x, .un]) (by walk_at "le" <;> rfl) (fun i o G3 ho hG3 => ?_) ?_
      · have sF := Sml.row (shut := shut) (pt := x) ((gt p.rows x).take i) (fun a ha => hin a (List.mem_of_mem_take ha)) sE
        have eO : ((gt p.rows x).take (i + 1)).foldl (visit shut x) st = visit shut x (((gt p.rows x).take i).foldl (visit shut x) st) o := foldl_take ho
        rw [eO]
        generalize ((gt p.rows x).take i).foldl (visit shut x) st = su at sF ⊢
        have l1 := sF.len
        have l2 := sF.le
        dsimp only [List.set]
        refine go_if (b := !(getI su.1 o).isSome && !decide (o ∈ shut)) (evt_and (evt_B (evx_dnotin (evx_var rfl) (evd_obj rfl))) (fun _ => evt_test (evx_op (evx_var rfl) (evx_var rfl) rv_snotin))) (fun h => ?_) (fun h => ?_)
        · have h0 : getI su.1 o = none ∧ o ∉ shut := by
            rw [Bool.and_eq_true] at h
            refine ⟨?_, by simpa using h.2⟩
            cases q : getI su.1 o with
            | none => rfl
            | some y =>
              rw [q] at h
              cases h.1
          have ev : visit shut x su o = (su.1 ++ [(o, x)], su.2 ++ [o]) := by
            unfold visit
            rw [if_pos h0]
          refine go_dput (i := 4) (x := o) (y := x) rfl (evx_var rfl) (evx_var rfl) h0.1 (by omega) ?_
          refine go_app (i := 6) (x := o) rfl (evx_var rfl) (by omega) ?_
          refine go_next ?_
          rw [ev]
          exact nx_to (by walk_at "le")
        · have h0 : ¬ (getI su.1 o = none ∧ o ∉ shut) := fun z => by
            rw [z.1, decide_eq_false z.2] at h
            cases h
          have ev : visit shut x su o = su := by
            unfold visit
            rw [if_neg h0]
          refine go_next ?_
          refine go_next ?_
          rw [ev]
          exact nx_to (by walk_at "le")
      · refine go_next ?_
        rw [List.take_length]
        exact nx_to (by walk_at "le")
    · rw [List.take_length, ← e1]
      refine go_freeze 6 rfl ?_
      refine go_asg (evx_var rfl) ?_
      refine go_next ?_
      exact nx_turn (Γs := fun k => [.dat pyWeb p, .dat pyInt t, .dat (pyList (ip := pyInt)) shut, .dat (pySet w) shut, .obj (dO (bfs p.rows shut t k).1), .dat (pyList (ip := pyInt)) (bfs p.rows shut t k).2, .un, .un, .un]) (m := fun k => p.n + 1 - k) (I := fun k => k ≤ p.n) (k + 1) (by show p.n + 1 - (k + 1) < p.n + 1 - k; omega) kn (by walk_at "le")
  · have he : (bfs p.rows shut t k).2 = [] := by
      cases q : (bfs p.rows shut t k).2 with
      | nil => rfl
      | cons a r =>
        rw [q] at hc
        cases hc
    have eD : (bfs p.rows shut t k).1 = onwardF p t shut := ((bfs_stop he hk).1).symm
    refine go_freezeD 4 rfl ?_
    exact go_retI (evx_var rfl) eD hret
abbrev PreY (p : WebD) (s t : Int) (shut : List Int) : Prop := WebOk p ∧ InWeb p.n p.rows ∧ SymW p.n p.rows ∧ shut.length ≤ 4000
abbrev spWay (K : PySem.W.Frag) (C : Addr) : Sp := sxn4 K PreY badWay C wayF
abbrev C_way (P : Program) (w : World) (K : PySem.W.Frag) (mg : Str → Option Value) (base : Heap) (C : Addr) : Prop := Cl P w K mg base (L2N.CX P w) 4 "way" p_way (spWay K C)
theorem ok_way {f : Addr} {fd : FuncData} (T : Gb mg) (wk : WebK K C_Web) (XC_NoPoint : Ec K mg "NoPoint" C_NoPoint) (c__onward : C_onward P w K mg base) (F : Fun K "way" "way" s_way f fd) :
    FnOk P w K mg base (L2N.CX P w) 4 f fd p_way (spWay K C_NoPoint) := by
  refine defxn4 F sc_way rfl [.un, .un] rfl (fun cdv A outer s H Q E hr => ⟨_, (pss_cons (ps_if (pt_not (pt_chain3 op_le op_le op_lt pe_int (pe_callB (call_min2 rfl) rfl T.min (by decide +kernel) (pa_cons (pv 1) (pa_cons (pv 2) pa_nil))) (pe_callB (call_max2 rfl) rfl T.max (by decide +kernel) (pa_cons (pv 1) (pa_cons (pv 2) pa_nil))) (pe_fldK K (he := (pv 0)) (hb := rfl))))
 (pss_cons (L2N.ps_raise rfl (L2N.takes_of rfl rfl rfl rfl) (XC_NoPoint.made rfl))
 pss_nil)
 pss_nil)
 (pss_cons (ps_if (pt_cmpR (op_in_seqK K) (pv 2) (pv 3) rfl)
 (pss_cons (ps_ret pe_non)
 pss_nil)
 pss_nil)
 (pss_cons (ps_set (i := 4) sc_way.nd rfl (.inl rfl) (pe_cl c__onward hr rfl pass0 (pa_cons (pv 0) (pa_cons (pv 2) (pa_cons (pv 3) pa_nil)))))
 (pss_cons (ps_if (pt_cmp (pc_dnotin (hu_of hr) (pv 1) (pv 4)) rfl)
 (pss_cons (ps_ret pe_non)
 pss_nil)
 pss_nil)
 (pss_cons (ps_set (i := 5) sc_way.nd rfl (.inl rfl) (pe_lst (pa_cons (pv 1) pa_nil)))
 (pss_cons (ps_while (passes_of rfl) (pt_cmpR op_ne (pe_ix (ix_listK K) (pv 5) (pe_un un_neg pe_int) (fun _ _ => rfl)) (pv 2) (nomark _))
 (pss_cons (ps_expr (pe_bmK K (pa := PySem.F.plainAttrs_list) (slot := PySem.F.slot_list_append) (hty := PySem.F.type_list_append) (hm := mt_append) (ho := (pv 5)) (ha := (pa_cons (pe_dget (hu_of hr) (pv 4) (pe_ix (ix_listK K) (pv 5) (pe_un un_neg pe_int) (fun _ _ => rfl)) (fun _ _ => rfl)) pa_nil))))
 pss_nil))
 (pss_cons (ps_ret (pv 5))
 pss_nil))))))), fun p s t shut hp W D hK hn hret hbad => ?_⟩)
  subst hK
  obtain ⟨wok, hw, sy, hl⟩ := hp
  refine go_ifr (badWay p s t shut = true) (evt_not (evt_test (evx_chain3 evx_int (evx_min2 (evx_var rfl) (evx_var rfl)) (fun _ => evx_max2 (evx_var rfl) (evx_var rfl)) (evx_many wk.c wk.cls wk.nm (evx_var rfl))))) (bad_way p s t shut) (fun h => ?_) (fun h => ?_)
  · exact go_raise (fun σ R Q h => h) (hbad h)
  have hb : badWay p s t shut = false := by simpa using h
  obtain ⟨b1, b2⟩ := Bool.or_eq_false_iff.mp hb
  have hs := noPt_no b1
  have ht := noPt_no b2
  have hret := hret hb
  refine go_ifr (t ∈ shut) (evt_test (evx_op (evx_var rfl) (evx_var rfl) rv_in)) rfl (fun h => ?_) (fun h0 => ?_)
  · exact go_retNone (by unfold wayF; rw [if_pos h]) hret
  refine go_asg (ip := pyDict) (x := onwardF p t shut) (evx_call3 (ic := pyDict) (f := onwardF) (evx_var rfl) (evx_var rfl) (evx_var rfl) ⟨wok, hw, ht, hl⟩) ?_
  refine go_ifr (getI (onwardF p t shut) s = none) (b := !(getI (onwardF p t shut) s).isSome) (evt_B (evx_dnotin (evx_var rfl) (evd_dat rfl))) (by cases getI (onwardF p t shut) s <;> rfl) (fun h => ?_) (fun h1 => ?_)
  · refine go_retNone ?_ hret
    unfold wayF
    rw [if_neg h0, if_pos h]
  rcases way_law hw sy hs ht shut with ⟨q, _⟩ | ⟨j, xs, hj, hx, _, P⟩
  · exfalso
    unfold wayF at q
    rw [if_neg h0, if_neg h1] at q
    cases q
  have wn := wok.1
  have hlen := P.len
  refine go_own (xs := [s]) (evl_disp (evs_cons (evx_var rfl) evs_nil) (by show 1 ≤ 100000; decide)) ?_
  dsimp only [List.set]
  have tk1 : xs.take 1 = [s] := by
    have q := P.head
    cases xs with
    | nil => cases q
    | cons a r =>
      have q : some a = some s := q
      cases q
      rfl
  have at_ : ∀ i, i ≤ j → xs[i]? = some xs[i]! := fun i hi => by
    rw [List.getElem!_eq_getElem?_getD, List.getElem?_eq_getElem (by omega)]
    rfl
  have lastx : ∀ {Γ : Dn.Ctx} (i : Nat), i ≤ j → Γ[5]? = some (.own pyInt (xs.take (i + 1))) → Evx W.K (tOp (rIxL W.K) (tVar 5) (tUn (rU fun i => .int (-i)) (tC (.int 1)))) Γ xs[i]! := fun {Γ} i hi hΓ => by
    have h5 : 5 < Γ.length := (List.getElem?_eq_some_iff.mp hΓ).1
    have q : Evx W.K (tOp (rIxL W.K) (tVar 5) (tUn (rU fun i => .int (-i)) (tC (.int 1)))) Γ (gtm (xs.take (i + 1)) (-1)) := evx_look (sc := scInt) 5 hΓ (evx_op (evx_var (List.getElem?_set_self h5)) (evx_neg evx_int) (rv_ixM (by rw [List.length_take]; omega)))
    rw [gt_last (at_ i hi)] at q
    exact q
  refine go_while (S := Nat) 0 (fun i => [.dat pyWeb p, .dat pyInt s, .dat pyInt t, .dat (pyList (ip := pyInt)) shut, .dat pyDict (onwardF p t shut), .own pyInt (xs.take (i + 1))]) (fun i => j - i) (fun i => !decide (xs[i]! = t)) (by walk_at "le"; exact tk1.symm) (fun i => i ≤ j) (Nat.zero_le _) (fun i hi => evt_test (evx_op (lastx i hi rfl) (evx_var rfl) rv_neI)) (fun i G hi hc hG => ?_) (fun i hi hc => ?_)
  · have hc : xs[i]! ≠ t := by simpa using hc
    have hij : i < j := by
      refine Nat.lt_of_le_of_ne hi fun z => hc ?_
      have q := at_ i hi
      rw [z, P.last] at q
      rw [z]
      exact (Option.some.inj q).symm
    have q1 := at_ i hi
    have q2 := at_ (i + 1) hij
    refine go_app (i := 5) (x := xs[i + 1]!) rfl (evx_dget (evd_dat rfl) (lastx i hi rfl) (P.par i _ _ q1 q2)) (by rw [List.length_take]; omega) ?_
    refine go_next ?_
    have e : xs.take (i + 1) ++ [xs[i + 1]!] = xs.take (i + 1 + 1) := (take_snoc q2).symm
    rw [e]
    exact nx_turn (Γs := fun i => [.dat pyWeb p, .dat pyInt s, .dat pyInt t, .dat (pyList (ip := pyInt)) shut, .dat pyDict (onwardF p t shut), .own pyInt (xs.take (i + 1))]) (m := fun i => j - i) (I := fun i => i ≤ j) (i + 1) (by show j - (i + 1) < j - i; omega) hij (by walk_at "le")
  · have hc : xs[i]! = t := by simpa using hc
    have hij : i = j := by
      refine Classical.byContradiction fun z => P.ne i (by omega) ?_
      rw [at_ i hi, hc]
    subst hij
    have e : xs.take (i + 1) = xs := List.take_of_length_le (by omega)
    rw [e]
    exact go_retSome rfl hx hret
end
end Gn
namespace Gn
/-! ### pieces, rings by a middle -/
abbrev Reach (p : WebD) (shut : List Int) (s x : Int) : Prop := ∃ k, Win p.rows shut s k x
theorem Reach.self (p : WebD) (shut : List Int) (s : Int) : Reach p shut s s := ⟨0, rfl⟩
theorem Reach.step {p : WebD} {shut : List Int} {s x y : Int} (h : Reach p shut s x) (hy : y ∉ shut) (he : y ∈ gt p.rows x) : Reach p shut s y := by
  obtain ⟨k, h⟩ := h
  exact ⟨k + 1, .inr ⟨hy, x, h, he⟩⟩
theorem Reach.trans {p : WebD} {shut : List Int} {s x y : Int} (h : Reach p shut s x) (g : Reach p shut x y) : Reach p shut s y := by
  obtain ⟨k, g⟩ := g
  have : ∀ (k : Nat) (y : Int), Win p.rows shut x k y → Reach p shut s y := fun k => by
    induction k with
    | zero =>
      intro y g
      have g : y = x := g
      rw [g]
      exact h
    | succ k ih =>
      intro y g
      rcases g with g | ⟨g1, z, g2, g3⟩
      · exact ih y g
      · exact (ih z g2).step g1 g3
  exact this k y g
theorem Reach.sub {p : WebD} {shut shut' : List Int} {s x : Int} (hs : ∀ z, z ∈ shut' → z ∈ shut) (h : Reach p shut s x) : Reach p shut' s x := by
  obtain ⟨k, h⟩ := h
  have : ∀ (k : Nat) (x : Int), Win p.rows shut s k x → Reach p shut' s x := fun k => by
    induction k with
    | zero =>
      intro x h
      have h : x = s := h
      rw [h]
      exact .self _ _ _
    | succ k ih =>
      intro x h
      rcases h with h | ⟨h1, z, h2, h3⟩
      · exact ih x h
      · exact (ih z h2).step (fun q => h1 (hs _ q)) h3
  exact this k x h
theorem Reach.symm {p : WebD} {shut : List Int} {s x : Int} (hj : PreJ p) (hs : inr p s = true) (hf : s ∉ shut) (h : Reach p shut s x) : Reach p shut x s := by
  obtain ⟨k, h⟩ := h
  exact ⟨k, h.symm hj.inn hj.sym (inr_iff.mp hs) hf⟩
theorem Reach.free {p : WebD} {shut : List Int} {s x : Int} (hf : s ∉ shut) (h : Reach p shut s x) : x ∉ shut := by
  obtain ⟨k, h⟩ := h
  exact h.free hf
theorem Reach.inn {p : WebD} {shut : List Int} {s x : Int} (hj : PreJ p) (hs : inr p s = true) (h : Reach p shut s x) : inr p x = true := by
  obtain ⟨k, h⟩ := h
  exact inr_iff.mpr (h.inn hj.inn (inr_iff.mp hs))
abbrev keysF (p : WebD) (t : Int) (shut : List Int) : List Int := (onwardF p t shut).map (·.1)
theorem key_iff {p : WebD} {shut : List Int} {t x : Int} (hj : PreJ p) (ht : inr p t = true) : x ∈ keysF p t shut ↔ Reach p shut t x := by
  have hk : ∀ k, x ∈ ((bfs p.rows shut t k).1.map (·.1)) ↔ Win p.rows shut t k x := fun k => by
    rw [← (lev_all p.rows shut t k).keys x]
    constructor
    · intro h z
      exact getI_none.mp z h
    · intro h
      apply Classical.byContradiction
      intro z
      exact h (getI_none.mpr z)
  constructor
  · intro h
    exact ⟨p.n, (hk p.n).mp h⟩
  · rintro ⟨k, h⟩
    have e := (bfs_stop (rows := p.rows) (shut := shut) (s := t) (bfs_end (shut := shut) hj.inn (inr_iff.mp ht)) (Nat.le_max_left p.n k)).1
    have q := (hk (max p.n k)).mpr (h.mono (Nat.le_max_right p.n k))
    rw [e] at q
    exact q
theorem keys_len {p : WebD} {shut : List Int} {t : Int} (hj : PreJ p) (ht : inr p t = true) : (keysF p t shut).length ≤ p.n := by
  rw [List.length_map]
  exact (bfs_sml hj.inn (inr_iff.mp ht) p.n).1.len
def pcStep (p : WebD) (shut : List Int) (st : List (List Int) × List Int) (k : Nat) : List (List Int) × List Int := if (k : Int) ∈ st.2 then st else (st.1 ++ [keysF p (k : Int) shut], st.2 ++ keysF p (k : Int) shut)
def pcTo (p : WebD) (shut : List Int) (m : Nat) : List (List Int) × List Int := (List.range m).foldl (pcStep p shut) ([], shut)
def piecesF (p : WebD) (shut : List Int) : List (List Int) := (pcTo p shut p.n).1
theorem pcTo_succ (p : WebD) (shut : List Int) (m : Nat) : pcTo p shut (m + 1) = pcStep p shut (pcTo p shut m) m := by
  unfold pcTo
  rw [List.range_succ, List.foldl_append]
  rfl
structure PcI (p : WebD) (shut : List Int) (m : Nat) (st : List (List Int) × List Int) : Prop where
  pcs : ∀ pc ∈ st.1, ∃ t, inr p t = true ∧ t ∉ shut ∧ pc = keysF p t shut
  done : ∀ x, x ∈ st.2 → x ∈ shut ∨ ∃ pc ∈ st.1, x ∈ pc
  sh : ∀ x, x ∈ shut → x ∈ st.2
  all : ∀ k : Nat, k < m → (k : Int) ∈ st.2
  l1 : st.1.length ≤ m
  l2 : st.2.length ≤ shut.length + m * p.n
theorem PcI.all_m {p : WebD} (hj : PreJ p) (shut : List Int) : ∀ m, m ≤ p.n → PcI p shut m (pcTo p shut m)
  | 0, _ => ⟨fun pc h => absurd h (List.not_mem_nil), fun x h => .inl h, fun x h => h, fun k hk => absurd hk (Nat.not_lt_zero _), Nat.le_refl _, by show shut.length ≤ _; omega⟩
  | m + 1, hm => by
    have ih := PcI.all_m hj shut m (by omega)
    rw [pcTo_succ]
    generalize pcTo p shut m = st at ih ⊢
    have hin : inr p (m : Int) = true := inr_iff.mpr (by omega)
    unfold pcStep
    split
    · rename_i q
      refine ⟨ih.pcs, ih.done, ih.sh, fun k hk => ?_, by have := ih.l1; omega, by have := ih.l2; rw [Nat.succ_mul]; omega⟩
      by_cases e : k = m
      · rw [e]
        exact q
      · exact ih.all k (by omega)
    · rename_i q
      have ns : (m : Int) ∉ shut := fun z => q (ih.sh _ z)
      have self : (m : Int) ∈ keysF p (m : Int) shut := (key_iff hj hin).mpr (.self _ _ _)
      have kl := keys_len (shut := shut) hj hin
      refine ⟨fun pc h => ?_, fun x h => ?_, fun x h => List.mem_append_left _ (ih.sh x h), fun k hk => ?_, ?_, ?_⟩
      · rcases List.mem_append.mp h with z | z
        · exact ih.pcs pc z
        · rw [List.mem_singleton.mp z]
          exact ⟨_, hin, ns, rfl⟩
      · rcases List.mem_append.mp h with z | z
        · rcases ih.done x z with w | ⟨pc, w1, w2⟩
          · exact .inl w
          · exact .inr ⟨pc, List.mem_append_left _ w1, w2⟩
        · exact .inr ⟨_, List.mem_append_right _ (List.mem_singleton.mpr rfl), z⟩
      · by_cases e : k = m
        · rw [e]
          exact List.mem_append_right _ self
        · exact List.mem_append_left _ (ih.all k (by omega))
      · show (st.1 ++ [_]).length ≤ m + 1
        rw [List.length_append, List.length_singleton]
        have := ih.l1
        omega
      · show (st.2 ++ _).length ≤ _
        rw [List.length_append, Nat.succ_mul]
        have := ih.l2
        omega
/-- each point that is not shut lies in a piece, with all that it leads to -/
theorem piece_of {p : WebD} (hj : PreJ p) {shut : List Int} {w : Int} (hw : inr p w = true) (hf : w ∉ shut) : ∃ pc ∈ piecesF p shut, ∀ c, Reach p shut w c → c ∈ pc := by
  have I := PcI.all_m hj shut p.n (Nat.le_refl _)
  have hwi := inr_iff.mp hw
  have e : ((w.toNat : Nat) : Int) = w := by omega
  have hd := I.all w.toNat (by omega)
  rw [e] at hd
  rcases I.done w hd with z | ⟨pc, h1, h2⟩
  · exact absurd z hf
  · obtain ⟨t, ht, htf, rfl⟩ := I.pcs pc h1
    exact ⟨_, h1, fun c hc => (key_iff hj ht).mpr (((key_iff hj ht).mp h2).trans hc)⟩
theorem way_some {p : WebD} (hj : PreJ p) {a b : Int} {shut : List Int} (hb : inr p b = true) (hf : b ∉ shut) (h : Reach p shut b a) : ∃ xs, wayF p a b shut = some xs := by
  have q := (key_iff hj hb).mpr h
  unfold wayF
  rw [if_neg hf, if_neg (fun z => getI_none.mp z q)]
  exact ⟨_, rfl⟩
def touchF (p : WebD) (a : Int) (pc : List Int) : Bool := pc.any fun o => decide (o ∈ gt p.rows a)
theorem touch_iff {p : WebD} {a : Int} {pc : List Int} : touchF p a pc = true ↔ ∃ c ∈ pc, c ∈ gt p.rows a := by
  unfold touchF
  rw [List.any_eq_true]
  constructor
  · rintro ⟨c, h1, h2⟩
    exact ⟨c, h1, of_decide_eq_true h2⟩
  · rintro ⟨c, h1, h2⟩
    exact ⟨c, h1, decide_eq_true h2⟩
theorem untied_none {p : WebD} : ∀ {xs : List Int}, untiedF p xs = none ↔ xs.Pairwise fun a b => b ∈ gt p.rows a
  | [] => ⟨fun _ => .nil, fun _ => rfl⟩
  | a :: r => by
    have e : untiedF p (a :: r) = (match firstUn p a r with | some o => some (a, o) | none => untiedF p r) := rfl
    rw [e, List.pairwise_cons, ← untied_none (xs := r)]
    cases q : firstUn p a r with
    | some o =>
      constructor
      · intro z
        cases z
      · rintro ⟨h, _⟩
        have h1 := List.find?_some q
        have h2 := h o (List.mem_of_find?_eq_some q)
        rw [decide_eq_true h2] at h1
        cases h1
    | none =>
      refine ⟨fun z => ⟨fun b hb => ?_, z⟩, fun z => z.2⟩
      have := List.find?_eq_none.mp q b hb
      simpa using this
theorem pairwise_two {r : Int → Int → Prop} (sy : ∀ a b, r a b → r b a) : ∀ {xs : List Int}, xs.Pairwise r → ∀ a b, a ∈ xs → b ∈ xs → a ≠ b → r a b
  | [], _, a, b, ha, _, _ => absurd ha (List.not_mem_nil)
  | x :: xs, h, a, b, ha, hb, ne => by
    rw [List.pairwise_cons] at h
    rcases List.mem_cons.mp ha with e1 | ha1
    · rcases List.mem_cons.mp hb with e2 | hb1
      · exact absurd (e1.trans e2.symm) ne
      · rw [e1]
        exact h.1 b hb1
    · rcases List.mem_cons.mp hb with e2 | hb1
      · rw [e2]
        exact sy _ _ (h.1 a ha1)
      · exact pairwise_two sy h.2 a b ha1 hb1 ne
theorem pairwise_of {r : Int → Int → Prop} : ∀ {xs : List Int}, xs.Nodup → (∀ a b, a ∈ xs → b ∈ xs → a ≠ b → r a b) → xs.Pairwise r
  | [], _, _ => .nil
  | x :: xs, hn, h => by
    rw [List.nodup_cons] at hn
    rw [List.pairwise_cons]
    exact ⟨fun b hb => h x b List.mem_cons_self (List.mem_cons_of_mem _ hb) fun e => hn.1 (by rw [e]; exact hb), pairwise_of hn.2 fun a b ha hb => h a b (List.mem_cons_of_mem _ ha) (List.mem_cons_of_mem _ hb)⟩
theorem untied_some {p : WebD} : ∀ {xs : List Int} {t : Int × Int}, untiedF p xs = some t → t.1 ∈ xs ∧ t.2 ∈ xs ∧ t.2 ∉ gt p.rows t.1
  | [], t, h => by cases h
  | a :: r, t, h => by
    have e : untiedF p (a :: r) = (match firstUn p a r with | some o => some (a, o) | none => untiedF p r) := rfl
    rw [e] at h
    cases q : firstUn p a r with
    | some o =>
      rw [q] at h
      cases h
      have h1 := List.find?_some q
      exact ⟨List.mem_cons_self, List.mem_cons_of_mem _ (List.mem_of_find?_eq_some q), by simpa using h1⟩
    | none =>
      rw [q] at h
      obtain ⟨h1, h2, h3⟩ := untied_some (xs := r) h
      exact ⟨List.mem_cons_of_mem _ h1, List.mem_cons_of_mem _ h2, h3⟩
def pairBy (p : WebD) (mid : Int) (pc : List Int) : Option (Int × Int) := untiedF p ((gt p.rows mid).filter fun a => touchF p a pc)
def shutBy (p : WebD) (mid : Int) (t : Int × Int) : List Int := [mid] ++ (gt p.rows mid).filter fun a => !decide (a ∈ [t.1, t.2])
def rtOf (p : WebD) (mid : Int) : List (List Int) → Option (List Int)
  | [] => none
  | pc :: r => match pairBy p mid pc with
    | some t => some ([mid] ++ (wayF p t.1 t.2 (shutBy p mid t)).getD [])
    | none => rtOf p mid r
abbrev shut0 (p : WebD) (mid : Int) : List Int := [mid] ++ gt p.rows mid
def throughF (p : WebD) (mid : Int) : Option (List Int) := rtOf p mid (piecesF p (shut0 p mid))
/-- the way is there -/
theorem pair_way {p : WebD} (hj : PreJ p) {mid : Int} (hm : inr p mid = true) {pc : List Int} (hp : pc ∈ piecesF p (shut0 p mid)) {t : Int × Int} (ht : pairBy p mid pc = some t) :
    inr p t.1 = true ∧ inr p t.2 = true ∧ ∃ xs, wayF p t.1 t.2 (shutBy p mid t) = some xs := by
  have I := PcI.all_m hj (shut0 p mid) p.n (Nat.le_refl _)
  obtain ⟨g, hg, hgf, rfl⟩ := I.pcs pc hp
  obtain ⟨h1, h2, h3⟩ := untied_some ht
  obtain ⟨a1, a2⟩ := List.mem_filter.mp h1
  obtain ⟨b1, b2⟩ := List.mem_filter.mp h2
  have ia : inr p t.1 = true := inr_iff.mpr (hj.inn mid t.1 (inr_iff.mp hm) a1)
  have ib : inr p t.2 = true := inr_iff.mpr (hj.inn mid t.2 (inr_iff.mp hm) b1)
  have nf : ∀ z, z = t.1 ∨ z = t.2 → z ∈ gt p.rows mid → z ∉ shutBy p mid t := fun z hz hzm h => by
    unfold shutBy at h
    rcases List.mem_append.mp h with q | q
    · rw [List.mem_singleton.mp q] at hzm
      exact hj.irr mid hm hzm
    · have q2 := (List.mem_filter.mp q).2
      have : z ∈ [t.1, t.2] := by
        rcases hz with rfl | rfl
        · exact List.mem_cons_self
        · exact List.mem_cons_of_mem _ List.mem_cons_self
      rw [decide_eq_true this] at q2
      cases q2
  have sub : ∀ z, z ∈ shutBy p mid t → z ∈ shut0 p mid := fun z h => by
    unfold shutBy at h
    rcases List.mem_append.mp h with q | q
    · exact List.mem_append_left _ q
    · exact List.mem_append_right _ (List.mem_filter.mp q).1
  refine ⟨ia, ib, way_some hj ib (nf _ (.inr rfl) b1) ?_⟩
  obtain ⟨c1, k1, e1⟩ := touch_iff.mp a2
  obtain ⟨c2, k2, e2⟩ := touch_iff.mp b2
  have r1 := (key_iff hj hg).mp k1
  have r2 := (key_iff hj hg).mp k2
  have f1 := r1.free hgf
  have f2 := r2.free hgf
  have i1 := r1.inn hj hg
  have s1 : Reach p (shutBy p mid t) t.2 c2 := (Reach.self _ _ _).step (fun z => f2 (sub _ z)) e2
  have s2 : Reach p (shutBy p mid t) c2 g := (r2.symm hj hg hgf).sub sub
  have s3 : Reach p (shutBy p mid t) g c1 := r1.sub sub
  have s4 := (s1.trans s2).trans s3
  exact s4.step (nf _ (.inl rfl) a1) (hj.sym t.1 c1 (inr_iff.mp ia) (inr_iff.mp i1) e1)
theorem rt_none {p : WebD} {mid : Int} : ∀ {l : List (List Int)}, rtOf p mid l = none → ∀ pc ∈ l, pairBy p mid pc = none
  | [], _, pc, h => absurd h (List.not_mem_nil)
  | x :: r, h, pc, hp => by
    have e : rtOf p mid (x :: r) = (match pairBy p mid x with | some t => some ([mid] ++ (wayF p t.1 t.2 (shutBy p mid t)).getD []) | none => rtOf p mid r) := rfl
    rw [e] at h
    cases q : pairBy p mid x with
    | some t =>
      rw [q] at h
      cases h
    | none =>
      rw [q] at h
      rcases List.mem_cons.mp hp with rfl | z
      · exact q
      · exact rt_none h pc z
def longF (p : WebD) : Option (List Int) := (takenF p).2.findSome? (throughF p)
abbrev adjW (p : WebD) (a b : Int) : Prop := inr p a = true ∧ inr p b = true ∧ b ∈ gt p.rows a
theorem adjW_sy {p : WebD} (hj : PreJ p) : ∀ a b, adjW p a b → adjW p b a := fun a b ⟨h1, h2, h3⟩ => ⟨h2, h1, hj.sym a b (inr_iff.mp h1) (inr_iff.mp h2) h3⟩
theorem way_reach {p : WebD} {L : List Int} {u w z : Int} (iu : inr p u = true) (inn : ∀ x ∈ L, inr p x = true) (h : Chord.Way (adjW p) (fun x => x ∈ L) u w z) : Reach p (shut0 p u) w z := by
  induction h with
  | here _ _ _ => exact .self _ _ _
  | on _ vz zu nuz yz ih =>
    refine ih.step (fun q => ?_) yz.2.2
    rcases List.mem_append.mp q with q | q
    · exact zu (List.mem_singleton.mp q)
    · exact nuz ⟨iu, inn _ vz, q⟩
theorem up_nd {l : List Int} (h : l.Pairwise (· < ·)) : l.Nodup := h.imp fun {a b} z e => by omega
theorem tied_all {p : WebD} (hj : PreJ p) {xs : List Int} (hi : ∀ x ∈ xs, inr p x = true) (h : untiedF p xs = none) {a b : Int} (ha : a ∈ xs) (hb : b ∈ xs) (ne : a ≠ b) : adjW p a b := by
  have pw := untied_none.mp h
  have pw2 : xs.Pairwise (adjW p) := List.Pairwise.imp_of_mem (fun {a b} ha hb r => ⟨hi a ha, hi b hb, r⟩) pw
  exact pairwise_two (adjW_sy hj) pw2 a b ha hb ne
/-- no ring: all can be taken away -/
theorem long_none {p : WebD} (hj : PreJ p) (h : longF p = none) : (takenF p).2 = [] := by
  have ti : TkI p (takenF p) := TkI.all p p.n
  have te := taken_end p
  have hn : ∀ m ∈ (takenF p).2, throughF p m = none := fun m hm => List.findSome?_eq_none_iff.mp h m hm
  have inn : ∀ x ∈ (takenF p).2, inr p x = true := fun x hx => ti.inn x hx
  generalize (takenF p).2 = L at te hn inn ⊢
  apply Classical.byContradiction
  intro ne
  obtain ⟨x0, hx0⟩ := List.exists_mem_of_ne_nil _ ne
  have st : Chord.Star (adjW p) (fun x => x ∈ L) := fun u w a b hu hw wu nuw ha hb ua ub ab ⟨c, hc, ac⟩ ⟨d, hd, bd⟩ => by
    have iu := inn u hu
    have iw := inn w hw
    have wf : w ∉ shut0 p u := fun z => by
      rcases List.mem_append.mp z with q | q
      · exact wu (List.mem_singleton.mp q)
      · exact nuw ⟨iu, iw, q⟩
    obtain ⟨pc, hpc, hall⟩ := piece_of hj iw wf
    have pn := rt_none (hn u hu) pc hpc
    have ca : a ∈ (gt p.rows u).filter fun a => touchF p a pc := List.mem_filter.mpr ⟨ua.2.2, touch_iff.mpr ⟨c, hall c (way_reach iu inn hc), ac.2.2⟩⟩
    have cb : b ∈ (gt p.rows u).filter fun a => touchF p a pc := List.mem_filter.mpr ⟨ub.2.2, touch_iff.mpr ⟨d, hall d (way_reach iu inn hd), bd.2.2⟩⟩
    exact tied_all hj (fun x hx => inr_iff.mpr (hj.inn u x (inr_iff.mp iu) (List.mem_filter.mp hx).1)) pn ca cb ab
  obtain ⟨x, hx, _, sx⟩ := Chord.taken_away (adjW_sy hj) (fun a h => hj.irr a h.1 h.2.2) L.length (fun x => x ∈ L) (fun _ => False) ⟨L, Nat.le_refl _, fun x h => h⟩ st (fun a b h => h.elim) ⟨x0, hx0, id⟩
  have ix := inn x hx
  have g : goes p L x = true := by
    unfold goes
    rw [Option.isNone_iff_eq_none, untied_none]
    refine pairwise_of ((up_nd (hj.up x ix)).filter _) fun a b ha hb ab => ?_
    obtain ⟨a1, a2⟩ := List.mem_filter.mp ha
    obtain ⟨b1, b2⟩ := List.mem_filter.mp hb
    have a2 := of_decide_eq_true a2
    have b2 := of_decide_eq_true b2
    exact (sx a b a2 b2 ⟨ix, inn a a2, a1⟩ ⟨ix, inn b b2, b1⟩ ab).2.2
  have := List.find?_eq_none.mp te x hx
  exact this g
/-! ### the order in which they go -/
theorem tk_sub {p : WebD} (k : Nat) : ∀ d, (∃ r, (tk p (k + d)).1 = (tk p k).1 ++ r ∧ ∀ x ∈ r, x ∈ (tk p k).2) ∧ ∀ x, x ∈ (tk p (k + d)).2 → x ∈ (tk p k).2
  | 0 => ⟨⟨[], by rw [List.append_nil]; rfl, fun x h => absurd h (List.not_mem_nil)⟩, fun x h => h⟩
  | d + 1 => by
    obtain ⟨⟨r, h1, h2⟩, h3⟩ := tk_sub k d
    have e : tk p (k + (d + 1)) = tkStep p (tk p (k + d)) := rfl
    rw [e]
    unfold tkStep
    cases q : nextF p (tk p (k + d)).2 with
    | none => exact ⟨⟨r, h1, h2⟩, h3⟩
    | some a =>
      refine ⟨⟨r ++ [a], ?_, fun x hx => ?_⟩, fun x hx => h3 x (List.mem_of_mem_erase hx)⟩
      · show (tk p (k + d)).1 ++ [a] = _
        rw [h1, List.append_assoc]
      · rcases List.mem_append.mp hx with z | z
        · exact h2 x z
        · rw [List.mem_singleton.mp z]
          exact h3 a (nextF_in q)
theorem tk_le {p : WebD} : ∀ k, (tk p k).1.length ≤ k
  | 0 => Nat.le_refl _
  | k + 1 => by
    have := tk_le (p := p) k
    have e : tk p (k + 1) = tkStep p (tk p k) := rfl
    rw [e]
    unfold tkStep
    cases q : nextF p (tk p k).2 with
    | none => exact Nat.le_succ_of_le this
    | some a =>
      show ((tk p k).1 ++ [a]).length ≤ k + 1
      rw [List.length_append, List.length_singleton]
      omega
theorem rng_up (n : Nat) : (rng 0 (n : Int)).Pairwise (· ≤ ·) := by
  unfold rng
  rw [List.pairwise_map]
  refine List.pairwise_lt_range.imp fun {a b} h => ?_
  omega
theorem isOrd_perm {p : WebD} {ord : List Int} (h : ord.Perm (rng 0 (p.n : Int))) : isOrd p ord = true := by
  unfold isOrd
  refine decide_eq_true ?_
  exact (sortI_eq h.symm (rng_up p.n)).symm
theorem isOrd_nd {p : WebD} {ord : List Int} (h : isOrd p ord = true) : ord.Nodup := by
  have e : sortI ord = rng 0 (p.n : Int) := of_decide_eq_true h
  have q : (sortI ord).Nodup := by
    rw [e]
    exact rng_nodup _
  exact (sortI_perm ord).nodup_iff.mp q
theorem gapOf_none {p : WebD} {ord : List Int} : ∀ {l : List Int}, (∀ a ∈ l, untiedF p (behindF p ord a) = none) → gapOf p ord l = none
  | [], _ => rfl
  | a :: r, h => by
    have e : gapOf p ord (a :: r) = (match untiedF p (behindF p ord a) with | some t => some ⟨a, t.1, t.2⟩ | none => gapOf p ord r) := rfl
    rw [e, h a List.mem_cons_self]
    exact gapOf_none fun b hb => h b (List.mem_cons_of_mem _ hb)
theorem taken_order {p : WebD} (hj : PreJ p) (h : (takenF p).2 = []) : isOrd p (takenF p).1 = true ∧ gapF p (takenF p).1 = none := by
  have ti : TkI p (takenF p) := TkI.all p p.n
  have io : isOrd p (takenF p).1 = true := by
    have q := ti.perm
    rw [h, List.append_nil] at q
    exact isOrd_perm q
  refine ⟨io, gapOf_none fun a ha => ?_⟩
  have nd := isOrd_nd io
  have ln : (takenF p).1.length = p.n := by
    have := ti.len
    rw [h] at this
    exact this
  obtain ⟨k, hk, ek⟩ := List.getElem_of_mem ha
  have hkn : k < p.n := by omega
  have lk : (tk p k).1.length = k := by
    rcases tk_go (p := p) k with ⟨j, h1, h2⟩ | q
    · exfalso
      have e := tk_stop h2 (p.n - j)
      rw [show j + (p.n - j) = p.n by omega] at e
      have := tk_le (p := p) j
      rw [← e] at this
      have ln : (tk p p.n).1.length = p.n := ln
      omega
    · exact q
  obtain ⟨b, hb⟩ : ∃ b, nextF p (tk p k).2 = some b := by
    cases q : nextF p (tk p k).2 with
    | some b => exact ⟨b, rfl⟩
    | none =>
      exfalso
      have e := tk_stop q (p.n - k)
      rw [show k + (p.n - k) = p.n by omega] at e
      have ln : (tk p p.n).1.length = p.n := ln
      rw [e] at ln
      omega
  have e1 : tk p (k + 1) = ((tk p k).1 ++ [b], (tk p k).2.erase b) := by
    show tkStep p (tk p k) = _
    unfold tkStep
    rw [hb]
  obtain ⟨⟨r, h1, h2⟩, _⟩ := tk_sub (p := p) (k + 1) (p.n - (k + 1))
  rw [show k + 1 + (p.n - (k + 1)) = p.n by omega, e1] at h1
  rw [e1] at h2
  have h1 : (takenF p).1 = (tk p k).1 ++ [b] ++ r := h1
  have eb : a = b := by
    have q : (takenF p).1[k]? = some a := by rw [List.getElem?_eq_getElem hk, ek]
    rw [h1, List.append_assoc, List.getElem?_append_right (by omega), lk, Nat.sub_self] at q
    have q : some b = some a := q
    exact (Option.some.inj q).symm
  subst eb
  have dr : (takenF p).1.drop (k + 1) = r := by
    rw [h1]
    have : ((tk p k).1 ++ [a]).length = k + 1 := by rw [List.length_append, List.length_singleton, lk]
    rw [← this, List.drop_left]
  have ix : (takenF p).1.idxOf a = k := by
    rw [← ek]
    exact List.Nodup.idxOf_getElem nd k hk
  have bh : ∀ x, x ∈ behindF p (takenF p).1 a → x ∈ (tk p k).2 ∧ x ∈ gt p.rows a := fun x hx => by
    unfold behindF at hx
    rw [ix, dr] at hx
    obtain ⟨x1, x2⟩ := List.mem_filter.mp hx
    exact ⟨List.mem_of_mem_erase (h2 x x1), of_decide_eq_true x2⟩
  have ia : inr p a = true := (TkI.all p k).inn a (nextF_in hb)
  have gg := nextF_goes hb
  unfold goes at gg
  have gg := Option.isNone_iff_eq_none.mp gg
  rw [untied_none]
  refine pairwise_of ?_ fun x y hx hy xy => ?_
  · unfold behindF
    exact (nd.sublist (List.drop_sublist _ _)).filter _
  · obtain ⟨x1, x2⟩ := bh x hx
    obtain ⟨y1, y2⟩ := bh y hy
    exact (tied_all hj (fun z hz => inr_iff.mpr (hj.inn a z (inr_iff.mp ia) (List.mem_filter.mp hz).1)) gg (List.mem_filter.mpr ⟨x2, decide_eq_true x1⟩) (List.mem_filter.mpr ⟨y2, decide_eq_true y1⟩) xy).2.2
end Gn
namespace Gn
abbrev s__touches : Stmt := top 25
abbrev n__touches : List Str := ["web", "point", "piece", "other"]
abbrev p__touches : List Str := ["web", "point", "piece"]
theorem sc__touches : FnScope n__touches p__touches (defScope s__touches) := ⟨rfl, rfl, rfl, by decide +kernel, rfl, by decide +kernel, by decide +kernel⟩

abbrev s__pieces : Stmt := top 24
abbrev n__pieces : List Str := ["web", "shut", "pieces", "done", "point", "piece"]
abbrev p__pieces : List Str := ["web", "shut"]
theorem sc__pieces : FnScope n__pieces p__pieces (defScope s__pieces) := ⟨rfl, rfl, rfl, by decide +kernel, rfl, by decide +kernel, by decide +kernel⟩

abbrev s__ring_through : Stmt := top 23
abbrev n__ring_through : List Str := ["web", "middle", "beside", "piece", "pair", "shut", "point"]
abbrev p__ring_through : List Str := ["web", "middle"]
theorem sc__ring_through : FnScope n__ring_through p__ring_through (defScope s__ring_through) := ⟨rfl, rfl, rfl, by decide +kernel, rfl, by decide +kernel, by decide +kernel⟩

abbrev s_long_ring : Stmt := top 22
abbrev n_long_ring : List Str := ["web", "middle", "ring"]
abbrev p_long_ring : List Str := ["web"]
theorem sc_long_ring : FnScope n_long_ring p_long_ring (defScope s_long_ring) := ⟨rfl, rfl, rfl, by decide +kernel, rfl, by decide +kernel, by decide +kernel⟩

section
variable {P : Program} {w : World} {K : PySem.W.Frag} {mg : Str → Option Value} {base : Heap} {C_Web C_NoPoint C_BadWeb : Addr} {cT tT : Addr}
abbrev PreTo (p : WebD) (a : Int) (pc : List Int) : Prop := WebOk p ∧ inr p a = true ∧ ∀ o ∈ pc, inr p o = true
abbrev spTouch (K : PySem.W.Frag) (tT : Addr) : Sp := sp3 (i0 := pyT pyWeb tT) K PreTo touchF
abbrev C_touches (P : Program) (w : World) (K : PySem.W.Frag) (mg : Str → Option Value) (base : Heap) (tT : Addr) : Prop := Cl P w K mg base CX0 6 "_touches" p__touches (spTouch K tT)
theorem ok__touches {f : Addr} {fd : FuncData} (T : Gb mg) (wk : WebK K C_Web) (TB : GxR.TabB base mg cT tT) (c_Web_tied : M_tied P w K mg base C_Web C_NoPoint) (F : FunC K "_touches" "_touches" s__touches f fd cT) :
    FnOk P w K mg base CX0 6 f fd p__touches (spTouch K tT) := by
  refine def3C (i0 := pyT pyWeb tT) F sc__touches rfl [.un] rfl (fun A outer s H Q E hr => ⟨_, (pss_cons (ps_ret (GX.pe_anyG (j := 3) hr rfl T.any TB rfl (GX.gsc_by (j := 3) rfl rfl (by decide +kernel) rfl rfl (by decide +kernel) (by rfl) rfl sc__touches.nd (by rfl)) (pi_listK K (hl := (pv 2))) (fun _ _ _ _ _ _ hrG => (pe_mtc c_Web_tied hrG (pv 0) passN (pa_cons (pv 1) (pa_cons (pv 3) pa_nil))))))
 pss_nil), fun p a pc hp W D hK hn hret => ?_⟩)
  subst hK
  obtain ⟨wok, ha, hpc⟩ := hp
  exact go_retI (GX.evx_anyL (i0 := 0) (f := fun o => decide (o ∈ gt p.rows a)) rfl (evx_var rfl) (fun o ho => evx_wmx3 wk.c (webF_no (by decide +kernel) (by decide +kernel)) (evx_wt (evx_var rfl)) (evx_var rfl) (evx_var rfl) wok (by unfold badTied; rw [inr_pt ha, inr_pt (hpc o ho)]; rfl))) rfl hret
abbrev C_pieces (P : Program) (w : World) (K : PySem.W.Frag) (mg : Str → Option Value) (base : Heap) : Prop := Cl P w K mg base CX0 4 "_pieces" p__pieces (sp2 K (fun (p : WebD) (shut : List Int) => PreJ p ∧ shut.length ≤ 100) piecesF)
theorem ok__pieces {f : Addr} {fd : FuncData} (T : Gb mg) (wk : WebK K C_Web) (c__onward : C_onward P w K mg base) (F : Fun K "_pieces" "_pieces" s__pieces f fd) :
    FnOk P w K mg base CX0 4 f fd p__pieces (sp2 K (fun (p : WebD) (shut : List Int) => PreJ p ∧ shut.length ≤ 100) piecesF) := by
  refine def2 F sc__pieces rfl [.un, .un, .un, .un] rfl (fun cdv A outer s H Q E hr => ⟨_, (pss_cons (ps_set (i := 2) sc__pieces.nd rfl (.inl rfl) (pe_lst pa_nil))
 (pss_cons (ps_set (i := 3) sc__pieces.nd rfl (.inl rfl) (pe_callTy (call_list_ofK K) rfl T.list (by decide +kernel) (pa_cons (pv 1) pa_nil)))
 (pss_cons (ps_for PassesOwn.never rfl (pi_range1 rfl T.range (pa_cons (pe_fldK K (he := (pv 0)) (hb := rfl)) pa_nil)) (pg_name (i := 4) sc__pieces.nd rfl (.inl rfl))
 (pss_cons (ps_if (pt_cmpR (op_notIn_seqK K) (pv 4) (pv 3) rfl)
 (pss_cons (ps_set (i := 5) sc__pieces.nd rfl (.inl rfl) (pe_callTy (call_list_dK rfl) rfl T.list (by decide +kernel) (pa_cons (pe_cl c__onward hr rfl pass0 (pa_cons (pv 0) (pa_cons (pv 4) (pa_cons (pv 1) pa_nil)))) pa_nil)))
 (pss_cons (ps_expr (pe_bmK K (pa := PySem.F.plainAttrs_list) (slot := PySem.F.slot_list_append) (hty := PySem.F.type_list_append) (hm := mt_append) (ho := (pv 2)) (ha := (pa_cons (pv 5) pa_nil))))
 (pss_cons (ps_expr (pe_bmK K (pa := PySem.F.plainAttrs_list) (slot := PySem.F.slot_list_extend) (hty := PySem.F.type_list_extend) (hm := mt_extend) (ho := (pv 3)) (ha := (pa_cons (pv 5) pa_nil))))
 pss_nil)))
 pss_nil)
 pss_nil))
 (pss_cons (ps_ret (pv 2))
 pss_nil)))), fun p shut hp W D hK hn hret => ?_⟩)
  subst hK
  obtain ⟨hj, hl⟩ := hp
  have h60 := hj.wok.1
  refine go_own (xs := ([] : List (List Int))) (evl_disp evs_nil (by show 0 ≤ 100000; decide)) ?_
  refine go_own (xs := shut) (evl_listof (evx_var rfl)) ?_
  dsimp only [List.set]
  refine go_forR (n := (p.n : Int)) (evx_many wk.c wk.cls wk.nm (evx_var rfl)) (by omega) (fun m => [.dat pyWeb p, .dat (pyList (ip := pyInt)) shut, .own (pyList (ip := pyInt)) (pcTo p shut m).1, .own pyInt (pcTo p shut m).2, .un, .un]) (by walk_at "le" <;> rfl) (fun m G hm hG => ?_) ?_
  · have I := PcI.all_m hj shut m (by omega)
    have hin : inr p (m : Int) = true := inr_iff.mpr (by omega)
    have l1 := I.l1
    have l2 := I.l2
    have mn : m * p.n ≤ 60 * 60 := Nat.mul_le_mul (by omega) h60
    rw [pcTo_succ]
    generalize pcTo p shut m = st at l1 l2 ⊢
    obtain ⟨ps, dn⟩ := st
    have l1 : ps.length ≤ m := l1
    have l2 : dn.length ≤ shut.length + m * p.n := l2
    show Go _ _ _ (List.set [.dat pyWeb p, .dat (pyList (ip := pyInt)) shut, .own (pyList (ip := pyInt)) ps, .own pyInt dn, .un, .un] _ _)
    have kl := keys_len (shut := shut) hj hin
    have sp : pcStep p shut (ps, dn) m = if (m : Int) ∈ dn then (ps, dn) else (ps ++ [keysF p (m : Int) shut], dn ++ keysF p (m : Int) shut) := rfl
    rw [sp]
    dsimp only [List.set]
    refine go_if (b := !decide ((m : Int) ∈ dn)) (evt_look 3 rfl (evt_test (evx_op (evx_var rfl) (evx_var rfl) rv_notin))) (fun h => ?_) (fun h => ?_)
    · have h : (m : Int) ∉ dn := by simpa using h
      rw [if_neg h]
      refine go_asg (x := keysF p (m : Int) shut) (Evl.x (evl_listD (evx_call3 (ic := pyDict) (f := onwardF) (evx_var rfl) (evx_var rfl) (evx_var rfl) ⟨hj.wok, hj.inn, inr_iff.mp hin, by omega⟩))) ?_
      dsimp only [List.set]
      refine go_app (i := 2) (x := keysF p (m : Int) shut) rfl (evx_var rfl) (by omega) ?_
      dsimp only [List.set]
      refine go_ext (i := 3) (ys := keysF p (m : Int) shut) rfl (evx_var rfl) (by omega) ?_
      dsimp only [List.set]
      exact go_next (go_next (nx_to (by walk_at "le")))
    · have h : (m : Int) ∈ dn := by simpa using h
      rw [if_pos h]
      exact go_next (go_next (nx_to (by walk_at "le")))
  · rw [Int.toNat_natCast]
    refine go_freeze 2 rfl ?_
    exact go_retI (evx_var rfl) rfl hret
theorem piece_in {p : WebD} (hj : PreJ p) {shut : List Int} {pc : List Int} (h : pc ∈ piecesF p shut) : ∀ o ∈ pc, inr p o = true := fun o ho => by
  obtain ⟨t, ht, _, rfl⟩ := (PcI.all_m hj shut p.n (Nat.le_refl _)).pcs pc h
  exact ((key_iff hj ht).mp ho).inn hj ht
abbrev spThrough (K : PySem.W.Frag) (tT : Addr) : Sp := sp2 (i0 := pyT pyWeb tT) K (fun (p : WebD) (mid : Int) => PreJ p ∧ inr p mid = true) throughF
abbrev C_through (P : Program) (w : World) (K : PySem.W.Frag) (mg : Str → Option Value) (base : Heap) (tT : Addr) : Prop := Cl P w K mg base CX0 7 "_ring_through" p__ring_through (spThrough K tT)
theorem ok__ring_through {f : Addr} {fd : FuncData} (T : Gb mg) (wk : WebK K C_Web) (c_Web_beside : M_beside P w K mg base C_Web C_NoPoint) (c__pieces : C_pieces P w K mg base) (c_untied : C_untied P w K mg base) (c__touches : C_touches P w K mg base tT) (c_way : C_way P w K mg base C_NoPoint) (F : Fun K "_ring_through" "_ring_through" s__ring_through f fd) :
    FnOk P w K mg base CX0 7 f fd p__ring_through (spThrough K tT) := by
  refine def2 (i0 := pyT pyWeb tT) F sc__ring_through rfl [.un, .un, .un, .un, .un] rfl (fun cdv A outer s H Q E hr => ⟨_, (pss_cons (ps_set (i := 2) sc__ring_through.nd rfl (.inl rfl) (pe_mtc c_Web_beside hr (pv 0) passN (pa_cons (pv 1) pa_nil)))
 (pss_cons (ps_for PassesOwn.never rfl (pi_listK K (hl := (pe_cl c__pieces hr rfl pass0 (pa_cons (pv 0) (pa_cons (pe_op op_cat (pe_lst (pa_cons (pv 1) pa_nil)) (pv 2)) pa_nil))))) (pg_name (i := 3) sc__ring_through.nd rfl (.inr rfl))
 (pss_cons (ps_set (i := 4) sc__ring_through.nd rfl (.inr rfl) (pe_cl c_untied hr rfl pass0 (pa_cons (pv 0) (pa_cons (pe_lc (own := [("point", 6)]) rfl sc__ring_through.nd (pi_listK K (hl := (pv 2))) (blkOk_by (N := n__ring_through) (sc := defScope s__ring_through) (own := [("point", 6)]) (by decide +kernel)) (fun _ _ _ _ _ => (pg_name (i := 6) sc__ring_through.nd rfl (.inl rfl))) (fun _ _ _ _ _ => (pts_one (pt_val (pe_cl c__touches hr rfl pass0 (pa_cons (pv 0) (pa_cons (pv 6) (pa_cons (pv 3) pa_nil))))))) (fun _ _ _ _ _ => (pv 6))) pa_nil))))
 (pss_cons (ps_if (pt_cmpR op_notN (pv 4) pe_non (nomark _))
 (pss_cons (ps_set (i := 5) sc__ring_through.nd rfl (.inl rfl) (pe_op op_cat (pe_lst (pa_cons (pv 1) pa_nil)) (pe_lc (own := [("point", 6)]) rfl sc__ring_through.nd (pi_listK K (hl := (pv 2))) (blkOk_by (N := n__ring_through) (sc := defScope s__ring_through) (own := [("point", 6)]) (by decide +kernel)) (fun _ _ _ _ _ => (pg_name (i := 6) sc__ring_through.nd rfl (.inl rfl))) (fun _ _ _ _ _ => (pts_one (pt_cmpR (op_notIn_seqK K) (pv 6) (pv 4) rfl))) (fun _ _ _ _ _ => (pv 6)))))
 (pss_cons (ps_ret (pe_op op_cat (pe_lst (pa_cons (pv 1) pa_nil)) (pe_cl c_way hr rfl passN (pa_cons (pv 0) (pa_cons (pe_ix (ix_tupK K) (pv 4) pe_int (fun _ _ => rfl)) (pa_cons (pe_ix (ix_tupK K) (pv 4) pe_int (fun _ _ => rfl)) (pa_cons (pv 5) pa_nil)))))))
 pss_nil))
 pss_nil)
 pss_nil)))
 (pss_cons (ps_ret pe_non)
 pss_nil))), fun p mid hp W D hK hn hret => ?_⟩)
  subst hK
  obtain ⟨hj, hm⟩ := hp
  have wok := hj.wok
  have hmi := inr_iff.mp hm
  have gl := gt_len wok mid hmi
  have gin : ∀ x ∈ gt p.rows mid, inr p x = true := fun x hx => inr_iff.mpr (hj.inn mid x hmi hx)
  refine go_asg (x := gt p.rows mid) (Evl.x (evl_wmx2 (x0 := p) (x1 := mid) (m := "beside") (f := fun p a => gt p.rows a) wk.c (webF_no (by decide +kernel) (by decide +kernel)) (evx_wt (evx_var rfl)) (evx_var rfl) wok (inr_pt hm))) ?_
  dsimp only [List.set]
  refine go_forLI (xs := piecesF p (shut0 p mid)) (fun m => throughF p mid = rtOf p mid ((piecesF p (shut0 p mid)).drop m)) rfl (evx_call2 (f := piecesF) (evx_wt (evx_var rfl)) (Evl.x (evl_cat (Evl.x (evl_disp (evs_cons (evx_var rfl) evs_nil) (by show 1 ≤ 100000; decide))) (evx_var rfl) (by show 1 + _ ≤ 100000; omega))) ⟨hj, by show (_ :: _).length ≤ 100; rw [List.length_cons]; show (gt p.rows mid).length + 1 ≤ 100; omega⟩) (fun _ => [.dat (pyT pyWeb tT) p, .dat pyInt mid, .dat (pyList (ip := pyInt)) (gt p.rows mid), .un, .un, .un, .un]) (by walk_at "le" <;> rfl) (fun m pc F0 hx hI hG => ?_) (fun hI => ?_)
  · have hpc := List.mem_of_getElem? hx
    have hd : (piecesF p (shut0 p mid)).drop m = pc :: (piecesF p (shut0 p mid)).drop (m + 1) := by
      obtain ⟨h1, h2⟩ := List.getElem?_eq_some_iff.mp hx
      rw [List.drop_eq_getElem_cons h1, h2]
    have er : rtOf p mid (pc :: (piecesF p (shut0 p mid)).drop (m + 1)) = (match pairBy p mid pc with | some t => some ([mid] ++ (wayF p t.1 t.2 (shutBy p mid t)).getD []) | none => rtOf p mid ((piecesF p (shut0 p mid)).drop (m + 1))) := rfl
    rw [hd, er] at hI
    have pin := piece_in hj hpc
    have fl := List.length_filter_le (fun a => touchF p a pc) (gt p.rows mid)
    dsimp only [List.set]
    refine go_asg (x := pairBy p mid pc) (evx_call2 (f := fun p xs => untiedF p xs) (evx_wt (evx_var rfl)) (Evl.x (evl_is (evl_lcX (xs := gt p.rows mid) (fun a => touchF p a pc) (fun o => o) (evx_var rfl) (by omega) (by decide) (fun a ha => evt_B (evx_call3 (i0 := pyT pyWeb tT) (f := touchF) (evx_var rfl) (evx_var rfl) (evx_var rfl) ⟨wok, gin a ha, pin⟩)) (fun o _ _ => evx_var rfl)) (List.map_id' _))) ⟨wok, fun y hy => gin y (List.mem_filter.mp hy).1⟩) ?_
    dsimp only [List.set]
    cases hp : pairBy p mid pc with
    | some t =>
      rw [hp] at hI
      have hI : throughF p mid = some ([mid] ++ (wayF p t.1 t.2 (shutBy p mid t)).getD []) := hI
      obtain ⟨i1, i2, xs, hw⟩ := pair_way hj hm hpc hp
      rw [hw] at hI
      have hI : throughF p mid = some ([mid] ++ xs) := hI
      have fl2 := List.length_filter_le (fun a => !decide (a ∈ [t.1, t.2])) (gt p.rows mid)
      have sl : (shutBy p mid t).length ≤ 100 := by
        show ([mid] ++ _).length ≤ 100
        rw [List.length_append, List.length_singleton]
        omega
      have xl : xs.length ≤ 60 := by
        have q := way_law hj.inn hj.sym (inr_iff.mp i1) (inr_iff.mp i2) (shutBy p mid t)
        rcases q with ⟨q, _⟩ | ⟨j, ys, hj2, q, _, Pt⟩
        · rw [hw] at q
          cases q
        · rw [hw] at q
          cases q
          have := Pt.len
          have h60 := hj.wok.1
          omega
      refine go_ifr (true = true) (b := true) (evt_test (evx_op (evx_var rfl) evx_non (rv_notN (o := some t) (nn := inferInstance)))) rfl (fun _ => ?_) (fun z => absurd rfl z)
      refine go_got (i := 4) (x := t) rfl ?_
      dsimp only [List.set]
      refine go_asg (x := shutBy p mid t) (Evl.x (evl_cat (Evl.x (evl_disp (evs_cons (evx_var rfl) evs_nil) (by show 1 ≤ 100000; decide))) (Evl.x (evl_is (evl_lcX (xs := gt p.rows mid) (fun a => !decide (a ∈ [t.1, t.2])) (fun o => o) (evx_var rfl) (by omega) (by decide) (fun a _ => evt_test (evx_op (evx_var rfl) (evx_var rfl) (rv_notinT (a := t.1) (b := t.2)))) (fun o _ _ => evx_var rfl)) (List.map_id' _))) (by show 1 + _ ≤ 100000; omega))) ?_
      dsimp only [List.set]
      refine go_retI (x := some ([mid] ++ xs)) (evx_some (Evl.x (evl_cat (Evl.x (evl_disp (evs_cons (evx_var rfl) evs_nil) (by show 1 ≤ 100000; decide))) (Evl.x (evl_ofN (evn_callx4 (f := wayF) (evx_wt (evx_var rfl)) (evx_op (evx_var rfl) evx_int rv_ixT0) (evx_op (evx_var rfl) evx_int rv_ixT1) (evx_var rfl) ⟨wok, hj.inn, hj.sym, by omega⟩ (by show (noPt p t.1 || noPt p t.2) = false; rw [inr_pt i1, inr_pt i2]; rfl)) hw)) (by show 1 + _ ≤ 100000; omega)))) hI.symm hret
    | none =>
      rw [hp] at hI
      refine go_ifr (false = true) (b := false) (evt_test (evx_op (evx_var rfl) evx_non (rv_notN (o := (none : Option (Int × Int))) (nn := inferInstance)))) rfl (fun z => by cases z) (fun _ => ?_)
      exact go_next (nx_toI hI (by walk_at "le"))
  · refine go_retI (x := (none : Option (List Int))) evx_nonO ?_ hret
    rw [hI, List.drop_length]
    rfl
abbrev spLong (K : PySem.W.Frag) (tT : Addr) : Sp := sp1 (i0 := pyT pyWeb tT) K PreJ longF
abbrev C_long (P : Program) (w : World) (K : PySem.W.Frag) (mg : Str → Option Value) (base : Heap) (tT : Addr) : Prop := Cl P w K mg base CX0 8 "long_ring" p_long_ring (spLong K tT)
theorem ok_long_ring {f : Addr} {fd : FuncData} (T : Gb mg) (c_taken : C_taken P w K mg base) (c__ring_through : C_through P w K mg base tT) (F : Fun K "long_ring" "long_ring" s_long_ring f fd) :
    FnOk P w K mg base CX0 8 f fd p_long_ring (spLong K tT) := by
  refine def1 (i0 := pyT pyWeb tT) F sc_long_ring rfl [.un, .un] rfl (fun cdv A outer s H Q E hr => ⟨_, (pss_cons (ps_for PassesOwn.never rfl (pi_listK K (hl := (pe_ix (ix_tupK K) (pe_cl c_taken hr rfl pass0 (pa_cons (pv 0) pa_nil)) pe_int (fun _ _ => rfl)))) (pg_name (i := 1) sc_long_ring.nd rfl (.inl rfl))
 (pss_cons (ps_set (i := 2) sc_long_ring.nd rfl (.inl rfl) (pe_cl c__ring_through hr rfl pass0 (pa_cons (pv 0) (pa_cons (pv 1) pa_nil))))
 (pss_cons (ps_if (pt_cmpR op_notN (pv 2) pe_non (nomark _))
 (pss_cons (ps_ret (pv 2))
 pss_nil)
 pss_nil)
 pss_nil)))
 (pss_cons (ps_ret pe_non)
 pss_nil)), fun p hp W D hK hn hret => ?_⟩)
  subst hK
  have inn : ∀ x ∈ (takenF p).2, inr p x = true := fun x hx => (TkI.all p p.n).inn x hx
  refine go_forLI (xs := (takenF p).2) (fun m => longF p = ((takenF p).2.drop m).findSome? (throughF p)) rfl (evx_op (evx_two (ev2_call (f := takenF) (evx_wt (evx_var rfl)) hp)) evx_int rv_ixT1) (fun _ => [.dat (pyT pyWeb tT) p, .un, .un]) (by walk_at "le" <;> rfl) (fun m x F0 hx hI hG => ?_) (fun hI => ?_)
  · have hd : (takenF p).2.drop m = x :: (takenF p).2.drop (m + 1) := by
      obtain ⟨h1, h2⟩ := List.getElem?_eq_some_iff.mp hx
      rw [List.drop_eq_getElem_cons h1, h2]
    rw [hd, List.findSome?_cons] at hI
    dsimp only [List.set]
    refine go_asg (x := throughF p x) (evx_call2 (i0 := pyT pyWeb tT) (f := throughF) (evx_var rfl) (evx_var rfl) ⟨hp, inn x (List.mem_of_getElem? hx)⟩) ?_
    dsimp only [List.set]
    cases q : throughF p x with
    | some r =>
      rw [q] at hI
      refine go_ifr (true = true) (b := true) (evt_test (evx_op (evx_var rfl) evx_non (rv_notN (o := some r) (nn := inferInstance)))) rfl (fun _ => ?_) (fun z => absurd rfl z)
      exact go_retI (x := some r) (evx_var rfl) hI.symm hret
    | none =>
      rw [q] at hI
      refine go_ifr (false = true) (b := false) (evt_test (evx_op (evx_var rfl) evx_non (rv_notN (o := (none : Option (List Int))) (nn := inferInstance)))) rfl (fun z => by cases z) (fun _ => ?_)
      exact go_next (nx_toI hI (by walk_at "le"))
  · refine go_retI (x := (none : Option (List Int))) evx_nonO ?_ hret
    rw [hI, List.drop_length]
    rfl
end
end Gn
namespace Gn
abbrev s_coloured : Stmt := top 29
abbrev n_coloured : List Str := ["web", "order", "colours", "point", "used", "other", "colour"]
abbrev p_coloured : List Str := ["web", "order"]
theorem sc_coloured : FnScope n_coloured p_coloured (defScope s_coloured) := ⟨rfl, rfl, rfl, by decide +kernel, rfl, by decide +kernel, by decide +kernel⟩

section
variable {P : Program} {w : World} {K : PySem.W.Frag} {mg : Str → Option Value} {base : Heap} {C_Web C_NoPoint C_BadWeb C_BadOrder C_HasGap : Addr} {cC tC : Addr}
/-- the least colour that is not used -/
def freeF (used : List Int) : Int := GX.leastF (fun k => !decide ((k : Int) ∈ used)) (used.length + 1)
theorem cover : ∀ (m : Nat) (l : List Int), (∀ q : Nat, q < m → (q : Int) ∈ l) → m ≤ l.length
  | 0, _, _ => Nat.zero_le _
  | m + 1, l, h => by
    have h1 := cover m (l.erase (m : Int)) fun q hq => (List.mem_erase_of_ne (by omega)).mpr (h q (by omega))
    have hm := h m (by omega)
    rw [List.length_erase_of_mem hm] at h1
    have := List.length_pos_of_mem hm
    omega
theorem free_ex (used : List Int) : ∃ q : Nat, q < used.length + 1 ∧ (!decide ((q : Int) ∈ used)) = true := by
  by_cases h : ∃ q : Nat, q < used.length + 1 ∧ (!decide ((q : Int) ∈ used)) = true
  · exact h
  · have q := cover (used.length + 1) used fun q hq => by
      by_cases z : (q : Int) ∈ used
      · exact z
      · exact absurd ⟨q, hq, by simp [z]⟩ h
    omega
def usedF (p : WebD) (ord cs : List Int) (a : Int) : List Int := (behindF p ord a).map (gt cs)
def colStep (p : WebD) (ord cs : List Int) (a : Int) : List Int := cs.set a.toNat (freeF (usedF p ord cs a))
def colTo (p : WebD) (ord : List Int) (m : Nat) : List Int := (ord.reverse.take m).foldl (colStep p ord) (List.replicate ord.length 0)
theorem colTo_len (p : WebD) (ord : List Int) (m : Nat) : (colTo p ord m).length = ord.length := by
  have h : ∀ (l : List Int) (cs : List Int), (l.foldl (colStep p ord) cs).length = cs.length := fun l => by
    induction l with
    | nil => exact fun cs => rfl
    | cons a l ih => exact fun cs => (ih _).trans (by unfold colStep; rw [List.length_set])
  unfold colTo
  rw [h, List.length_replicate]
def colF (p : WebD) (ord : List Int) : List Int := colTo p ord ord.length
abbrev spCol (K : PySem.W.Frag) (tC B G : Addr) : Sp := sxw2 (i0 := pyT pyWeb tC) K (fun (p : WebD) (ord : List Int) => WebOk p) (badGap B G) colF
abbrev C_col (P : Program) (w : World) (K : PySem.W.Frag) (mg : Str → Option Value) (base : Heap) (tC B G : Addr) : Prop := Cl P w K mg base (L2N.CX P w) 7 "coloured" p_coloured (spCol K tC B G)
theorem ok_coloured {f : Addr} {fd : FuncData} (T : Gb mg) (TB : GxR.TabB base mg cC tC) (c__need_no_gap : C_nng P w K mg base C_BadOrder C_HasGap) (c_behind : C_behind P w K mg base C_BadOrder) (F : FunC K "coloured" "coloured" s_coloured f fd cC) :
    FnOk P w K mg base (L2N.CX P w) 7 f fd p_coloured (spCol K tC C_BadOrder C_HasGap) := by
  refine defxw2C (i0 := pyT pyWeb tC) F sc_coloured rfl [.un, .un, .un, .un, .un] rfl (fun A outer s H Q E hr => ⟨_, (pss_cons (ps_expr (pe_clS c__need_no_gap hr rfl (L2N.takes_of rfl rfl rfl rfl) (pa_cons (pv 0) (pa_cons (pv 1) pa_nil))))
 (pss_cons (ps_set (i := 2) sc_coloured.nd rfl (.inr rfl) (pe_op op_rep (pe_lst (pa_cons pe_int pa_nil)) (pe_callB (call_len_seqK K) rfl T.len PySem.boot_len (pa_cons (pv 1) pa_nil))))
 (pss_cons (ps_for (passes_of rfl) rfl (pi_reversed rfl T.reversed (pa_cons (pv 1) pa_nil)) (pg_name (i := 3) sc_coloured.nd rfl (.inl rfl))
 (pss_cons (ps_set (i := 4) sc_coloured.nd rfl (.inr rfl) (pe_lc (own := [("other", 5)]) rfl sc_coloured.nd (pi_listK K (hl := (pe_cl c_behind hr rfl (L2N.passes_call (L2N.takes_of rfl rfl rfl rfl) (fun _ _ _ _ z => z)) (pa_cons (pv 0) (pa_cons (pv 1) (pa_cons (pv 3) pa_nil)))))) (blkOk_by (N := n_coloured) (sc := defScope s_coloured) (own := [("other", 5)]) (by decide +kernel)) (fun _ _ _ _ _ => (pg_name (i := 5) sc_coloured.nd rfl (.inl rfl))) (fun _ _ _ _ _ => pts_nil) (fun _ _ _ _ _ => (pe_ix (ix_listK K) (pv 2) (pv 5) (fun _ _ => rfl)))))
 (pss_cons (ps_asg (GX.pe_minG (j := 6) hr rfl T.min TB rfl (GX.gsc_by (j := 6) rfl rfl (by decide +kernel) rfl rfl (by decide +kernel) (by rfl) rfl sc_coloured.nd (by rfl)) (pi_range1 rfl T.range (pa_cons (pe_op op_add (pe_callB (call_len_seqK K) rfl T.len PySem.boot_len (pa_cons (pv 4) pa_nil)) pe_int) pa_nil)) (fun _ _ _ _ _ _ hrG => (pt_cmpR (op_notIn_seqK K) (pv 6) (pv 4) rfl)) (fun _ _ _ _ _ _ hrG => (pv 6))) (pg_sub (pv 2) (pv 3) set_list))
 pss_nil)))
 (pss_cons (ps_ret (pv 2))
 pss_nil)))), fun p ord wok W D hK hn hret hbad => ?_⟩)
  subst hK
  refine go_dropz (evz_callw2 (f := fun (_ : WebD) (_ : List Int) => ()) (evx_wt (evx_var rfl)) (evx_var rfl) wok) (fun hb => nx_const (hbad _ (by
    cases q : badGap C_BadOrder C_HasGap p ord with
    | none => rw [q] at hb; cases hb
    | some c => rfl))) (fun hb => ?_)
  have hb : badGap C_BadOrder C_HasGap p ord = none := by
    cases q : badGap C_BadOrder C_HasGap p ord with
    | none => rfl
    | some c => rw [q] at hb; cases hb
  obtain ⟨ho, hg⟩ := badGap_none hb
  have hret := hret hb
  have h60 := wok.1
  have hl := isOrd_len ho
  refine go_own (xs := List.replicate ord.length (0 : Int)) (evl_is (evl_rep (n := (ord.length : Int)) (xs := [(0 : Int)]) (Evl.x (evl_lst (evs_cons evx_int evs_nil) (by show 1 ≤ 100000; decide))) (evx_len (evx_var rfl)) (by omega) (by show 1 * _ ≤ _; omega)) (by
    rw [Int.toNat_natCast, List.flatten_replicate_singleton])) ?_
  refine go_forLRev (xs := ord) (evx_var rfl) (fun m => [.dat (pyT pyWeb tC) p, .dat (pyList (ip := pyInt)) ord, .own pyInt (colTo p ord m), .un, .un, .un, .un]) (by walk_at "le" <;> rfl) (fun m x G hx hG => ?_) ?_
  · have hxo : x ∈ ord := List.mem_reverse.mp (List.mem_of_getElem? hx)
    have hin := (isOrd_mem ho).mp hxo
    have hix : 0 ≤ x ∧ x < (p.n : Int) := by simpa [inr] using hin
    have cl := colTo_len p ord m
    have e : colTo p ord (m + 1) = colStep p ord (colTo p ord m) x := foldl_take hx
    rw [e]
    generalize colTo p ord m = cs at cl ⊢
    dsimp only [List.set]
    have bh := behind_in ho x
    have bl : (behindF p ord x).length ≤ 60 := by
      have q1 := List.length_filter_le (fun y => decide (y ∈ gt p.rows x)) (ord.drop (ord.idxOf x + 1))
      rw [List.length_drop] at q1
      show (List.filter _ _).length ≤ 60
      omega
    refine go_asg (x := usedF p ord cs x) (Evl.x (evl_is (evl_lcX (xs := behindF p ord x) (fun _ => true) (gt cs) (Evl.x (evl_callx3 (f := behindF) (evx_wt (evx_var rfl)) (evx_var rfl) (evx_var rfl) ⟨wok, hin⟩ (by unfold badOrd; rw [ho]; rfl))) (by omega) (by decide) (fun _ _ => evt_yes) (fun o hO _ => evx_ixOwn (i := 2) rfl (evx_var rfl) (by
      have q : 0 ≤ o ∧ o < (p.n : Int) := by simpa [inr] using bh o hO
      omega))) (by
      rw [List.filter_eq_self.mpr (fun _ _ => rfl)]
      rfl))) ?_
    have ul : (usedF p ord cs x).length ≤ 60 := by
      unfold usedF
      rw [List.length_map]
      exact bl
    have es : colStep p ord cs x = cs.set x.toNat (freeF (usedF p ord cs x)) := rfl
    rw [es]
    generalize usedF p ord cs x = us at ul ⊢
    dsimp only [List.set]
    have fe : freeF us = GX.leastF (fun k => !decide ((k : Int) ∈ us)) ((us.length : Int) + 1).toNat := by
      have e : ((us.length : Int) + 1).toNat = us.length + 1 := by omega
      rw [e]
      rfl
    rw [fe]
    refine go_setL (i := 2) (xs := cs) rfl (GX.evx_minR (i0 := 0) (f := fun k => !decide ((k : Int) ∈ us)) rfl (evx_op (evx_len (evx_var rfl)) evx_int rv_i0) (by omega) (by
      obtain ⟨q, h1, h2⟩ := free_ex us
      exact ⟨q, by omega, h2⟩) (fun i hi => evt_test (evx_op (evx_var rfl) (evx_var rfl) rv_notin)) (fun i hi => evx_var rfl)) (evx_var rfl) (by omega) ?_
    exact go_next (nx_to (by walk_at "le"))
  · refine go_freeze 2 rfl ?_
    exact go_retI (evx_var rfl) rfl hret
end
end Gn
namespace Gn
abbrev s__copied : Stmt := top 37
abbrev n__copied : List Str := ["points"]
abbrev p__copied : List Str := ["points"]
theorem sc__copied : FnScope n__copied p__copied (defScope s__copied) := ⟨rfl, rfl, rfl, by decide +kernel, rfl, by decide +kernel, by decide +kernel⟩

abbrev s_Verdict___init__ : Stmt := inClass (top 35) 0
abbrev n_Verdict___init__ : List Str := ["self", "order", "ring", "crowd", "colours", "many"]
abbrev p_Verdict___init__ : List Str := ["self", "order", "ring", "crowd", "colours", "many"]
theorem sc_Verdict___init__ : FnScope n_Verdict___init__ p_Verdict___init__ (defScope s_Verdict___init__) := ⟨rfl, rfl, rfl, by decide +kernel, rfl, by decide +kernel, by decide +kernel⟩

abbrev s_judged : Stmt := top 36
abbrev n_judged : List Str := ["web", "ring", "order", "crowd"]
abbrev p_judged : List Str := ["web"]
theorem sc_judged : FnScope n_judged p_judged (defScope s_judged) := ⟨rfl, rfl, rfl, by decide +kernel, rfl, by decide +kernel, by decide +kernel⟩

section
variable {P : Program} {w : World} {K : PySem.W.Frag} {mg : Str → Option Value} {base : Heap} {C_Web C_NoPoint C_BadWeb C_BadOrder C_HasGap C_Verdict : Addr} {tF tG tC tT : Addr}
theorem putF_len (f : Str) (v : V) : ∀ fs : List (Str × V), (putF f v fs).length ≤ fs.length + 1
  | [] => Nat.le_refl _
  | (g, u) :: r => by
    have := putF_len f v r
    unfold putF
    split
    · exact Nat.le_succ _
    · rw [List.length_cons, List.length_cons]
      omega
abbrev C_copied (P : Program) (w : World) (K : PySem.W.Frag) (mg : Str → Option Value) (base : Heap) : Prop := Cl P w K mg base CX0 1 "_copied" p__copied (sp1 (i0 := pyOL) (ic := pyOL) K (fun _ => True) (fun o => o))
theorem ok__copied {f : Addr} {fd : FuncData} (T : Gb mg) (F : Fun K "_copied" "_copied" s__copied f fd) :
    FnOk P w K mg base CX0 1 f fd p__copied (sp1 (i0 := pyOL) (ic := pyOL) K (fun _ => True) (fun o => o)) := by
  refine def1 (i0 := pyOL) (ic := pyOL) F sc__copied rfl [] rfl (fun cdv A outer s H Q E hr => ⟨_, (pss_cons (ps_if (pt_cmpR op_isN (pv 0) pe_non (nomark _))
 (pss_cons (ps_ret pe_non)
 pss_nil)
 pss_nil)
 (pss_cons (ps_ret (pe_callTy (call_list_ofK K) rfl T.list (by decide +kernel) (pa_cons (pv 0) pa_nil)))
 pss_nil)), fun o hp W D hK hn hret => ?_⟩)
  subst hK
  cases o with
  | none =>
    refine go_ifr (true = true) (b := true) (evt_test (evx_op (evx_var rfl) evx_non (rv_isN (o := (none : Option (List Int))) (nn := inferInstance)))) rfl (fun _ => ?_) (fun z => absurd rfl z)
    exact go_retI (x := (none : Option (List Int))) evx_nonO rfl hret
  | some xs =>
    refine go_ifr (false = true) (b := false) (evt_test (evx_op (evx_var rfl) evx_non (rv_isN (o := some xs) (nn := inferInstance)))) rfl (fun z => by cases z) (fun _ => ?_)
    refine go_got (i := 0) (x := xs) rfl ?_
    exact go_retI (x := some xs) (evx_some (Evl.x (evl_listof (evx_var rfl)))) rfl hret
abbrev Mk_Verdict (P : Program) (w : World) (K : PySem.W.Frag) (mg : Str → Option Value) (base : Heap) (C : Addr) : Prop := Mc P w K mg base CX0 2 "Verdict" C p_Verdict___init__ (spVInit K C)
theorem ok_Verdict_init {f : Addr} {fd : FuncData} (T : Gb mg) (vk : VerK K C_Verdict) (c__copied : C_copied P w K mg base) (F : Fun K "__init__" "Verdict.__init__" s_Verdict___init__ f fd) :
    FnOk P w K mg base CX0 2 f fd p_Verdict___init__ (spVInit K C_Verdict) := by
  refine F.ok sc_Verdict___init__ (fun vs H Q E h => ?_) (fun cdv A outer s R vs Q E hr h => ?_)
  · obtain ⟨_, _, _, _, _, _, _, _, _, rfl, _⟩ := h
    rfl
  · obtain ⟨x, dx, d, v1, v2, v3, v4, H, R0, rfl, p1, p2, p3, p4, g0, e0, x0, hx, q⟩ := h
    refine ⟨_, (pss_cons (ps_fldK K (ha := (pv 0)) (hv := (pe_cl c__copied hr rfl pass0 (pa_cons (pv 1) pa_nil))) (hs := rfl))
 (pss_cons (ps_fldK K (ha := (pv 0)) (hv := (pe_cl c__copied hr rfl pass0 (pa_cons (pv 2) pa_nil))) (hs := rfl))
 (pss_cons (ps_fldK K (ha := (pv 0)) (hv := (pe_cl c__copied hr rfl pass0 (pa_cons (pv 3) pa_nil))) (hs := rfl))
 (pss_cons (ps_fldK K (ha := (pv 0)) (hv := (pe_cl c__copied hr rfl pass0 (pa_cons (pv 4) pa_nil))) (hs := rfl))
 (pss_cons (ps_fldK K (ha := (pv 0)) (hv := (pv 5)) (hs := rfl))
 pss_nil))))), ?_⟩
    have xH : H x = none := by
      cases z : H x with
      | none => rfl
      | some o => exact absurd x0 (e0 x o z).some
    have st : ∀ {H' R' : Hp}, Dx.Ex H H' → Env K R0 H' R' (L2.start n_Verdict___init__ [.ref x, v1, v2, v3, v4, .int d.many]) [.dat pyErr ⟨x⟩, .dat pyOL d.order, .dat pyOL d.ring, .dat pyOL d.crowd, .dat pyOL d.colours, .dat pyInt d.many] := fun {H' R'} ex =>
      Env.start (Are.cons (s := Slot.dat pyErr (⟨x⟩ : ErrV)) rfl (Are.cons (s := Slot.dat pyOL d.order) (pyOL.mono ex p1) (Are.cons (s := Slot.dat pyOL d.ring) (pyOL.mono ex p2) (Are.cons (s := Slot.dat pyOL d.crowd) (pyOL.mono ex p3) (Are.cons (s := Slot.dat pyOL d.colours) (pyOL.mono ex p4) (Are.cons (s := Slot.dat pyInt d.many) rfl Are.nil)))))) rfl
    refine (show Evx (ip := pyOL) K _ _ d.order from evx_call1 (i0 := pyOL) (ic := pyOL) (f := fun o => o) (evx_var (i := 1) rfl) trivial) _ R0 H _ g0.inn (st (Dx.Ex.refl _)) _ fun u1 H1 R1 g1 r1 => ?_
    have hx1 := g1.keep x _ hx
    have xH1 : H1 x = none := g1.new x xH (by rw [hx]; intro z; cases z)
    refine ⟨.ref x, rfl, x, C_Verdict, dx, [], rfl, hx1, vk.cls, vk.n1, by decide, ?_⟩
    have G1 := (g0.trans g1).mut (o := HO.ins C_Verdict dx (putF "_order" u1 [])) xH1 x0
    refine (show Evx (ip := pyOL) K _ _ d.ring from evx_call1 (i0 := pyOL) (ic := pyOL) (f := fun o => o) (evx_var (i := 2) rfl) trivial) _ R0 H1 _ G1.inn (st g1.up) _ fun u2 H2 R2 g2 r2 => ?_
    have hx2 := g2.keep x _ upd_same
    have xH2 : H2 x = none := g2.new x xH1 (by rw [upd_same]; intro z; cases z)
    have l1 := putF_len "_order" u1 []
    refine ⟨.ref x, rfl, x, C_Verdict, dx, _, rfl, hx2, vk.cls, vk.n2, Nat.lt_of_le_of_lt l1 (by decide), ?_⟩
    have G2 := (G1.trans g2).mut (o := HO.ins C_Verdict dx (putF "_ring" u2 (putF "_order" u1 []))) xH2 x0
    refine (show Evx (ip := pyOL) K _ _ d.crowd from evx_call1 (i0 := pyOL) (ic := pyOL) (f := fun o => o) (evx_var (i := 3) rfl) trivial) _ R0 H2 _ G2.inn (st (g1.up.trans g2.up)) _ fun u3 H3 R3 g3 r3 => ?_
    have hx3 := g3.keep x _ upd_same
    have xH3 : H3 x = none := g3.new x xH2 (by rw [upd_same]; intro z; cases z)
    have l2 := putF_len "_ring" u2 (putF "_order" u1 [])
    have k2 : (putF "_ring" u2 (putF "_order" u1 [])).length ≤ 2 := by
      have l1 : (putF "_order" u1 []).length ≤ 1 := l1
      omega
    refine ⟨.ref x, rfl, x, C_Verdict, dx, _, rfl, hx3, vk.cls, vk.n3, Nat.lt_of_le_of_lt k2 (by decide), ?_⟩
    have G3 := (G2.trans g3).mut (o := HO.ins C_Verdict dx (putF "_crowd" u3 (putF "_ring" u2 (putF "_order" u1 [])))) xH3 x0
    refine (show Evx (ip := pyOL) K _ _ d.colours from evx_call1 (i0 := pyOL) (ic := pyOL) (f := fun o => o) (evx_var (i := 4) rfl) trivial) _ R0 H3 _ G3.inn (st ((g1.up.trans g2.up).trans g3.up)) _ fun u4 H4 R4 g4 r4 => ?_
    have hx4 := g4.keep x _ upd_same
    have xH4 : H4 x = none := g4.new x xH3 (by rw [upd_same]; intro z; cases z)
    have l3 := putF_len "_crowd" u3 (putF "_ring" u2 (putF "_order" u1 []))
    have k3 : (putF "_crowd" u3 (putF "_ring" u2 (putF "_order" u1 []))).length ≤ 3 := by omega
    refine ⟨.ref x, rfl, x, C_Verdict, dx, _, rfl, hx4, vk.cls, vk.n4, Nat.lt_of_le_of_lt k3 (by decide), ?_⟩
    have G4 := (G3.trans g4).mut (o := HO.ins C_Verdict dx (putF "_colours" u4 (putF "_crowd" u3 (putF "_ring" u2 (putF "_order" u1 []))))) xH4 x0
    have l4 := putF_len "_colours" u4 (putF "_crowd" u3 (putF "_ring" u2 (putF "_order" u1 [])))
    have k4 : (putF "_colours" u4 (putF "_crowd" u3 (putF "_ring" u2 (putF "_order" u1 [])))).length ≤ 4 := by omega
    refine ⟨.int d.many, rfl, .ref x, rfl, x, C_Verdict, dx, _, rfl, upd_same, vk.cls, vk.n5, Nat.lt_of_le_of_lt k4 (by decide), ?_⟩
    exact q u1 u2 u3 u4 H4 _ (G4.mut xH4 x0) xH4 upd_same (pyOL.mono ((g2.up.trans g3.up).trans g4.up) r1) (pyOL.mono (g3.up.trans g4.up) r2) (pyOL.mono g4.up r3) r4
abbrev pyJ (tF tG tC tT : Addr) : Py WebD := pyT (pyT (pyT2 tF tG) tC) tT
def crowdMost (p : WebD) : List Int := maxLenF (fullTo p (takenF p).1 (takenF p).1.length)
def judgedF (p : WebD) : VerD := match longF p with
  | some r => ⟨none, some r, none, none, 0⟩
  | none => ⟨some (takenF p).1, none, some (crowdMost p), some (colF p (takenF p).1), ((crowdMost p).length : Int)⟩
abbrev spJudged (K : PySem.W.Frag) (tF tG tC tT : Addr) : Sp := sp1 (i0 := pyJ tF tG tC tT) (ic := pyVer) K PreJ judgedF
abbrev C_judged (P : Program) (w : World) (K : PySem.W.Frag) (mg : Str → Option Value) (base : Heap) (tF tG tC tT : Addr) : Prop := Cl P w K mg base CX0 12 "judged" p_judged (spJudged K tF tG tC tT)
theorem ok_judged {f : Addr} {fd : FuncData} (T : Gb mg) (vk : VerK K C_Verdict) (c_long_ring : C_long P w K mg base tT) (c_taken : C_taken P w K mg base) (c_full_crowds : C_full P w K mg base tF tG C_BadOrder C_HasGap) (c_coloured : C_col P w K mg base tC C_BadOrder C_HasGap) (c_Verdict : Mk_Verdict P w K mg base C_Verdict) (F : Fun K "judged" "judged" s_judged f fd) :
    FnOk P w K mg base CX0 12 f fd p_judged (spJudged K tF tG tC tT) := by
  refine def1 (i0 := pyJ tF tG tC tT) (ic := pyVer) F sc_judged rfl [.un, .un, .un] rfl (fun cdv A outer s H Q E hr => ⟨_, (pss_cons (ps_set (i := 1) sc_judged.nd rfl (.inl rfl) (pe_cl c_long_ring hr rfl pass0 (pa_cons (pv 0) pa_nil)))
 (pss_cons (ps_if (pt_cmpR op_notN (pv 1) pe_non (nomark _))
 (pss_cons (ps_ret (pe_mkc c_Verdict hr rfl pass0 (pa_cons pe_non (pa_cons (pv 1) (pa_cons pe_non (pa_cons pe_non (pa_cons pe_int pa_nil)))))))
 pss_nil)
 pss_nil)
 (pss_cons (ps_set (i := 2) sc_judged.nd rfl (.inl rfl) (pe_ix (ix_tupK K) (pe_cl c_taken hr rfl pass0 (pa_cons (pv 0) pa_nil)) pe_int (fun _ _ => rfl)))
 (pss_cons (ps_set (i := 3) sc_judged.nd rfl (.inl rfl) (pe_maxLen K rfl rfl T.max rfl T.len (pa_cons (pe_cl c_full_crowds hr rfl passN (pa_cons (pv 0) (pa_cons (pv 2) pa_nil))) pa_nil) (pe_lst pa_nil)))
 (pss_cons (ps_ret (pe_mkc c_Verdict hr rfl pass0 (pa_cons (pv 2) (pa_cons pe_non (pa_cons (pv 3) (pa_cons (pe_cl c_coloured hr rfl passN (pa_cons (pv 0) (pa_cons (pv 2) pa_nil))) (pa_cons (pe_callB (call_len_seqK K) rfl T.len PySem.boot_len (pa_cons (pv 3) pa_nil)) pa_nil)))))))
 pss_nil))))), fun p hp W D hK hn hret => ?_⟩)
  subst hK
  refine go_asg (x := longF p) (evx_call1 (i0 := pyT pyWeb tT) (f := longF) (evx_wtI (ip := pyT (pyT2 tF tG) tC) (fun r => r.1.1.1) (evx_var rfl)) hp) ?_
  dsimp only [List.set]
  have jf : judgedF p = (match longF p with | some r => ⟨none, some r, none, none, 0⟩ | none => ⟨some (takenF p).1, none, some (crowdMost p), some (colF p (takenF p).1), ((crowdMost p).length : Int)⟩) := rfl
  cases hl : longF p with
  | some r =>
    rw [hl] at jf
    refine go_ifr (true = true) (b := true) (evt_test (evx_op (evx_var rfl) evx_non (rv_notN (o := some r) (nn := inferInstance)))) rfl (fun _ => ?_) (fun z => absurd rfl z)
    exact go_retI (ip := pyVer) (x := (⟨none, some r, none, none, 0⟩ : VerD)) (evx_mkVer vk.c evx_nonO (evx_var rfl) evx_nonO evx_nonO evx_int) jf.symm hret
  | none =>
    rw [hl] at jf
    obtain ⟨ho, hg⟩ := taken_order hp (long_none hp hl)
    have hb : badGap C_BadOrder C_HasGap p (takenF p).1 = none := by
      unfold badGap badOrd
      rw [ho, hg]
      rfl
    refine go_ifr (false = true) (b := false) (evt_test (evx_op (evx_var rfl) evx_non (rv_notN (o := (none : Option (List Int))) (nn := inferInstance)))) rfl (fun z => by cases z) (fun _ => ?_)
    refine go_asg (x := (takenF p).1) (evx_op (evx_two (ev2_call (f := takenF) (evx_wt (evx_wt (evx_wt (evx_wt (evx_var rfl))))) hp)) evx_int rv_ixT0) ?_
    dsimp only [List.set]
    refine go_asg (x := crowdMost p) (evx_maxLen (evx_callw2 (i0 := pyT2 tF tG) (f := fun p ord => fullTo p ord ord.length) (evx_wt (evx_wt (evx_var rfl))) (evx_var rfl) hp.wok hb) (Evl.x (evl_disp evs_nil (by show 0 ≤ 100000; decide)))) ?_
    dsimp only [List.set]
    exact go_retI (ip := pyVer) (x := (⟨some (takenF p).1, none, some (crowdMost p), some (colF p (takenF p).1), ((crowdMost p).length : Int)⟩ : VerD)) (evx_mkVer vk.c (evx_some (evx_var rfl)) evx_nonO (evx_some (evx_var rfl)) (evx_some (evx_callw2 (i0 := pyT pyWeb tC) (f := colF) (evx_wtI (ip := pyT2 tF tG) (fun r => r.1.1) (evx_wt (evx_var rfl))) (evx_var rfl) hp.wok hb)) (evx_len (evx_var rfl))) jf.symm hret
end
end Gn
namespace Gn
abbrev s__law_untied : Stmt := top 54
abbrev n__law_untied : List Str := ["_law_near_here", "_law_points", "_law_at", "_law_other"]
abbrev p__law_untied : List Str := ["_law_near_here", "_law_points"]
theorem sc__law_untied : FnScope n__law_untied p__law_untied (defScope s__law_untied) := ⟨rfl, rfl, rfl, by decide +kernel, rfl, by decide +kernel, by decide +kernel⟩

abbrev s__law_free : Stmt := top 56
abbrev n__law_free : List Str := ["_law_near_here", "_law_there", "_law_point", "_law_other"]
abbrev p__law_free : List Str := ["_law_near_here", "_law_there"]
theorem sc__law_free : FnScope n__law_free p__law_free (defScope s__law_free) := ⟨rfl, rfl, rfl, by decide +kernel, rfl, by decide +kernel, by decide +kernel⟩

section
variable {P : Program} {w : World} {K : PySem.W.Frag} {mg : Str → Option Value} {base : Heap}
abbrev wN (near : List (List Int)) : WebD := ⟨near.length, near⟩
abbrev PreLu (near : List (List Int)) (pts : List Int) : Prop := pts.length ≤ 100 ∧ ∀ x ∈ pts, 0 ≤ x ∧ x < (near.length : Int)
abbrev C_luntied (P : Program) (w : World) (K : PySem.W.Frag) (mg : Str → Option Value) (base : Heap) : Prop := Cl P w K mg base CX0 1 "_law_untied" p__law_untied (sp2 K PreLu (fun near pts => untiedF (wN near) pts))
theorem untied_drop {p : WebD} {xs : List Int} {m : Nat} {a : Int} (h : xs[m]? = some a) : untiedF p (xs.drop m) = (match firstUn p a (xs.drop (m + 1)) with | some o => some (a, o) | none => untiedF p (xs.drop (m + 1))) := by
  obtain ⟨h1, h2⟩ := List.getElem?_eq_some_iff.mp h
  rw [List.drop_eq_getElem_cons h1, h2]
  rfl
theorem cut_drop1 {xs : List Int} {m : Nat} (h : m < xs.length) : cut xs (some ((m : Int) + 1)) none = xs.drop (m + 1) := cut_drop xs m
theorem ok__law_untied {f : Addr} {fd : FuncData} (T : Gb mg) (F : Fun K "_law_untied" "_law_untied" s__law_untied f fd) : FnOk P w K mg base CX0 1 f fd p__law_untied (sp2 K PreLu (fun near pts => untiedF (wN near) pts)) := by
  refine def2 F sc__law_untied rfl [.un, .un] rfl (fun cdv A outer s H Q E hr => ⟨_, (pss_cons (ps_for PassesOwn.never rfl (pi_range1 rfl T.range (pa_cons (pe_callB (call_len_seqK K) rfl T.len PySem.boot_len (pa_cons (pv 1) pa_nil)) pa_nil)) (pg_name (i := 2) sc__law_untied.nd rfl (.inl rfl))
 (pss_cons (ps_for PassesOwn.never rfl (pi_listK K (hl := (pe_slice (sl_listK K) (pv 1) (po_some (pe_op op_add (pv 2) pe_int)) po_none))) (pg_name (i := 3) sc__law_untied.nd rfl (.inl rfl))
 (pss_cons (ps_if (pt_cmpR (op_notIn_seqK K) (pv 3) (pe_ix (ix_listK K) (pv 0) (pe_ix (ix_listK K) (pv 1) (pv 2) (fun _ _ => rfl)) (fun _ _ => rfl)) rfl)
 (pss_cons (ps_ret (pe_tup (pa_cons (pe_ix (ix_listK K) (pv 1) (pv 2) (fun _ _ => rfl)) (pa_cons (pv 3) pa_nil))))
 pss_nil)
 pss_nil)
 pss_nil))
 pss_nil))
 (pss_cons (ps_ret pe_non)
 pss_nil)), fun near pts hp W D hK hn hret => ?_⟩)
  subst hK
  obtain ⟨hl, hin⟩ := hp
  refine go_forRI (n := (pts.length : Int)) (fun m => untiedF (wN near) pts = untiedF (wN near) (pts.drop m)) rfl (evx_len (evx_var rfl)) (by omega) (fun _ => [.dat (pyList (ip := pyList (ip := pyInt))) near, .dat (pyList (ip := pyInt)) pts, .un, .un]) (by walk_at "le" <;> rfl) (fun m F0 hm hI hG => ?_) (fun hI => ?_)
  · have hm : m < pts.length := by omega
    have ha := List.getElem?_eq_getElem hm
    have ga : gt pts (m : Int) = pts[m] := gt_nat ha
    have ina := hin _ (List.getElem_mem hm)
    rw [untied_drop ha] at hI
    generalize pts[m] = a at ha ga ina hI
    have fd0 : firstUn (wN near) a (pts.drop (m + 1)) = firstUn (wN near) a ((pts.drop (m + 1)).drop 0) := rfl
    dsimp only [List.set]
    have wi : 0 ≤ gt pts (m : Int) ∧ gt pts (m : Int) < (near.length : Int) := by rw [ga]; exact ina
    refine go_forLI (xs := pts.drop (m + 1)) (fun i => firstUn (wN near) a (pts.drop (m + 1)) = firstUn (wN near) a ((pts.drop (m + 1)).drop i)) rfl (by rw [← cut_drop1 hm]; exact Evl.x (evl_slice (evx_var rfl) (evo_some (evx_op (evx_var rfl) evx_int rv_i0)) evo_none)) (fun _ => [.dat (pyList (ip := pyList (ip := pyInt))) near, .dat (pyList (ip := pyInt)) pts, .dat pyInt (m : Int), .un]) (by walk_at "le" <;> rfl) (fun i x F1 hx hJ hG1 => ?_) (fun hJ => ?_)
    · generalize pts.drop (m + 1) = rest at hI hx hJ ⊢
      have hd : rest.drop i = x :: rest.drop (i + 1) := by
        obtain ⟨h1, h2⟩ := List.getElem?_eq_some_iff.mp hx
        rw [List.drop_eq_getElem_cons h1, h2]
      have st : firstUn (wN near) a (rest.drop i) = if (!decide (x ∈ gt near a)) = true then some x else firstUn (wN near) a (rest.drop (i + 1)) := by
        rw [hd]
        unfold firstUn
        rw [List.find?_cons]
        show (match !decide (x ∈ gt near a) with | true => _ | false => _) = _
        cases (!decide (x ∈ gt near a)) <;> rfl
      dsimp only [List.set]
      refine go_ifr ((!decide (x ∈ gt near a)) = true) (b := !decide (x ∈ gt near a)) (evt_test (evx_is (evx_op (evx_var rfl) (evx_op (evx_var rfl) (evx_op (evx_var rfl) (evx_var rfl) (rv_ixL (by omega))) (rv_ixL wi)) rv_notin) (by rw [ga]))) (by simp) (fun h => ?_) (fun h => ?_)
      · refine go_retI (x := some (a, x)) (evx_some (evx_tup2 (evx_is (evx_op (evx_var rfl) (evx_var rfl) (rv_ixL (by omega))) ga) (evx_var rfl))) ?_ hret
        rw [hI, hJ, st, if_pos h]
      · refine go_next ?_
        exact nx_toI (by rw [hJ, st, if_neg h]) (by walk_at "le")
    · refine go_end (nx_atI ?_) (by walk_at "le")
      rw [hI, hJ, List.drop_length]
      rfl
  · refine go_retI (x := (none : Option (Int × Int))) evx_nonO ?_ hret
    rw [hI, Int.toNat_natCast, List.drop_length]
    rfl
def freeL (near : List (List Int)) (there : List Int) : Int := (there.find? fun a => (untiedF (wN near) (there.filter fun o => decide (o ∈ gt near a))).isNone).getD (-1)
theorem freeL_in {near : List (List Int)} {there : List Int} (h : ¬ freeL near there < 0) : freeL near there ∈ there := by
  unfold freeL at h ⊢
  cases e : there.find? fun a => (untiedF (wN near) (there.filter fun o => decide (o ∈ gt near a))).isNone with
  | none =>
    rw [e] at h
    exact absurd (show (-1 : Int) < 0 by decide) h
  | some a => exact List.mem_of_find?_eq_some e
abbrev C_free (P : Program) (w : World) (K : PySem.W.Frag) (mg : Str → Option Value) (base : Heap) : Prop := Cl P w K mg base CX0 2 "_law_free" p__law_free (sp2 K PreLu freeL)
theorem ok__law_free {f : Addr} {fd : FuncData} (T : Gb mg) (c__law_untied : C_luntied P w K mg base) (F : Fun K "_law_free" "_law_free" s__law_free f fd) : FnOk P w K mg base CX0 2 f fd p__law_free (sp2 K PreLu freeL) := by
  refine def2 F sc__law_free rfl [.un, .un] rfl (fun cdv A outer s H Q E hr => ⟨_, (pss_cons (ps_for PassesOwn.never rfl (pi_listK K (hl := (pv 1))) (pg_name (i := 2) sc__law_free.nd rfl (.inr rfl))
 (pss_cons (ps_if (pt_cmpR op_isN (pe_cl c__law_untied hr rfl pass0 (pa_cons (pv 0) (pa_cons (pe_lc (own := [("_law_other", 3)]) rfl sc__law_free.nd (pi_listK K (hl := (pv 1))) (blkOk_by (N := n__law_free) (sc := defScope s__law_free) (own := [("_law_other", 3)]) (by decide +kernel)) (fun _ _ _ _ _ => (pg_name (i := 3) sc__law_free.nd rfl (.inl rfl))) (fun _ _ _ _ _ => (pts_one (pt_cmpR (op_in_seqK K) (pv 3) (pe_ix (ix_listK K) (pv 0) (pv 2) (fun _ _ => rfl)) rfl))) (fun _ _ _ _ _ => (pv 3))) pa_nil))) pe_non (nomark _))
 (pss_cons (ps_ret (pv 2))
 pss_nil)
 pss_nil)
 pss_nil))
 (pss_cons (ps_ret (pe_un un_neg pe_int))
 pss_nil)), fun near there hp W D hK hn hret => ?_⟩)
  subst hK
  obtain ⟨hl, hin⟩ := hp
  have fe : freeL near there = (there.find? fun a => (untiedF (wN near) (there.filter fun o => decide (o ∈ gt near a))).isNone).getD (-1) := rfl
  refine go_forLI (xs := there) (fun m => freeL near there = ((there.drop m).find? fun a => (untiedF (wN near) (there.filter fun o => decide (o ∈ gt near a))).isNone).getD (-1)) fe (evx_var rfl) (fun _ => [.dat (pyList (ip := pyList (ip := pyInt))) near, .dat (pyList (ip := pyInt)) there, .un, .un]) (by walk_at "le" <;> rfl) (fun m x F0 hx hI hG => ?_) (fun hI => ?_)
  · have hd : there.drop m = x :: there.drop (m + 1) := by
      obtain ⟨h1, h2⟩ := List.getElem?_eq_some_iff.mp hx
      rw [List.drop_eq_getElem_cons h1, h2]
    have hxin := hin x (List.mem_of_getElem? hx)
    rw [hd, List.find?_cons] at hI
    have fl := List.length_filter_le (fun o => decide (o ∈ gt near x)) there
    dsimp only [List.set]
    refine go_ifr ((untiedF (wN near) (there.filter fun o => decide (o ∈ gt near x))).isNone = true) (b := (untiedF (wN near) (there.filter fun o => decide (o ∈ gt near x))).isNone) (evt_test (evx_op (evx_call2 (f := fun near pts => untiedF (wN near) pts) (evx_var rfl) (Evl.x (evl_is (evl_lcX (xs := there) (fun o => decide (o ∈ gt near x)) (fun o => o) (evx_var rfl) (by omega) (by decide) (fun o _ => evt_test (evx_op (evx_var rfl) (evx_op (evx_var rfl) (evx_var rfl) (rv_ixL hxin)) rv_in)) (fun o _ _ => evx_var rfl)) (List.map_id' _))) ⟨by omega, fun y hy => hin y (List.mem_filter.mp hy).1⟩) evx_non (rv_isN (nn := inferInstance)))) (dec_tt _) (fun h => ?_) (fun h => ?_)
    · refine go_retI (evx_var rfl) ?_ hret
      rw [hI, h]
      rfl
    · refine go_next ?_
      refine nx_toI ?_ (by walk_at "le")
      have h : (untiedF (wN near) (there.filter fun o => decide (o ∈ gt near x))).isNone = false := Bool.eq_false_iff.mpr h
      rw [hI, h]
  · refine go_retI (x := (-1 : Int)) (evx_neg evx_int) ?_ hret
    rw [hI, List.drop_length]
    rfl
end
end Gn
namespace Gn
abbrev s__law_stays : Stmt := top 55
abbrev n__law_stays : List Str := ["_law_web", "_law_near_here", "_law_k"]
abbrev p__law_stays : List Str := ["_law_web", "_law_near_here"]
theorem sc__law_stays : FnScope n__law_stays p__law_stays (defScope s__law_stays) := ⟨rfl, rfl, rfl, by decide +kernel, rfl, by decide +kernel, by decide +kernel⟩

section
variable {P : Program} {w : World} {K : PySem.W.Frag} {mg : Str → Option Value} {base : Heap} {C_Web C_NoPoint C_BadWeb : Addr}
abbrev C_stays (P : Program) (w : World) (K : PySem.W.Frag) (mg : Str → Option Value) (base : Heap) : Prop := Cl P w K mg base CX0 3 "_law_stays" p__law_stays (sp2 K (fun (p : WebD) (near : List (List Int)) => WebOk p ∧ near = p.rows) (fun _ _ => true))
theorem ok__law_stays {f : Addr} {fd : FuncData} (T : Gb mg) (wk : WebK K C_Web) (c_Web_beside : M_beside P w K mg base C_Web C_NoPoint) (c__law_numbers : C_numbers P w K mg base) (F : Fun K "_law_stays" "_law_stays" s__law_stays f fd) :
    FnOk P w K mg base CX0 3 f fd p__law_stays (sp2 K (fun (p : WebD) (near : List (List Int)) => WebOk p ∧ near = p.rows) (fun _ _ => true)) := by
  refine def2 F sc__law_stays rfl [.un] rfl (fun cdv A outer s H Q E hr => ⟨_, (pss_cons (ps_for PassesOwn.never rfl (pi_range1 rfl T.range (pa_cons (pe_callB (call_len_seqK K) rfl T.len PySem.boot_len (pa_cons (pv 1) pa_nil)) pa_nil)) (pg_name (i := 2) sc__law_stays.nd rfl (.inl rfl))
 (pss_cons (ps_if (pt_not (pt_val (pe_cl c__law_numbers hr rfl pass0 (pa_cons (pe_mtc c_Web_beside hr (pv 0) passN (pa_cons (pv 2) pa_nil)) (pa_cons (pe_ix (ix_listK K) (pv 1) (pv 2) (fun _ _ => rfl)) pa_nil)))))
 (pss_cons (ps_ret pe_bl)
 pss_nil)
 pss_nil)
 pss_nil))
 (pss_cons (ps_ret pe_bl)
 pss_nil)), fun p near hp W D hK hn hret => ?_⟩)
  subst hK
  obtain ⟨wok, rfl⟩ := hp
  have h1 := wok.1
  have h2 := wok.2.1
  refine go_forR (n := (p.rows.length : Int)) (evx_len (evx_var rfl)) (by omega) (fun _ => [.dat pyWeb p, .dat (pyList (ip := pyList (ip := pyInt))) p.rows, .un]) (by walk_at "le") (fun k G hk hG => ?_) ?_
  · have hr : 0 ≤ ((k : Nat) : Int) ∧ ((k : Nat) : Int) < (p.n : Int) := by omega
    have hl := gt_len wok _ hr
    dsimp only [List.set]
    refine go_skip (evt_not (evt_B (evx_call2 (f := fun (_ _ : List Int) => true) (Evl.x (evl_wmx2 (x0 := p) (x1 := (k : Int)) (m := "beside") (f := fun p a => gt p.rows a) wk.c (webF_no (by decide +kernel) (by decide +kernel)) (evx_var rfl) (evx_var rfl) wok (inr_pt (inr_iff.mpr hr)))) (evx_op (evx_var rfl) (evx_var rfl) (rv_ixL (by omega))) ⟨rfl, by omega⟩))) rfl ?_
    exact go_end nx_at (by walk_at "le")
  · exact go_retI evx_bl rfl hret
end
end Gn
namespace Gn
abbrev s_law : Stmt := top 57
abbrev n_law : List Str := ["_law_script", "_law_many_here", "_law_ties_here", "_law_near_here", "_law_web", "_law_there", "_law_order", "_law_turn", "_law_point", "_law_kept", "_law_found", "_law_pair"]
abbrev p_law : List Str := ["_law_script"]
theorem sc_law : FnScope n_law p_law (defScope s_law) := ⟨rfl, rfl, rfl, by decide +kernel, rfl, by decide +kernel, by decide +kernel⟩

section
variable {P : Program} {w : World} {K : PySem.W.Frag} {mg : Str → Option Value} {base : Heap} {C_Web C_NoPoint C_BadWeb : Addr} {tF tG tC tT : Addr}
/-! ### the law takes away as the program does -/
theorem find_same {f g : Int → Bool} : ∀ {l : List Int}, (∀ x ∈ l, f x = g x) → l.find? f = l.find? g
  | [], _ => rfl
  | x :: l, h => by
    rw [List.find?_cons, List.find?_cons, h x List.mem_cons_self, find_same fun y hy => h y (List.mem_cons_of_mem _ hy)]
theorem wN_is {p : WebD} (h : WebOk p) : wN p.rows = p := by
  show (⟨p.rows.length, p.rows⟩ : WebD) = p
  rw [h.2.1]
theorem free_is {p : WebD} (hj : PreJ p) {left : List Int} (hn : left.Nodup) (hi : ∀ x ∈ left, inr p x = true) : freeL p.rows left = (nextF p left).getD (-1) := by
  unfold freeL nextF
  rw [wN_is hj.wok]
  congr 1
  refine find_same fun x hx => ?_
  have ix := hi x hx
  unfold goes
  rw [Bool.eq_iff_iff, Option.isNone_iff_eq_none, Option.isNone_iff_eq_none]
  constructor
  · intro h
    rw [untied_none]
    refine pairwise_of ((up_nd (hj.up x ix)).filter _) fun a b ha hb ab => ?_
    obtain ⟨a1, a2⟩ := List.mem_filter.mp ha
    obtain ⟨b1, b2⟩ := List.mem_filter.mp hb
    exact (tied_all hj (fun z hz => hi z (List.mem_filter.mp hz).1) h (List.mem_filter.mpr ⟨of_decide_eq_true a2, decide_eq_true a1⟩) (List.mem_filter.mpr ⟨of_decide_eq_true b2, decide_eq_true b1⟩) ab).2.2
  · intro h
    rw [untied_none]
    refine pairwise_of (hn.filter _) fun a b ha hb ab => ?_
    obtain ⟨a1, a2⟩ := List.mem_filter.mp ha
    obtain ⟨b1, b2⟩ := List.mem_filter.mp hb
    exact (tied_all hj (fun z hz => inr_iff.mpr (hj.inn x z (inr_iff.mp ix) (List.mem_filter.mp hz).1)) h (List.mem_filter.mpr ⟨of_decide_eq_true a2, decide_eq_true a1⟩) (List.mem_filter.mpr ⟨of_decide_eq_true b2, decide_eq_true b1⟩) ab).2.2
abbrev pySJ (tF tG tC tT : Addr) : Py Scr := pyT (pyT (pyT (pyT pyScr tF) tG) tC) tT
theorem evx_sj {Γ : Dn.Ctx} {te : TE} {x : Scr} (h : Evx (ip := pySJ tF tG tC tT) K te Γ x) : Evx (ip := pyScr) K te Γ x := evx_wt (evx_wt (evx_wt (evx_wt h)))
theorem evx_twJ {Γ : Dn.Ctx} {te : TE} {x : WebD} {y : Scr} {i : Nat} (hi : Γ[i]? = some (.dat (pySJ tF tG tC tT) y)) (h : Evx (ip := pyWeb) K te Γ x) : Evx (ip := pyJ tF tG tC tT) K te Γ x := fun σ R0 H R e E Q k => h σ R0 H R e E Q fun v H' R' g r => by
  obtain ⟨u, _, q, hC⟩ := (E.grow g).ok i _ hi
  obtain ⟨⟨⟨_, hF⟩, hG⟩, hA⟩ := q
  exact k v H' R' g ⟨⟨⟨⟨r, hF⟩, hG⟩, hA⟩, hC⟩
theorem evx_wj {Γ : Dn.Ctx} {te : TE} {x : WebD} (h : Evx (ip := pyJ tF tG tC tT) K te Γ x) : Evx (ip := pyWeb) K te Γ x := evx_wt (evx_wt (evx_wt (evx_wt h)))
abbrev pyKt : Py ((List Int × List Int) × (List Int × List Int)) := pyPair (ip := pyLL) (iq := pyLL)
def keptT (t : List Int × List Int) (i : Nat) : List ((List Int × List Int) × (List Int × List Int)) := (List.range i).map fun (k : Nat) => ((t.1 ++ [(k : Int)], t.2 ++ [(k : Int)]), (t.1 ++ [(k : Int)], t.2 ++ [(k : Int)]))
theorem keptT_succ (t : List Int × List Int) (i : Nat) : keptT t (i + 1) = keptT t i ++ [((t.1 ++ [(i : Int)], t.2 ++ [(i : Int)]), (t.1 ++ [(i : Int)], t.2 ++ [(i : Int)]))] := by
  unfold keptT
  rw [List.range_succ, List.map_append]
  rfl
abbrev spLaw (K : PySem.W.Frag) (tF tG tC tT : Addr) : Sp := sp1 (i0 := pySJ tF tG tC tT) K (fun (_ : Scr) => True) (fun _ => true)
theorem ok_law {f : Addr} {fd : FuncData} (T : Gb mg) (c__law_many : C_many P w K mg base) (c__law_ties : C_ties P w K mg base) (c__law_rows : C_rows P w K mg base) (c__law_near : C_near P w K mg base) (c_web_of : C_web_of P w K mg base C_BadWeb)
    (c__law_free : C_free P w K mg base) (c_judged : C_judged P w K mg base tF tG tC tT) (c_long_ring : C_long P w K mg base tT) (c_taken : C_taken P w K mg base) (c__law_numbers : C_numbers P w K mg base) (c__law_stays : C_stays P w K mg base) (F : Fun K "law" "law" s_law f fd) :
    FnOk P w K mg base CX0 13 f fd p_law (spLaw K tF tG tC tT) := by
  refine def1 (i0 := pySJ tF tG tC tT) F sc_law rfl [.un, .un, .un, .un, .un, .un, .un, .un, .un, .un, .un] rfl (fun cdv A outer s H Q E hr => ⟨_, (pss_cons (ps_set (i := 1) sc_law.nd rfl (.inl rfl) (pe_cl c__law_many hr rfl pass0 (pa_cons (pv 0) pa_nil)))
 (pss_cons (ps_set (i := 2) sc_law.nd rfl (.inl rfl) (pe_cl c__law_ties hr rfl pass0 (pa_cons (pv 0) (pa_cons (pv 1) (pa_cons (pe_cl c__law_rows hr rfl pass0 (pa_cons (pv 0) (pa_cons (pv 1) pa_nil))) pa_nil)))))
 (pss_cons (ps_set (i := 3) sc_law.nd rfl (.inl rfl) (pe_cl c__law_near hr rfl pass0 (pa_cons (pv 1) (pa_cons (pv 2) pa_nil))))
 (pss_cons (ps_set (i := 4) sc_law.nd rfl (.inl rfl) (pe_cl c_web_of hr rfl passN (pa_cons (pv 1) (pa_cons (pe_callTy (call_list_ofK K) rfl T.list (by decide +kernel) (pa_cons (pv 2) pa_nil)) pa_nil))))
 (pss_cons (ps_set (i := 5) sc_law.nd rfl (.inl rfl) (pe_listRg rfl rfl T.list (prg_1 rfl T.range (pv 1))))
 (pss_cons (ps_set (i := 6) sc_law.nd rfl (.inl rfl) (pe_lst pa_nil))
 (pss_cons (ps_for PassesOwn.never rfl (pi_range1 rfl T.range (pa_cons (pv 1) pa_nil)) (pg_name (i := 7) sc_law.nd rfl (.inl rfl))
 (pss_cons (ps_set (i := 8) sc_law.nd rfl (.inl rfl) (pe_cl c__law_free hr rfl pass0 (pa_cons (pv 3) (pa_cons (pv 5) pa_nil))))
 (pss_cons (ps_if (pt_cmpR op_ge (pv 8) pe_int (nomark _))
 (pss_cons (ps_expr (pe_bmK K (pa := PySem.F.plainAttrs_list) (slot := PySem.F.slot_list_append) (hty := PySem.F.type_list_append) (hm := mt_append) (ho := (pv 6)) (ha := (pa_cons (pv 8) pa_nil))))
 (pss_cons (ps_expr (pe_rem0K K (hc := rfl) (ho := (pv 5)) (he := (pv 8))))
 pss_nil))
 pss_nil)
 pss_nil)))
 (pss_cons (ps_set (i := 9) sc_law.nd rfl (.inl rfl) (pe_lst pa_nil))
 (pss_cons (ps_for PassesOwn.never rfl (pi_range1 rfl T.range (pa_cons pe_int pa_nil)) (pg_name (i := 7) sc_law.nd rfl (.inl rfl))
 (pss_cons (ps_if (pt_cmpR op_eq (pv 7) pe_int (nomark _))
 (pss_cons (ps_expr (pe_cl c_judged hr rfl pass0 (pa_cons (pv 4) pa_nil)))
 (pss_cons (ps_expr (pe_cl c_long_ring hr rfl pass0 (pa_cons (pv 4) pa_nil)))
 pss_nil))
 pss_nil)
 (pss_cons (ps_set (i := 10) sc_law.nd rfl (.inl rfl) (pe_cl c_taken hr rfl pass0 (pa_cons (pv 4) pa_nil)))
 (pss_cons (ps_if (PW.pt (pw_or (pt_not (pt_val (pe_callB (call_isiKn K) rfl T.isinstance (by decide +kernel) (pa_cons (pv 10) (pa_cons (pe_bltn (v := .ty "tuple") rfl T.tuple (by decide +kernel) rfl) pa_nil))))) (pw_or1 (pt_cmpR op_ne (pe_callB (call_len_seqK K) rfl T.len PySem.boot_len (pa_cons (pv 10) pa_nil)) pe_int (nomark _)))))
 (pss_cons (ps_ret pe_bl)
 pss_nil)
 pss_nil)
 (pss_cons (ps_if (PW.pt (pw_or (pt_not (pt_val (pe_cl c__law_numbers hr rfl pass0 (pa_cons (pe_ix (ix_tupK K) (pv 10) pe_int (fun _ _ => rfl)) (pa_cons (pv 6) pa_nil))))) (pw_or1 (pt_not (pt_val (pe_cl c__law_numbers hr rfl pass0 (pa_cons (pe_ix (ix_tupK K) (pv 10) pe_int (fun _ _ => rfl)) (pa_cons (pv 5) pa_nil))))))))
 (pss_cons (ps_ret pe_bl)
 pss_nil)
 pss_nil)
 (pss_cons (ps_expr (pe_bmK K (pa := PySem.F.plainAttrs_list) (slot := PySem.F.slot_list_append) (hty := PySem.F.type_list_append) (hm := mt_append) (ho := (pe_ix (ix_tupK K) (pv 10) pe_int (fun _ _ => rfl))) (ha := (pa_cons (pv 7) pa_nil))))
 (pss_cons (ps_expr (pe_bmK K (pa := PySem.F.plainAttrs_list) (slot := PySem.F.slot_list_append) (hty := PySem.F.type_list_append) (hm := mt_append) (ho := (pe_ix (ix_tupK K) (pv 10) pe_int (fun _ _ => rfl))) (ha := (pa_cons (pv 7) pa_nil))))
 (pss_cons (ps_expr (pe_bmK K (pa := PySem.F.plainAttrs_list) (slot := PySem.F.slot_list_append) (hty := PySem.F.type_list_append) (hm := mt_append) (ho := (pv 9)) (ha := (pa_cons (pe_tup (pa_cons (pv 10) (pa_cons (pe_tup (pa_cons (pe_op op_cat (pv 6) (pe_lst (pa_cons (pv 7) pa_nil))) (pa_cons (pe_op op_cat (pv 5) (pe_lst (pa_cons (pv 7) pa_nil))) pa_nil))) pa_nil))) pa_nil))))
 pss_nil))))))))
 (pss_cons (ps_ret (pe_and (pe_cl c__law_stays hr rfl pass0 (pa_cons (pv 4) (pa_cons (pv 3) pa_nil))) (pe_one (pe_cmpR (op_eqDK K (hu := hr.units)) (pe_lc (own := [("_law_pair", 11)]) rfl sc_law.nd (pi_listK K (hl := (pv 9))) (blkOk_by (N := n_law) (sc := defScope s_law) (own := [("_law_pair", 11)]) (by decide +kernel)) (fun _ _ _ _ _ => (pg_name (i := 11) sc_law.nd rfl (.inl rfl))) (fun _ _ _ _ _ => (pts_one (pt_cmpR (op_neDK K (hu := hr.units)) (pe_ix (ix_tupK K) (pv 11) pe_int (fun _ _ => rfl)) (pe_ix (ix_tupK K) (pv 11) pe_int (fun _ _ => rfl)) (nomark _)))) (fun _ _ _ _ _ => (pv 11))) (pe_lst pa_nil) (nomark _)))))
 pss_nil)))))))))), fun s hp W D hK hn hret => ?_⟩)
  subst hK
  refine go_asg (x := many s) (evx_call1 (f := many) (evx_sj (evx_var rfl)) trivial) ?_
  have hm := many_range s
  generalize many s = n at hm ⊢
  have enn : ((n.toNat : Nat) : Int) = n := by omega
  have hn60 : n.toNat ≤ 60 := by omega
  have rok := rowsOf_ok s n.toNat
  have tok := tiesOf_ok s rok hn60
  rw [enn] at tok
  refine go_asg (x := tiesOf s n.toNat (rowsOf s n.toNat)) (evx_call3 (f := fun s (n : Int) rows => tiesOf s n.toNat rows) (evx_sj (evx_var rfl)) (evx_var rfl) (evx_call2 (f := fun s (n : Int) => rowsOf s n.toNat) (evx_sj (evx_var rfl)) (evx_var rfl) hm) ⟨hm, rok⟩) ?_
  generalize tiesOf s n.toNat (rowsOf s n.toNat) = ts at tok ⊢
  obtain ⟨tok, tlen⟩ := tok
  refine go_asg (x := nbrs n.toNat ts) (evx_call2 (evx_var rfl) (evx_var rfl) ⟨hm, tok, by omega⟩) ?_
  refine go_asg (ip := pyJ tF tG tC tT) (x := (⟨n.toNat, nbrs n.toNat ts⟩ : WebD)) (evx_twJ (i := 0) rfl (evx_ofF (evf_callx2 (evx_var rfl) (Evl.x (evl_listof (evx_var rfl))) (by omega) (badWeb_ok hm tok)))) ?_
  have hj : PreJ ⟨n.toNat, nbrs n.toNat ts⟩ := ⟨webOk_nbrs hn60 ts, nbrs_in, nbrs_sy, fun a ha => nbrs_irr (by rw [enn]; exact tok) a ha, fun a ha => nbrs_up a ha⟩
  have nl := nbrs_len n.toNat ts
  generalize nbrs n.toNat ts = near at hj nl ⊢
  have hp0 : ∃ p : WebD, p = ⟨n.toNat, near⟩ := ⟨_, rfl⟩
  obtain ⟨p, ep⟩ := hp0
  rw [← ep] at hj ⊢
  have er : near = p.rows := by rw [ep]
  have en : p.n = n.toNat := by rw [ep]
  rw [er]
  have h60 := hj.wok.1
  have rl := hj.wok.2.1
  refine go_own (xs := rng 0 n) (evl_rng1 (evx_var rfl) (by omega)) ?_
  refine go_own (xs := ([] : List Int)) (evl_disp evs_nil (by show 0 ≤ 100000; decide)) ?_
  dsimp only [List.set]
  have r0 : rng 0 n = (tk p 0).2 := by
    show rng 0 n = rng 0 (p.n : Int)
    rw [en, enn]
  rw [r0]
  refine go_forR (n := n) (evx_var rfl) (by omega) (fun k => [.un, .dat pyInt n, .un, .dat (pyList (ip := pyList (ip := pyInt))) p.rows, .dat (pyJ tF tG tC tT) p, .own pyInt (tk p k).2, .own pyInt (tk p k).1, .un, .un, .un, .un, .un]) (by walk_at "le" <;> rfl) (fun k G hk hG => ?_) ?_
  · have ti := TkI.all p k
    have le := tk_le (p := p) k
    have es : tk p (k + 1) = tkStep p (tk p k) := rfl
    rw [es]
    have hl : (tk p k).2.length ≤ 60 := by
      have := ti.len
      omega
    have fi := free_is hj ti.nd ti.inn
    dsimp only [List.set]
    refine go_asg (x := freeL p.rows (tk p k).2) (evx_look (sc := scInt) 5 rfl (evx_call2 (f := freeL) (evx_var rfl) (evx_var rfl) ⟨by omega, fun x hx => by
      have := inr_iff.mp (ti.inn x hx)
      rw [rl]
      exact this⟩)) ?_
    rw [fi]
    dsimp only [List.set]
    unfold tkStep
    cases q : nextF p (tk p k).2 with
    | none =>
      refine go_if (b := false) (evt_test (evx_op (evx_var rfl) evx_int rv_b0)) (fun z => by cases z) (fun _ => ?_)
      exact go_next (go_next (nx_to (by walk_at "le")))
    | some a =>
      have ain := nextF_in q
      have ar := inr_iff.mp (ti.inn a ain)
      refine go_if (b := decide (a ≥ 0)) (evt_test (evx_op (evx_var rfl) evx_int rv_b0)) (fun _ => ?_) (fun z => by
        have := of_decide_eq_false z
        omega)
      refine go_app (i := 6) (x := a) rfl (evx_var rfl) (by omega) ?_
      dsimp only [List.set]
      refine go_rem (i := 5) (x := a) rfl (evx_var rfl) ain ?_
      dsimp only [List.set]
      exact go_next (go_next (nx_to (by walk_at "le")))
  have etk : tk p n.toNat = takenF p := by
    unfold takenF
    rw [en]
  rw [etk]
  have ti : TkI p (takenF p) := TkI.all p p.n
  have tl := ti.len
  refine go_freeze 5 rfl ?_
  refine go_freeze 6 rfl ?_
  dsimp only [List.set]
  refine go_own (ip := pyKt) (xs := ([] : List ((List Int × List Int) × (List Int × List Int)))) (evl_disp evs_nil (by show 0 ≤ 100000; decide)) ?_
  dsimp only [List.set]
  refine go_forR (n := 2) evx_int (by omega) (fun i => [.un, .un, .un, .dat (pyList (ip := pyList (ip := pyInt))) p.rows, .dat (pyJ tF tG tC tT) p, .dat (pyList (ip := pyInt)) (takenF p).2, .dat (pyList (ip := pyInt)) (takenF p).1, .un, .un, .own pyKt (keptT (takenF p) i), .un, .un]) (by walk_at "le" <;> rfl) (fun i G hi hG => ?_) ?_
  · have kl : (keptT (takenF p) i).length = i := by
      unfold keptT
      rw [List.length_map, List.length_range]
    rw [keptT_succ]
    dsimp only [List.set]
    refine go_ifJ (Δ := [.un, .un, .un, .dat (pyList (ip := pyList (ip := pyInt))) p.rows, .dat (pyJ tF tG tC tT) p, .dat (pyList (ip := pyInt)) (takenF p).2, .dat (pyList (ip := pyInt)) (takenF p).1, .dat pyInt (i : Int), .un, .own pyKt (keptT (takenF p) i), .un, .un]) ?_ (evt_test (evx_op (evx_var rfl) evx_int rv_eqI)) (fun hb f hf => ?_) (fun hb f hf => ?_)
    rotate_left
    · refine go_drop (ip := pyVer) (x := judgedF p) (evx_call1 (i0 := pyJ tF tG tC tT) (ic := pyVer) (f := judgedF) (evx_var rfl) hj) ?_
      refine go_drop (x := longF p) (evx_call1 (i0 := pyT pyWeb tT) (f := longF) (evx_wtI (ip := pyT (pyT2 tF tG) tC) (fun r => r.1.1.1) (evx_var rfl)) hj) ?_
      exact go_end hf (by walk_at "le")
    · exact go_end hf (by walk_at "le")
    generalize keptT (takenF p) i = kp at kl ⊢
    have tk1 : (takenF p).1.length ≤ 60 := by omega
    have tk2 : (takenF p).2.length ≤ 60 := by omega
    refine go_two (i := 10) (ev2_call (f := takenF) (evx_wj (evx_var rfl)) hj) (by show 10 < 12; decide) ?_
    generalize (takenF p).1 = g1 at tk1 ⊢
    generalize (takenF p).2 = g2 at tk2 ⊢
    dsimp only [List.set]
    refine got_skip (evt_or (evt_not (evt_B (evx_isk (evx_var rfl) inferInstance k_tt))) (fun _ => evt_test (evx_op (evx_lenT2 (evx_var rfl)) evx_int rv_neI))) (by simp) ?_
    refine got_skip (evt_or (evt_not (evt_B (evx_call2 (f := fun (_ _ : List Int) => true) (evx_op (evx_var rfl) evx_int rv_ixT0) (evx_var rfl) ⟨rfl, by show g1.length ≤ _; omega⟩))) (fun _ => evt_not (evt_B (evx_call2 (f := fun (_ _ : List Int) => true) (evx_op (evx_var rfl) evx_int rv_ixT1) (evx_var rfl) ⟨rfl, by show g2.length ≤ _; omega⟩)))) rfl ?_
    refine got_app1 (x := (i : Int)) (evx_var rfl) (by omega) ?_
    refine got_app2 (x := (i : Int)) (evx_var rfl) (by omega) ?_
    refine got_freeze ?_
    dsimp only [List.set]
    refine go_app (ip := pyKt) (i := 9) (x := ((g1 ++ [(i : Int)], g2 ++ [(i : Int)]), (g1 ++ [(i : Int)], g2 ++ [(i : Int)]))) rfl (evx_tup2 (evx_var rfl) (evx_tup2 (Evl.x (evl_cat (evx_var rfl) (Evl.x (evl_disp (evs_cons (evx_var rfl) evs_nil) (by show 1 ≤ 100000; decide))) (by show _ + 1 ≤ 100000; omega))) (Evl.x (evl_cat (evx_var rfl) (Evl.x (evl_disp (evs_cons (evx_var rfl) evs_nil) (by show 1 ≤ 100000; decide))) (by show _ + 1 ≤ 100000; omega))))) (by omega) ?_
    exact go_end nx_at (by walk_at "le")
  · refine go_freeze 9 rfl ?_
    dsimp only [List.set]
    refine go_retI (evx_andV (evx_call2 (f := fun (_ : WebD) (_ : List (List Int)) => true) (evx_wj (evx_var rfl)) (evx_var rfl) ⟨hj.wok, rfl⟩) (fun _ => evx_op (Evl.x (evl_lcX (xs := keptT (takenF p) (2 : Int).toNat) (fun pr => !decide (pr.1 = pr.2)) (fun pr => pr) (evx_var rfl) (by show (List.map _ _).length ≤ 40000; rw [List.length_map, List.length_range]; decide) (by decide) (fun pr _ => evt_test (evx_op (evx_op (evx_var rfl) evx_int rv_ixT0) (evx_op (evx_var rfl) evx_int rv_ixT1) (rv_neD (n := 2) inferInstance (by decide)))) (fun pr _ _ => evx_var rfl))) (Evl.x (evl_disp (ip := pyKt) (xs := ([] : List ((List Int × List Int) × (List Int × List Int)))) evs_nil (by show 0 ≤ 100000; decide))) (rv_eqD (n := 4) inferInstance (by decide)))) ?_ hret
    have e : ((keptT (takenF p) (2 : Int).toNat).filter fun pr => !decide (pr.1 = pr.2)) = [] := by
      rw [List.filter_eq_nil_iff]
      intro pr hpr
      unfold keptT at hpr
      obtain ⟨k, _, rfl⟩ := List.mem_map.mp hpr
      rw [decide_eq_true rfl]
      decide
    rw [e]
    rfl
end
end Gn
namespace Gn
theorem all_mk {P : Program} {w : World} {K : PySem.W.Frag} {h : Heap} {mg : Str → Option Value} {fa : Addr} {ol : PySem.W.OpenLaw} {q : Program} {C_Web C_WebError C_BadWeb C_NoPoint C_BadOrder C_HasGap C_Verdict cD__fits tD__fits cD__could_grow tD__could_grow cD_coloured tD_coloured cD__touches tD__touches : Addr} {tM : Tok} (X : K.In h) (G : h.Ns mainGlobals mg) (hfa : mg "law" = some (.ref fa))
    (aW : PySem.W.nsIn K mainGlobals "Web" = some (some (.ref C_Web)))
    (x0_WebError : PySem.W.nsIn K mainGlobals "WebError" = some (some (.ref C_WebError)))
    (x1_WebError : PySem.W.excIn K C_WebError [.type "ValueError", .type "Exception", .type "BaseException", .type "object"] "ValueError.__new__" = true)
    (x2_WebError : PySem.W.keepIn K (.ref C_WebError) = true)
    (x3_WebError : PySem.W.subIn K (.ref C_WebError) (.type "BaseException") = some true)
    (x4_WebError : PySem.W.typeIn K (.ref C_WebError) = some (.type "type"))
    (x5_WebError : PySem.W.hasDictIn K C_WebError = true)
    (x0_BadWeb : PySem.W.nsIn K mainGlobals "BadWeb" = some (some (.ref C_BadWeb)))
    (x1_BadWeb : PySem.W.excIn K C_BadWeb [.type "ValueError", .type "Exception", .type "BaseException", .type "object"] "ValueError.__new__" = true)
    (x2_BadWeb : PySem.W.keepIn K (.ref C_BadWeb) = true)
    (x3_BadWeb : PySem.W.subIn K (.ref C_BadWeb) (.type "BaseException") = some true)
    (x4_BadWeb : PySem.W.typeIn K (.ref C_BadWeb) = some (.type "type"))
    (x5_BadWeb : PySem.W.hasDictIn K C_BadWeb = true)
    (x0_NoPoint : PySem.W.nsIn K mainGlobals "NoPoint" = some (some (.ref C_NoPoint)))
    (x1_NoPoint : PySem.W.excIn K C_NoPoint [.type "ValueError", .type "Exception", .type "BaseException", .type "object"] "ValueError.__new__" = true)
    (x2_NoPoint : PySem.W.keepIn K (.ref C_NoPoint) = true)
    (x3_NoPoint : PySem.W.subIn K (.ref C_NoPoint) (.type "BaseException") = some true)
    (x4_NoPoint : PySem.W.typeIn K (.ref C_NoPoint) = some (.type "type"))
    (x5_NoPoint : PySem.W.hasDictIn K C_NoPoint = true)
    (x0_BadOrder : PySem.W.nsIn K mainGlobals "BadOrder" = some (some (.ref C_BadOrder)))
    (x1_BadOrder : PySem.W.excIn K C_BadOrder [.type "ValueError", .type "Exception", .type "BaseException", .type "object"] "ValueError.__new__" = true)
    (x2_BadOrder : PySem.W.keepIn K (.ref C_BadOrder) = true)
    (x3_BadOrder : PySem.W.subIn K (.ref C_BadOrder) (.type "BaseException") = some true)
    (x4_BadOrder : PySem.W.typeIn K (.ref C_BadOrder) = some (.type "type"))
    (x5_BadOrder : PySem.W.hasDictIn K C_BadOrder = true)
    (x0_HasGap : PySem.W.nsIn K mainGlobals "HasGap" = some (some (.ref C_HasGap)))
    (x1_HasGap : PySem.W.excIn K C_HasGap [.type "ValueError", .type "Exception", .type "BaseException", .type "object"] "ValueError.__new__" = true)
    (x2_HasGap : PySem.W.keepIn K (.ref C_HasGap) = true)
    (x3_HasGap : PySem.W.subIn K (.ref C_HasGap) (.type "BaseException") = some true)
    (x4_HasGap : PySem.W.typeIn K (.ref C_HasGap) = some (.type "type"))
    (x5_HasGap : PySem.W.hasDictIn K C_HasGap = true)
    (mst : PySem.W.nsIn K mainGlobals "MOST" = some (some (.int 60 tM)))
    (pg : PySem.W.plainGet K C_Web Str.empty = true)
    (hd : PySem.W.hasDictIn K C_Web = true)
    (po : PySem.W.plainOver K C_Web = true)
    (sa : PySem.W.findIn K (.ref C_Web) "__setattr__" = some (some (.builtin "object.__setattr__")))
    (mk : PySem.W.makesIn K C_Web = true)
    (kc : PySem.W.keepIn K (.ref C_Web) = true)
    (nm : PySem.W.findIn K (.ref C_Web) "many" = some none)
    (nr : PySem.W.findIn K (.ref C_Web) "_rows" = some none)
    (aV : PySem.W.nsIn K mainGlobals "Verdict" = some (some (.ref C_Verdict)))
    (pgV : PySem.W.plainGet K C_Verdict Str.empty = true)
    (hdV : PySem.W.hasDictIn K C_Verdict = true)
    (poV : PySem.W.plainOver K C_Verdict = true)
    (saV : PySem.W.findIn K (.ref C_Verdict) "__setattr__" = some (some (.builtin "object.__setattr__")))
    (mkV : PySem.W.makesIn K C_Verdict = true)
    (kcV : PySem.W.keepIn K (.ref C_Verdict) = true)
    (nV1 : PySem.W.findIn K (.ref C_Verdict) "_order" = some none)
    (nV2 : PySem.W.findIn K (.ref C_Verdict) "_ring" = some none)
    (nV3 : PySem.W.findIn K (.ref C_Verdict) "_crowd" = some none)
    (nV4 : PySem.W.findIn K (.ref C_Verdict) "_colours" = some none)
    (nV5 : PySem.W.findIn K (.ref C_Verdict) "many" = some none)
    (mV : Mtk K C_Verdict "__init__" "Verdict.__init__" s_Verdict___init__)
    (z_len : PySem.W.nsIn K mainGlobals "len" = some none)
    (z_range : PySem.W.nsIn K mainGlobals "range" = some none)
    (z_list : PySem.W.nsIn K mainGlobals "list" = some none)
    (z_sorted : PySem.W.nsIn K mainGlobals "sorted" = some none)
    (z_set : PySem.W.nsIn K mainGlobals "set" = some none)
    (z_isinstance : PySem.W.nsIn K mainGlobals "isinstance" = some none)
    (z_max : PySem.W.nsIn K mainGlobals "max" = some none)
    (z_min : PySem.W.nsIn K mainGlobals "min" = some none)
    (z_str : PySem.W.nsIn K mainGlobals "str" = some none)
    (z_int : PySem.W.nsIn K mainGlobals "int" = some none)
    (z_bool : PySem.W.nsIn K mainGlobals "bool" = some none)
    (z_tuple : PySem.W.nsIn K mainGlobals "tuple" = some none)
    (z_ValueError : PySem.W.nsIn K mainGlobals "ValueError" = some none)
    (z_reversed : PySem.W.nsIn K mainGlobals "reversed" = some none)
    (z_enumerate : PySem.W.nsIn K mainGlobals "enumerate" = some none)
    (z_zip : PySem.W.nsIn K mainGlobals "zip" = some none)
    (z_sum : PySem.W.nsIn K mainGlobals "sum" = some none)
    (z_any : PySem.W.nsIn K mainGlobals "any" = some none)
    (z_all : PySem.W.nsIn K mainGlobals "all" = some none)
    (z_abs : PySem.W.nsIn K mainGlobals "abs" = some none)
    (z_dict : PySem.W.nsIn K mainGlobals "dict" = some none)
    (d__law_cell_at : Dk K "_law_cell_at" "_law_cell_at" s__law_cell_at)
    (d__law_mixed : Dk K "_law_mixed" "_law_mixed" s__law_mixed)
    (d__law_earlier : Dk K "_law_earlier" "_law_earlier" s__law_earlier)
    (d__law_any_rows : Dk K "_law_any_rows" "_law_any_rows" s__law_any_rows)
    (d__law_many : Dk K "_law_many" "_law_many" s__law_many)
    (d__law_banded : Dk K "_law_banded" "_law_banded" s__law_banded)
    (d__law_ringed : Dk K "_law_ringed" "_law_ringed" s__law_ringed)
    (d__law_hubbed : Dk K "_law_hubbed" "_law_hubbed" s__law_hubbed)
    (d__law_rows : Dk K "_law_rows" "_law_rows" s__law_rows)
    (d__law_name : Dk K "_law_name" "_law_name" s__law_name)
    (d__law_ties : Dk K "_law_ties" "_law_ties" s__law_ties)
    (d__law_near : Dk K "_law_near" "_law_near" s__law_near)
    (d__rows_of : Dk K "_rows_of" "_rows_of" s__rows_of)
    (d_web_of : Dk K "web_of" "web_of" s_web_of)
    (d_is_order : Dk K "is_order" "is_order" s_is_order)
    (d__need_order : Dk K "_need_order" "_need_order" s__need_order)
    (d_behind : Dk K "behind" "behind" s_behind)
    (d__first_untied : Dk K "_first_untied" "_first_untied" s__first_untied)
    (d_untied : Dk K "untied" "untied" s_untied)
    (d_gap : Dk K "gap" "gap" s_gap)
    (d__need_no_gap : Dk K "_need_no_gap" "_need_no_gap" s__need_no_gap)
    (d__crowd_of : Dk K "_crowd_of" "_crowd_of" s__crowd_of)
    (d__fits : Dk K "_fits" "_fits" s__fits)
    (d__could_grow : Dk K "_could_grow" "_could_grow" s__could_grow)
    (d_full_crowds : Dk K "full_crowds" "full_crowds" s_full_crowds)
    (d_coloured : Dk K "coloured" "coloured" s_coloured)
    (d__next_to_go : Dk K "_next_to_go" "_next_to_go" s__next_to_go)
    (d_taken : Dk K "taken" "taken" s_taken)
    (d__onward : Dk K "_onward" "_onward" s__onward)
    (d_way : Dk K "way" "way" s_way)
    (d__touches : Dk K "_touches" "_touches" s__touches)
    (d__pieces : Dk K "_pieces" "_pieces" s__pieces)
    (d__ring_through : Dk K "_ring_through" "_ring_through" s__ring_through)
    (d_long_ring : Dk K "long_ring" "long_ring" s_long_ring)
    (d__copied : Dk K "_copied" "_copied" s__copied)
    (d_judged : Dk K "judged" "judged" s_judged)
    (d__law_whole : Dk K "_law_whole" "_law_whole" s__law_whole)
    (d__law_numbers : Dk K "_law_numbers" "_law_numbers" s__law_numbers)
    (d__law_untied : Dk K "_law_untied" "_law_untied" s__law_untied)
    (d__law_free : Dk K "_law_free" "_law_free" s__law_free)
    (d__law_stays : Dk K "_law_stays" "_law_stays" s__law_stays)
    (d_law : Dk K "law" "law" s_law)
    (m___init__ : Mtk K C_Web "__init__" "Web.__init__" s_Web___init__)
    (m__need : Mtk K C_Web "_need" "Web._need" s_Web__need)
    (m_beside : Mtk K C_Web "beside" "Web.beside" s_Web_beside)
    (m_tied : Mtk K C_Web "tied" "Web.tied" s_Web_tied)
    (tb__fits : PySem.W.tabIn K "_fits" = some (cD__fits, tD__fits))
    (tn__fits : K.lookup tD__fits = none)
    (tr__fits : ((PyProof.Rows.recsOf q).any fun e => e.name == "_fits") = true)
    (tb__could_grow : PySem.W.tabIn K "_could_grow" = some (cD__could_grow, tD__could_grow))
    (tn__could_grow : K.lookup tD__could_grow = none)
    (tr__could_grow : ((PyProof.Rows.recsOf q).any fun e => e.name == "_could_grow") = true)
    (tb_coloured : PySem.W.tabIn K "coloured" = some (cD_coloured, tD_coloured))
    (tn_coloured : K.lookup tD_coloured = none)
    (tr_coloured : ((PyProof.Rows.recsOf q).any fun e => e.name == "coloured") = true)
    (tb__touches : PySem.W.tabIn K "_touches" = some (cD__touches, tD__touches))
    (tn__touches : K.lookup tD__touches = none)
    (tr__touches : ((PyProof.Rows.recsOf q).any fun e => e.name == "_touches") = true)
    (tabs : ∀ (y : Str) (c P : Addr), ((PyProof.Rows.recsOf q).any fun e => e.name == y) = true → PySem.W.tabIn K y = some (c, P) → PySem.W.CodeHd h c P ∧ h.get? P = some { cls := .none, data := .fields #[] })
    (hP : P = ol.prog) : LamX.LawAtS ol w K CX0 13 63 "_law_script" mg fa h := by
  subst hP
  have tt__fits := tabs _ _ _ tr__fits tb__fits
  have tt__could_grow := tabs _ _ _ tr__could_grow tb__could_grow
  have tt_coloured := tabs _ _ _ tr_coloured tb_coloured
  have tt__touches := tabs _ _ _ tr__touches tb__touches
  have T : Gb mg := gb_mk X G ((all_cons z_len (all_cons z_range (all_cons z_list (all_cons z_sorted (all_cons z_set (all_cons z_isinstance (all_cons z_max (all_cons z_min (all_cons z_str (all_cons z_int (all_cons z_bool (all_cons z_tuple (all_cons z_ValueError (all_cons z_reversed (all_cons z_enumerate (all_cons z_zip (all_cons z_sum (all_cons z_any (all_cons z_all (all_cons z_abs (all_cons z_dict all_nil))))))))))))))))))))))
  have wk : WebK K C_Web := ⟨aW, ⟨pg, hd, po, sa⟩, nm, nr⟩
  have gW := PySem.W.mg_of X G aW
  have vk : VerK K C_Verdict := ⟨aV, ⟨pgV, hdV, poV, saV⟩, nV1, nV2, nV3, nV4, nV5⟩
  have gV := PySem.W.mg_of X G aV
  have g_MOST : ∃ t, mg "MOST" = some (.int 60 t) := ⟨tM, PySem.W.mg_of X G mst⟩
  have k_WebError : Exk K "WebError" C_WebError := ⟨x0_WebError, x1_WebError, x2_WebError, x3_WebError, x4_WebError, x5_WebError⟩
  have XC_WebError := k_WebError.ec X G
  have k_BadWeb : Exk K "BadWeb" C_BadWeb := ⟨x0_BadWeb, x1_BadWeb, x2_BadWeb, x3_BadWeb, x4_BadWeb, x5_BadWeb⟩
  have XC_BadWeb := k_BadWeb.ec X G
  have k_NoPoint : Exk K "NoPoint" C_NoPoint := ⟨x0_NoPoint, x1_NoPoint, x2_NoPoint, x3_NoPoint, x4_NoPoint, x5_NoPoint⟩
  have XC_NoPoint := k_NoPoint.ec X G
  have k_BadOrder : Exk K "BadOrder" C_BadOrder := ⟨x0_BadOrder, x1_BadOrder, x2_BadOrder, x3_BadOrder, x4_BadOrder, x5_BadOrder⟩
  have XC_BadOrder := k_BadOrder.ec X G
  have k_HasGap : Exk K "HasGap" C_HasGap := ⟨x0_HasGap, x1_HasGap, x2_HasGap, x3_HasGap, x4_HasGap, x5_HasGap⟩
  have XC_HasGap := k_HasGap.ec X G
  obtain ⟨A, oc, od, an, kV, doc, pm, cdv, ct, osl, a, l, c, k⟩ := d_law.ex
  have e := hfa.symm.trans (PySem.W.mg_of X G a)
  cases e
  refine ⟨PySem.W.fnOf "law" "law" (defArgs s_law) (defBody s_law) (defScope s_law) .none kV doc pm an cdv ct, [(cD__fits, tD__fits), (cD__could_grow, tD__could_grow), (cD_coloured, tD_coloured), (cD__touches, tD__touches)], spLaw K tD__fits tD__could_grow tD_coloured tD__touches, fun p hp => by (simp only [List.mem_cons, List.not_mem_nil, or_false] at hp; rcases hp with rfl | rfl | rfl | rfl <;> (first | exact tt__fits.2 | exact tt__could_grow.2 | exact tt_coloured.2 | exact tt__touches.2)), fun p hp => by (simp only [List.mem_cons, List.not_mem_nil, or_false] at hp; rcases hp with rfl | rfl | rfl | rfl <;> (first | exact tn__fits | exact tn__could_grow | exact tn_coloured | exact tn__touches)), fun p hp => by (simp only [List.mem_cons, List.not_mem_nil, or_false] at hp; rcases hp with rfl | rfl | rfl | rfl <;> (first | exact tt__fits.1 | exact tt__could_grow.1 | exact tt_coloured.1 | exact tt__touches.1)), fun s v => .of_eq rfl, fun H a ns _ _ hT hS => ⟨⟨ns⟩, .ref a, H, rfl, Dx.Ex.refl H, ⟨⟨⟨⟨⟨a, rfl, hS⟩, #[], hT (cD__fits, tD__fits) (by simp), trivial⟩, #[], hT (cD__could_grow, tD__could_grow) (by simp), trivial⟩, #[], hT (cD_coloured, tD_coloured) (by simp), trivial⟩, #[], hT (cD__touches, tD__touches) (by simp), trivial⟩, trivial, fun v H2 R2 g r => r⟩, fun base _ _ hTB => ?_⟩
  have TB__fits : GxR.TabB base mg cD__fits tD__fits := tabX (hTB (cD__fits, tD__fits) (by simp))
  have TB__could_grow : GxR.TabB base mg cD__could_grow tD__could_grow := tabX (hTB (cD__could_grow, tD__could_grow) (by simp))
  have TB_coloured : GxR.TabB base mg cD_coloured tD_coloured := tabX (hTB (cD_coloured, tD_coloured) (by simp))
  have TB__touches : GxR.TabB base mg cD__touches tD__touches := tabX (hTB (cD__touches, tD__touches) (by simp))
  have c__law_cell_at : C_cell ol.prog w K mg base := (d__law_cell_at.df (ps := p__law_cell_at) X G (fun _ _ _ _ _ _ us hl => match us, hl with | [_, _], _ => rfl)).cl fun _ _ F => ok__law_cell_at T F
  have c__law_mixed : C_mixed ol.prog w K mg base := (d__law_mixed.df (ps := p__law_mixed) X G (fun _ _ _ _ _ _ us hl => match us, hl with | [_, _], _ => rfl)).cl fun _ _ F => ok__law_mixed F
  have c__law_earlier : C_earlier ol.prog w K mg base := (d__law_earlier.df (ps := p__law_earlier) X G (fun _ _ _ _ _ _ us hl => match us, hl with | [_, _, _], _ => rfl)).cl fun _ _ F => ok__law_earlier T c__law_cell_at c__law_mixed F
  have c__law_any_rows : C_any ol.prog w K mg base := (d__law_any_rows.df (ps := p__law_any_rows) X G (fun _ _ _ _ _ _ us hl => match us, hl with | [_, _], _ => rfl)).cl fun _ _ F => ok__law_any_rows T c__law_cell_at c__law_mixed F
  have c__law_many : C_many ol.prog w K mg base := (d__law_many.df (ps := p__law_many) X G (fun _ _ _ _ _ _ us hl => match us, hl with | [_], _ => rfl)).cl fun _ _ F => ok__law_many T c__law_cell_at F
  have c__law_banded : C_banded ol.prog w K mg base := (d__law_banded.df (ps := p__law_banded) X G (fun _ _ _ _ _ _ us hl => match us, hl with | [_, _], _ => rfl)).cl fun _ _ F => ok__law_banded T F
  have c__law_ringed : C_ringed ol.prog w K mg base := (d__law_ringed.df (ps := p__law_ringed) X G (fun _ _ _ _ _ _ us hl => match us, hl with | [_, _], _ => rfl)).cl fun _ _ F => ok__law_ringed T F
  have c__law_hubbed : C_hubbed ol.prog w K mg base := (d__law_hubbed.df (ps := p__law_hubbed) X G (fun _ _ _ _ _ _ us hl => match us, hl with | [_, _], _ => rfl)).cl fun _ _ F => ok__law_hubbed T F
  have c__law_rows : C_rows ol.prog w K mg base := (d__law_rows.df (ps := p__law_rows) X G (fun _ _ _ _ _ _ us hl => match us, hl with | [_, _], _ => rfl)).cl fun _ _ F => ok__law_rows T c__law_cell_at c__law_earlier c__law_any_rows c__law_banded c__law_ringed c__law_hubbed F
  have c__law_name : C_name ol.prog w K mg base := (d__law_name.df (ps := p__law_name) X G (fun _ _ _ _ _ _ us hl => match us, hl with | [_, _, _], _ => rfl)).cl fun _ _ F => ok__law_name T c__law_cell_at F
  have c__law_ties : C_ties ol.prog w K mg base := (d__law_ties.df (ps := p__law_ties) X G (fun _ _ _ _ _ _ us hl => match us, hl with | [_, _, _], _ => rfl)).cl fun _ _ F => ok__law_ties T c__law_name F
  have c__law_near : C_near ol.prog w K mg base := (d__law_near.df (ps := p__law_near) X G (fun _ _ _ _ _ _ us hl => match us, hl with | [_, _], _ => rfl)).cl fun _ _ F => ok__law_near T F
  have c__rows_of : C_rows_of ol.prog w K mg base := (d__rows_of.df (ps := p__rows_of) X G (fun _ _ _ _ _ _ us hl => match us, hl with | [_, _], _ => rfl)).cl fun _ _ F => ok__rows_of T F
  have c_Web : Mk_Web ol.prog w K mg base C_Web := m___init__.mc gW mk kc (fun _ _ _ _ _ _ us hl => match us, hl with | [_, _, _], _ => rfl) fun _ _ F => ok_Web_init T wk c__rows_of F
  have c_Web__need : M_need ol.prog w K mg base C_Web C_NoPoint := m__need.mt wk.cls (fun _ _ _ _ _ _ us hl => match us, hl with | [_, _], _ => rfl) fun _ _ F => ok_Web__need T wk XC_NoPoint F
  have c_Web_beside : M_beside ol.prog w K mg base C_Web C_NoPoint := m_beside.mt wk.cls (fun _ _ _ _ _ _ us hl => match us, hl with | [_, _], _ => rfl) fun _ _ F => ok_Web_beside T wk c_Web__need F
  have c_Web_tied : M_tied ol.prog w K mg base C_Web C_NoPoint := m_tied.mt wk.cls (fun _ _ _ _ _ _ us hl => match us, hl with | [_, _, _], _ => rfl) fun _ _ F => ok_Web_tied T wk c_Web__need F
  have c_web_of : C_web_of ol.prog w K mg base C_BadWeb := (d_web_of.df (ps := p_web_of) X G (fun _ _ _ _ _ _ us hl => match us, hl with | [_, _], _ => rfl)).cl fun _ _ F => ok_web_of T g_MOST wk XC_BadWeb c_Web F
  have c_is_order : C_is_order ol.prog w K mg base := (d_is_order.df (ps := p_is_order) X G (fun _ _ _ _ _ _ us hl => match us, hl with | [_, _], _ => rfl)).cl fun _ _ F => ok_is_order T wk F
  have c__need_order : C_need ol.prog w K mg base C_BadOrder := (d__need_order.df (ps := p__need_order) X G (fun _ _ _ _ _ _ us hl => match us, hl with | [_, _], _ => rfl)).cl fun _ _ F => ok__need_order T XC_BadOrder c_is_order F
  have c_behind : C_behind ol.prog w K mg base C_BadOrder := (d_behind.df (ps := p_behind) X G (fun _ _ _ _ _ _ us hl => match us, hl with | [_, _, _], _ => rfl)).cl fun _ _ F => ok_behind T wk c__need_order c_Web_beside F
  have c__first_untied : C_first ol.prog w K mg base := (d__first_untied.df (ps := p__first_untied) X G (fun _ _ _ _ _ _ us hl => match us, hl with | [_, _, _], _ => rfl)).cl fun _ _ F => ok__first_untied T wk c_Web_beside F
  have c_untied : C_untied ol.prog w K mg base := (d_untied.df (ps := p_untied) X G (fun _ _ _ _ _ _ us hl => match us, hl with | [_, _], _ => rfl)).cl fun _ _ F => ok_untied T c__first_untied F
  have c_gap : C_gap ol.prog w K mg base C_BadOrder := (d_gap.df (ps := p_gap) X G (fun _ _ _ _ _ _ us hl => match us, hl with | [_, _], _ => rfl)).cl fun _ _ F => ok_gap T c__need_order c_untied c_behind F
  have c__need_no_gap : C_nng ol.prog w K mg base C_BadOrder C_HasGap := (d__need_no_gap.df (ps := p__need_no_gap) X G (fun _ _ _ _ _ _ us hl => match us, hl with | [_, _], _ => rfl)).cl fun _ _ F => ok__need_no_gap T XC_HasGap c_gap F
  have c__crowd_of : C_crowdOf ol.prog w K mg base C_BadOrder := (d__crowd_of.df (ps := p__crowd_of) X G (fun _ _ _ _ _ _ us hl => match us, hl with | [_, _, _], _ => rfl)).cl fun _ _ F => ok__crowd_of T c_behind F
  have c__fits : C_fits ol.prog w K mg base tD__fits := (d__fits.dfC (ps := p__fits) X G tb__fits (fun _ _ _ _ _ _ us hl => match us, hl with | [_, _, _], _ => rfl)).cl fun _ _ F => ok__fits T wk TB__fits c_Web_tied F
  have c__could_grow : C_grow ol.prog w K mg base tD__fits tD__could_grow := (d__could_grow.dfC (ps := p__could_grow) X G tb__could_grow (fun _ _ _ _ _ _ us hl => match us, hl with | [_, _], _ => rfl)).cl fun _ _ F => ok__could_grow T wk TB__could_grow c__fits F
  have c_full_crowds : C_full ol.prog w K mg base tD__fits tD__could_grow C_BadOrder C_HasGap := (d_full_crowds.df (ps := p_full_crowds) X G (fun _ _ _ _ _ _ us hl => match us, hl with | [_, _], _ => rfl)).cl fun _ _ F => ok_full_crowds T c__need_no_gap c__crowd_of c__could_grow F
  have c_coloured : C_col ol.prog w K mg base tD_coloured C_BadOrder C_HasGap := (d_coloured.dfC (ps := p_coloured) X G tb_coloured (fun _ _ _ _ _ _ us hl => match us, hl with | [_, _], _ => rfl)).cl fun _ _ F => ok_coloured T TB_coloured c__need_no_gap c_behind F
  have c__next_to_go : C_next ol.prog w K mg base := (d__next_to_go.df (ps := p__next_to_go) X G (fun _ _ _ _ _ _ us hl => match us, hl with | [_, _], _ => rfl)).cl fun _ _ F => ok__next_to_go T wk c_Web_beside c_untied F
  have c_taken : C_taken ol.prog w K mg base := (d_taken.df (ps := p_taken) X G (fun _ _ _ _ _ _ us hl => match us, hl with | [_], _ => rfl)).cl fun _ _ F => ok_taken T wk c__next_to_go F
  have c__onward : C_onward ol.prog w K mg base := (d__onward.df (ps := p__onward) X G (fun _ _ _ _ _ _ us hl => match us, hl with | [_, _, _], _ => rfl)).cl fun _ _ F => ok__onward T wk c_Web_beside F
  have c_way : C_way ol.prog w K mg base C_NoPoint := (d_way.df (ps := p_way) X G (fun _ _ _ _ _ _ us hl => match us, hl with | [_, _, _, _], _ => rfl)).cl fun _ _ F => ok_way T wk XC_NoPoint c__onward F
  have c__touches : C_touches ol.prog w K mg base tD__touches := (d__touches.dfC (ps := p__touches) X G tb__touches (fun _ _ _ _ _ _ us hl => match us, hl with | [_, _, _], _ => rfl)).cl fun _ _ F => ok__touches T wk TB__touches c_Web_tied F
  have c__pieces : C_pieces ol.prog w K mg base := (d__pieces.df (ps := p__pieces) X G (fun _ _ _ _ _ _ us hl => match us, hl with | [_, _], _ => rfl)).cl fun _ _ F => ok__pieces T wk c__onward F
  have c__ring_through : C_through ol.prog w K mg base tD__touches := (d__ring_through.df (ps := p__ring_through) X G (fun _ _ _ _ _ _ us hl => match us, hl with | [_, _], _ => rfl)).cl fun _ _ F => ok__ring_through T wk c_Web_beside c__pieces c_untied c__touches c_way F
  have c_long_ring : C_long ol.prog w K mg base tD__touches := (d_long_ring.df (ps := p_long_ring) X G (fun _ _ _ _ _ _ us hl => match us, hl with | [_], _ => rfl)).cl fun _ _ F => ok_long_ring T c_taken c__ring_through F
  have c__copied : C_copied ol.prog w K mg base := (d__copied.df (ps := p__copied) X G (fun _ _ _ _ _ _ us hl => match us, hl with | [_], _ => rfl)).cl fun _ _ F => ok__copied T F
  have c_Verdict : Mk_Verdict ol.prog w K mg base C_Verdict := mV.mc gV mkV kcV (fun _ _ _ _ _ _ us hl => match us, hl with | [_, _, _, _, _, _], _ => rfl) fun _ _ F => ok_Verdict_init T vk c__copied F
  have c_judged : C_judged ol.prog w K mg base tD__fits tD__could_grow tD_coloured tD__touches := (d_judged.df (ps := p_judged) X G (fun _ _ _ _ _ _ us hl => match us, hl with | [_], _ => rfl)).cl fun _ _ F => ok_judged T vk c_long_ring c_taken c_full_crowds c_coloured c_Verdict F
  have c__law_whole : C_whole ol.prog w K mg base := (d__law_whole.df (ps := p__law_whole) X G (fun _ _ _ _ _ _ us hl => match us, hl with | [_], _ => rfl)).cl fun _ _ F => ok__law_whole T F
  have c__law_numbers : C_numbers ol.prog w K mg base := (d__law_numbers.df (ps := p__law_numbers) X G (fun _ _ _ _ _ _ us hl => match us, hl with | [_, _], _ => rfl)).cl fun _ _ F => ok__law_numbers T c__law_whole F
  have c__law_untied : C_luntied ol.prog w K mg base := (d__law_untied.df (ps := p__law_untied) X G (fun _ _ _ _ _ _ us hl => match us, hl with | [_, _], _ => rfl)).cl fun _ _ F => ok__law_untied T F
  have c__law_free : C_free ol.prog w K mg base := (d__law_free.df (ps := p__law_free) X G (fun _ _ _ _ _ _ us hl => match us, hl with | [_, _], _ => rfl)).cl fun _ _ F => ok__law_free T c__law_untied F
  have c__law_stays : C_stays ol.prog w K mg base := (d__law_stays.df (ps := p__law_stays) X G (fun _ _ _ _ _ _ us hl => match us, hl with | [_, _], _ => rfl)).cl fun _ _ F => ok__law_stays T wk c_Web_beside c__law_numbers F
  exact ok_law T c__law_many c__law_ties c__law_rows c__law_near c_web_of c__law_free c_judged c_long_ring c_taken c__law_numbers c__law_stays (fun_mk (st := s_law) l c k)
end Gn
open PySem PySem.W PyProof.Rows in
set_option maxRecDepth 100000 in
set_option maxHeartbeats 0 in
theorem PySem.Challenge.cw_shortring_k05_taken_holds : PySem.Challenge.rw_shortring_k05_taken.Holds := by
  w_on; o_law; k_head; (case hw => w_witness2)
  k_fill
  refine Gn.walk_tabs (l := PySem.Challenge.rw_shortring_k05_taken) (n := 63) (k := 13) (x := "_law_script") (CX := fun _ => CX0) rfl (by decide) rfl ⟨rfl, by decide, by decide⟩ (fun w h Y => PySem.W.kIn_of Y) ?F (fun _ _ _ _ _ z => z)
  case F =>
    intro w mg fa h Y KX G hmg tabs
    refine' Gn.all_mk (ol := PySem.Challenge.rw_shortring_k05_taken) (cD__fits := 265) (tD__fits := 261) (cD__could_grow := 258) (tD__could_grow := 254) (cD_coloured := 237) (tD_coloured := 235) (cD__touches := 218) (tD__touches := 214) KX G hmg ?aW ?x0_WebError ?x1_WebError ?x2_WebError ?x3_WebError ?x4_WebError ?x5_WebError ?x0_BadWeb ?x1_BadWeb ?x2_BadWeb ?x3_BadWeb ?x4_BadWeb ?x5_BadWeb ?x0_NoPoint ?x1_NoPoint ?x2_NoPoint ?x3_NoPoint ?x4_NoPoint ?x5_NoPoint ?x0_BadOrder ?x1_BadOrder ?x2_BadOrder ?x3_BadOrder ?x4_BadOrder ?x5_BadOrder ?x0_HasGap ?x1_HasGap ?x2_HasGap ?x3_HasGap ?x4_HasGap ?x5_HasGap ?mst ?pg ?hd ?po ?sa ?mk ?kc ?nm ?nr ?aV ?pgV ?hdV ?poV ?saV ?mkV ?kcV ?nV1 ?nV2 ?nV3 ?nV4 ?nV5 ?mV ?z_len ?z_range ?z_list ?z_sorted ?z_set ?z_isinstance ?z_max ?z_min ?z_str ?z_int ?z_bool ?z_tuple ?z_ValueError ?z_reversed ?z_enumerate ?z_zip ?z_sum ?z_any ?z_all ?z_abs ?z_dict ?d__law_cell_at ?d__law_mixed ?d__law_earlier ?d__law_any_rows ?d__law_many ?d__law_banded ?d__law_ringed ?d__law_hubbed ?d__law_rows ?d__law_name ?d__law_ties ?d__law_near ?d__rows_of ?d_web_of ?d_is_order ?d__need_order ?d_behind ?d__first_untied ?d_untied ?d_gap ?d__need_no_gap ?d__crowd_of ?d__fits ?d__could_grow ?d_full_crowds ?d_coloured ?d__next_to_go ?d_taken ?d__onward ?d_way ?d__touches ?d__pieces ?d__ring_through ?d_long_ring ?d__copied ?d_judged ?d__law_whole ?d__law_numbers ?d__law_untied ?d__law_free ?d__law_stays ?d_law ?m___init__ ?m__need ?m_beside ?m_tied ?tb__fits ?tn__fits ?tr__fits ?tb__could_grow ?tn__could_grow ?tr__could_grow ?tb_coloured ?tn_coloured ?tr_coloured ?tb__touches ?tn__touches ?tr__touches tabs rfl
    (case aW => k_is)
    (case x0_WebError => k_is)
    (case x1_WebError => k_exc)
    (case x2_WebError => k_is)
    (case x3_WebError => k_is)
    (case x4_WebError => k_is)
    (case x5_WebError => k_is)
    (case x0_BadWeb => k_is)
    (case x1_BadWeb => k_exc)
    (case x2_BadWeb => k_is)
    (case x3_BadWeb => k_is)
    (case x4_BadWeb => k_is)
    (case x5_BadWeb => k_is)
    (case x0_NoPoint => k_is)
    (case x1_NoPoint => k_exc)
    (case x2_NoPoint => k_is)
    (case x3_NoPoint => k_is)
    (case x4_NoPoint => k_is)
    (case x5_NoPoint => k_is)
    (case x0_BadOrder => k_is)
    (case x1_BadOrder => k_exc)
    (case x2_BadOrder => k_is)
    (case x3_BadOrder => k_is)
    (case x4_BadOrder => k_is)
    (case x5_BadOrder => k_is)
    (case x0_HasGap => k_is)
    (case x1_HasGap => k_exc)
    (case x2_HasGap => k_is)
    (case x3_HasGap => k_is)
    (case x4_HasGap => k_is)
    (case x5_HasGap => k_is)
    (case mst => k_is)
    (case pg => k_is)
    (case hd => k_is)
    (case po => k_is)
    (case sa => k_is)
    (case mk => k_is)
    (case kc => k_is)
    (case nm => k_is)
    (case nr => k_is)
    (case aV => k_is)
    (case pgV => k_is)
    (case hdV => k_is)
    (case poV => k_is)
    (case saV => k_is)
    (case mkV => k_is)
    (case kcV => k_is)
    (case nV1 => k_is)
    (case nV2 => k_is)
    (case nV3 => k_is)
    (case nV4 => k_is)
    (case nV5 => k_is)
    (case mV => refine' mtk_mk ?qa ?qi ?ql ?qc ?qk; (case qa => k_is); (case qi => k_is); (case ql => k_is); (case qc => k_is); (case qk => k_is))
    (case z_len => k_is)
    (case z_range => k_is)
    (case z_list => k_is)
    (case z_sorted => k_is)
    (case z_set => k_is)
    (case z_isinstance => k_is)
    (case z_max => k_is)
    (case z_min => k_is)
    (case z_str => k_is)
    (case z_int => k_is)
    (case z_bool => k_is)
    (case z_tuple => k_is)
    (case z_ValueError => k_is)
    (case z_reversed => k_is)
    (case z_enumerate => k_is)
    (case z_zip => k_is)
    (case z_sum => k_is)
    (case z_any => k_is)
    (case z_all => k_is)
    (case z_abs => k_is)
    (case z_dict => k_is)
    (case d__law_cell_at => refine' dk_mk ?qa ?ql ?qc ?qk; (case qa => k_is); (case ql => k_is); (case qc => k_is); (case qk => k_is))
    (case d__law_mixed => refine' dk_mk ?qa ?ql ?qc ?qk; (case qa => k_is); (case ql => k_is); (case qc => k_is); (case qk => k_is))
    (case d__law_earlier => refine' dk_mk ?qa ?ql ?qc ?qk; (case qa => k_is); (case ql => k_is); (case qc => k_is); (case qk => k_is))
    (case d__law_any_rows => refine' dk_mk ?qa ?ql ?qc ?qk; (case qa => k_is); (case ql => k_is); (case qc => k_is); (case qk => k_is))
    (case d__law_many => refine' dk_mk ?qa ?ql ?qc ?qk; (case qa => k_is); (case ql => k_is); (case qc => k_is); (case qk => k_is))
    (case d__law_banded => refine' dk_mk ?qa ?ql ?qc ?qk; (case qa => k_is); (case ql => k_is); (case qc => k_is); (case qk => k_is))
    (case d__law_ringed => refine' dk_mk ?qa ?ql ?qc ?qk; (case qa => k_is); (case ql => k_is); (case qc => k_is); (case qk => k_is))
    (case d__law_hubbed => refine' dk_mk ?qa ?ql ?qc ?qk; (case qa => k_is); (case ql => k_is); (case qc => k_is); (case qk => k_is))
    (case d__law_rows => refine' dk_mk ?qa ?ql ?qc ?qk; (case qa => k_is); (case ql => k_is); (case qc => k_is); (case qk => k_is))
    (case d__law_name => refine' dk_mk ?qa ?ql ?qc ?qk; (case qa => k_is); (case ql => k_is); (case qc => k_is); (case qk => k_is))
    (case d__law_ties => refine' dk_mk ?qa ?ql ?qc ?qk; (case qa => k_is); (case ql => k_is); (case qc => k_is); (case qk => k_is))
    (case d__law_near => refine' dk_mk ?qa ?ql ?qc ?qk; (case qa => k_is); (case ql => k_is); (case qc => k_is); (case qk => k_is))
    (case d__rows_of => refine' dk_mk ?qa ?ql ?qc ?qk; (case qa => k_is); (case ql => k_is); (case qc => k_is); (case qk => k_is))
    (case d_web_of => refine' dk_mk ?qa ?ql ?qc ?qk; (case qa => k_is); (case ql => k_is); (case qc => k_is); (case qk => k_is))
    (case d_is_order => refine' dk_mk ?qa ?ql ?qc ?qk; (case qa => k_is); (case ql => k_is); (case qc => k_is); (case qk => k_is))
    (case d__need_order => refine' dk_mk ?qa ?ql ?qc ?qk; (case qa => k_is); (case ql => k_is); (case qc => k_is); (case qk => k_is))
    (case d_behind => refine' dk_mk ?qa ?ql ?qc ?qk; (case qa => k_is); (case ql => k_is); (case qc => k_is); (case qk => k_is))
    (case d__first_untied => refine' dk_mk ?qa ?ql ?qc ?qk; (case qa => k_is); (case ql => k_is); (case qc => k_is); (case qk => k_is))
    (case d_untied => refine' dk_mk ?qa ?ql ?qc ?qk; (case qa => k_is); (case ql => k_is); (case qc => k_is); (case qk => k_is))
    (case d_gap => refine' dk_mk ?qa ?ql ?qc ?qk; (case qa => k_is); (case ql => k_is); (case qc => k_is); (case qk => k_is))
    (case d__need_no_gap => refine' dk_mk ?qa ?ql ?qc ?qk; (case qa => k_is); (case ql => k_is); (case qc => k_is); (case qk => k_is))
    (case d__crowd_of => refine' dk_mk ?qa ?ql ?qc ?qk; (case qa => k_is); (case ql => k_is); (case qc => k_is); (case qk => k_is))
    (case d__fits => refine' dk_mk ?qa ?ql ?qc ?qk; (case qa => k_is); (case ql => k_is); (case qc => k_is); (case qk => k_is))
    (case d__could_grow => refine' dk_mk ?qa ?ql ?qc ?qk; (case qa => k_is); (case ql => k_is); (case qc => k_is); (case qk => k_is))
    (case d_full_crowds => refine' dk_mk ?qa ?ql ?qc ?qk; (case qa => k_is); (case ql => k_is); (case qc => k_is); (case qk => k_is))
    (case d_coloured => refine' dk_mk ?qa ?ql ?qc ?qk; (case qa => k_is); (case ql => k_is); (case qc => k_is); (case qk => k_is))
    (case d__next_to_go => refine' dk_mk ?qa ?ql ?qc ?qk; (case qa => k_is); (case ql => k_is); (case qc => k_is); (case qk => k_is))
    (case d_taken => refine' dk_mk ?qa ?ql ?qc ?qk; (case qa => k_is); (case ql => k_is); (case qc => k_is); (case qk => k_is))
    (case d__onward => refine' dk_mk ?qa ?ql ?qc ?qk; (case qa => k_is); (case ql => k_is); (case qc => k_is); (case qk => k_is))
    (case d_way => refine' dk_mk ?qa ?ql ?qc ?qk; (case qa => k_is); (case ql => k_is); (case qc => k_is); (case qk => k_is))
    (case d__touches => refine' dk_mk ?qa ?ql ?qc ?qk; (case qa => k_is); (case ql => k_is); (case qc => k_is); (case qk => k_is))
    (case d__pieces => refine' dk_mk ?qa ?ql ?qc ?qk; (case qa => k_is); (case ql => k_is); (case qc => k_is); (case qk => k_is))
    (case d__ring_through => refine' dk_mk ?qa ?ql ?qc ?qk; (case qa => k_is); (case ql => k_is); (case qc => k_is); (case qk => k_is))
    (case d_long_ring => refine' dk_mk ?qa ?ql ?qc ?qk; (case qa => k_is); (case ql => k_is); (case qc => k_is); (case qk => k_is))
    (case d__copied => refine' dk_mk ?qa ?ql ?qc ?qk; (case qa => k_is); (case ql => k_is); (case qc => k_is); (case qk => k_is))
    (case d_judged => refine' dk_mk ?qa ?ql ?qc ?qk; (case qa => k_is); (case ql => k_is); (case qc => k_is); (case qk => k_is))
    (case d__law_whole => refine' dk_mk ?qa ?ql ?qc ?qk; (case qa => k_is); (case ql => k_is); (case qc => k_is); (case qk => k_is))
    (case d__law_numbers => refine' dk_mk ?qa ?ql ?qc ?qk; (case qa => k_is); (case ql => k_is); (case qc => k_is); (case qk => k_is))
    (case d__law_untied => refine' dk_mk ?qa ?ql ?qc ?qk; (case qa => k_is); (case ql => k_is); (case qc => k_is); (case qk => k_is))
    (case d__law_free => refine' dk_mk ?qa ?ql ?qc ?qk; (case qa => k_is); (case ql => k_is); (case qc => k_is); (case qk => k_is))
    (case d__law_stays => refine' dk_mk ?qa ?ql ?qc ?qk; (case qa => k_is); (case ql => k_is); (case qc => k_is); (case qk => k_is))
    (case d_law => refine' dk_mk ?qa ?ql ?qc ?qk; (case qa => k_is); (case ql => k_is); (case qc => k_is); (case qk => k_is))
    (case m___init__ => refine' mtk_mk ?qa ?qi ?ql ?qc ?qk; (case qa => k_is); (case qi => k_is); (case ql => k_is); (case qc => k_is); (case qk => k_is))
    (case m__need => refine' mtk_mk ?qa ?qi ?ql ?qc ?qk; (case qa => k_is); (case qi => k_is); (case ql => k_is); (case qc => k_is); (case qk => k_is))
    (case m_beside => refine' mtk_mk ?qa ?qi ?ql ?qc ?qk; (case qa => k_is); (case qi => k_is); (case ql => k_is); (case qc => k_is); (case qk => k_is))
    (case m_tied => refine' mtk_mk ?qa ?qi ?ql ?qc ?qk; (case qa => k_is); (case qi => k_is); (case ql => k_is); (case qc => k_is); (case qk => k_is))
    (case tb__fits => kernel_rfl)
    (case tn__fits => kernel_rfl)
    (case tr__fits => first | kernel_rfl | rfl | decide +kernel)
    (case tb__could_grow => kernel_rfl)
    (case tn__could_grow => kernel_rfl)
    (case tr__could_grow => first | kernel_rfl | rfl | decide +kernel)
    (case tb_coloured => kernel_rfl)
    (case tn_coloured => kernel_rfl)
    (case tr_coloured => first | kernel_rfl | rfl | decide +kernel)
    (case tb__touches => kernel_rfl)
    (case tn__touches => kernel_rfl)
    (case tr__touches => first | kernel_rfl | rfl | decide +kernel)


