import PyProof.Rows.All
import Wide.All
import OpenK.AllK
import Wide.FinOn
import Open.SpecLaws
import KE.OsGo
import HandS.Base
import HandS.Call
import HandS.List
import HandS.Comp
import HandS.Ends
import HandS.Dict
import HandS.Iter
import HandS.More
import HandS.Walk
import HandS.Spec
import HandS.Words
import HandS.WordsList
import HandS.WordsDict
import HandS.Deep
import HandS.SortKw
import KE.DataMinMax
import PySem.Challenge.RW_partsworld_s01_answers
set_option Elab.async false
set_option linter.all false
set_option maxRecDepth 100000
set_option maxHeartbeats 5000000
/-! The world by places: a list of what stands at each place, and each place's turn. The specification's world told so. -/
namespace Pw
open Ge01 (Thing Name Part World)
abbrev Hs := List (Option (List Part))
def things : Nat → Hs → List Nat → List Thing
  | i, some p :: h, t :: ts => ⟨⟨i, t⟩, p⟩ :: things (i + 1) h ts
  | i, none :: h, _ :: ts => things (i + 1) h ts
  | _, _, _ => []
/-- what stands at a name -/
def slot (h : Hs) (ts : List Nat) (a b : Nat) : Option (List Part) := match h[a]?, ts[a]? with
  | some (some p), some t => if t = b then some p else none
  | _, _ => none
def free : Hs → Nat
  | [] => 0
  | none :: _ => 0
  | some _ :: h => free h + 1
def much : Hs → Nat
  | [] => 0
  | none :: h => much h
  | some _ :: h => much h + 1
theorem things_ge : ∀ (h : Hs) (ts : List Nat) (i : Nat) (x : Thing), x ∈ things i h ts → i ≤ x.name.place
  | [], _, i, x, q => by simp [things] at q
  | some p :: h, [], i, x, q => by simp [things] at q
  | none :: h, [], i, x, q => by simp [things] at q
  | some p :: h, t :: ts, i, x, q => by
    simp only [things, List.mem_cons] at q
    rcases q with rfl | q
    · exact Nat.le_refl _
    · have := things_ge h ts (i + 1) x q
      omega
  | none :: h, t :: ts, i, x, q => by
    simp only [things] at q
    have := things_ge h ts (i + 1) x q
    omega
theorem things_len : ∀ (h : Hs) (ts : List Nat) (i : Nat), h.length = ts.length → (things i h ts).length = much h
  | [], _, i, e => by simp [things, much]
  | some p :: h, [], i, e => by simp at e
  | none :: h, [], i, e => by simp at e
  | some p :: h, t :: ts, i, e => by
    simp only [things, List.length_cons, much]
    rw [things_len h ts (i + 1) (by simpa using e)]
  | none :: h, t :: ts, i, e => by
    simp only [things, much]
    rw [things_len h ts (i + 1) (by simpa using e)]
theorem find_below (h : Hs) (ts : List Nat) (i a b : Nat) (q : a < i) : (things i h ts).find? (fun x => x.name == ⟨a, b⟩) = none := by
  rw [List.find?_eq_none]
  intro x m
  have := things_ge h ts i x m
  intro e
  have e' : x.name = ⟨a, b⟩ := by simpa using e
  rw [e'] at this
  simp at this
  omega
theorem find_things : ∀ (h : Hs) (ts : List Nat) (i a b : Nat), (things i h ts).find? (fun x => x.name == ⟨i + a, b⟩) = (slot h ts a b).map fun p => ⟨⟨i + a, b⟩, p⟩
  | [], ts, i, a, b => by simp [things, slot]
  | some p :: h, [], i, a, b => by simp [things, slot]
  | none :: h, [], i, a, b => by simp [things, slot]
  | some p :: h, t :: ts, i, 0, b => by
    simp only [things, slot, List.getElem?_cons_zero, Nat.add_zero]
    by_cases e : t = b
    · subst e
      simp
    · rw [List.find?_cons_of_neg, find_below _ _ _ _ _ (by omega), if_neg e]
      · rfl
      · simp [e]
  | none :: h, t :: ts, i, 0, b => by
    simp only [things, slot, List.getElem?_cons_zero, Nat.add_zero]
    rw [find_below _ _ _ _ _ (by omega)]
    rfl
  | some p :: h, t :: ts, i, a + 1, b => by
    have ih := find_things h ts (i + 1) a b
    rw [show i + 1 + a = i + (a + 1) by omega] at ih
    simp only [things]
    rw [List.find?_cons_of_neg, ih]
    · simp [slot]
    · simp
  | none :: h, t :: ts, i, a + 1, b => by
    have ih := find_things h ts (i + 1) a b
    rw [show i + 1 + a = i + (a + 1) by omega] at ih
    simp only [things]
    rw [ih]
    simp [slot]
theorem filter_below (h : Hs) (ts : List Nat) (i : Nat) (n : Name) (q : n.place < i) : (things i h ts).filter (fun x => x.name != n) = things i h ts := by
  rw [List.filter_eq_self]
  intro x m
  have := things_ge h ts i x m
  have : x.name ≠ n := by
    intro e
    rw [e] at this
    omega
  simp [this]
theorem filter_things : ∀ (h : Hs) (ts : List Nat) (i a b c : Nat) (p : List Part), slot h ts a b = some p → (things i h ts).filter (fun x => x.name != ⟨i + a, b⟩) = things i (h.set a none) (ts.set a c)
  | [], ts, i, a, b, c, p, q => by simp [slot] at q
  | some _ :: h, [], i, a, b, c, p, q => by simp [slot] at q
  | none :: h, [], i, a, b, c, p, q => by simp [slot] at q
  | some p' :: h, t :: ts, i, 0, b, c, p, q => by
    simp only [slot, List.getElem?_cons_zero] at q
    have e : t = b := by
      by_cases e : t = b
      · exact e
      · rw [if_neg e] at q
        cases q
    subst e
    simp only [things, Nat.add_zero, List.set_cons_zero]
    rw [List.filter_cons_of_neg (by simp), filter_below _ _ _ _ (by simp)]
  | none :: h, t :: ts, i, 0, b, c, p, q => by simp [slot] at q
  | some p' :: h, t :: ts, i, a + 1, b, c, p, q => by
    have ih := filter_things h ts (i + 1) a b c p (by simpa [slot] using q)
    rw [show i + 1 + a = i + (a + 1) by omega] at ih
    simp only [things, List.set_cons_succ]
    rw [List.filter_cons_of_pos, ih]
    simp
  | none :: h, t :: ts, i, a + 1, b, c, p, q => by
    have ih := filter_things h ts (i + 1) a b c p (by simpa [slot] using q)
    rw [show i + 1 + a = i + (a + 1) by omega] at ih
    simp only [things, List.set_cons_succ]
    exact ih
theorem map_below (f : List Part → List Part) (h : Hs) (ts : List Nat) (i : Nat) (n : Name) (q : n.place < i) : (things i h ts).map (fun x => if x.name = n then { x with parts := f x.parts } else x) = things i h ts := by
  conv => rhs; rw [← List.map_id (things i h ts)]
  apply List.map_congr_left
  intro x m
  have := things_ge h ts i x m
  have : x.name ≠ n := by
    intro e
    rw [e] at this
    omega
  simp [this]
theorem map_things (f : List Part → List Part) : ∀ (h : Hs) (ts : List Nat) (i a b : Nat) (p : List Part), slot h ts a b = some p → (things i h ts).map (fun x => if x.name = ⟨i + a, b⟩ then { x with parts := f x.parts } else x) = things i (h.set a (some (f p))) ts
  | [], ts, i, a, b, p, q => by simp [slot] at q
  | some _ :: h, [], i, a, b, p, q => by simp [slot] at q
  | none :: h, [], i, a, b, p, q => by simp [slot] at q
  | some p' :: h, t :: ts, i, 0, b, p, q => by
    simp only [slot, List.getElem?_cons_zero] at q
    have e : t = b := by
      by_cases e : t = b
      · exact e
      · rw [if_neg e] at q
        cases q
    subst e
    have e : p' = p := by simpa using q
    subst e
    simp only [things, Nat.add_zero, List.set_cons_zero, List.map_cons]
    rw [map_below _ _ _ _ _ (by simp)]
    simp
  | none :: h, t :: ts, i, 0, b, p, q => by simp [slot] at q
  | some p' :: h, t :: ts, i, a + 1, b, p, q => by
    have ih := map_things f h ts (i + 1) a b p (by simpa [slot] using q)
    rw [show i + 1 + a = i + (a + 1) by omega] at ih
    simp only [things, List.set_cons_succ, List.map_cons]
    rw [ih, if_neg]
    simp
  | none :: h, t :: ts, i, a + 1, b, p, q => by
    have ih := map_things f h ts (i + 1) a b p (by simpa [slot] using q)
    rw [show i + 1 + a = i + (a + 1) by omega] at ih
    simp only [things, List.set_cons_succ]
    exact ih
theorem map_none (f : List Part → List Part) : ∀ (h : Hs) (ts : List Nat) (i a b : Nat), slot h ts a b = none → (things i h ts).map (fun x => if x.name = ⟨i + a, b⟩ then { x with parts := f x.parts } else x) = things i h ts := by
  intro h ts i a b q
  have e := find_things h ts i a b
  rw [q] at e
  have e' := List.find?_eq_none.mp (show (things i h ts).find? (fun x => x.name == ⟨i + a, b⟩) = none from e)
  conv => rhs; rw [← List.map_id (things i h ts)]
  apply List.map_congr_left
  intro x m
  have := e' x m
  have n : x.name ≠ ⟨i + a, b⟩ := by simpa using this
  simp [n]
theorem any_place : ∀ (h : Hs) (ts : List Nat) (i a : Nat), h.length = ts.length → ((things i h ts).any fun x => x.name.place == i + a) = (match h[a]? with | some (some _) => true | _ => false)
  | [], ts, i, a, e => by simp [things]
  | some p :: h, [], i, a, e => by simp at e
  | none :: h, [], i, a, e => by simp at e
  | some p :: h, t :: ts, i, 0, e => by simp [things]
  | none :: h, t :: ts, i, 0, e => by
    simp only [things, List.getElem?_cons_zero, Nat.add_zero]
    rw [List.any_eq_false]
    intro x m
    have := things_ge h ts (i + 1) x m
    simp
    omega
  | some p :: h, t :: ts, i, a + 1, e => by
    have ih := any_place h ts (i + 1) a (by simpa using e)
    rw [show i + 1 + a = i + (a + 1) by omega] at ih
    simp only [things, List.any_cons, List.getElem?_cons_succ]
    rw [ih]
    have : (i == i + (a + 1)) = false := by simp
    simp
  | none :: h, t :: ts, i, a + 1, e => by
    have ih := any_place h ts (i + 1) a (by simpa using e)
    rw [show i + 1 + a = i + (a + 1) by omega] at ih
    simp only [things, List.getElem?_cons_succ]
    exact ih
theorem free_le_much : ∀ h : Hs, free h ≤ much h
  | [] => Nat.le_refl _
  | none :: h => Nat.zero_le _
  | some _ :: h => Nat.succ_le_succ (free_le_much h)
theorem much_le_len : ∀ h : Hs, much h ≤ h.length
  | [] => Nat.le_refl _
  | none :: h => by
    have := much_le_len h
    simp only [much, List.length_cons]
    omega
  | some _ :: h => by
    have := much_le_len h
    simp only [much, List.length_cons]
    omega
theorem free_le_len (h : Hs) : free h ≤ h.length := Nat.le_trans (free_le_much h) (much_le_len h)
theorem free_before : ∀ (h : Hs) (a : Nat), a < free h → ∃ p, h[a]? = some (some p)
  | [], a, q => by simp [free] at q
  | none :: h, a, q => by simp [free] at q
  | some p :: h, 0, q => ⟨p, rfl⟩
  | some p :: h, a + 1, q => by
    simp only [free] at q
    have := free_before h a (by omega)
    simpa using this
theorem free_at : ∀ (h : Hs), h[free h]? = none ∨ h[free h]? = some none
  | [] => Or.inl rfl
  | none :: h => Or.inr rfl
  | some p :: h => by
    have := free_at h
    simpa [free] using this
theorem freePlace_is (w : World) (h : Hs) (ts : List Nat) (e : h.length = ts.length) (q : w.things = things 0 h ts) : Ge01.freePlace w = free h := by
  unfold Ge01.freePlace
  rw [q, things_len h ts 0 e]
  have : (List.range (much h + 1)).find? (fun i => !((things 0 h ts).any fun x => x.name.place == i)) = some (free h) := by
    rw [List.find?_range_eq_some]
    refine ⟨?_, ?_, ?_⟩
    · have := any_place h ts 0 (free h) e
      rw [Nat.zero_add] at this
      rw [this]
      rcases free_at h with z | z <;> rw [z] <;> rfl
    · have := free_le_much h
      simp
      omega
    · intro j hj
      have := any_place h ts 0 j e
      rw [Nat.zero_add] at this
      rw [this]
      obtain ⟨p, z⟩ := free_before h j hj
      rw [z]
      rfl
  rw [this]
  rfl
theorem placed_below (h : Hs) (ts : List Nat) (i : Nat) (x : Thing) (q : x.name.place < i) : Ge01.placed x (things i h ts) = x :: things i h ts := by
  have g := things_ge h ts i
  cases e : things i h ts with
  | nil => rfl
  | cons y l =>
    have := g y (by rw [e]; exact List.mem_cons_self)
    unfold Ge01.placed
    rw [if_pos (by omega)]
/-- the place that a new thing takes, and what stands then -/
def hput (h : Hs) (p : List Part) : Hs := if free h < h.length then h.set (free h) (some p) else h ++ [some p]
def tput (h : Hs) (ts : List Nat) : List Nat := if free h < h.length then ts else ts ++ [0]
theorem hput_cons (q : List Part) (h : Hs) (p : List Part) : hput (some q :: h) p = some q :: hput h p := by
  unfold hput
  simp only [free, List.length_cons, Nat.add_lt_add_iff_right]
  by_cases c : free h < h.length
  · rw [if_pos c, if_pos c, List.set_cons_succ]
  · rw [if_neg c, if_neg c]
    rfl
theorem tput_cons (q : List Part) (h : Hs) (t : Nat) (ts : List Nat) : tput (some q :: h) (t :: ts) = t :: tput h ts := by
  unfold tput
  simp only [free, List.length_cons, Nat.add_lt_add_iff_right]
  by_cases c : free h < h.length
  · rw [if_pos c, if_pos c]
  · rw [if_neg c, if_neg c]
    rfl
theorem placed_things : ∀ (h : Hs) (ts : List Nat) (i : Nat) (p : List Part), h.length = ts.length → Ge01.placed ⟨⟨i + free h, ts.getD (free h) 0⟩, p⟩ (things i h ts) = things i (hput h p) (tput h ts)
  | [], [], i, p, e => by simp [things, free, hput, tput, Ge01.placed]
  | [], t :: ts, i, p, e => by simp at e
  | some q :: h, [], i, p, e => by simp at e
  | none :: h, [], i, p, e => by simp at e
  | none :: h, t :: ts, i, p, e => by
    simp only [free, Nat.add_zero, things, List.getD_cons_zero]
    rw [placed_below _ _ _ _ (by simp)]
    have c : free (none :: h) < (none :: h : Hs).length := by simp [free]
    unfold hput tput
    rw [if_pos c, if_pos c]
    simp [free, things]
  | some q :: h, t :: ts, i, p, e => by
    have ih := placed_things h ts (i + 1) p (by simpa using e)
    rw [show i + 1 + free h = i + (free h + 1) by omega] at ih
    rw [hput_cons, tput_cons]
    simp only [free, things, List.getD_cons_succ]
    rw [← ih]
    conv => lhs; unfold Ge01.placed
    rw [if_neg (by simp)]
theorem hput_len (h : Hs) (p : List Part) : (hput h p).length = if free h < h.length then h.length else h.length + 1 := by
  unfold hput
  split <;> simp
theorem tput_len (h : Hs) (ts : List Nat) (e : h.length = ts.length) : (tput h ts).length = (hput h []).length := by
  unfold hput tput
  split <;> simp [e]
theorem much_set_none : ∀ (h : Hs) (a : Nat) (p : List Part), h[a]? = some (some p) → much (h.set a none) + 1 = much h
  | [], a, p, q => by simp at q
  | some x :: h, 0, p, q => by simp [much]
  | none :: h, 0, p, q => by simp at q
  | some x :: h, a + 1, p, q => by
    have := much_set_none h a p (by simpa using q)
    simp only [List.set_cons_succ, much]
    omega
  | none :: h, a + 1, p, q => by
    have := much_set_none h a p (by simpa using q)
    simp only [List.set_cons_succ, much]
    omega
theorem much_set_some : ∀ (h : Hs) (a : Nat) (p q : List Part), h[a]? = some (some p) → much (h.set a (some q)) = much h
  | [], a, p, q, z => by simp at z
  | some x :: h, 0, p, q, z => by simp [much]
  | none :: h, 0, p, q, z => by simp at z
  | some x :: h, a + 1, p, q, z => by
    have := much_set_some h a p q (by simpa using z)
    simp only [List.set_cons_succ, much]
    omega
  | none :: h, a + 1, p, q, z => by
    have := much_set_some h a p q (by simpa using z)
    simp only [List.set_cons_succ, much]
    omega
theorem much_hput : ∀ (h : Hs) (p : List Part), much (hput h p) = much h + 1
  | [], p => by simp [hput, free, much]
  | none :: h, p => by simp [hput, free, much]
  | some q :: h, p => by
    rw [hput_cons]
    simp only [much]
    rw [much_hput h p]
/-! ### The relation -/
structure M where
  held : Hs
  turns : List Nat
structure Rel (w : World) (m : M) : Prop where
  th : w.things = things 0 m.held m.turns
  tu : ∀ i, w.turns.getD i 0 = m.turns.getD i 0
  ln : m.held.length = m.turns.length
def M.new : M := ⟨[], []⟩
def M.slot (m : M) (a b : Nat) : Option (List Part) := Pw.slot m.held m.turns a b
def M.made (m : M) (p : List Part) : M := ⟨hput m.held p, tput m.held m.turns⟩
def M.place (m : M) : Name := ⟨free m.held, m.turns.getD (free m.held) 0⟩
def M.gone (m : M) (a b : Nat) : M := ⟨m.held.set a none, m.turns.set a (b + 1)⟩
def M.to (m : M) (a : Nat) (p : List Part) : M := ⟨m.held.set a (some p), m.turns⟩
theorem rel_new : Rel ⟨[], []⟩ M.new := ⟨rfl, fun _ => rfl, rfl⟩
theorem rel_find {w : World} {m : M} (r : Rel w m) (a b : Nat) : Ge01.find w ⟨a, b⟩ = (m.slot a b).map fun p => ⟨⟨a, b⟩, p⟩ := by
  have := find_things m.held m.turns 0 a b
  rw [Nat.zero_add] at this
  unfold Ge01.find
  rw [r.th]
  exact this
theorem rel_lives {w : World} {m : M} (r : Rel w m) (a b : Nat) : Ge01.lives w ⟨a, b⟩ = (m.slot a b).isSome := by
  unfold Ge01.lives
  rw [rel_find r]
  cases m.slot a b <;> rfl
theorem rel_much {w : World} {m : M} (r : Rel w m) : w.things.length = much m.held := by
  rw [r.th, things_len _ _ _ r.ln]
theorem slot_some {m : M} {a b : Nat} {p : List Part} (h : m.slot a b = some p) : m.held[a]? = some (some p) ∧ m.turns[a]? = some b := by
  unfold M.slot slot at h
  split at h
  · rename_i p' t e1 e2
    by_cases c : t = b
    · rw [if_pos c] at h
      cases h
      subst c
      exact ⟨e1, e2⟩
    · rw [if_neg c] at h
      cases h
  · cases h
theorem rel_made {w : World} {m : M} (r : Rel w m) (p : List Part) : (Ge01.made w p).1 = m.place ∧ Rel (Ge01.made w p).2 (m.made p) := by
  have f := freePlace_is w m.held m.turns r.ln r.th
  have t : Ge01.turnAt w (free m.held) = m.turns.getD (free m.held) 0 := r.tu _
  unfold Ge01.made
  refine ⟨?_, ?_, ?_, ?_⟩
  · show (⟨Ge01.freePlace w, Ge01.turnAt w (Ge01.freePlace w)⟩ : Name) = _
    rw [f, t]
    rfl
  · show Ge01.placed ⟨⟨Ge01.freePlace w, Ge01.turnAt w (Ge01.freePlace w)⟩, p⟩ w.things = _
    rw [f, t, r.th]
    have := placed_things m.held m.turns 0 p r.ln
    rw [Nat.zero_add] at this
    exact this
  · intro i
    show w.turns.getD i 0 = _
    rw [r.tu]
    unfold M.made tput
    dsimp only
    split
    · rfl
    · simp only [List.getD_eq_getElem?_getD, List.getElem?_append]
      split
      · rfl
      · rename_i h1 h2
        rw [List.getElem?_eq_none (by omega)]
        cases e : [0][i - m.turns.length]? with
        | none => rfl
        | some z =>
          have := List.mem_of_getElem? e
          simp at this
          subst this
          rfl
  · unfold M.made hput tput
    dsimp only
    split <;> simp [r.ln]
theorem rel_gone {w : World} {m : M} (r : Rel w m) {a b : Nat} {p : List Part} (h : m.slot a b = some p) : Rel (Ge01.gone w ⟨a, b⟩) (m.gone a b) := by
  have l := rel_lives r a b
  rw [h] at l
  obtain ⟨h1, h2⟩ := slot_some h
  have ha : a < m.turns.length := (List.getElem?_eq_some_iff.mp h2).1
  unfold Ge01.gone
  rw [if_neg (by rw [l]; simp)]
  refine ⟨?_, ?_, ?_⟩
  · show w.things.filter (fun x => x.name != ⟨a, b⟩) = things 0 (m.held.set a none) (m.turns.set a (b + 1))
    rw [r.th]
    have := filter_things m.held m.turns 0 a b (b + 1) p h
    rw [Nat.zero_add] at this
    exact this
  · intro i
    show ((List.range (max w.turns.length (a + 1))).map fun i => Ge01.turnAt w i + if i = a then 1 else 0).getD i 0 = (m.turns.set a (b + 1)).getD i 0
    have tu := r.tu i
    simp only [List.getD_eq_getElem?_getD, List.getElem?_map, List.getElem?_set] at *
    by_cases c : i < max w.turns.length (a + 1)
    · rw [List.getElem?_range c]
      show Ge01.turnAt w i + (if i = a then 1 else 0) = _
      unfold Ge01.turnAt
      rw [List.getD_eq_getElem?_getD, tu]
      by_cases d : a = i
      · subst d
        rw [h2]
        simp
        split
        · rfl
        · omega
      · rw [if_neg d, if_neg (fun z => d z.symm)]
        rfl
    · rw [List.getElem?_eq_none (by simpa using c)]
      have c1 : w.turns.length ≤ i := by omega
      have c2 : ¬ a = i := by omega
      rw [List.getElem?_eq_none c1] at tu
      rw [if_neg c2]
      simpa using tu
  · show (m.held.set a none).length = (m.turns.set a (b + 1)).length
    simp [r.ln]
theorem rel_gone_none {w : World} {m : M} (r : Rel w m) {a b : Nat} (h : m.slot a b = none) : Ge01.gone w ⟨a, b⟩ = w := by
  have l := rel_lives r a b
  rw [h] at l
  unfold Ge01.gone
  rw [if_pos (by rw [l]; rfl)]
theorem rel_puts {w : World} {m : M} (r : Rel w m) {a b : Nat} {p : List Part} (h : m.slot a b = some p) (k v : Nat) : Rel (Ge01.puts w ⟨a, b⟩ k v) (m.to a (Ge01.partsPut k v p)) := by
  refine ⟨?_, r.tu, ?_⟩
  · have := map_things (Ge01.partsPut k v) m.held m.turns 0 a b p h
    rw [Nat.zero_add] at this
    show w.things.map _ = _
    rw [r.th]
    exact this
  · show (m.held.set a _).length = m.turns.length
    simp [r.ln]
theorem rel_takes {w : World} {m : M} (r : Rel w m) {a b : Nat} {p : List Part} (h : m.slot a b = some p) (k : Nat) : Rel (Ge01.takes w ⟨a, b⟩ k) (m.to a (p.filter fun q => q.1 != k)) := by
  refine ⟨?_, r.tu, ?_⟩
  · have := map_things (fun l => l.filter fun q => q.1 != k) m.held m.turns 0 a b p h
    rw [Nat.zero_add] at this
    show w.things.map _ = _
    rw [r.th]
    exact this
  · show (m.held.set a _).length = m.turns.length
    simp [r.ln]
theorem rel_takes_none {w : World} {m : M} (r : Rel w m) {a b : Nat} (h : m.slot a b = none) (k : Nat) : Ge01.takes w ⟨a, b⟩ k = w := by
  have := map_none (fun l => l.filter fun q => q.1 != k) m.held m.turns 0 a b h
  rw [Nat.zero_add, ← r.th] at this
  unfold Ge01.takes
  exact congrArg (fun l => ({ w with things := l } : World)) this
theorem sum_getD : ∀ (l k : List Nat), (∀ i, l.getD i 0 = k.getD i 0) → l.sum = k.sum
  | [], [], _ => rfl
  | [], x :: k, h => by
    have h0 := h 0
    have := sum_getD [] k fun i => h (i + 1)
    simp at h0 this
    simp [← this, ← h0]
  | x :: l, [], h => by
    have h0 := h 0
    have := sum_getD l [] fun i => h (i + 1)
    simp at h0 this
    simp [this, h0]
  | x :: l, y :: k, h => by
    have h0 := h 0
    have := sum_getD l k fun i => h (i + 1)
    simp at h0
    simp [this, h0]
theorem rel_sum {w : World} {m : M} (r : Rel w m) : w.turns.sum = m.turns.sum := sum_getD _ _ r.tu
end Pw

/-! Parts, changes done, and the list that is handed in, told call by call. -/
namespace Pw
open Ge01 (Thing Name Part World Change Question)
/-! ### parts -/
def Inc (p : List Part) : Prop := p.Pairwise fun a b => a.1 < b.1
theorem rising_inc : ∀ p : List Part, Ge01.risingParts p = true → Inc p
  | [], _ => List.Pairwise.nil
  | [a], _ => List.pairwise_singleton _ _
  | a :: b :: l, h => by
    unfold Ge01.risingParts at h
    rw [Bool.and_eq_true] at h
    have ih := rising_inc (b :: l) h.2
    have hb : a.1 < b.1 := of_decide_eq_true h.1
    refine List.Pairwise.cons (fun x hx => ?_) ih
    rcases List.mem_cons.mp hx with rfl | hx
    · exact hb
    · exact Nat.lt_trans hb ((List.pairwise_cons.mp ih).1 x hx)
theorem inc_rising : ∀ p : List Part, Inc p → Ge01.risingParts p = true
  | [], _ => rfl
  | [a], _ => rfl
  | a :: b :: l, h => by
    have h2 := List.pairwise_cons.mp h
    unfold Ge01.risingParts
    rw [Bool.and_eq_true]
    exact ⟨decide_eq_true (h2.1 b List.mem_cons_self), inc_rising (b :: l) h2.2⟩
/-- what a thing's parts always are -/
structure Good (p : List Part) : Prop where
  inc : Inc p
  ok : ∀ x ∈ p, x.1 ≤ 15 ∧ x.2 ≤ 9999
theorem partOk_iff (k v : Nat) : Ge01.partOk (k, v) = true ↔ k ≤ 15 ∧ v ≤ 9999 := by
  unfold Ge01.partOk
  rw [Bool.and_eq_true, decide_eq_true_eq, decide_eq_true_eq]
theorem good_iff (p : List Part) : Ge01.partsOk p = true ↔ Good p := by
  unfold Ge01.partsOk
  rw [Bool.and_eq_true, List.all_eq_true]
  constructor
  · rintro ⟨h1, h2⟩
    exact ⟨rising_inc p h2, fun x hx => (partOk_iff x.1 x.2).mp (h1 x hx)⟩
  · rintro ⟨h1, h2⟩
    exact ⟨fun x hx => (partOk_iff x.1 x.2).mpr (h2 x hx), inc_rising p h1⟩
theorem mem_put (k v : Nat) : ∀ (p : List Part), Inc p → ∀ x, x ∈ Ge01.partsPut k v p ↔ x = (k, v) ∨ (x ∈ p ∧ x.1 ≠ k)
  | [], _, x => by simp [Ge01.partsPut]
  | a :: l, h, x => by
    have h2 := List.pairwise_cons.mp h
    unfold Ge01.partsPut
    by_cases c1 : k < a.1
    · rw [if_pos c1, List.mem_cons]
      have : ∀ y ∈ a :: l, y.1 ≠ k := by
        intro y hy
        rcases List.mem_cons.mp hy with rfl | hy
        · omega
        · have := h2.1 y hy
          omega
      constructor
      · rintro (h | h)
        · exact Or.inl h
        · exact Or.inr ⟨h, this x h⟩
      · rintro (h | h)
        · exact Or.inl h
        · exact Or.inr h.1
    · rw [if_neg c1]
      by_cases c2 : k = a.1
      · rw [if_pos c2, List.mem_cons]
        constructor
        · rintro (h | h)
          · exact Or.inl h
          · refine Or.inr ⟨List.mem_cons_of_mem _ h, ?_⟩
            have := h2.1 x h
            omega
        · rintro (h | ⟨h, n⟩)
          · exact Or.inl h
          · rcases List.mem_cons.mp h with rfl | h
            · exact absurd c2.symm n
            · exact Or.inr h
      · rw [if_neg c2, List.mem_cons, mem_put k v l h2.2 x]
        constructor
        · rintro (h | h | h)
          · subst h
            exact Or.inr ⟨List.mem_cons_self, fun z => c2 z.symm⟩
          · exact Or.inl h
          · exact Or.inr ⟨List.mem_cons_of_mem _ h.1, h.2⟩
        · rintro (h | ⟨h, n⟩)
          · exact Or.inr (Or.inl h)
          · rcases List.mem_cons.mp h with rfl | h
            · exact Or.inl rfl
            · exact Or.inr (Or.inr ⟨h, n⟩)
theorem inc_put (k v : Nat) : ∀ (p : List Part), Inc p → Inc (Ge01.partsPut k v p)
  | [], _ => List.pairwise_singleton _ _
  | a :: l, h => by
    have h2 := List.pairwise_cons.mp h
    unfold Ge01.partsPut
    by_cases c1 : k < a.1
    · rw [if_pos c1]
      refine List.Pairwise.cons (fun y hy => ?_) h
      rcases List.mem_cons.mp hy with rfl | hy
      · exact c1
      · exact Nat.lt_trans c1 (h2.1 y hy)
    · rw [if_neg c1]
      by_cases c2 : k = a.1
      · rw [if_pos c2]
        refine List.Pairwise.cons (fun y hy => ?_) h2.2
        have := h2.1 y hy
        show k < y.1
        omega
      · rw [if_neg c2]
        refine List.Pairwise.cons (fun y hy => ?_) (inc_put k v l h2.2)
        rcases (mem_put k v l h2.2 y).mp hy with rfl | ⟨hy, _⟩
        · show a.1 < k
          omega
        · exact h2.1 y hy
theorem good_nil : Good [] := ⟨List.Pairwise.nil, fun _ h => absurd h (by simp)⟩
theorem good_put {p : List Part} (h : Good p) {k v : Nat} (hk : k ≤ 15) (hv : v ≤ 9999) : Good (Ge01.partsPut k v p) := by
  refine ⟨inc_put k v p h.inc, fun x hx => ?_⟩
  rcases (mem_put k v p h.inc x).mp hx with rfl | ⟨hx, _⟩
  · exact ⟨hk, hv⟩
  · exact h.ok x hx
theorem good_filter {p : List Part} (h : Good p) (f : Part → Bool) : Good (p.filter f) :=
  ⟨h.inc.filter f, fun x hx => h.ok x (List.mem_filter.mp hx).1⟩
theorem inc_len : ∀ (p : List Part) (b n : Nat), Inc p → (∀ x ∈ p, b ≤ x.1 ∧ x.1 < n) → b + p.length ≤ max n b
  | [], b, n, _, _ => by simp; omega
  | a :: l, b, n, h, q => by
    have h2 := List.pairwise_cons.mp h
    have qa := q a List.mem_cons_self
    have := inc_len l (a.1 + 1) n h2.2 fun x hx => ⟨h2.1 x hx, (q x (List.mem_cons_of_mem _ hx)).2⟩
    simp only [List.length_cons]
    omega
theorem good_len {p : List Part} (h : Good p) : p.length ≤ 16 := by
  have := inc_len p 0 16 h.inc fun x hx => ⟨Nat.zero_le _, Nat.lt_succ_of_le (h.ok x hx).1⟩
  omega
/-! ### changes done -/
def M.Good (m : M) : Prop := ∀ (i : Nat) (p : List Part), m.held[i]? = some (some p) → Pw.Good p
theorem slot_good {m : M} (h : m.Good) {a b : Nat} {p : List Part} (e : m.slot a b = some p) : Pw.Good p := h a p (slot_some e).1
theorem good_new : M.new.Good := fun i p h => by simp [M.new] at h
theorem good_to {m : M} (h : m.Good) {p : List Part} (g : Pw.Good p) (a : Nat) : (m.to a p).Good := by
  intro i q e
  have e' : (m.held.set a (some p))[i]? = some (some q) := e
  rw [List.getElem?_set] at e'
  split at e'
  · split at e'
    · cases e'
      exact g
    · cases e'
  · exact h i q e'
theorem good_gone {m : M} (h : m.Good) (a b : Nat) : (m.gone a b).Good := by
  intro i q e
  have e' : (m.held.set a none)[i]? = some (some q) := e
  rw [List.getElem?_set] at e'
  split at e'
  · split at e'
    · cases e'
    · cases e'
  · exact h i q e'
theorem good_made {m : M} (h : m.Good) {p : List Part} (g : Pw.Good p) : (m.made p).Good := by
  intro i q e
  have e' : (hput m.held p)[i]? = some (some q) := e
  unfold hput at e'
  split at e'
  · rw [List.getElem?_set] at e'
    split at e'
    · first
      | (cases e'; exact g)
      | (split at e'
         · cases e'
           exact g
         · cases e')
    · exact h i q e'
  · rw [List.getElem?_append] at e'
    split at e'
    · exact h i q e'
    · have := List.mem_of_getElem? e'
      simp at this
      rw [this]
      exact g
abbrev Ws := List (Nat × Name)
/-- one change done -/
def mdo1 (m : M) (ws : Ws) : Change → M × Ws
  | .make d p => (m.made p, (ws.filter fun y => y.1 != d) ++ [(d, m.place)])
  | .gone n => (match m.slot n.place n.turn with | some _ => m.gone n.place n.turn | none => m, ws)
  | .put n k v => (match m.slot n.place n.turn with | some p => m.to n.place (Ge01.partsPut k v p) | none => m, ws)
  | .take n k => (match m.slot n.place n.turn with | some p => m.to n.place (p.filter fun q => q.1 != k) | none => m, ws)
  | .putNew d k v => (match ws.find? fun y => y.1 == d with
    | none => m
    | some y => match m.slot y.2.place y.2.turn with | some p => m.to y.2.place (Ge01.partsPut k v p) | none => m, ws)
  | .goneNew d => (match ws.find? fun y => y.1 == d with
    | none => m
    | some y => match m.slot y.2.place y.2.turn with | some _ => m.gone y.2.place y.2.turn | none => m, ws)
def mdo : M → Ws → List Change → M × Ws
  | m, ws, [] => (m, ws)
  | m, ws, c :: l => mdo (mdo1 m ws c).1 (mdo1 m ws c).2 l
theorem rel_gone' {w : World} {m : M} (r : Rel w m) (n : Name) : Rel (Ge01.gone w n) (match m.slot n.place n.turn with | some _ => m.gone n.place n.turn | none => m) := by
  cases e : m.slot n.place n.turn with
  | some p => exact rel_gone r e
  | none =>
    have := rel_gone_none r e
    rw [show (⟨n.place, n.turn⟩ : Name) = n from rfl] at this
    rw [this]
    exact r
theorem rel_puts' {w : World} {m : M} (r : Rel w m) (n : Name) (k v : Nat) : Rel (if Ge01.lives w n = true then Ge01.puts w n k v else w) (match m.slot n.place n.turn with | some p => m.to n.place (Ge01.partsPut k v p) | none => m) := by
  have l := rel_lives r n.place n.turn
  rw [show (⟨n.place, n.turn⟩ : Name) = n from rfl] at l
  cases e : m.slot n.place n.turn with
  | some p =>
    rw [e] at l
    rw [if_pos (show Ge01.lives w n = true from l)]
    exact rel_puts r e k v
  | none =>
    rw [e] at l
    rw [if_neg (by rw [l]; simp)]
    exact r
theorem rel_takes' {w : World} {m : M} (r : Rel w m) (n : Name) (k : Nat) : Rel (Ge01.takes w n k) (match m.slot n.place n.turn with | some p => m.to n.place (p.filter fun q => q.1 != k) | none => m) := by
  cases e : m.slot n.place n.turn with
  | some p => exact rel_takes r e k
  | none =>
    have := rel_takes_none r e k
    rw [show (⟨n.place, n.turn⟩ : Name) = n from rfl] at this
    rw [this]
    exact r
theorem rel_doAll : ∀ (l : List Change) (w : World) (m : M) (ws : Ws), Rel w m → (Ge01.doAll w ws l).2 = (mdo m ws l).2 ∧ Rel (Ge01.doAll w ws l).1 (mdo m ws l).1
  | [], w, m, ws, r => ⟨rfl, r⟩
  | .make d p :: l, w, m, ws, r => by
    have h := rel_made r p
    have ih := rel_doAll l _ _ ((ws.filter fun y => y.1 != d) ++ [(d, m.place)]) h.2
    rw [← h.1] at ih
    unfold Ge01.doAll mdo
    dsimp only [mdo1]
    rw [← h.1]
    exact ih
  | .gone n :: l, w, m, ws, r => rel_doAll l _ _ ws (rel_gone' r n)
  | .put n k v :: l, w, m, ws, r => rel_doAll l _ _ ws (rel_puts' r n k v)
  | .take n k :: l, w, m, ws, r => rel_doAll l _ _ ws (rel_takes' r n k)
  | .putNew d k v :: l, w, m, ws, r => by
    unfold Ge01.doAll mdo
    dsimp only [mdo1]
    refine rel_doAll l _ _ ws ?_
    cases ws.find? fun y => y.1 == d with
    | none => exact r
    | some y => exact rel_puts' r y.2 k v
  | .goneNew d :: l, w, m, ws, r => by
    unfold Ge01.doAll mdo
    dsimp only [mdo1]
    refine rel_doAll l _ _ ws ?_
    cases ws.find? fun y => y.1 == d with
    | none => exact r
    | some y => exact rel_gone' r y.2
theorem good_mdo1 {m : M} (h : m.Good) (ws : Ws) {c : Change} (hc : Ge01.changeOk c = true) : (mdo1 m ws c).1.Good := by
  cases c with
  | make d p => exact good_made h ((good_iff p).mp hc)
  | gone n =>
    dsimp only [mdo1]
    cases e : m.slot n.place n.turn with
    | some p => exact good_gone h _ _
    | none => exact h
  | put n k v =>
    have := (partOk_iff k v).mp hc
    dsimp only [mdo1]
    cases e : m.slot n.place n.turn with
    | some p => exact good_to h (good_put (slot_good h e) this.1 this.2) _
    | none => exact h
  | take n k =>
    dsimp only [mdo1]
    cases e : m.slot n.place n.turn with
    | some p => exact good_to h (good_filter (slot_good h e) _) _
    | none => exact h
  | putNew d k v =>
    have := (partOk_iff k v).mp hc
    dsimp only [mdo1]
    cases ws.find? fun y => y.1 == d with
    | none => exact h
    | some y =>
      dsimp only
      cases e : m.slot y.2.place y.2.turn with
      | some p => exact good_to h (good_put (slot_good h e) this.1 this.2) _
      | none => exact h
  | goneNew d =>
    dsimp only [mdo1]
    cases ws.find? fun y => y.1 == d with
    | none => exact h
    | some y =>
      dsimp only
      cases e : m.slot y.2.place y.2.turn with
      | some p => exact good_gone h _ _
      | none => exact h
theorem good_mdo : ∀ (l : List Change) (m : M) (ws : Ws), m.Good → (∀ c ∈ l, Ge01.changeOk c = true) → (mdo m ws l).1.Good
  | [], _, _, h, _ => h
  | c :: l, m, ws, h, hc => good_mdo l _ _ (good_mdo1 h ws (hc c List.mem_cons_self)) fun d hd => hc d (List.mem_cons_of_mem _ hd)
end Pw

/-! The list that is handed in, told call by call: where each call stands, what it is, what is due. -/
namespace Pw
open Ge01 (Thing Name Part World Change Question)
abbrev up (l : List Nat) : List Int := l.map fun (n : Nat) => (n : Int)
def flat (p : List Part) : List Int := p.flatMap fun x => [(x.1 : Int), (x.2 : Int)]
def crow : Change → List Int
  | .make d p => 0 :: (d : Int) :: flat p
  | .gone n => [1, (n.place : Int), (n.turn : Int)]
  | .put n k v => [2, (n.place : Int), (n.turn : Int), (k : Int), (v : Int)]
  | .take n k => [3, (n.place : Int), (n.turn : Int), (k : Int)]
  | .putNew d k v => [4, (d : Int), (k : Int), (v : Int)]
  | .goneNew d => [5, (d : Int)]
/-- a row with its length ahead, then the rest -/
def rowed (x t : List Int) : List Int := (x.length : Int) :: (x ++ t)
def qrow (q : Question) (t : List Int) : List Int := rowed (up q.all) (rowed (up q.no) (rowed (up q.some_) t))
/-- a call as it stands in the list, the call, what follows -/
inductive Rd : List Int → Ge01.Call → List Int → Prop
  | make (p : List Part) (t : List Int) : Rd (0 :: rowed (flat p) t) (.make p) t
  | gone (a b : Nat) (t : List Int) : Rd (1 :: (a : Int) :: (b : Int) :: t) (.gone ⟨a, b⟩) t
  | put (a b k v : Nat) (t : List Int) : Rd (2 :: (a : Int) :: (b : Int) :: (k : Int) :: (v : Int) :: t) (.put ⟨a, b⟩ k v) t
  | take (a b k : Nat) (t : List Int) : Rd (3 :: (a : Int) :: (b : Int) :: (k : Int) :: t) (.take ⟨a, b⟩ k) t
  | get (a b k : Nat) (t : List Int) : Rd (4 :: (a : Int) :: (b : Int) :: (k : Int) :: t) (.get ⟨a, b⟩ k) t
  | parts (a b : Nat) (t : List Int) : Rd (5 :: (a : Int) :: (b : Int) :: t) (.parts ⟨a, b⟩) t
  | later (c : Change) (t : List Int) : Rd (6 :: rowed (crow c) t) (.later c) t
  | apply (t : List Int) : Rd (7 :: t) .apply t
  | ask (q : Question) (t : List Int) : Rd (8 :: qrow q t) (.ask q) t
  | keep (q : Question) (t : List Int) : Rd (9 :: qrow q t) (.keep q) t
  | fresh (i : Nat) (t : List Int) : Rd (10 :: (i : Int) :: t) (.fresh i) t
  | sum (k : Nat) (q : Question) (t : List Int) : Rd (11 :: (k : Int) :: qrow q t) (.sum q k) t
  | count (t : List Int) : Rd (12 :: t) .count t
inductive Rds : List Int → List Ge01.Call → Prop
  | nil : Rds [] []
  | cons {r t : List Int} {c : Ge01.Call} {cs : List Ge01.Call} : Rd r c t → Rds t cs → Rds r (c :: cs)
def run : Ge01.St → List Ge01.Call → List (List Int)
  | _, [] => []
  | s, c :: l => (Ge01.step s c).2 :: run (Ge01.step s c).1 l
/-! ### numbers -/
theorem up_nat : ∀ {x : List Int}, x.all Ge01Neutral.nat = true → up (x.map Int.toNat) = x
  | [], _ => rfl
  | a :: l, h => by
    rw [List.all_cons, Bool.and_eq_true] at h
    have h0 : 0 ≤ a := by
      have := h.1
      unfold Ge01Neutral.nat at this
      rw [Bool.and_eq_true, decide_eq_true_eq, decide_eq_true_eq] at this
      exact this.1
    have ih := up_nat h.2
    show ((a.toNat : Nat) : Int) :: up (l.map Int.toNat) = a :: l
    rw [ih, Int.toNat_of_nonneg h0]
theorem partsIn_flat : ∀ (l : List Nat) (p : List Part), Ge01Neutral.partsIn l = some p → up l = flat p
  | [], p, h => by
    have : ([] : List Part) = p := Option.some.inj h
    subst this
    rfl
  | [a], p, h => by simp [Ge01Neutral.partsIn] at h
  | a :: b :: l, p, h => by
    unfold Ge01Neutral.partsIn at h
    cases e : Ge01Neutral.partsIn l with
    | none =>
      rw [e] at h
      cases h
    | some q =>
      rw [e] at h
      have : ((a, b) :: q : List Part) = p := Option.some.inj h
      subst this
      have ih := partsIn_flat l q e
      show (a : Int) :: (b : Int) :: up l = (a : Int) :: (b : Int) :: flat q
      rw [ih]
theorem changeIn_row : ∀ (l : List Nat) (c : Change), Ge01Neutral.changeIn l = some c → up l = crow c := by
  intro l c h
  unfold Ge01Neutral.changeIn at h
  split at h
  · rename_i d p
    cases e : Ge01Neutral.partsIn p with
    | none =>
      rw [e] at h
      cases h
    | some q =>
      rw [e] at h
      have : Change.make d q = c := Option.some.inj h
      subst this
      have := partsIn_flat p q e
      show (0 : Int) :: (d : Int) :: up p = 0 :: (d : Int) :: flat q
      rw [this]
  all_goals first
    | (cases h; rfl)
    | cases h
theorem rowIn_some {l x s : List Nat} (h : Ge01Neutral.rowIn l = some (x, s)) : l = x.length :: (x ++ s) := by
  unfold Ge01Neutral.rowIn at h
  split at h
  · rename_i n r
    split at h
    · cases h
    · rename_i c
      cases h
      rw [List.take_append_drop, List.length_take, Nat.min_eq_left (by omega)]
  · cases h
theorem questionIn_row {l : List Nat} {q : Question} (h : Ge01Neutral.questionIn l = some q) : up l = qrow q [] := by
  unfold Ge01Neutral.questionIn at h
  cases e1 : Ge01Neutral.rowIn l with
  | none =>
    rw [e1] at h
    cases h
  | some x =>
    rw [e1] at h
    have r1 := rowIn_some (x := x.1) (s := x.2) e1
    dsimp only [Option.bind] at h
    cases e2 : Ge01Neutral.rowIn x.2 with
    | none =>
      rw [e2] at h
      cases h
    | some y =>
      rw [e2] at h
      have r2 := rowIn_some (x := y.1) (s := y.2) e2
      dsimp only at h
      cases e3 : Ge01Neutral.rowIn y.2 with
      | none =>
        rw [e3] at h
        cases h
      | some z =>
        rw [e3] at h
        have r3 := rowIn_some (x := z.1) (s := z.2) e3
        dsimp only at h
        split at h
        · rename_i hz
          have := Option.some.inj h
          subst this
          rw [r1, r2, r3, hz]
          simp [qrow, rowed]
        · cases h
/-! ### one call -/
theorem row_some {r x s : List Int} (h : PyFlat.row r = some (x, s)) : r = rowed x s := by
  unfold PyFlat.row at h
  split at h
  · cases h
  · rename_i n l
    split at h
    · rename_i c
      cases h
      unfold rowed
      rw [List.take_append_drop, List.length_take, Nat.min_eq_left c.2, Int.toNat_of_nonneg c.1]
    · cases h
theorem rows1 {r t : List Int} {xs : List (List Int)} (h : PyFlat.rows 1 r = some (xs, t)) : ∃ x, xs = [x] ∧ r = rowed x t := by
  unfold PyFlat.rows at h
  split at h
  · cases h
  · rename_i x s e
    have := row_some e
    unfold PyFlat.rows at h
    dsimp only at h
    cases h
    exact ⟨x, rfl, this⟩
theorem rows3 {r t : List Int} {xs : List (List Int)} (h : PyFlat.rows 3 r = some (xs, t)) : ∃ x y z, xs = [x, y, z] ∧ r = rowed x (rowed y (rowed z t)) := by
  unfold PyFlat.rows at h
  split at h
  · cases h
  · rename_i x s e
    have e1 := row_some e
    split at h
    · cases h
    · rename_i ys u f
      cases h
      unfold PyFlat.rows at f
      split at f
      · cases f
      · rename_i y s2 e
        have e2 := row_some e
        split at f
        · cases f
        · rename_i zs u2 g
          cases f
          obtain ⟨z, rfl, e3⟩ := rows1 g
          exact ⟨x, y, z, rfl, by rw [e1, e2, e3]⟩
theorem rows0 {r t : List Int} {xs : List (List Int)} (h : PyFlat.rows 0 r = some (xs, t)) : xs = [] ∧ r = t := by
  unfold PyFlat.rows at h
  cases h
  exact ⟨rfl, rfl⟩
theorem shape_cases {p : Int} {n k : Nat} (h : PyGe01.shape p = some (n, k)) :
    (p = 0 ∧ n = 0 ∧ k = 1) ∨ (p = 1 ∧ n = 2 ∧ k = 0) ∨ (p = 2 ∧ n = 4 ∧ k = 0) ∨ (p = 3 ∧ n = 3 ∧ k = 0) ∨ (p = 4 ∧ n = 3 ∧ k = 0) ∨ (p = 5 ∧ n = 2 ∧ k = 0) ∨ (p = 6 ∧ n = 0 ∧ k = 1) ∨
    (p = 7 ∧ n = 0 ∧ k = 0) ∨ (p = 8 ∧ n = 0 ∧ k = 3) ∨ (p = 9 ∧ n = 0 ∧ k = 3) ∨ (p = 10 ∧ n = 1 ∧ k = 0) ∨ (p = 11 ∧ n = 1 ∧ k = 3) ∨ (p = 12 ∧ n = 0 ∧ k = 0) := by
  unfold PyGe01.shape at h
  by_cases c0 : p = 0
  · rw [if_pos c0] at h
    cases h
    subst c0
    decide
  rw [if_neg c0] at h
  by_cases c1 : p = 1
  · rw [if_pos c1] at h
    cases h
    subst c1
    decide
  rw [if_neg c1] at h
  by_cases c2 : p = 2
  · rw [if_pos c2] at h
    cases h
    subst c2
    decide
  rw [if_neg c2] at h
  by_cases c3 : p = 3
  · rw [if_pos c3] at h
    cases h
    subst c3
    decide
  rw [if_neg c3] at h
  by_cases c4 : p = 4
  · rw [if_pos c4] at h
    cases h
    subst c4
    decide
  rw [if_neg c4] at h
  by_cases c5 : p = 5
  · rw [if_pos c5] at h
    cases h
    subst c5
    decide
  rw [if_neg c5] at h
  by_cases c6 : p = 6
  · rw [if_pos c6] at h
    cases h
    subst c6
    decide
  rw [if_neg c6] at h
  by_cases c7 : p = 7
  · rw [if_pos c7] at h
    cases h
    subst c7
    decide
  rw [if_neg c7] at h
  by_cases c8 : p = 8
  · rw [if_pos c8] at h
    cases h
    subst c8
    decide
  rw [if_neg c8] at h
  by_cases c9 : p = 9
  · rw [if_pos c9] at h
    cases h
    subst c9
    decide
  rw [if_neg c9] at h
  by_cases c10 : p = 10
  · rw [if_pos c10] at h
    cases h
    subst c10
    decide
  rw [if_neg c10] at h
  by_cases c11 : p = 11
  · rw [if_pos c11] at h
    cases h
    subst c11
    decide
  rw [if_neg c11] at h
  by_cases c12 : p = 12
  · rw [if_pos c12] at h
    cases h
    subst c12
    decide
  rw [if_neg c12] at h
  cases h
theorem take1 {r : List Int} (h : ¬ r.length < 1) : ∃ a l, r = a :: l := match r, h with
  | a :: l, _ => ⟨a, l, rfl⟩
  | [], h => absurd (by simp) h
theorem take2 {r : List Int} (h : ¬ r.length < 2) : ∃ a b l, r = a :: b :: l := match r, h with
  | a :: b :: l, _ => ⟨a, b, l, rfl⟩
  | [], h => absurd (by simp) h
  | [_], h => absurd (by simp) h
theorem take3 {r : List Int} (h : ¬ r.length < 3) : ∃ a b c l, r = a :: b :: c :: l := match r, h with
  | a :: b :: c :: l, _ => ⟨a, b, c, l, rfl⟩
  | [], h => absurd (by simp) h
  | [_], h => absurd (by simp) h
  | [_, _], h => absurd (by simp) h
theorem take4 {r : List Int} (h : ¬ r.length < 4) : ∃ a b c d l, r = a :: b :: c :: d :: l := match r, h with
  | a :: b :: c :: d :: l, _ => ⟨a, b, c, d, l, rfl⟩
  | [], h => absurd (by simp) h
  | [_], h => absurd (by simp) h
  | [_, _], h => absurd (by simp) h
  | [_, _, _], h => absurd (by simp) h
theorem nat_cast {z : Int} (h : Ge01Neutral.nat z = true) : ∃ n : Nat, z = (n : Int) := by
  unfold Ge01Neutral.nat at h
  rw [Bool.and_eq_true, decide_eq_true_eq] at h
  exact ⟨z.toNat, (Int.toNat_of_nonneg h.1).symm⟩
theorem callOf_some {l : List Int} {x : Ge01.Call} (h : Ge01Neutral.callOf l = some x) : l.all Ge01Neutral.nat = true ∧ Ge01Neutral.callIn (l.map Int.toNat) = some x := by
  unfold Ge01Neutral.callOf at h
  split at h
  · cases h
  · rename_i c
    exact ⟨by simpa using c, h⟩
theorem rowed_inj_q {x y z : List Int} {q : Question} (hx : (rowed x (rowed y (rowed z []))).all Ge01Neutral.nat = true) (h : Ge01Neutral.questionIn ((rowed x (rowed y (rowed z []))).map Int.toNat) = some q) (t : List Int) : rowed x (rowed y (rowed z t)) = qrow q t := by
  have e := questionIn_row h
  rw [up_nat hx] at e
  have key : ∀ {a b s u : List Int}, rowed a s = rowed b u → a = b ∧ s = u := by
    intro a b s u h
    unfold rowed at h
    have h1 := (List.cons.inj h).1
    have h2 := (List.cons.inj h).2
    have l : a.length = b.length := by omega
    exact List.append_inj h2 l
  unfold qrow at e ⊢
  obtain ⟨e1, f⟩ := key e
  obtain ⟨e2, f⟩ := key f
  obtain ⟨e3, _⟩ := key f
  rw [e1, e2, e3]
theorem call_rd {r t : List Int} {c : List (List Int)} {x : Ge01.Call} (h : PyFlat.call PyGe01.shape r = some (c, t)) (hx : Ge01Neutral.callOf ((PyGe01.whole c).headD []) = some x) : Rd r x t := by
  unfold PyFlat.call at h
  split at h
  · cases h
  · rename_i p r
    split at h
    · cases h
    · rename_i n k e
      split at h
      · cases h
      · rename_i hl
        split at h
        · cases h
        · rename_i xs t' f
          cases h
          have sc := shape_cases e
          clear e
          rcases sc with ⟨rfl, rfl, rfl⟩ | ⟨rfl, rfl, rfl⟩ | ⟨rfl, rfl, rfl⟩ | ⟨rfl, rfl, rfl⟩ | ⟨rfl, rfl, rfl⟩ | ⟨rfl, rfl, rfl⟩ | ⟨rfl, rfl, rfl⟩ | ⟨rfl, rfl, rfl⟩ | ⟨rfl, rfl, rfl⟩ | ⟨rfl, rfl, rfl⟩ | ⟨rfl, rfl, rfl⟩ | ⟨rfl, rfl, rfl⟩ | ⟨rfl, rfl, rfl⟩
          · -- make
            obtain ⟨y, rfl, e⟩ := rows1 f
            rw [List.drop_zero] at e
            subst e
            obtain ⟨ha, hc⟩ := callOf_some (l := 0 :: y) hx
            have hy : y.all Ge01Neutral.nat = true := by
              rw [List.all_cons, Bool.and_eq_true] at ha
              exact ha.2
            have hc' : (Ge01Neutral.partsIn (y.map Int.toNat)).map Ge01.Call.make = some x := hc
            cases e : Ge01Neutral.partsIn (y.map Int.toNat) with
            | none =>
              rw [e] at hc'
              cases hc'
            | some q =>
              rw [e] at hc'
              have z : Ge01.Call.make q = x := Option.some.inj hc'
              subst z
              have w := partsIn_flat _ _ e
              rw [up_nat hy] at w
              subst w
              exact .make q t
          · obtain ⟨a, b, l, rfl⟩ := take2 hl
            obtain ⟨rfl, e⟩ := rows0 f
            have e : l = t := e
            subst e
            obtain ⟨ha, hc⟩ := callOf_some (l := [1, a, b]) hx
            simp only [List.all_cons, Bool.and_eq_true] at ha
            obtain ⟨_, ha, hb, _⟩ := ha
            obtain ⟨a, rfl⟩ := nat_cast ha
            obtain ⟨b, rfl⟩ := nat_cast hb
            have hc' : some (Ge01.Call.gone ⟨a, b⟩) = some x := hc
            cases hc'
            exact .gone a b l
          · obtain ⟨a, b, c, d, l, rfl⟩ := take4 hl
            obtain ⟨rfl, e⟩ := rows0 f
            have e : l = t := e
            subst e
            obtain ⟨ha, hc⟩ := callOf_some (l := [2, a, b, c, d]) hx
            simp only [List.all_cons, Bool.and_eq_true] at ha
            obtain ⟨_, ha, hb, hcc, hd, _⟩ := ha
            obtain ⟨a, rfl⟩ := nat_cast ha
            obtain ⟨b, rfl⟩ := nat_cast hb
            obtain ⟨c, rfl⟩ := nat_cast hcc
            obtain ⟨d, rfl⟩ := nat_cast hd
            have hc' : some (Ge01.Call.put ⟨a, b⟩ c d) = some x := hc
            cases hc'
            exact .put a b c d l
          · obtain ⟨a, b, c, l, rfl⟩ := take3 hl
            obtain ⟨rfl, e⟩ := rows0 f
            have e : l = t := e
            subst e
            obtain ⟨ha, hc⟩ := callOf_some (l := [3, a, b, c]) hx
            simp only [List.all_cons, Bool.and_eq_true] at ha
            obtain ⟨_, ha, hb, hcc, _⟩ := ha
            obtain ⟨a, rfl⟩ := nat_cast ha
            obtain ⟨b, rfl⟩ := nat_cast hb
            obtain ⟨c, rfl⟩ := nat_cast hcc
            have hc' : some (Ge01.Call.take ⟨a, b⟩ c) = some x := hc
            cases hc'
            exact .take a b c l
          · obtain ⟨a, b, c, l, rfl⟩ := take3 hl
            obtain ⟨rfl, e⟩ := rows0 f
            have e : l = t := e
            subst e
            obtain ⟨ha, hc⟩ := callOf_some (l := [4, a, b, c]) hx
            simp only [List.all_cons, Bool.and_eq_true] at ha
            obtain ⟨_, ha, hb, hcc, _⟩ := ha
            obtain ⟨a, rfl⟩ := nat_cast ha
            obtain ⟨b, rfl⟩ := nat_cast hb
            obtain ⟨c, rfl⟩ := nat_cast hcc
            have hc' : some (Ge01.Call.get ⟨a, b⟩ c) = some x := hc
            cases hc'
            exact .get a b c l
          · obtain ⟨a, b, l, rfl⟩ := take2 hl
            obtain ⟨rfl, e⟩ := rows0 f
            have e : l = t := e
            subst e
            obtain ⟨ha, hc⟩ := callOf_some (l := [5, a, b]) hx
            simp only [List.all_cons, Bool.and_eq_true] at ha
            obtain ⟨_, ha, hb, _⟩ := ha
            obtain ⟨a, rfl⟩ := nat_cast ha
            obtain ⟨b, rfl⟩ := nat_cast hb
            have hc' : some (Ge01.Call.parts ⟨a, b⟩) = some x := hc
            cases hc'
            exact .parts a b l
          · obtain ⟨y, rfl, e⟩ := rows1 f
            rw [List.drop_zero] at e
            subst e
            obtain ⟨ha, hc⟩ := callOf_some (l := 6 :: y) hx
            have hy : y.all Ge01Neutral.nat = true := by
              rw [List.all_cons, Bool.and_eq_true] at ha
              exact ha.2
            have hc' : (Ge01Neutral.changeIn (y.map Int.toNat)).map Ge01.Call.later = some x := hc
            cases e : Ge01Neutral.changeIn (y.map Int.toNat) with
            | none =>
              rw [e] at hc'
              cases hc'
            | some q =>
              rw [e] at hc'
              have z : Ge01.Call.later q = x := Option.some.inj hc'
              subst z
              have w := changeIn_row _ _ e
              rw [up_nat hy] at w
              subst w
              exact .later q t
          · obtain ⟨rfl, e⟩ := rows0 f
            rw [List.drop_zero] at e
            subst e
            have hc' : some Ge01.Call.apply = some x := (callOf_some (l := [7]) hx).2
            cases hc'
            exact .apply r
          · obtain ⟨y1, y2, y3, rfl, e⟩ := rows3 f
            rw [List.drop_zero] at e
            subst e
            have hx' : Ge01Neutral.callOf (8 :: rowed y1 (rowed y2 (rowed y3 []))) = some x := by
              have : (PyGe01.whole ((8 :: List.take 0 (rowed y1 (rowed y2 (rowed y3 t)))) :: [y1, y2, y3])).headD [] = 8 :: rowed y1 (rowed y2 (rowed y3 [])) := by simp [PyGe01.whole, rowed]
              rw [this] at hx
              exact hx
            obtain ⟨ha, hc⟩ := callOf_some hx'
            have hy : (rowed y1 (rowed y2 (rowed y3 []))).all Ge01Neutral.nat = true := by
              rw [List.all_cons, Bool.and_eq_true] at ha
              exact ha.2
            have hc' : (Ge01Neutral.questionIn ((rowed y1 (rowed y2 (rowed y3 []))).map Int.toNat)).map Ge01.Call.ask = some x := hc
            cases e : Ge01Neutral.questionIn ((rowed y1 (rowed y2 (rowed y3 []))).map Int.toNat) with
            | none =>
              rw [e] at hc'
              cases hc'
            | some q =>
              rw [e] at hc'
              have z : Ge01.Call.ask q = x := Option.some.inj hc'
              subst z
              rw [rowed_inj_q hy e t]
              exact .ask q t
          · obtain ⟨y1, y2, y3, rfl, e⟩ := rows3 f
            rw [List.drop_zero] at e
            subst e
            have hx' : Ge01Neutral.callOf (9 :: rowed y1 (rowed y2 (rowed y3 []))) = some x := by
              have : (PyGe01.whole ((9 :: List.take 0 (rowed y1 (rowed y2 (rowed y3 t)))) :: [y1, y2, y3])).headD [] = 9 :: rowed y1 (rowed y2 (rowed y3 [])) := by simp [PyGe01.whole, rowed]
              rw [this] at hx
              exact hx
            obtain ⟨ha, hc⟩ := callOf_some hx'
            have hy : (rowed y1 (rowed y2 (rowed y3 []))).all Ge01Neutral.nat = true := by
              rw [List.all_cons, Bool.and_eq_true] at ha
              exact ha.2
            have hc' : (Ge01Neutral.questionIn ((rowed y1 (rowed y2 (rowed y3 []))).map Int.toNat)).map Ge01.Call.keep = some x := hc
            cases e : Ge01Neutral.questionIn ((rowed y1 (rowed y2 (rowed y3 []))).map Int.toNat) with
            | none =>
              rw [e] at hc'
              cases hc'
            | some q =>
              rw [e] at hc'
              have z : Ge01.Call.keep q = x := Option.some.inj hc'
              subst z
              rw [rowed_inj_q hy e t]
              exact .keep q t
          · obtain ⟨a, l, rfl⟩ := take1 hl
            obtain ⟨rfl, e⟩ := rows0 f
            have e : l = t := e
            subst e
            obtain ⟨ha, hc⟩ := callOf_some (l := [10, a]) hx
            simp only [List.all_cons, Bool.and_eq_true] at ha
            obtain ⟨_, ha, _⟩ := ha
            obtain ⟨a, rfl⟩ := nat_cast ha
            have hc' : some (Ge01.Call.fresh a) = some x := hc
            cases hc'
            exact .fresh a l
          · obtain ⟨a, l, rfl⟩ := take1 hl
            obtain ⟨y1, y2, y3, rfl, e⟩ := rows3 f
            have e : l = rowed y1 (rowed y2 (rowed y3 t)) := e
            subst e
            have hx' : Ge01Neutral.callOf (11 :: a :: rowed y1 (rowed y2 (rowed y3 []))) = some x := by
              have : (PyGe01.whole ((11 :: List.take 1 (a :: rowed y1 (rowed y2 (rowed y3 t)))) :: [y1, y2, y3])).headD [] = 11 :: a :: rowed y1 (rowed y2 (rowed y3 [])) := by simp [PyGe01.whole, rowed]
              rw [this] at hx
              exact hx
            obtain ⟨ha, hc⟩ := callOf_some hx'
            have hy : Ge01Neutral.nat a = true ∧ (rowed y1 (rowed y2 (rowed y3 []))).all Ge01Neutral.nat = true := by
              rw [List.all_cons, Bool.and_eq_true, List.all_cons, Bool.and_eq_true] at ha
              exact ha.2
            obtain ⟨a, rfl⟩ := nat_cast hy.1
            have hc' : (Ge01Neutral.questionIn ((rowed y1 (rowed y2 (rowed y3 []))).map Int.toNat)).map (fun q => Ge01.Call.sum q a) = some x := hc
            cases e : Ge01Neutral.questionIn ((rowed y1 (rowed y2 (rowed y3 []))).map Int.toNat) with
            | none =>
              rw [e] at hc'
              cases hc'
            | some q =>
              rw [e] at hc'
              have z : Ge01.Call.sum q a = x := Option.some.inj hc'
              subst z
              rw [rowed_inj_q hy.2 e t]
              exact .sum a q t
          · obtain ⟨rfl, e⟩ := rows0 f
            rw [List.drop_zero] at e
            subst e
            have hc' : some Ge01.Call.count = some x := (callOf_some (l := [12]) hx).2
            cases hc'
            exact .count r
/-! ### all calls -/
theorem calls_rds : ∀ (f : Nat) (l : List Int) (raw : List (List (List Int))), PyFlat.calls PyGe01.shape f l = some raw → ((raw.map PyGe01.whole).map fun c => c.headD []).all Ge01Neutral.asked1 = true →
    ∃ cs, Rds l cs ∧ cs.length = raw.length ∧ ∀ s, PyFlat.played (fun s c => Ge01Neutral.step s (c.headD [])) s (raw.map PyGe01.whole) = run s cs
  | f, [], raw, h, _ => by
    unfold PyFlat.calls at h
    cases h
    exact ⟨[], .nil, rfl, fun _ => rfl⟩
  | 0, _ :: _, raw, h, _ => by
    unfold PyFlat.calls at h
    cases h
  | f + 1, p :: r, raw, h, ha => by
    unfold PyFlat.calls at h
    split at h
    · cases h
    · rename_i c t e
      split at h
      · cases h
      · rename_i cs e2
        cases h
        rw [List.map_cons, List.map_cons, List.all_cons, Bool.and_eq_true] at ha
        obtain ⟨x, hx⟩ := Option.isSome_iff_exists.mp (show (Ge01Neutral.callOf ((PyGe01.whole c).headD [])).isSome = true from ha.1)
        obtain ⟨cs', h1, h2, h3⟩ := calls_rds f t cs e2 ha.2
        refine ⟨x :: cs', .cons (call_rd e hx) h1, by simp [h2], fun s => ?_⟩
        have st : Ge01Neutral.step s ((PyGe01.whole c).headD []) = Ge01.step s x := by
          unfold Ge01Neutral.step
          rw [hx]
        show (Ge01Neutral.step s ((PyGe01.whole c).headD [])).2 :: PyFlat.played _ (Ge01Neutral.step s ((PyGe01.whole c).headD [])).1 (cs.map PyGe01.whole) = (Ge01.step s x).2 :: run (Ge01.step s x).1 cs'
        rw [st, h3]
theorem decode {l : List Int} (h : PyGe01.answers_asked l = true) : ∃ cs, Rds l cs ∧ cs.length ≤ 40 ∧ PyGe01.answers l = PyFlat.told (run Ge01.init cs) ∧ (PyGe01.answers l).length ≤ 10000000 := by
  unfold PyGe01.answers_asked at h
  split at h
  · cases h
  · rename_i raw e
    simp only [Bool.and_eq_true] at h
    obtain ⟨⟨⟨⟨h1, h2⟩, h3⟩, h4⟩, h5⟩ := h
    unfold Ge01Neutral.asked at h4
    rw [Bool.and_eq_true] at h4
    obtain ⟨cs, r, hl, hp⟩ := calls_rds _ _ _ e h4.1
    refine ⟨cs, r, ?_, ?_, of_decide_eq_true h5⟩
    · rw [hl]
      exact of_decide_eq_true h2
    · unfold PyGe01.answers PyGe01.calls
      rw [e]
      dsimp only
      rw [hp]
      rfl
end Pw

/-! Words of my own: constants, defs, methods and classes of the text as what they promise. -/
namespace Pw
open L2 PySem PySem.Spec PyProof.Rows
def top (i : Nat) : Stmt := PySem.Challenge.pw_partsworld_s01_answers.main.body.getD i (.Pass ⟨0, 0, 0, 0⟩)
/-- a name of the top that holds a plain value -/
def Glob (mg : Str → Option Value) (x : Str) (v : V) : Prop := ∃ u, mg x = some u ∧ RelV v u
theorem pe_gc {X : Cx} {x : Str} {pos : Pos} {v : V} (h : Glob X.mg x v) (hg : Gl X x := by rfl) (hd : (x == ("__debug__" : Str)) = false := by decide) : PE X (.Name x pos) (tC v) := by
  obtain ⟨u, hm, r⟩ := h
  exact pe_glob hg hm r hd
section
variable (P : Program) (w : World) (K : PySem.W.Frag) (mg : Str → Option Value) (base : Heap)
/-- a def of the top, by its name, keeps a promise -/
def DefOk (k : Nat) (x : Str) (ps : List Str) (sp : Sp) : Prop := ∃ f fd, FnOk P w K mg base CX0 k f fd ps sp ∧ mg x = some (.ref f) ∧ PySem.W.keepIn K (.ref f) = true ∧ Binds K fd ps []
/-- a method that the class at C holds -/
def MethOk (k : Nat) (C : Addr) (m : Str) (ps : List Str) (sp : Sp) : Prop := Cls K C ∧ ∃ f fd, FnOk P w K mg base CX0 k f fd ps sp ∧ Meth K C m f ∧ Binds K fd ps []
/-- a class that is made by its __init__ -/
def MakeOk (k : Nat) (x : Str) (C : Addr) (ps : List Str) (sp : Sp) : Prop := mg x = some (.ref C) ∧ ∃ f fd, FnOk P w K mg base CX0 k f fd ps sp ∧ Mk K C f ∧ Binds K fd ps []
end
section
variable {X : Cx} {k j : Nat} {x m : Str} {C : Addr} {ps : List Str} {sp : Sp} {p pos apos : Pos} {e o : Expr} {es : List Expr} {t : TA} {ta : TE}
theorem pe_fn (D : DefOk X.prog X.w X.K X.mg X.base k x ps sp) (hr : Room k X.A) (ha : PA X (e :: es) t) (hg : Gl X x := by rfl) (hdb : (x == ("__debug__" : Str)) = false := by decide)
    (he : starEach (e :: es) X.env = (false, eval e X.env) :: starEach es X.env := by rfl) (hpl : (backTo pos (starEach es X.env)).any (·.1) = false := by rfl) : PE X (.Call (.Name x p) (e :: es) [] pos) (tCall sp [] E0 t) := by
  obtain ⟨f, fd, F, hm, hk, hb⟩ := D
  exact pe_call F hr hg hm hk hb .nil pass0 ha hdb he hpl
theorem pe_fn0 (D : DefOk X.prog X.w X.K X.mg X.base k x ps sp) (hr : Room k X.A) (hg : Gl X x := by rfl) (hdb : (x == ("__debug__" : Str)) = false := by decide) : PE X (.Call (.Name x p) [] [] pos) (tCall sp [] E0 tNil) := by
  obtain ⟨f, fd, F, hm, hk, hb⟩ := D
  exact pe_call0 F hr hg hm hk hb .nil pass0 hdb
theorem pe_me {pl : Sem Bool} (ho : PE X o ta) (D : MethOk X.prog X.w X.K X.mg X.base k C m ps sp) (hr : Room k X.A) (ha : PA X (e :: es) t) (hst : starEach (e :: es) X.env = (false, eval e X.env) :: starEach es X.env := by rfl)
    (hpl : (backTo pos (starEach es X.env)).any (·.1) = false := by rfl)
    (ht : eval (.Call (.Attribute o m apos) (e :: es) [] pos) X.env = (do let ov ← eval o X.env; standAt apos.atName; let (f, first) ← holding [ov] (getMethod ov m pl); callWith pos f first (backTo pos (starEach (e :: es) X.env)) (backToKw pos (keywordEach [] X.env))) := by rfl) : PE X (.Call (.Attribute o m apos) (e :: es) [] pos) (tMeth C m sp [] E0 ta t) := by
  obtain ⟨c, f, fd, F, hm, hb⟩ := D
  exact pe_meth ho c hm F hr hb .nil pass0 ha hst hpl ht
theorem pe_me0 {pl : Sem Bool} (ho : PE X o ta) (D : MethOk X.prog X.w X.K X.mg X.base k C m ps sp) (hr : Room k X.A)
    (ht : eval (.Call (.Attribute o m apos) [] [] pos) X.env = (do let ov ← eval o X.env; standAt apos.atName; let (f, first) ← holding [ov] (getMethod ov m pl); callWith pos f first (backTo pos (starEach [] X.env)) (backToKw pos (keywordEach [] X.env))) := by rfl) : PE X (.Call (.Attribute o m apos) [] [] pos) (tMeth C m sp [] E0 ta tNil) := by
  obtain ⟨c, f, fd, F, hm, hb⟩ := D
  exact pe_meth0 ho c hm F hr hb .nil pass0 ht
theorem pe_mk (D : MakeOk X.prog X.w X.K X.mg X.base k x C ps sp) (hr : Room (k + 1) X.A) (ha : PA X (e :: es) t) (hg : Gl X x := by rfl) (hdb : (x == ("__debug__" : Str)) = false := by decide)
    (he : starEach (e :: es) X.env = (false, eval e X.env) :: starEach es X.env := by rfl) (hpl : (backTo pos (starEach es X.env)).any (·.1) = false := by rfl) : PE X (.Call (.Name x p) (e :: es) [] pos) (tMake C sp [] E0 t) := by
  obtain ⟨hm, f, fd, F, M, hb⟩ := D
  exact pe_make M F hr hg hm hb .nil pass0 ha hdb he hpl
theorem pe_mk0 (D : MakeOk X.prog X.w X.K X.mg X.base k x C ps sp) (hr : Room (k + 1) X.A) (hg : Gl X x := by rfl) (hdb : (x == ("__debug__" : Str)) = false := by decide) : PE X (.Call (.Name x p) [] [] pos) (tMake C sp [] E0 tNil) := by
  obtain ⟨hm, f, fd, F, M, hb⟩ := D
  exact pe_make0 M F hr hg hm hb .nil pass0 hdb
def rGetL (K : PySem.W.Frag) : V → V → Hp → VK → Prop := fun x y H Q => ∃ p xs i v, x = .ref p ∧ y = .int i ∧ 0 ≤ i ∧ SqL K H p xs ∧ atI xs i = some v ∧ Q v H
theorem get_list : PGet X (rGetL X.K) := by
  intro pins s st H x y v u Q I rx ry hyp
  obtain ⟨p, xs, n, z, rfl, rfl, h0, hlist, hat, q⟩ := hyp
  cases rx
  obtain ⟨tok, rfl⟩ := ry
  obtain ⟨items, rels, plain, _⟩ := I.list hlist
  obtain ⟨j, f1, f2, _, _, f5⟩ := atI_get hat
  obtain ⟨y, ey, ry⟩ := rels.get f2
  have hlen := rels.length
  have hn := line63
  have hj : n.toNat = j := by
    rw [seqIndex_of h0 f5] at f1
    exact Option.some.inj f1
  exact wpAny_getItem_list (x := y) plain.isList h0 (by omega) (by rw [hj]; simpa using ey) ⟨z, H, I, ry, q⟩
theorem m1_of {o e : Expr} {m : Str} {apos cpos : Pos} (h1 : attributeBase o m X.env (eval o X.env) = eval o X.env := by rfl)
    (h2 : ((backTo cpos (starEach [e] X.env)).all (fun x => !x.1) && (backToKw cpos (keywordEach [] X.env)).all (fun x => x.1.isSome) && decide (([e] : List Expr).length + ([] : List Keyword).length + (if ([] : List Keyword).isEmpty then 0 else 1) < 30)) = true := by rfl)
    (h3 : (apos.endLine == cpos.line) = true := by rfl) (h4 : backTo cpos (starEach [e] X.env) = [(false, eval e X.env)] := by rfl) : M1 X o m apos e cpos := ⟨h1, h2, h3, h4⟩
end
end Pw

/-! max(xs, default=d) and xs.extend(a tuple). -/
namespace Pw
open L2 PySem PySem.Spec PyProof.Rows
theorem dp_ints {K : PySem.W.Frag} {H : Hp} : ∀ ns : List Int, DpAll K H (ns.map V.int) (ns.map PyData.int)
  | [] => .nil
  | n :: l => .cons (.int n) (dp_ints l)
theorem depth_ints : ∀ ns : List Int, PyData.depthAll (ns.map PyData.int) = 0
  | [] => rfl
  | n :: l => by
    show max 0 (PyData.depthAll (l.map PyData.int)) = 0
    rw [depth_ints l]
    rfl
theorem alike_ints (ns : List Int) : PySem.W.AlikeAll (ns.map PyData.int) := by
  refine ⟨fun x hx y hy => ?_, fun x hx => ?_⟩
  · obtain ⟨a, _, ea⟩ := List.mem_map.mp hx
    obtain ⟨b, _, eb⟩ := List.mem_map.mp hy
    subst ea eb
    rfl
  · obtain ⟨a, _, ea⟩ := List.mem_map.mp hx
    subst ea
    exact fun z => by cases z
theorem most_of : ∀ (l : List Int) (n : Int), (l.foldl max n = n ∨ l.foldl max n ∈ l) ∧ n ≤ l.foldl max n ∧ ∀ y ∈ l, y ≤ l.foldl max n
  | [], n => ⟨.inl rfl, Int.le_refl _, fun y h => (by cases h)⟩
  | a :: l, n => by
    obtain ⟨h1, h2, h3⟩ := most_of l (max n a)
    have e : (a :: l).foldl max n = l.foldl max (max n a) := rfl
    rw [e]
    refine ⟨?_, by omega, fun y hy => ?_⟩
    · rcases h1 with h1 | h1
      · rw [h1]
        by_cases c : n ≤ a
        · exact .inr (by rw [Int.max_eq_right c]; exact List.mem_cons_self)
        · exact .inl (Int.max_eq_left (by omega))
      · exact .inr (List.mem_cons_of_mem _ h1)
    · rcases List.mem_cons.mp hy with h | h
      · subst h
        omega
      · exact h3 y h
section
variable {X : Cx}
def rMaxD0 (K : PySem.W.Frag) : List V → List V → Hp → VK → Prop := fun vs zs H Q => ∃ (a : Addr) (ns : List Int) (d : Int), vs = [V.ref a] ∧ zs = [.int d] ∧ SqL K H a (ns.map V.int) ∧ (ns = [] → Q (.int d) H) ∧ ∀ m, m ∈ ns → (∀ y, y ∈ ns → y ≤ m) → Q (.int m) H
theorem cr_maxDf (hu : X.A.units + 1 < cLine) (hc : X.calm = true) : CallRK X (.builtin "max") [Str.ofString "default"] (rMaxD0 X.K) := by
  intro pins s st H xs zs us vs Q I rx rz h
  obtain ⟨a, ns, d, rfl, rfl, hS, q0, q⟩ := h
  obtain ⟨its, hv, hL, _⟩ := I.list hS
  obtain rfl := Vals.ref1 rx
  obtain ⟨w1, rfl, t, rfl⟩ := vals1 rz
  obtain ⟨as, ra⟩ := Dp.readsAll I (ns.map PyData.int) (ns.map V.int) its (dp_ints ns) hv
  refine PySem.W.max_list_default (I.ok.hd hc) hL.isList ra (alike_ints ns) (by rw [depth_ints]; exact hu) (fun e h' tk k => ⟨.int d, H, I.kept k, ⟨_, rfl⟩, q0 (List.map_eq_nil_iff.mp e)⟩) fun y ys i v h' tk bs e _ r k => ?_
  cases ns with
  | nil => cases e
  | cons n l =>
    obtain ⟨e1, e2⟩ := List.cons.inj e
    subst e1 e2
    rw [PySem.W.maxD_ints] at r
    cases r
    obtain ⟨m1, m2, m3⟩ := most_of l n
    refine ⟨.int _, H, I.kept k, ⟨_, rfl⟩, q _ ?_ fun y hy => ?_⟩
    · rcases m1 with m1 | m1
      · rw [m1]
        exact List.mem_cons_self
      · exact List.mem_cons_of_mem _ m1
    · rcases List.mem_cons.mp hy with h | h
      · rw [h]
        exact m2
      · exact m3 y h
theorem ext_tup (l : Addr) (xs : Array Value) (n : Nat) (b : Addr) (ys : Array Value) (k : Nat) (dd : Option Addr) (sl : Array (Option Value)) (h0 : ¬(!xs.isEmpty && Builtin.List.listTooLong (xs.size + ys.size)) = true) (h1 : xs.size ≤ sizeLine) (h2 : xs.size + ys.size ≤ sizeLine + 1) :
    Meets (Builtin.«list.extend» ⟨[.ref l, .ref b], []⟩) (fun _ R s => s.heap.get? l = some { cls := .type "list", dict := none, data := .seq xs n, slots := #[] } ∧ s.heap.get? b = some { cls := .type "tuple", dict := dd, data := .seq ys k, slots := sl } ∧ R (.ok (.ret Value.none)) { s with heap := s.heap.update l (Obj.mapSeq fun x => x ++ ys), toks := s.toks }) :=
  .of_wp fun prog w A R s hyp => by
    obtain ⟨hp, g, d, tk, os⟩ := s; obtain ⟨hl, hb, h⟩ := hyp
    have g1 := AutoSeq1.idx_int
    have g2 := AutoSeq1.sub_tuple_tuple
    have g3 := AutoSeq1.sub_list_list
    have g4 := AutoSeq1.sub_tuple_list
    have g5 := AutoSeq1.sub_list_tuple
    have h3 : (xs ++ ys).size ≤ sizeLine + 1 := by
      rw [Array.size_append]
      exact h2
    wp_walk using (wpAny_updateSeq hl rfl (hz := h1) (_hz' := h3)), AutoSeq1.wpAny_loadPart' hl, AutoSeq1.wpAny_loadPart' hb
    exact ⟨_, rfl, h⟩
def rExtT : V → List V → Hp → VK → Prop := fun x vs H Q => ∃ l b xs zs, x = .ref l ∧ vs = [.ref b] ∧ H l = some (.lst xs) ∧ H b = some (.tup zs) ∧ xs.length + zs.length ≤ sizeLine ∧ Q .non (upd H l (.lst (xs ++ zs)))
theorem mt_extendT : MtM X "list.extend" rExtT := by
  intro pins s st H x args v us Q I rx ra hyp
  obtain ⟨l, b, xs, zs, rfl, rfl, hH, hB, hz, q⟩ := hyp; cases rx
  obtain ⟨u, rfl, ru⟩ := ra.one; cases ru
  obtain ⟨z, its, n, r, hl, e⟩ := I.lstM hH; have zl := z
  obtain ⟨z2, its2, r2, ⟨cls, dd, data, sl⟩, e2, ec, n2, ed⟩ := I.hok b _ hB
  subst ec ed
  have hl2 := r2.length
  have hs1 : its.toArray.size = xs.length := by rw [List.size_toArray, hl]
  have hs2 : its2.toArray.size = zs.length := by rw [List.size_toArray, hl2]
  have nl : ¬ (!its.toArray.isEmpty && Builtin.List.listTooLong (its.toArray.size + its2.toArray.size)) = true := by
    rw [notLongL (by omega), Bool.and_false]
    decide
  refine call_meets F.slot_list_extend ⟨_, e, rfl⟩ F.entry_list_extend (F.args_list_extend_2 _ _) (ext_tup l its.toArray n b its2.toArray n2 dd sl nl (by omega) (by omega)) ⟨e, e2, ?_⟩
  exact ⟨.non, _, I.lset (its' := its ++ its2) hH e (by simp) (r.append r2) (by rw [List.length_append]; omega), rfl, q⟩
/-! the same rules with the written part named (for what stands within a comprehension) -/
theorem ix_listK {K : PySem.W.Frag} (h : X.K = K) : IxR X (rIxL K) := by
  subst h
  exact ix_list
theorem ix_tupK {K : PySem.W.Frag} (h : X.K = K) : IxR X (rIxT K) := by
  subst h
  exact ix_tup
theorem op_notInK {K : PySem.W.Frag} (h : X.K = K) (hu : X.A.units + 65 < cLine) : OpR X (compareOp .NotIn) (rNotInD K) := by
  subst h
  exact op_notInD hu
theorem pe_fldK {K : PySem.W.Frag} {o : Expr} {f : Str} {pos : Pos} {to : TE} (h : X.K = K) (he : PE X o to) (hb : attributeBase o f X.env (eval o X.env) = eval o X.env) : PE X (.Attribute o f pos) (tFld K to f) := by
  subst h
  exact pe_fld he hb
theorem m2_of {o e f : Expr} {m : Str} {apos cpos : Pos} (h1 : attributeBase o m X.env (eval o X.env) = eval o X.env := by rfl)
    (h2 : ((backTo cpos (starEach [e, f] X.env)).all (fun x => !x.1) && (backToKw cpos (keywordEach [] X.env)).all (fun x => x.1.isSome) && decide (([e, f] : List Expr).length + ([] : List Keyword).length + (if ([] : List Keyword).isEmpty then 0 else 1) < 30)) = true := by rfl)
    (h3 : (apos.endLine == cpos.line) = true := by rfl) (h4 : backTo cpos (starEach [e, f] X.env) = [(false, eval e X.env), (false, eval f X.env)] := by rfl) : M2 X o m apos e f cpos := ⟨h1, h2, h3, h4⟩
end
end Pw

/-! Dicts of parts. -/
namespace Pw
open L2 PySem PySem.Spec PyProof.Rows
open Ge01 (Part Name Change Question)
def enc (q : Part) : Key × V := (Sum.inl (q.1 : Int), V.int (q.2 : Int))
theorem enc_inj {a b : Part} (h : enc a = enc b) : a = b := by
  unfold enc at h
  have h1 := (Prod.mk.inj h).1
  have h2 := (Prod.mk.inj h).2
  have h1 := Sum.inl.inj h1
  have h2 := V.int.inj h2
  exact Prod.ext (by omega) (by omega)
/-- a dict that holds just these parts -/
def DictIs (kvs : List (Key × V)) (ps : List Part) : Prop := kvs.Perm (ps.map enc)
theorem inc_keys : ∀ {ps : List Part}, Inc ps → ((ps.map enc).map (·.1)).Nodup
  | [], _ => List.nodup_nil
  | a :: l, h => by
    have h2 := List.pairwise_cons.mp h
    refine List.nodup_cons.mpr ⟨?_, inc_keys h2.2⟩
    intro m
    obtain ⟨y, hy, e⟩ := List.mem_map.mp m
    obtain ⟨x, hx, rfl⟩ := List.mem_map.mp hy
    have := h2.1 x hx
    have e := Sum.inl.inj e
    omega
theorem dict_nd {kvs : List (Key × V)} {ps : List Part} (d : DictIs kvs ps) (h : Inc ps) : (kvs.map (·.1)).Nodup := (d.map (·.1)).nodup_iff.mpr (inc_keys h)
theorem nd_of_keys {α β : Type} : ∀ {l : List (α × β)}, (l.map (·.1)).Nodup → l.Nodup
  | [], _ => List.nodup_nil
  | a :: l, h => by
    rw [List.map_cons] at h
    obtain ⟨h1, h2⟩ := List.nodup_cons.mp h
    exact List.nodup_cons.mpr ⟨fun m => h1 (List.mem_map_of_mem m), nd_of_keys h2⟩
theorem val_mem : ∀ {kvs : List (Key × V)} {k : Key} {v : V}, (kvs.map (·.1)).Nodup → (valV kvs k = some v ↔ (k, v) ∈ kvs)
  | [], k, v, _ => by simp [valV_nil]
  | p :: r, k, v, h => by
    rw [List.map_cons] at h
    obtain ⟨h1, h2⟩ := List.nodup_cons.mp h
    by_cases e : p.1 = k
    · rw [valV_pos e, List.mem_cons]
      constructor
      · intro z
        have z := Option.some.inj z
        exact Or.inl (by rw [← e, ← z])
      · rintro (z | z)
        · rw [← z]
        · exact absurd (by rw [e]; exact List.mem_map_of_mem (f := (·.1)) z) h1
    · rw [valV_neg e, val_mem h2, List.mem_cons]
      constructor
      · exact Or.inr
      · rintro (z | z)
        · exact absurd (by rw [← z]) e
        · exact z
/-- the value of a kind -/
def look (ps : List Part) (k : Nat) : Option Nat := (ps.find? fun p => p.1 == k).map fun p => p.2
theorem look_mem : ∀ {ps : List Part} {k v : Nat}, Inc ps → (look ps k = some v ↔ (k, v) ∈ ps)
  | [], k, v, _ => by simp [look]
  | a :: l, k, v, h => by
    have h2 := List.pairwise_cons.mp h
    unfold look
    by_cases e : a.1 = k
    · rw [List.find?_cons_of_pos (by simpa using e)]
      constructor
      · intro z
        have z : a.2 = v := Option.some.inj z
        rw [← e, ← z]
        exact List.mem_cons_self
      · intro m
        rcases List.mem_cons.mp m with z | z
        · rw [← z]
          rfl
        · have := h2.1 _ z
          simp only at this
          omega
    · rw [List.find?_cons_of_neg (by simpa using e)]
      show look l k = some v ↔ _
      rw [look_mem h2.2]
      constructor
      · exact List.mem_cons_of_mem _
      · intro m
        rcases List.mem_cons.mp m with z | z
        · rw [← z] at e
          exact absurd rfl e
        · exact z
theorem dict_val {kvs : List (Key × V)} {ps : List Part} (d : DictIs kvs ps) (h : Inc ps) (k : Nat) : valV kvs (Sum.inl (k : Int)) = (look ps k).map fun (v : Nat) => V.int (v : Int) := by
  cases e : valV kvs (Sum.inl (k : Int)) with
  | some v =>
    have m := d.mem_iff.mp ((val_mem (dict_nd d h)).mp e)
    obtain ⟨x, hx, ex⟩ := List.mem_map.mp m
    have e1 : (x.1 : Int) = (k : Int) := Sum.inl.inj (Prod.mk.inj ex).1
    have e2 : V.int (x.2 : Int) = v := (Prod.mk.inj ex).2
    have ek : x.1 = k := by omega
    have : look ps k = some x.2 := (look_mem h).mpr (by rw [← ek]; exact hx)
    rw [this, ← e2]
    rfl
  | none =>
    cases e2 : look ps k with
    | none => rfl
    | some v =>
      have m : enc (k, v) ∈ ps.map enc := List.mem_map_of_mem ((look_mem h).mp e2)
      have := (val_mem (dict_nd d h)).mpr (d.mem_iff.mpr m)
      have this : valV kvs (Sum.inl (k : Int)) = some (V.int (v : Int)) := this
      rw [e] at this
      cases this
theorem mem_putK {kvs : List (Key × V)} {k : Key} {v : V} (h : (kvs.map (·.1)).Nodup) (x : Key × V) : x ∈ putK kvs k v ↔ x = (k, v) ∨ (x ∈ kvs ∧ x.1 ≠ k) := by
  unfold putK
  split
  · rename_i c
    rw [List.mem_map]
    constructor
    · rintro ⟨y, hy, e⟩
      by_cases ek : y.1 = k
      · rw [if_pos ek] at e
        left
        rw [← e, ek]
      · rw [if_neg ek] at e
        subst e
        exact Or.inr ⟨hy, ek⟩
    · rintro (rfl | ⟨hx, n⟩)
      · obtain ⟨y, hy, ey⟩ := List.any_eq_true.mp c
        have ey : y.1 = k := of_decide_eq_true ey
        exact ⟨y, hy, by rw [if_pos ey, ey]⟩
      · exact ⟨x, hx, if_neg n⟩
  · rename_i c
    rw [List.mem_append, List.mem_singleton]
    constructor
    · rintro (hx | hx)
      · refine Or.inr ⟨hx, fun e => c ?_⟩
        rw [List.any_eq_true]
        exact ⟨x, hx, decide_eq_true e⟩
      · exact Or.inl hx
    · rintro (hx | hx)
      · exact Or.inr hx
      · exact Or.inl hx.1
theorem nd_putK' {kvs : List (Key × V)} {k : Key} {v : V} (h : (kvs.map (·.1)).Nodup) : ((putK kvs k v).map (·.1)).Nodup := by
  cases e : valV kvs k with
  | none => exact nd_putK _ h e
  | some u =>
    have hk : (putK kvs k v).map (·.1) = kvs.map (·.1) := by
      unfold putK
      rw [if_pos (by rw [valV_any, e]; rfl), List.map_map]
      apply List.map_congr_left
      intro x _
      show (if x.1 = k then (x.1, v) else x).1 = x.1
      split <;> rfl
    rw [hk]
    exact h
theorem dict_put {kvs : List (Key × V)} {ps : List Part} (d : DictIs kvs ps) (h : Inc ps) (k v : Nat) : DictIs (putK kvs (Sum.inl (k : Int)) (V.int (v : Int))) (Ge01.partsPut k v ps) := by
  have nd := dict_nd d h
  refine (List.perm_ext_iff_of_nodup (nd_of_keys (nd_putK' nd)) (nd_of_keys (inc_keys (inc_put k v ps h)))).mpr fun x => ?_
  rw [mem_putK nd, List.mem_map]
  constructor
  · rintro (rfl | ⟨hx, n⟩)
    · exact ⟨(k, v), (mem_put k v ps h _).mpr (Or.inl rfl), rfl⟩
    · obtain ⟨y, hy, rfl⟩ := List.mem_map.mp (d.mem_iff.mp hx)
      refine ⟨y, (mem_put k v ps h _).mpr (Or.inr ⟨hy, fun e => n ?_⟩), rfl⟩
      show (Sum.inl (y.1 : Int) : Key) = Sum.inl (k : Int)
      rw [e]
  · rintro ⟨y, hy, rfl⟩
    rcases (mem_put k v ps h _).mp hy with rfl | ⟨hy, n⟩
    · exact Or.inl rfl
    · refine Or.inr ⟨d.mem_iff.mpr (List.mem_map_of_mem hy), fun e => n ?_⟩
      have := Sum.inl.inj e
      omega
theorem dict_drop {kvs : List (Key × V)} {ps : List Part} (d : DictIs kvs ps) (k : Nat) : DictIs (dropK kvs (Sum.inl (k : Int))) (ps.filter fun q => q.1 != k) := by
  have := List.Perm.filter (fun kv : Key × V => decide (kv.1 ≠ Sum.inl (k : Int))) d
  unfold DictIs dropK
  refine this.trans (List.Perm.of_eq ?_)
  rw [List.filter_map]
  congr 1
  apply List.filter_congr
  intro x _
  show decide ((Sum.inl (x.1 : Int) : Key) ≠ Sum.inl (k : Int)) = (x.1 != k)
  by_cases e : x.1 = k
  · subst e
    simp
  · have : ¬ (Sum.inl (x.1 : Int) : Key) = Sum.inl (k : Int) := fun z => e (by have := Sum.inl.inj z; omega)
    rw [decide_eq_true this]
    simp [e]
theorem dict_len {kvs : List (Key × V)} {ps : List Part} (d : DictIs kvs ps) : kvs.length = ps.length := by
  rw [d.length_eq, List.length_map]
theorem dict_nil : DictIs [] [] := List.Perm.refl _
/-- the keys as ints -/
def keyI : Key → Int
  | .inl i => i
  | .inr _ => 0
theorem dict_keys {kvs : List (Key × V)} {ps : List Part} (d : DictIs kvs ps) : kvs.map (·.1) = (kvs.map fun x => keyI x.1).map Sum.inl := by
  rw [List.map_map]
  apply List.map_congr_left
  intro x hx
  obtain ⟨y, hy, rfl⟩ := List.mem_map.mp (d.mem_iff.mp hx)
  rfl
theorem dict_sorted {kvs : List (Key × V)} {ps : List Part} (d : DictIs kvs ps) (h : Inc ps) {ys : List Int} (hp : ys.Perm (kvs.map fun x => keyI x.1)) (hs : ys.Pairwise (· ≤ ·)) : ys = ps.map fun p => (p.1 : Int) := by
  have e : (kvs.map fun x => keyI x.1).Perm (ps.map fun p => (p.1 : Int)) := by
    have := d.map fun x => keyI x.1
    rw [List.map_map] at this
    exact this
  refine List.Perm.eq_of_pairwise (fun a b _ _ h1 h2 => Int.le_antisymm h1 h2) hs ?_ (hp.trans e)
  rw [List.pairwise_map]
  exact h.imp fun h => by omega
end Pw

namespace Pw
open L2 PySem PySem.Spec PyProof.Rows
open Ge01 (Part Name Change Question)
/-- the constants of the top -/
structure Con (mg : Str → Option Value) : Prop where
  HIGHEST_KIND : Glob mg "HIGHEST_KIND" (.int (15))
  HIGHEST_VALUE : Glob mg "HIGHEST_VALUE" (.int (9999))
  MOST_THINGS : Glob mg "MOST_THINGS" (.int (20))
  MOST_PUT_OFF : Glob mg "MOST_PUT_OFF" (.int (30))
  MOST_KINDS_TOLD : Glob mg "MOST_KINDS_TOLD" (.int (12))
  MOST_KEPT : Glob mg "MOST_KEPT" (.int (6))
  WRONG_KIND_OR_VALUE : Glob mg "WRONG_KIND_OR_VALUE" (.int (-1))
  NO_SUCH_ONE : Glob mg "NO_SUCH_ONE" (.int (-2))
  NO_SUCH_PART : Glob mg "NO_SUCH_PART" (.int (-3))
  FULL : Glob mg "FULL" (.int (-5))
  MAKE : Glob mg "MAKE" (.int (0))
  GONE : Glob mg "GONE" (.int (1))
  PUT : Glob mg "PUT" (.int (2))
  TAKE : Glob mg "TAKE" (.int (3))
  GET : Glob mg "GET" (.int (4))
  PARTS : Glob mg "PARTS" (.int (5))
  LATER : Glob mg "LATER" (.int (6))
  APPLY : Glob mg "APPLY" (.int (7))
  ASK : Glob mg "ASK" (.int (8))
  KEEP : Glob mg "KEEP" (.int (9))
  FRESH : Glob mg "FRESH" (.int (10))
  SUM : Glob mg "SUM" (.int (11))
  LATER_MADE : Glob mg "LATER_MADE" (.int (0))
  LATER_GONE : Glob mg "LATER_GONE" (.int (1))
  LATER_PUT : Glob mg "LATER_PUT" (.int (2))
  LATER_TAKEN : Glob mg "LATER_TAKEN" (.int (3))
  LATER_PUT_BY_WORD : Glob mg "LATER_PUT_BY_WORD" (.int (4))
  LATER_GONE_BY_WORD : Glob mg "LATER_GONE_BY_WORD" (.int (5))
  len : mg "len" = none
  range : mg "range" = none
  enumerate : mg "enumerate" = none
  sorted : mg "sorted" = none
  sum : mg "sum" = none
  max : mg "max" = none
  all : mg "all" = none
  any : mg "any" = none
  list : mg "list" = none
  dict : mg "dict" = none
/-! ### lists of numbers -/
abbrev IL (ns : List Int) : List V := ns.map V.int
theorem il_get {ns : List Int} {i : Nat} {z : Int} (h : ns[i]? = some z) : (IL ns)[i]? = some (V.int z) := by
  rw [List.getElem?_map, h]
  rfl
theorem at_il {ns : List Int} {i : Nat} {z k : Int} (h : ns[i]? = some z) (e : k = (i : Int)) : atI (IL ns) k = some (V.int z) := at_of e (il_get h)
theorem flat_cons (p : Part) (l : List Part) : flat (p :: l) = (p.1 : Int) :: (p.2 : Int) :: flat l := rfl
theorem flat_len : ∀ ps : List Part, (flat ps).length = 2 * ps.length
  | [] => rfl
  | p :: l => by
    rw [flat_cons, List.length_cons, List.length_cons, flat_len l, List.length_cons]
    omega
theorem flat_get : ∀ {ps : List Part} {i : Nat} {p : Part}, ps[i]? = some p → (flat ps)[2 * i]? = some (p.1 : Int) ∧ (flat ps)[2 * i + 1]? = some (p.2 : Int)
  | [], i, p, h => by simp at h
  | q :: l, 0, p, h => by
    have e : q = p := Option.some.inj h
    subst e
    exact ⟨rfl, rfl⟩
  | q :: l, i + 1, p, h => by
    have ih := flat_get (ps := l) (i := i) (p := p) h
    rw [flat_cons, show 2 * (i + 1) = 2 * i + 1 + 1 by omega]
    exact ih
theorem range2 {n : Nat} (h : n ≤ 100000) : RgC 0 ((2 * n : Nat) : Int) 2 n := by
  have hs : Builtin.Range.rangeSize 0 ((2 * n : Nat) : Int) 2 = n := by
    unfold Builtin.Range.rangeSize
    simp only [show (2 : Int) > 0 by decide, if_true]
    split <;> omega
  refine ⟨by decide, by decide, ?_, hs⟩
  have f : ∀ z : Int, -1000000 ≤ z → z ≤ 1000000 → Builtin.Range.rangeFitsLong z = true := by
    intro z h1 h2
    unfold Builtin.Range.rangeFitsLong
    rw [Bool.and_eq_true, decide_eq_true_eq, decide_eq_true_eq]
    omega
  unfold Builtin.Range.small
  rw [hs, f 0 (by omega) (by omega), f _ (by omega) (by omega), f 2 (by omega) (by omega), f (n : Int) (by omega) (by omega), if_pos (show (2 : Int) > 0 by decide), f _ (by omega) (by omega), Bool.or_true]
  rfl
/-! ### parts that are refused -/
def bad : Int → List Part → Bool
  | _, [] => false
  | b, p :: l => decide ((p.1 : Int) ≤ b) || (decide (15 < (p.1 : Int)) || decide (9999 < (p.2 : Int))) || bad p.1 l
theorem bad_iff : ∀ (ps : List Part) (b : Int), bad b ps = false ↔ Good ps ∧ ∀ x ∈ ps, b < (x.1 : Int)
  | [], b => ⟨fun _ => ⟨good_nil, fun x h => absurd h (by simp)⟩, fun _ => rfl⟩
  | p :: l, b => by
    have ih := bad_iff l p.1
    unfold bad
    rw [Bool.or_eq_false_iff, Bool.or_eq_false_iff, Bool.or_eq_false_iff, decide_eq_false_iff_not, decide_eq_false_iff_not, decide_eq_false_iff_not, ih]
    constructor
    · rintro ⟨⟨h1, h2, h3⟩, g, h4⟩
      refine ⟨⟨List.Pairwise.cons (fun x hx => ?_) g.inc, fun x hx => ?_⟩, fun x hx => ?_⟩
      · have := h4 x hx
        omega
      · rcases List.mem_cons.mp hx with rfl | hx
        · constructor <;> omega
        · exact g.ok x hx
      · rcases List.mem_cons.mp hx with rfl | hx
        · omega
        · have := h4 x hx
          omega
    · rintro ⟨g, h⟩
      have h2 := List.pairwise_cons.mp g.inc
      have o := g.ok p List.mem_cons_self
      have hb := h p List.mem_cons_self
      refine ⟨⟨by omega, by omega, by omega⟩, ⟨h2.2, fun x hx => g.ok x (List.mem_cons_of_mem _ hx)⟩, fun x hx => ?_⟩
      have := h2.1 x hx
      omega
theorem bad_ok (ps : List Part) : bad (-1) ps = !Ge01.partsOk ps := by
  cases e : bad (-1) ps with
  | false =>
    have := ((bad_iff ps (-1)).mp e).1
    rw [(good_iff ps).mpr this]
    rfl
  | true =>
    cases e2 : Ge01.partsOk ps with
    | false => rfl
    | true =>
      have := (bad_iff ps (-1)).mpr ⟨(good_iff ps).mp e2, fun x _ => by omega⟩
      rw [this] at e
      cases e
theorem bad_drop {ps : List Part} {i : Nat} {p : Part} (h : ps[i]? = some p) (b : Int) : bad b (ps.drop i) = (decide ((p.1 : Int) ≤ b) || (decide (15 < (p.1 : Int)) || decide (9999 < (p.2 : Int))) || bad p.1 (ps.drop (i + 1))) := by
  obtain ⟨hi, e⟩ := List.getElem?_eq_some_iff.mp h
  rw [List.drop_eq_getElem_cons hi, e]
  rfl
section
variable {K : PySem.W.Frag} {P : Program} {w : World} {mg : Str → Option Value} {base : Heap}
abbrev s_wrong_part : Stmt := top 29
abbrev N_wrong_part : List Str := ["kind", "value"]
theorem sc_wrong_part : FnScope N_wrong_part ["kind", "value"] (defScope s_wrong_part) := ⟨rfl, rfl, rfl, by decide +kernel, rfl, by decide +kernel, by decide +kernel⟩
def sp_wrong_part : Sp := fun vs H Q _ => ∃ (k v : Int), vs = [.int k, .int v] ∧ Q (.bl (decide (15 < k) || decide (9999 < v))) H
theorem ok_wrong_part {f : Addr} {fd : FuncData} (F : Fun K "wrong_part" "wrong_part" s_wrong_part f fd) (T : Con mg) : FnOk P w K mg base CX0 1 f fd ["kind", "value"] sp_wrong_part := by
  refine F.ok sc_wrong_part (fun vs H Q E h => ?_) (fun cdv A outer s H vs Q E hr h => ?_)
  · obtain ⟨k, v, rfl, _⟩ := h
    rfl
  · obtain ⟨k, v, rfl, q⟩ := h
    refine ⟨_, (pss_one (ps_ret (pe_or (pe_cmpR op_gt (pv 0) (pe_gc T.HIGHEST_KIND) (nomark _)) (pe_one (pe_cmpR op_gt (pv 1) (pe_gc T.HIGHEST_VALUE) (nomark _)))))), ?_⟩
    refine ⟨_, rfl, _, _, rfl, rfl, _, rfl, ?_⟩
    by_cases c : 15 < k
    · rw [decide_eq_true c] at q ⊢
      exact iteT q
    · rw [decide_eq_false c] at q ⊢
      refine iteF ?_
      exact ⟨_, rfl, _, _, rfl, rfl, q⟩
abbrev s_wrong_parts : Stmt := top 30
abbrev N_wrong_parts : List Str := ["parts", "before", "at"]
theorem sc_wrong_parts : FnScope N_wrong_parts ["parts"] (defScope s_wrong_parts) := ⟨rfl, rfl, rfl, by decide +kernel, rfl, by decide +kernel, by decide +kernel⟩
def sp_wrong_parts (K : PySem.W.Frag) : Sp := fun vs H Q _ => ∃ (a : Addr) (ps : List Part), vs = [.ref a] ∧ SqL K H a (IL (flat ps)) ∧ ps.length ≤ 5000 ∧ Q (.bl (!Ge01.partsOk ps)) H
theorem ok_wrong_parts {f : Addr} {fd : FuncData} (F : Fun K "wrong_parts" "wrong_parts" s_wrong_parts f fd) (T : Con mg) (D_wrong_part : DefOk P w K mg base 1 "wrong_part" ["kind", "value"] sp_wrong_part) : FnOk P w K mg base CX0 2 f fd ["parts"] (sp_wrong_parts K) := by
  refine F.ok sc_wrong_parts (fun vs H Q E h => ?_) (fun cdv A outer s H vs Q E hr h => ?_)
  · obtain ⟨a, ps, rfl, _⟩ := h
    rfl
  · obtain ⟨a, ps, rfl, hS, hl, q⟩ := h
    rw [← bad_ok] at q
    refine ⟨_, (pss_cons (ps_set (i := 1) sc_wrong_parts.nd rfl (Or.inl rfl) (pe_un un_neg pe_int))
      (pss_cons (ps_for PassesOwn.never rfl (pi_range3 rfl T.range (pa_cons pe_int (pa_cons (pe_callB call_len_seq (by rfl) T.len PySem.boot_len (pa_cons (pv 0) pa_nil)) (pa_cons pe_int pa_nil)))) (pg_name (i := 2) sc_wrong_parts.nd rfl (Or.inl rfl)) (pss_cons (ps_if (pw_or (pt_cmpR op_le (pe_ix ix_list (pv 0) (pv 2) (fun _ _ => rfl)) (pv 1) (nomark _)) (pw_or1 (pt_val (pe_fn D_wrong_part (hr.mono (by decide)) (pa_cons (pe_ix ix_list (pv 0) (pv 2) (fun _ _ => rfl)) (pa_cons (pe_ix ix_list (pv 0) (pe_op op_add (pv 2) pe_int) (fun _ _ => rfl)) pa_nil)))))).pt (pss_one (ps_ret pe_bl)) pss_nil)
      (pss_one (ps_set (i := 1) sc_wrong_parts.nd rfl (Or.inl rfl) (pe_ix ix_list (pv 0) (pv 2) (fun _ _ => rfl))))))
      (pss_one (ps_ret pe_bl)))), ?_⟩
    refine ⟨1, rfl, _, rfl, a, _, rfl, .inl hS, 0, _, 2, ps.length, rfl, ?_, for_rangeC (fun i σ H' => ∃ (b : Int) (v : Option V), σ = [some (.ref a), some (.int b), v] ∧ H' = H ∧ bad (-1) ps = bad b (ps.drop i)) ⟨-1, none, rfl, rfl, rfl⟩ ?_ ?_⟩
    · rw [List.length_map, flat_len]
      exact range2 (by omega)
    · rintro i σ H' hi ⟨b, v, rfl, rfl, e⟩
      obtain ⟨p, hp⟩ : ∃ p, ps[i]? = some p := ⟨ps[i], List.getElem?_eq_getElem hi⟩
      obtain ⟨g1, g2⟩ := flat_get hp
      have a1 : atI (IL (flat ps)) (0 + (i : Int) * 2) = some (V.int (p.1 : Int)) := at_il g1 (by omega)
      have a2 : atI (IL (flat ps)) (0 + (i : Int) * 2 + 1) = some (V.int (p.2 : Int)) := at_il g2 (by omega)
      rw [bad_drop hp] at e
      refine ⟨_, rfl, _, rfl, a, _, _, _, rfl, rfl, hS, a1, _, rfl, _, _, rfl, rfl, _, rfl, ?_⟩
      by_cases c : (p.1 : Int) ≤ b
      · rw [decide_eq_true c] at e ⊢
        refine iteT (iteT ?_)
        rw [e] at q
        exact q
      · rw [decide_eq_false c] at e ⊢
        refine iteF ⟨_, rfl, _, rfl, a, _, _, _, rfl, rfl, hS, a1, _, rfl, _, rfl, _, _, rfl, rfl, a, _, _, _, rfl, rfl, hS, a2, p.1, p.2, rfl, _, rfl, ?_⟩
        cases c2 : (decide (15 < (p.1 : Int)) || decide (9999 < (p.2 : Int))) with
        | true =>
          rw [c2] at e
          refine iteT ?_
          rw [e] at q
          exact q
        | false =>
          rw [c2] at e
          refine iteF ?_
          refine ⟨_, rfl, _, rfl, a, _, _, _, rfl, rfl, hS, a1, ?_⟩
          exact ⟨p.1, _, rfl, rfl, e⟩
    · rintro σ H' ⟨b, v, rfl, rfl, e⟩
      rw [List.drop_length] at e
      rw [e] at q
      exact q
abbrev s_by_kind : Stmt := top 32
abbrev N_by_kind : List Str := ["parts", "value_by_kind", "at"]
theorem sc_by_kind : FnScope N_by_kind ["parts"] (defScope s_by_kind) := ⟨rfl, rfl, rfl, by decide +kernel, rfl, by decide +kernel, by decide +kernel⟩
def sp_by_kind (K : PySem.W.Frag) : Sp := fun vs H Q _ => ∃ (a : Addr) (ps : List Part), vs = [.ref a] ∧ SqL K H a (IL (flat ps)) ∧ Good ps ∧ ∀ p H', H p = none → (∀ b o, H b = some o → H' b = some o) → H' p = some (.dK (ps.map enc)) → Q (.ref p) H'
theorem enc_new {ps : List Part} {i : Nat} {p : Part} (g : Inc ps) (h : ps[i]? = some p) : valV ((ps.take i).map enc) (Sum.inl (p.1 : Int)) = none := by
  cases e : valV ((ps.take i).map enc) (Sum.inl (p.1 : Int)) with
  | none => rfl
  | some v =>
    have gt : Inc (ps.take i) := g.sublist (List.take_sublist _ _)
    have m := (val_mem (inc_keys gt)).mp e
    obtain ⟨x, hx, ex⟩ := List.mem_map.mp m
    have e1 : (x.1 : Int) = (p.1 : Int) := Sum.inl.inj (Prod.mk.inj ex).1
    obtain ⟨j, hj, ej⟩ := List.getElem_of_mem hx
    obtain ⟨hi, ei⟩ := List.getElem?_eq_some_iff.mp h
    rw [List.length_take] at hj
    rw [List.getElem_take] at ej
    have := List.pairwise_iff_getElem.mp g j i (by omega) hi (by omega)
    rw [ej, ei] at this
    omega
theorem ok_by_kind {f : Addr} {fd : FuncData} (F : Fun K "by_kind" "by_kind" s_by_kind f fd) (T : Con mg) : FnOk P w K mg base CX0 1 f fd ["parts"] (sp_by_kind K) := by
  refine F.ok sc_by_kind (fun vs H Q E h => ?_) (fun cdv A outer s H vs Q E hr h => ?_)
  · obtain ⟨a, ps, rfl, _⟩ := h
    rfl
  · obtain ⟨a, ps, rfl, hS, hg, q⟩ := h
    have hu := hu_of hr
    have hl := good_len hg
    refine ⟨_, (pss_cons (ps_set (i := 1) sc_by_kind.nd rfl (Or.inl rfl) pe_dnewK)
      (pss_cons (ps_for PassesOwn.never rfl (pi_range3 rfl T.range (pa_cons pe_int (pa_cons (pe_callB call_len_seq (by rfl) T.len PySem.boot_len (pa_cons (pv 0) pa_nil)) (pa_cons pe_int pa_nil)))) (pg_name (i := 2) sc_by_kind.nd rfl (Or.inl rfl)) (pss_one (ps_dput hu (pv 1) (pe_ix ix_list (pv 0) (pv 2) (fun _ _ => rfl)) (pe_ix ix_list (pv 0) (pe_op op_add (pv 2) pe_int) (fun _ _ => rfl)) rfl)))
      (pss_one (ps_ret (pv 1))))), ?_⟩
    intro d hd
    have hS' : ∀ o, SqL K (upd H d o) a (IL (flat ps)) := fun o => Same.seq (fun b o' e => by rw [upd_ne (ne_of_none e hd)]; exact e) hS
    refine ⟨_, rfl, a, _, rfl, .inl (hS' _), 0, _, 2, ps.length, rfl, ?_, for_rangeC (fun i σ H' => ∃ (v : Option V), σ = [some (.ref a), some (.ref d), v] ∧ H' = upd H d (.dK ((ps.take i).map enc))) ⟨none, rfl, rfl⟩ ?_ ?_⟩
    · rw [List.length_map, flat_len]
      exact range2 (by omega)
    · rintro i σ H' hi ⟨v, rfl, rfl⟩
      obtain ⟨p, hp⟩ : ∃ p, ps[i]? = some p := ⟨ps[i], List.getElem?_eq_getElem hi⟩
      obtain ⟨g1, g2⟩ := flat_get hp
      have a1 : atI (IL (flat ps)) (0 + (i : Int) * 2) = some (V.int (p.1 : Int)) := at_il g1 (by omega)
      have a2 : atI (IL (flat ps)) (0 + (i : Int) * 2 + 1) = some (V.int (p.2 : Int)) := at_il g2 (by omega)
      refine ⟨_, rfl, _, rfl, _, _, rfl, rfl, a, _, _, _, rfl, rfl, hS' _, a2, _, rfl, _, rfl, _, rfl, a, _, _, _, rfl, rfl, hS' _, a1, d, _, rfl, DPut.k (k := Sum.inl (p.1 : Int)) upd_same (small1000 (by rw [List.length_map, List.length_take]; omega)), ?_⟩
      refine ⟨_, rfl, ?_⟩
      rw [upd_upd, putK_new _ (enc_new hg.inc hp)]
      congr 2
      rw [show ps.take (i + 1) = ps.take i ++ [p] by rw [List.take_add_one, hp]; rfl, List.map_append]
      rfl
    · rintro σ H' ⟨v, rfl, rfl⟩
      rw [List.take_length]
      exact ⟨_, rfl, q d _ hd (fun b o e => by rw [upd_ne (ne_of_none e hd)]; exact e) upd_same⟩
end
end Pw

namespace Pw
open L2 PySem PySem.Spec PyProof.Rows
open Ge01 (Part Name Change Question)
/-! ### attributes -/
theorem lk_here {k : Str} {v : V} {r : List (Str × V)} : List.lookup k ((k, v) :: r) = some v := by
  have e : (k == k) = true := beq_self_eq_true k
  simp only [List.lookup, e]
theorem lk_past {k g : Str} {v : V} {r : List (Str × V)} (h : (k == g) = false) : List.lookup k ((g, v) :: r) = List.lookup k r := by
  simp only [List.lookup, h]
theorem put_here {f : Str} {v x : V} {r : List (Str × V)} : putF f v ((f, x) :: r) = (f, v) :: r := if_pos rfl
theorem put_past {f g : Str} {v x : V} {r : List (Str × V)} (h : ¬ g = f) : putF f v ((g, x) :: r) = (g, x) :: putF f v r := if_neg h
/-! ### the reader -/
def rF (a : Addr) (i : Nat) : List (Str × V) := [("numbers", .ref a), ("at", .int (i : Int))]
theorem rF_numbers (a : Addr) (i : Nat) : (rF a i).lookup ("numbers" : Str) = some (.ref a) := lk_here
theorem rF_at (a : Addr) (i : Nat) : (rF a i).lookup ("at" : Str) = some (.int (i : Int)) := (lk_past (by decide +kernel)).trans lk_here
theorem rF_no (a : Addr) (i : Nat) {m : Str} (h1 : (m == ("numbers" : Str)) = false) (h2 : (m == ("at" : Str)) = false) : (rF a i).lookup m = none := (lk_past h1).trans ((lk_past h2).trans rfl)
theorem rF_put (a : Addr) (i : Nat) (z : Int) (j : Nat) (e : z = (j : Int)) : putF "at" (.int z) (rF a i) = rF a j := by
  subst e
  exact (put_past (by decide +kernel)).trans (congrArg _ put_here)
theorem rF_new (a : Addr) : putF "at" (.int 0) (putF "numbers" (.ref a) []) = rF a 0 := (put_past (by decide +kernel)).trans rfl
/-- what the walk asks of the class as the top has made it -/
structure RTxt (K : PySem.W.Frag) (C : Addr) : Prop where
  cl : Cls K C
  nN : NoAttr K C "numbers"
  nA : NoAttr K C "at"
theorem cut_row {ns x t : List Int} {i : Nat} (h : ns.drop i = x ++ t) : cutV (IL ns) (some (i : Int)) (some ((i + x.length : Nat) : Int)) = IL x := by
  have hl : ns.length - i = x.length + t.length := by
    have := congrArg List.length h
    rw [List.length_drop, List.length_append] at this
    exact this
  unfold cutV
  rw [HT.sIx_nat, HT.sIx_nat, List.length_map]
  rw [← List.map_drop, ← List.map_take]
  unfold IL
  congr 1
  by_cases c : i ≤ ns.length
  · rw [Nat.min_eq_left c, Nat.min_eq_left (by omega), h, show i + x.length - i = x.length by omega, List.take_left]
  · have hx : x = [] := List.length_eq_zero_iff.mp (by omega)
    subst hx
    rw [show min (i + ([] : List Int).length) ns.length - min i ns.length = 0 by simp]
    rfl
theorem cut_from {ns : List Int} {i : Nat} : cutV (IL ns) (some (i : Int)) none = IL (ns.drop i) := by
  unfold cutV
  rw [HT.sIx_nat, HT.sIx_none, List.length_map, ← List.map_drop, ← List.map_take]
  unfold IL
  congr 1
  by_cases c : i ≤ ns.length
  · rw [Nat.min_eq_left c, List.take_of_length_le (by rw [List.length_drop] <;> omega)]
  · rw [Nat.min_eq_right (by omega), List.drop_length, List.drop_eq_nil_of_le (by omega)]
    exact List.take_nil
section
variable {K : PySem.W.Frag} {P : Program} {w : World} {mg : Str → Option Value} {base : Heap} {C : Addr}
abbrev s_Reader___init__ : Stmt := inClass (top 41) 0
abbrev N_Reader___init__ : List Str := ["self", "numbers"]
theorem sc_Reader___init__ : FnScope N_Reader___init__ ["self", "numbers"] (defScope s_Reader___init__) := ⟨rfl, rfl, rfl, by decide +kernel, rfl, by decide +kernel, by decide +kernel⟩
def sp_Reader___init__ (C : Addr) : Sp := fun vs H Q _ => ∃ (p dx a : Addr), vs = [.ref p, .ref a] ∧ H p = some (.ins C dx []) ∧ Q .non (upd H p (.ins C dx (rF a 0)))
theorem ok_Reader___init__ {f : Addr} {fd : FuncData} (F : Fun K "__init__" "Reader.__init__" s_Reader___init__ f fd) (R : RTxt K C) : FnOk P w K mg base CX0 1 f fd ["self", "numbers"] (sp_Reader___init__ C) := by
  refine F.ok sc_Reader___init__ (fun vs H Q E h => ?_) (fun cdv A outer s H vs Q E hr h => ?_)
  · obtain ⟨p, dx, a, rfl, _⟩ := h
    rfl
  · obtain ⟨p, dx, a, rfl, hp, q⟩ := h
    refine ⟨_, (pss_cons (ps_fld (pv 0) (pv 1) rfl)
      (pss_one (ps_fld (pv 0) pe_int rfl))), ?_⟩
    refine ⟨_, rfl, _, rfl, p, C, dx, [], rfl, hp, R.cl, R.nN, (by show 0 < 1000; decide), _, rfl, p, C, dx, _, rfl, upd_same, R.cl, R.nA, (by show 1 < 1000; decide), ?_⟩
    rw [upd_upd, rF_new]
    exact q
abbrev s_Reader_more : Stmt := inClass (top 41) 1
abbrev N_Reader_more : List Str := ["self"]
theorem sc_Reader_more : FnScope N_Reader_more ["self"] (defScope s_Reader_more) := ⟨rfl, rfl, rfl, by decide +kernel, rfl, by decide +kernel, by decide +kernel⟩
def sp_Reader_more (K : PySem.W.Frag) (C : Addr) : Sp := fun vs H Q _ => ∃ (p dx a : Addr) (ns : List Int) (i : Nat), vs = [.ref p] ∧ H p = some (.ins C dx (rF a i)) ∧ SqL K H a (IL ns) ∧ Q (.bl (decide ((i : Int) < (ns.length : Int)))) H
theorem ok_Reader_more {f : Addr} {fd : FuncData} (F : Fun K "more" "Reader.more" s_Reader_more f fd) (T : Con mg) (R : RTxt K C) : FnOk P w K mg base CX0 1 f fd ["self"] (sp_Reader_more K C) := by
  refine F.ok sc_Reader_more (fun vs H Q E h => ?_) (fun cdv A outer s H vs Q E hr h => ?_)
  · obtain ⟨p, dx, a, ns, i, rfl, _⟩ := h
    rfl
  · obtain ⟨p, dx, a, ns, i, rfl, hp, hS, q⟩ := h
    refine ⟨_, (pss_one (ps_ret (pe_cmpR op_lt (pe_fld (pv 0) rfl) (pe_callB call_len_seq (by rfl) T.len PySem.boot_len (pa_cons (pe_fld (pv 0) rfl) pa_nil)) (nomark _)))), ?_⟩
    refine ⟨_, rfl, p, C, dx, _, _, rfl, hp, R.cl, R.nA, rF_at a i, _, rfl, p, C, dx, _, _, rfl, hp, R.cl, R.nN, rF_numbers a i, a, _, rfl, .inl hS, _, _, rfl, rfl, ?_⟩
    rw [List.length_map]
    exact q
abbrev s_Reader_number : Stmt := inClass (top 41) 2
abbrev N_Reader_number : List Str := ["self"]
theorem sc_Reader_number : FnScope N_Reader_number ["self"] (defScope s_Reader_number) := ⟨rfl, rfl, rfl, by decide +kernel, rfl, by decide +kernel, by decide +kernel⟩
def sp_Reader_number (K : PySem.W.Frag) (C : Addr) : Sp := fun vs H Q _ => ∃ (p dx a : Addr) (ns : List Int) (i : Nat) (z : Int), vs = [.ref p] ∧ H p = some (.ins C dx (rF a i)) ∧ SqL K H a (IL ns) ∧ ns[i]? = some z ∧ Q (.int z) (upd H p (.ins C dx (rF a (i + 1))))
theorem sq_upd {K : PySem.W.Frag} {H : Hp} {p a C dx : Addr} {fs fs' : List (Str × V)} {xs : List V} (hp : H p = some (.ins C dx fs)) (hS : SqL K H a xs) : SqL K (upd H p (.ins C dx fs')) a xs := by
  rcases hS with (h | ⟨o, h⟩) | h
  · exact .inl (.inl (by rw [upd_ne (ne_of h hp (by intro z; cases z))]; exact h))
  · exact .inl (.inr ⟨o, by rw [upd_ne (ne_of h hp (by intro z; cases z))]; exact h⟩)
  · exact .inr h
theorem ok_Reader_number {f : Addr} {fd : FuncData} (F : Fun K "number" "Reader.number" s_Reader_number f fd) (R : RTxt K C) : FnOk P w K mg base CX0 1 f fd ["self"] (sp_Reader_number K C) := by
  refine F.ok sc_Reader_number (fun vs H Q E h => ?_) (fun cdv A outer s H vs Q E hr h => ?_)
  · obtain ⟨p, dx, a, ns, i, z, rfl, _⟩ := h
    rfl
  · obtain ⟨p, dx, a, ns, i, z, rfl, hp, hS, hz, q⟩ := h
    refine ⟨_, (pss_cons (ps_fldaug (pv 0) pe_int in_add)
      (pss_one (ps_ret (pe_ix ix_list (pe_fld (pv 0) rfl) (pe_op op_sub (pe_fld (pv 0) rfl) pe_int) (fun _ _ => rfl))))), ?_⟩
    refine ⟨_, rfl, p, C, dx, _, _, rfl, hp, R.cl, R.nA, rF_at a i, _, _, rfl, rfl, dx, _, hp, (by show 2 < 1000; decide), ?_⟩
    rw [rF_put a i ((i : Int) + 1) (i + 1) (by omega)]
    refine ⟨_, rfl, p, C, dx, _, _, rfl, upd_same, R.cl, R.nN, rF_numbers a _, _, rfl, p, C, dx, _, _, rfl, upd_same, R.cl, R.nA, rF_at a _, _, _, rfl, rfl, a, _, _, _, rfl, rfl, sq_upd hp hS, at_il hz (by omega), q⟩
abbrev s_Reader_row : Stmt := inClass (top 41) 3
abbrev N_Reader_row : List Str := ["self", "size", "start"]
theorem sc_Reader_row : FnScope N_Reader_row ["self"] (defScope s_Reader_row) := ⟨rfl, rfl, rfl, by decide +kernel, rfl, by decide +kernel, by decide +kernel⟩
def sp_Reader_row (K : PySem.W.Frag) (C : Addr) : Sp := fun vs H Q _ => ∃ (p dx a : Addr) (ns : List Int) (i : Nat) (x t : List Int), vs = [.ref p] ∧ H p = some (.ins C dx (rF a i)) ∧ SqL K H a (IL ns) ∧ ns.drop i = rowed x t ∧
  ∀ l, H l = none → Q (.ref l) (upd (upd H p (.ins C dx (rF a (i + 1 + x.length)))) l (.lst (IL x)))
theorem drop_head {ns : List Int} {i : Nat} {z : Int} {r : List Int} (h : ns.drop i = z :: r) : ns[i]? = some z ∧ ns.drop (i + 1) = r := by
  refine ⟨?_, ?_⟩
  · have := congrArg (fun l => l[0]?) h
    simp only [List.getElem?_drop, List.getElem?_cons_zero, Nat.add_zero] at this
    exact this
  · rw [← List.drop_drop, h]
    rfl
theorem ok_Reader_row {f : Addr} {fd : FuncData} (F : Fun K "row" "Reader.row" s_Reader_row f fd) (R : RTxt K C) (D_Reader_number : MethOk P w K mg base 1 C "number" ["self"] (sp_Reader_number K C)) : FnOk P w K mg base CX0 2 f fd ["self"] (sp_Reader_row K C) := by
  refine F.ok sc_Reader_row (fun vs H Q E h => ?_) (fun cdv A outer s H vs Q E hr h => ?_)
  · obtain ⟨p, dx, a, ns, i, x, t, rfl, _⟩ := h
    rfl
  · obtain ⟨p, dx, a, ns, i, x, t, rfl, hp, hS, hd, q⟩ := h
    obtain ⟨h1, h2⟩ := drop_head (z := (x.length : Int)) (r := x ++ t) hd
    refine ⟨_, (pss_cons (ps_set (i := 1) sc_Reader_row.nd rfl (Or.inl rfl) (pe_me0 (pv 0) D_Reader_number (hr.mono (by decide))))
      (pss_cons (ps_set (i := 2) sc_Reader_row.nd rfl (Or.inl rfl) (pe_fld (pv 0) rfl))
      (pss_cons (ps_fldaug (pv 0) (pv 1) in_add)
      (pss_one (ps_ret (pe_slice sl_list (pe_fld (pv 0) rfl) (po_some (pv 2)) (po_some (pe_fld (pv 0) rfl)))))))), ?_⟩
    refine ⟨_, rfl, p, dx, _, rfl, hp, rF_no a i (by decide +kernel) (by decide +kernel), p, dx, a, ns, i, (x.length : Int), rfl, hp, hS, h1, ?_⟩
    refine ⟨_, rfl, p, C, dx, _, _, rfl, upd_same, R.cl, R.nA, rF_at a _, ?_⟩
    refine ⟨_, rfl, p, C, dx, _, _, rfl, upd_same, R.cl, R.nA, rF_at a _, _, rfl, _, _, rfl, rfl, dx, _, upd_same, (by show 2 < 1000; decide), ?_⟩
    rw [rF_put a (i + 1) _ (i + 1 + x.length) (by omega), upd_upd]
    refine ⟨_, rfl, p, C, dx, _, _, rfl, upd_same, R.cl, R.nN, rF_numbers a _, _, rfl, ((i + 1 : Nat) : Int), rfl, _, rfl, p, C, dx, _, _, rfl, upd_same, R.cl, R.nA, rF_at a _, _, rfl, a, _, rfl, sq_upd hp hS, fun l hl => ?_⟩
    rw [cut_row h2]
    refine q l ?_
    by_cases e : l = p
    · subst e
      rw [upd_same] at hl
      cases hl
    · rw [upd_ne e] at hl
      exact hl
/-! ### changes that are refused -/
abbrev s_wrong_change : Stmt := top 31
abbrev N_wrong_change : List Str := ["change", "form"]
theorem sc_wrong_change : FnScope N_wrong_change ["change"] (defScope s_wrong_change) := ⟨rfl, rfl, rfl, by decide +kernel, rfl, by decide +kernel, by decide +kernel⟩
def sp_wrong_change (K : PySem.W.Frag) : Sp := fun vs H Q _ => ∃ (a : Addr) (c : Change), vs = [.ref a] ∧ SqL K H a (IL (crow c)) ∧ (crow c).length ≤ 5000 ∧ ∀ H', Same H H' → Q (.bl (!Ge01.changeOk c)) H'
theorem partOk_bad (k v : Nat) : (decide (15 < (k : Int)) || decide (9999 < (v : Int))) = !Ge01.partOk (k, v) := by
  cases e : Ge01.partOk (k, v) with
  | true =>
    have := (partOk_iff k v).mp e
    rw [decide_eq_false (by omega), decide_eq_false (by omega)]
    rfl
  | false =>
    have := fun h => Bool.false_ne_true (e.symm.trans ((partOk_iff k v).mpr h))
    by_cases c : k ≤ 15
    · rw [decide_eq_false (by omega), decide_eq_true (by have h9 : ¬ v ≤ 9999 := fun z => this ⟨c, z⟩; omega)]
      rfl
    · rw [decide_eq_true (by omega)]
      rfl
theorem ok_wrong_change {f : Addr} {fd : FuncData} (F : Fun K "wrong_change" "wrong_change" s_wrong_change f fd) (T : Con mg) (D_wrong_part : DefOk P w K mg base 1 "wrong_part" ["kind", "value"] sp_wrong_part)
    (D_wrong_parts : DefOk P w K mg base 2 "wrong_parts" ["parts"] (sp_wrong_parts K)) : FnOk P w K mg base CX0 3 f fd ["change"] (sp_wrong_change K) := by
  refine F.ok sc_wrong_change (fun vs H Q E h => ?_) (fun cdv A outer s H vs Q E hr h => ?_)
  · obtain ⟨a, c, rfl, _⟩ := h
    rfl
  · obtain ⟨a, c, rfl, hS, hl, q⟩ := h
    refine ⟨_, (pss_cons (ps_set (i := 1) sc_wrong_change.nd rfl (Or.inl rfl) (pe_ix ix_list (pv 0) pe_int (fun _ _ => rfl)))
      (pss_cons (ps_if (pt_cmpR op_eq (pv 1) (pe_gc T.LATER_MADE) (nomark _)) (pss_one (ps_ret (pe_fn D_wrong_parts (hr.mono (by decide)) (pa_cons (pe_slice sl_list (pv 0) (po_some pe_int) po_none) pa_nil)))) pss_nil)
      (pss_cons (ps_if (pt_cmpR op_eq (pv 1) (pe_gc T.LATER_PUT) (nomark _)) (pss_one (ps_ret (pe_fn D_wrong_part (hr.mono (by decide)) (pa_cons (pe_ix ix_list (pv 0) pe_int (fun _ _ => rfl)) (pa_cons (pe_ix ix_list (pv 0) pe_int (fun _ _ => rfl)) pa_nil))))) pss_nil)
      (pss_cons (ps_if (pt_cmpR op_eq (pv 1) (pe_gc T.LATER_TAKEN) (nomark _)) (pss_one (ps_ret (pe_cmpR op_gt (pe_ix ix_list (pv 0) pe_int (fun _ _ => rfl)) (pe_gc T.HIGHEST_KIND) (nomark _)))) pss_nil)
      (pss_cons (ps_if (pt_cmpR op_eq (pv 1) (pe_gc T.LATER_PUT_BY_WORD) (nomark _)) (pss_one (ps_ret (pe_fn D_wrong_part (hr.mono (by decide)) (pa_cons (pe_ix ix_list (pv 0) pe_int (fun _ _ => rfl)) (pa_cons (pe_ix ix_list (pv 0) pe_int (fun _ _ => rfl)) pa_nil))))) pss_nil)
      (pss_one (ps_ret pe_bl))))))), ?_⟩
    have ix : ∀ {n : Nat} {z : Int}, (crow c)[n]? = some z → atI (IL (crow c)) (n : Int) = some (V.int z) := fun h => at_il h rfl
    cases c with
    | make d p =>
      refine ⟨_, rfl, a, _, _, _, rfl, rfl, hS, ix (n := 0) rfl, ?_⟩
      refine ⟨_, rfl, rfl, _, rfl, iteT ?_⟩
      refine ⟨_, rfl, 2, rfl, a, _, rfl, hS, fun l hl' => ?_⟩
      have e : cutV (IL (crow (.make d p))) (some 2) none = IL (flat p) := cut_from (i := 2)
      rw [e]
      have z : (crow (.make d p)).length = 2 * p.length + 2 := by
        show (flat p).length + 1 + 1 = _
        rw [flat_len]
      exact ⟨l, p, rfl, SqL.of upd_same, by omega, q _ fun b o h => by rw [upd_ne (ne_of_none h hl')]; exact h⟩
    | gone n =>
      refine ⟨_, rfl, a, _, _, _, rfl, rfl, hS, ix (n := 0) rfl, ?_⟩
      refine ⟨_, rfl, rfl, _, rfl, iteF ?_⟩
      refine ⟨_, rfl, rfl, _, rfl, iteF ?_⟩
      refine ⟨_, rfl, rfl, _, rfl, iteF ?_⟩
      refine ⟨_, rfl, rfl, _, rfl, iteF ?_⟩
      exact q H (Same.refl H)
    | put n k v =>
      refine ⟨_, rfl, a, _, _, _, rfl, rfl, hS, ix (n := 0) rfl, ?_⟩
      refine ⟨_, rfl, rfl, _, rfl, iteF ?_⟩
      refine ⟨_, rfl, rfl, _, rfl, iteT ?_⟩
      refine ⟨_, rfl, a, _, _, _, rfl, rfl, hS, ix (n := 3) rfl, _, rfl, a, _, _, _, rfl, rfl, hS, ix (n := 4) rfl, k, v, rfl, ?_⟩
      rw [partOk_bad]
      exact q H (Same.refl H)
    | take n k =>
      refine ⟨_, rfl, a, _, _, _, rfl, rfl, hS, ix (n := 0) rfl, ?_⟩
      refine ⟨_, rfl, rfl, _, rfl, iteF ?_⟩
      refine ⟨_, rfl, rfl, _, rfl, iteF ?_⟩
      refine ⟨_, rfl, rfl, _, rfl, iteT ?_⟩
      refine ⟨_, rfl, a, _, _, _, rfl, rfl, hS, ix (n := 3) rfl, _, _, rfl, rfl, ?_⟩
      have e : decide ((15 : Int) < (k : Int)) = !Ge01.changeOk (.take n k) := by
        show _ = !decide (k ≤ 15)
        by_cases c : k ≤ 15
        · rw [decide_eq_true c, decide_eq_false (by omega)]
          rfl
        · rw [decide_eq_false c, decide_eq_true (by omega)]
          rfl
      show Q (.bl (decide ((15 : Int) < (k : Int)))) H
      rw [e]
      exact q H (Same.refl H)
    | putNew d k v =>
      refine ⟨_, rfl, a, _, _, _, rfl, rfl, hS, ix (n := 0) rfl, ?_⟩
      refine ⟨_, rfl, rfl, _, rfl, iteF ?_⟩
      refine ⟨_, rfl, rfl, _, rfl, iteF ?_⟩
      refine ⟨_, rfl, rfl, _, rfl, iteF ?_⟩
      refine ⟨_, rfl, rfl, _, rfl, iteT ?_⟩
      refine ⟨_, rfl, a, _, _, _, rfl, rfl, hS, ix (n := 2) rfl, _, rfl, a, _, _, _, rfl, rfl, hS, ix (n := 3) rfl, k, v, rfl, ?_⟩
      rw [partOk_bad]
      exact q H (Same.refl H)
    | goneNew d =>
      refine ⟨_, rfl, a, _, _, _, rfl, rfl, hS, ix (n := 0) rfl, ?_⟩
      refine ⟨_, rfl, rfl, _, rfl, iteF ?_⟩
      refine ⟨_, rfl, rfl, _, rfl, iteF ?_⟩
      refine ⟨_, rfl, rfl, _, rfl, iteF ?_⟩
      refine ⟨_, rfl, rfl, _, rfl, iteF ?_⟩
      exact q H (Same.refl H)
end
end Pw

namespace Pw
open L2 PySem PySem.Spec PyProof.Rows
open Ge01 (Part Name Change Question)
/-! ### the world in the heap -/
structure Lay where
  p : Addr
  dx : Addr
  ha : Addr
  ta : Addr
  ds : List (Option Addr)
def oV : Option Addr → V
  | none => .non
  | some a => .ref a
def wF (L : Lay) : List (Str × V) := [("held", .ref L.ha), ("turns", .ref L.ta)]
theorem wF_held (L : Lay) : (wF L).lookup ("held" : Str) = some (.ref L.ha) := lk_here
theorem wF_turns (L : Lay) : (wF L).lookup ("turns" : Str) = some (.ref L.ta) := (lk_past (by decide +kernel)).trans lk_here
theorem wF_no (L : Lay) {m : Str} (h1 : (m == ("held" : Str)) = false) (h2 : (m == ("turns" : Str)) = false) : (wF L).lookup m = none := (lk_past h1).trans ((lk_past h2).trans rfl)
structure WTxt (K : PySem.W.Frag) (C : Addr) : Prop where
  cl : Cls K C
  nH : NoAttr K C "held"
  nT : NoAttr K C "turns"
/-- what stands at a place -/
def SlotIs (H : Hp) : Option (Option Addr) → Option (Option (List Part)) → Prop
  | none, none => True
  | some none, some none => True
  | some (some a), some (some ps) => ∃ kvs, H a = some (.dK kvs) ∧ DictIs kvs ps
  | _, _ => False
theorem SlotIs.mono {H H' : Hp} {x : Option (Option Addr)} {y : Option (Option (List Part))} (s : SlotIs H x y) (h : ∀ a o, x = some (some a) → H a = some o → H' a = some o) : SlotIs H' x y := by
  match x, y, s with
  | none, none, _ => exact True.intro
  | some none, some none, _ => exact True.intro
  | some (some a), some (some ps), ⟨kvs, e, d⟩ => exact ⟨kvs, h a _ rfl e, d⟩
structure WAt (C : Addr) (H : Hp) (L : Lay) (m : M) : Prop where
  ob : H L.p = some (.ins C L.dx (wF L))
  hd : H L.ha = some (.lst (L.ds.map oV))
  tu : H L.ta = some (.lst (IL (up m.turns)))
  n1 : L.ha ≠ L.ta
  dd : ∀ i : Nat, SlotIs H L.ds[i]? m.held[i]?
  nd : ∀ (i j : Nat) (a : Addr), L.ds[i]? = some (some a) → L.ds[j]? = some (some a) → i = j
  ln : m.held.length = m.turns.length
  gd : m.Good
/-- what belongs to the world -/
def Fp (L : Lay) (q : Addr) : Prop := q = L.p ∨ q = L.ha ∨ q = L.ta ∨ ∃ i : Nat, L.ds[i]? = some (some q)
/-- all else stands, and the world takes nothing that was another's -/
structure Fr (H : Hp) (L : Lay) (H' : Hp) (L' : Lay) : Prop where
  kp : ∀ q o, H q = some o → ¬ Fp L q → H' q = some o
  nw : ∀ q, Fp L' q → Fp L q ∨ H q = none
  pe : L'.p = L.p
  tr : ∀ q, H' q = none → H q = none
theorem upd_none {H : Hp} {a q : Addr} {o : HO} (h : upd H a o q = none) : H q = none := by
  by_cases e : q = a
  · rw [e, upd_same] at h
    cases h
  · rw [upd_ne e] at h
    exact h
theorem Fr.refl (H : Hp) (L : Lay) : Fr H L H L := ⟨fun _ _ h _ => h, fun _ h => .inl h, rfl, fun _ h => h⟩
theorem Fr.same {H H' : Hp} (s : Same H H') (L : Lay) : Fr H L H' L := ⟨fun q o h _ => s q o h, fun _ h => .inl h, rfl, fun _ h => s.free h⟩
theorem Fr.out {H H' : Hp} {L L' : Lay} (f : Fr H L H' L') {q : Addr} {o : HO} (h : H q = some o) (n : ¬ Fp L q) : H' q = some o ∧ ¬ Fp L' q := by
  refine ⟨f.kp q o h n, fun z => ?_⟩
  rcases f.nw q z with z | z
  · exact n z
  · rw [h] at z
    cases z
theorem Fr.trans {H H1 H2 : Hp} {L L1 L2 : Lay} (a : Fr H L H1 L1) (b : Fr H1 L1 H2 L2) : Fr H L H2 L2 := by
  refine ⟨fun q o h n => ?_, fun q z => ?_, b.pe.trans a.pe, fun q z => a.tr q (b.tr q z)⟩
  · obtain ⟨h1, n1⟩ := a.out h n
    exact b.kp q o h1 n1
  · rcases b.nw q z with z | z
    · exact a.nw q z
    · exact .inr (a.tr q z)
/-- the same, then something new beside -/
theorem Fr.after {H H1 H2 : Hp} {L L1 : Lay} (a : Fr H L H1 L1) (s : Same H1 H2) : Fr H L H2 L1 := a.trans (Fr.same s L1)
theorem Fr.before {H H1 H2 : Hp} {L L2 : Lay} (s : Same H H1) (b : Fr H1 L H2 L2) : Fr H L H2 L2 := (Fr.same s L).trans b
theorem Same.new {H : Hp} {p : Addr} {o : HO} (h : H p = none) : Same H (upd H p o) := fun a u e => by
  rw [upd_ne (ne_of_none e h)]
  exact e
section
variable {C : Addr} {H H' : Hp} {L : Lay} {m : M}
theorem WAt.same (W : WAt C H L m) (s : Same H H') : WAt C H' L m :=
  ⟨s _ _ W.ob, s _ _ W.hd, s _ _ W.tu, W.n1, fun i => (W.dd i).mono fun a o _ h => s a o h, W.nd, W.ln, W.gd⟩
theorem WAt.len (W : WAt C H L m) : L.ds.length = m.held.length := by
  rcases Nat.lt_trichotomy L.ds.length m.held.length with h | h | h
  · have := W.dd L.ds.length
    rw [List.getElem?_eq_none (Nat.le_refl _), List.getElem?_eq_getElem h] at this
    exact this.elim
  · exact h
  · have := W.dd m.held.length
    rw [List.getElem?_eq_none (Nat.le_refl m.held.length), List.getElem?_eq_getElem h] at this
    cases e : L.ds[m.held.length] with
    | none =>
      rw [e] at this
      exact this.elim
    | some a =>
      rw [e] at this
      exact this.elim
theorem slot_ds {x : Option (Option Addr)} {ps : List Part} (s : SlotIs H x (some (some ps))) : ∃ a kvs, x = some (some a) ∧ H a = some (.dK kvs) ∧ DictIs kvs ps := by
  match x, s with
  | some (some a), ⟨kvs, e, d⟩ => exact ⟨a, kvs, rfl, e, d⟩
theorem slot_none {x : Option (Option Addr)} (s : SlotIs H x (some none)) : x = some none := by
  match x, s with
  | some none, _ => rfl
theorem SlotIs.dict {a : Addr} {y : Option (Option (List Part))} (s : SlotIs H (some (some a)) y) : ∃ kvs, H a = some (.dK kvs) := by
  match y, s with
  | some (some ps), ⟨kvs, e, _⟩ => exact ⟨kvs, e⟩
theorem WAt.isDict (W : WAt C H L m) {i : Nat} {d : Addr} (e : L.ds[i]? = some (some d)) : ∃ kvs, H d = some (.dK kvs) := by
  have s := W.dd i
  rw [e] at s
  exact s.dict
/-- the dict of a thing that lives -/
theorem WAt.dict (W : WAt C H L m) {a b : Nat} {ps : List Part} (h : m.slot a b = some ps) : ∃ d kvs, L.ds[a]? = some (some d) ∧ H d = some (.dK kvs) ∧ DictIs kvs ps ∧ (L.ds.map oV)[a]? = some (V.ref d) := by
  have s := W.dd a
  rw [(slot_some h).1] at s
  obtain ⟨d, kvs, e1, e2, e3⟩ := slot_ds s
  exact ⟨d, kvs, e1, e2, e3, by rw [List.getElem?_map, e1]; rfl⟩
/-- a thing's dict changed -/
theorem WAt.setDict (W : WAt C H L m) {a : Nat} {d : Addr} {kvs kvs' : List (Key × V)} {ps ps' : List Part} (e : L.ds[a]? = some (some d)) (hd : H d = some (.dK kvs)) (hh : m.held[a]? = some (some ps)) (dk : DictIs kvs' ps') (g : Pw.Good ps') :
    WAt C (upd H d (.dK kvs')) L (m.to a ps') ∧ Fr H L (upd H d (.dK kvs')) L := by
  have out : ∀ {q : Addr} {o : HO}, H q = some o → (∀ k, o ≠ .dK k) → (upd H d (.dK kvs')) q = some o := fun {q o} h n => by
    rw [upd_ne (fun z => by rw [z, hd] at h; cases h; exact n _ rfl)]
    exact h
  refine ⟨⟨out W.ob (by intro k z; cases z), out W.hd (by intro k z; cases z), out W.tu (by intro k z; cases z), W.n1, fun i => ?_, W.nd, ?_, good_to W.gd g a⟩, ⟨fun q o h n => ?_, fun q z => .inl z, rfl, fun q z => upd_none z⟩⟩
  · show SlotIs _ L.ds[i]? (m.held.set a (some ps'))[i]?
    by_cases c : a = i
    · subst c
      have hl := (List.getElem?_eq_some_iff.mp hh).1
      rw [e, List.getElem?_set_self hl]
      exact ⟨kvs', upd_same, dk⟩
    · rw [List.getElem?_set_ne c]
      refine (W.dd i).mono fun b o eb h => ?_
      rw [upd_ne (fun z => c (W.nd a i d e (by rw [← z]; exact eb)))]
      exact h
  · show (m.held.set a _).length = m.turns.length
    rw [List.length_set]
    exact W.ln
  · rw [upd_ne (fun z => n (.inr (.inr (.inr ⟨a, by rw [z]; exact e⟩))))]
    exact h
theorem map_set_oV (ds : List (Option Addr)) (a : Nat) (x : Option Addr) : (ds.map oV).set a (oV x) = (ds.set a x).map oV := by rw [List.map_set]
/-- a place emptied, its turn one more -/
theorem WAt.setGone (W : WAt C H L m) {a b : Nat} {ps : List Part} (h : m.slot a b = some ps) :
    WAt C (upd (upd H L.ha (.lst ((L.ds.map oV).set a .non))) L.ta (.lst ((IL (up m.turns)).set a (.int ((b : Int) + 1))))) { L with ds := L.ds.set a none } (m.gone a b) ∧
    Fr H L (upd (upd H L.ha (.lst ((L.ds.map oV).set a .non))) L.ta (.lst ((IL (up m.turns)).set a (.int ((b : Int) + 1))))) { L with ds := L.ds.set a none } := by
  obtain ⟨h1, h2⟩ := slot_some h
  have out : ∀ {q : Addr} {o : HO}, H q = some o → q ≠ L.ha → q ≠ L.ta → (upd (upd H L.ha (.lst ((L.ds.map oV).set a .non))) L.ta (.lst ((IL (up m.turns)).set a (.int ((b : Int) + 1))))) q = some o := fun {q o} h n1 n2 => by
    rw [upd_ne n2, upd_ne n1]
    exact h
  have lst : ∀ {q : Addr} {o : HO}, H q = some o → (∀ k, o ≠ .lst k) → q ≠ L.ha ∧ q ≠ L.ta := fun {q o} h n =>
    ⟨fun z => by rw [z, W.hd] at h; cases h; exact n _ rfl, fun z => by rw [z, W.tu] at h; cases h; exact n _ rfl⟩
  refine ⟨⟨?_, ?_, ?_, W.n1, fun i => ?_, ?_, ?_, good_gone W.gd a b⟩, ⟨fun q o h n => ?_, fun q z => ?_, rfl, fun q z => upd_none (upd_none z)⟩⟩
  · obtain ⟨z1, z2⟩ := lst W.ob (by intro k z; cases z)
    exact out W.ob z1 z2
  · show upd _ L.ta _ L.ha = _
    rw [upd_ne W.n1, upd_same]
    exact congrArg (fun l => some (HO.lst l)) (map_set_oV L.ds a none)
  · show upd _ L.ta _ L.ta = _
    rw [upd_same]
    refine congrArg (fun l => some (HO.lst l)) ?_
    show _ = ((m.turns.set a (b + 1)).map _).map _
    rw [List.map_set, List.map_set]
    rfl
  · show SlotIs _ (L.ds.set a none)[i]? (m.held.set a none)[i]?
    have hl := W.len
    have hl2 := (List.getElem?_eq_some_iff.mp h1).1
    by_cases c : a = i
    · subst c
      rw [List.getElem?_set_self hl2, List.getElem?_set_self (by omega)]
      exact True.intro
    · rw [List.getElem?_set_ne c, List.getElem?_set_ne c]
      refine (W.dd i).mono fun d o e h => ?_
      obtain ⟨kvs, e2⟩ := W.isDict e
      obtain ⟨z1, z2⟩ := lst e2 (by intro k z; cases z)
      exact out h z1 z2
  · intro i j d e1 e2
    have back : ∀ {i : Nat}, (L.ds.set a none)[i]? = some (some d) → L.ds[i]? = some (some d) := fun {i} e => by
      rw [List.getElem?_set] at e
      split at e
      · split at e <;> cases e
      · exact e
    exact W.nd i j d (back e1) (back e2)
  · show (m.held.set a _).length = (m.turns.set a _).length
    rw [List.length_set, List.length_set]
    exact W.ln
  · exact out h (fun z => n (.inr (.inl z))) (fun z => n (.inr (.inr (.inl z))))
  · rcases z with z | z | z | ⟨i, z⟩
    · exact .inl (.inl z)
    · exact .inl (.inr (.inl z))
    · exact .inl (.inr (.inr (.inl z)))
    · have z' : (L.ds.set a none)[i]? = some (some q) := z
      rw [List.getElem?_set] at z'
      split at z'
      · split at z' <;> cases z'
      · exact .inl (.inr (.inr (.inr ⟨i, z'⟩)))
end
end Pw

namespace Pw
open L2 PySem PySem.Spec PyProof.Rows
open Ge01 (Part Name Change Question)
section
variable {C : Addr} {H H' : Hp} {L : Lay} {m : M}
theorem Fp.p (L : Lay) : Fp L L.p := .inl rfl
theorem Fp.ha (L : Lay) : Fp L L.ha := .inr (.inl rfl)
theorem Fp.ta (L : Lay) : Fp L L.ta := .inr (.inr (.inl rfl))
theorem Fp.ds {L : Lay} {i : Nat} {q : Addr} (h : L.ds[i]? = some (some q)) : Fp L q := .inr (.inr (.inr ⟨i, h⟩))
/-- what belongs to the world is tracked -/
theorem WAt.has (W : WAt C H L m) {q : Addr} (f : Fp L q) : ∃ o, H q = some o := by
  rcases f with rfl | rfl | rfl | ⟨i, e⟩
  · exact ⟨_, W.ob⟩
  · exact ⟨_, W.hd⟩
  · exact ⟨_, W.tu⟩
  · obtain ⟨k, e⟩ := W.isDict e
    exact ⟨_, e⟩
theorem WAt.no (W : WAt C H L m) {q : Addr} (h : H q = none) : ¬ Fp L q := fun f => by
  obtain ⟨o, e⟩ := W.has f
  rw [h] at e
  cases e
/-- one place more -/
theorem WAt.grow (W : WAt C H L m) :
    WAt C (upd (upd H L.ha (.lst (L.ds.map oV ++ [.non]))) L.ta (.lst (IL (up m.turns) ++ [.int 0]))) { L with ds := L.ds ++ [none] } ⟨m.held ++ [none], m.turns ++ [0]⟩ ∧
    Fr H L (upd (upd H L.ha (.lst (L.ds.map oV ++ [.non]))) L.ta (.lst (IL (up m.turns) ++ [.int 0]))) { L with ds := L.ds ++ [none] } := by
  have out : ∀ {q : Addr} {o : HO}, H q = some o → q ≠ L.ha → q ≠ L.ta → (upd (upd H L.ha (.lst (L.ds.map oV ++ [.non]))) L.ta (.lst (IL (up m.turns) ++ [.int 0]))) q = some o := fun {q o} h n1 n2 => by
    rw [upd_ne n2, upd_ne n1]
    exact h
  have lst : ∀ {q : Addr} {o : HO}, H q = some o → (∀ k, o ≠ .lst k) → q ≠ L.ha ∧ q ≠ L.ta := fun {q o} h n =>
    ⟨fun z => by rw [z, W.hd] at h; cases h; exact n _ rfl, fun z => by rw [z, W.tu] at h; cases h; exact n _ rfl⟩
  have back : ∀ {i : Nat} {d : Addr}, (L.ds ++ [none])[i]? = some (some d) → L.ds[i]? = some (some d) := fun {i d} e => by
    rw [List.getElem?_append] at e
    split at e
    · exact e
    · have := List.mem_of_getElem? e
      simp at this
  refine ⟨⟨?_, ?_, ?_, W.n1, fun i => ?_, ?_, ?_, ?_⟩, ⟨fun q o h n => ?_, fun q z => ?_, rfl, fun q z => upd_none (upd_none z)⟩⟩
  · obtain ⟨z1, z2⟩ := lst W.ob (by intro k z; cases z)
    exact out W.ob z1 z2
  · show upd _ L.ta _ L.ha = _
    rw [upd_ne W.n1, upd_same, List.map_append]
    rfl
  · show upd _ L.ta _ L.ta = _
    rw [upd_same]
    refine congrArg (fun l => some (HO.lst l)) ?_
    show _ = ((m.turns ++ [0]).map _).map _
    rw [List.map_append, List.map_append]
    rfl
  · show SlotIs _ (L.ds ++ [none])[i]? (m.held ++ [none])[i]?
    have hl := W.len
    rw [List.getElem?_append, List.getElem?_append, hl]
    split
    · refine (W.dd i).mono fun d o e h => ?_
      obtain ⟨kvs, e2⟩ := W.isDict e
      obtain ⟨z1, z2⟩ := lst e2 (by intro k z; cases z)
      exact out h z1 z2
    · cases i - m.held.length with
      | zero => exact True.intro
      | succ n => exact True.intro
  · intro i j d e1 e2
    exact W.nd i j d (back e1) (back e2)
  · show (m.held ++ [none]).length = (m.turns ++ [0]).length
    rw [List.length_append, List.length_append, W.ln]
    rfl
  · intro i p e
    have e' : (m.held ++ [none])[i]? = some (some p) := e
    rw [List.getElem?_append] at e'
    split at e'
    · exact W.gd i p e'
    · have := List.mem_of_getElem? e'
      simp at this
  · exact out h (fun z => n (z ▸ Fp.ha L)) (fun z => n (z ▸ Fp.ta L))
  · rcases z with z | z | z | ⟨i, z⟩
    · exact .inl (z ▸ Fp.p L)
    · exact .inl (z ▸ Fp.ha L)
    · exact .inl (z ▸ Fp.ta L)
    · exact .inl (.ds (back z))
/-- an empty place filled -/
theorem WAt.fill (W : WAt C H L m) {f : Nat} {d : Addr} {kvs : List (Key × V)} {ps : List Part} (hf : m.held[f]? = some none) (hd : H d = some (.dK kvs)) (dk : DictIs kvs ps) (g : Pw.Good ps) (nf : ¬ Fp L d) :
    WAt C (upd H L.ha (.lst ((L.ds.map oV).set f (.ref d)))) { L with ds := L.ds.set f (some d) } ⟨m.held.set f (some ps), m.turns⟩ ∧
    (∀ q o, H q = some o → q ≠ L.ha → (upd H L.ha (.lst ((L.ds.map oV).set f (.ref d)))) q = some o) ∧ ∀ q, Fp { L with ds := L.ds.set f (some d) } q → Fp L q ∨ q = d := by
  have out : ∀ {q : Addr} {o : HO}, H q = some o → q ≠ L.ha → (upd H L.ha (.lst ((L.ds.map oV).set f (.ref d)))) q = some o := fun {q o} h n1 => by
    rw [upd_ne n1]
    exact h
  have lst : ∀ {q : Addr} {o : HO}, H q = some o → (∀ k, o ≠ .lst k) → q ≠ L.ha := fun {q o} h n z => by rw [z, W.hd] at h; cases h; exact n _ rfl
  have hl := W.len
  have hl2 := (List.getElem?_eq_some_iff.mp hf).1
  have back : ∀ {i : Nat} {q : Addr}, (L.ds.set f (some d))[i]? = some (some q) → (i = f ∧ q = d) ∨ (i ≠ f ∧ L.ds[i]? = some (some q)) := fun {i q} e => by
    rw [List.getElem?_set] at e
    split at e
    · rename_i c
      split at e
      · cases e
        exact .inl ⟨c.symm, rfl⟩
      · cases e
    · rename_i c
      exact .inr ⟨fun z => c z.symm, e⟩
  refine ⟨⟨out W.ob (lst W.ob (by intro k z; cases z)), ?_, out W.tu (fun z => W.n1 z.symm), W.n1, fun i => ?_, ?_, ?_, good_to W.gd g f⟩, fun q o h n => out h n, fun q z => ?_⟩
  · show upd _ L.ha _ L.ha = _
    rw [upd_same]
    exact congrArg (fun l => some (HO.lst l)) (map_set_oV L.ds f (some d))
  · show SlotIs _ (L.ds.set f (some d))[i]? (m.held.set f (some ps))[i]?
    by_cases c : f = i
    · subst c
      rw [List.getElem?_set_self hl2, List.getElem?_set_self (by omega)]
      exact ⟨kvs, out hd (lst hd (by intro k z; cases z)), dk⟩
    · rw [List.getElem?_set_ne c, List.getElem?_set_ne c]
      refine (W.dd i).mono fun b o e h => ?_
      obtain ⟨k2, e2⟩ := W.isDict e
      exact out h (lst e2 (by intro k z; cases z))
  · intro i j q e1 e2
    rcases back e1 with ⟨a1, a2⟩ | ⟨a1, a2⟩ <;> rcases back e2 with ⟨b1, b2⟩ | ⟨b1, b2⟩
    · rw [a1, b1]
    · rw [a2] at b2
      exact absurd (.ds b2) nf
    · rw [b2] at a2
      exact absurd (.ds a2) nf
    · exact W.nd i j q a2 b2
  · show (m.held.set f _).length = m.turns.length
    rw [List.length_set]
    exact W.ln
  · rcases z with z | z | z | ⟨i, z⟩
    · exact .inl (z ▸ Fp.p L)
    · exact .inl (z ▸ Fp.ha L)
    · exact .inl (z ▸ Fp.ta L)
    · rcases back z with ⟨_, b⟩ | ⟨_, b⟩
      · exact .inr b
      · exact .inl (.ds b)
end
end Pw

namespace Pw
open L2 PySem PySem.Spec PyProof.Rows
open Ge01 (Part Name Change Question)
/-! ### what a call of the world gives back: a new list, and the world behind it -/
def Res (C : Addr) (H : Hp) (L : Lay) (m' : M) (ans : List Int) (Q : VK) : Prop :=
  ∀ (H' : Hp) (L' : Lay) (q : Addr), WAt C H' L' m' → Fr H L H' L' → H q = none → ¬ Fp L' q → H' q = some (.lst (IL ans)) → Q (.ref q) H'
theorem Res.new {C : Addr} {H H1 : Hp} {L L1 : Lay} {m' : M} {ans : List Int} {Q : VK} (R : Res C H L m' ans Q) (W : WAt C H1 L1 m') (F : Fr H L H1 L1) {q : Addr} (hn : H1 q = none) : Q (.ref q) (upd H1 q (.lst (IL ans))) :=
  R _ L1 q (W.same (Same.new hn)) (F.after (Same.new hn)) (F.tr q hn) (W.no hn) upd_same
theorem slot_out {m : M} {a b : Nat} (h : m.held.length ≤ a) : m.slot a b = none := by
  unfold M.slot slot
  rw [List.getElem?_eq_none h]
theorem slot_empty {m : M} {a b : Nat} (h : m.held[a]? = some none) : m.slot a b = none := by
  unfold M.slot slot
  rw [h]
theorem slot_at {m : M} {a b t : Nat} {p : List Part} (h : m.held[a]? = some (some p)) (e : m.turns[a]? = some t) : m.slot a b = if t = b then some p else none := by
  unfold M.slot slot
  rw [h, e]
theorem much_take {h : Hs} {i : Nat} : ∀ {x : Option (List Part)}, h[i]? = some x → much (h.take (i + 1)) = much (h.take i) + (if x.isSome then 1 else 0) := by
  induction h generalizing i with
  | nil => intro x e; simp at e
  | cons y h ih =>
    intro x e
    cases i with
    | zero =>
      have e : y = x := Option.some.inj e
      subst e
      cases y <;> simp [much]
    | succ i =>
      have := ih (i := i) (x := x) (by simpa using e)
      cases y with
      | none => simpa [much] using this
      | some p =>
        simp only [List.take_succ_cons, much]
        omega
theorem free_step_none : ∀ {h : Hs} {i : Nat}, i ≤ free h → h[i]? = some none → free h = i
  | [], i, _, e => by simp at e
  | none :: h, i, hi, e => by simp [free] at hi ⊢; omega
  | some p :: h, 0, hi, e => by simp at e
  | some p :: h, i + 1, hi, e => by
    simp only [free] at hi ⊢
    have := free_step_none (h := h) (i := i) (by omega) (by simpa using e)
    omega
theorem free_step_some : ∀ {h : Hs} {i : Nat} {p : List Part}, i ≤ free h → h[i]? = some (some p) → i + 1 ≤ free h
  | [], i, p, _, e => by simp at e
  | none :: h, 0, p, hi, e => by simp at e
  | none :: h, i + 1, p, hi, e => by simp [free] at hi
  | some q :: h, 0, p, hi, e => by simp [free]
  | some q :: h, i + 1, p, hi, e => by
    simp only [free] at hi ⊢
    have := free_step_some (h := h) (i := i) (p := p) (by omega) (by simpa using e)
    omega
section
variable {K : PySem.W.Frag} {P : Program} {w : World} {mg : Str → Option Value} {base : Heap} {C : Addr}
abbrev s_Things_lives : Stmt := inClass (top 36) 4
abbrev N_Things_lives : List Str := ["self", "place", "turn"]
theorem sc_Things_lives : FnScope N_Things_lives ["self", "place", "turn"] (defScope s_Things_lives) := ⟨rfl, rfl, rfl, by decide +kernel, rfl, by decide +kernel, by decide +kernel⟩
def sp_Things_lives (C : Addr) : Sp := fun vs H Q _ => ∃ (L : Lay) (m : M) (a b : Nat), vs = [.ref L.p, .int (a : Int), .int (b : Int)] ∧ WAt C H L m ∧ Q (.bl (m.slot a b).isSome) H
theorem ok_Things_lives {f : Addr} {fd : FuncData} (F : Fun K "lives" "Things.lives" s_Things_lives f fd) (T : Con mg) (X : WTxt K C) : FnOk P w K mg base CX0 1 f fd ["self", "place", "turn"] (sp_Things_lives C) := by
  refine F.ok sc_Things_lives (fun vs H Q E h => ?_) (fun cdv A outer s H vs Q E hr h => ?_)
  · obtain ⟨L, m, a, b, rfl, _⟩ := h
    rfl
  · obtain ⟨L, m, a, b, rfl, W, q⟩ := h
    refine ⟨_, (pss_cons (ps_if (pw_or (pt_cmpR op_ge (pv 1) (pe_callB call_len_seq (by rfl) T.len PySem.boot_len (pa_cons (pe_fld (pv 0) rfl) pa_nil)) (nomark _)) (pw_or1 (pt_cmpR op_isN (pe_ix ix_list (pe_fld (pv 0) rfl) (pv 1) (fun _ _ => rfl)) pe_non (nomark _)))).pt (pss_one (ps_ret pe_bl)) pss_nil)
      (pss_one (ps_ret (pe_cmpR op_eq (pe_ix ix_list (pe_fld (pv 0) rfl) (pv 1) (fun _ _ => rfl)) (pv 2) (nomark _))))), ?_⟩
    refine ⟨_, rfl, _, rfl, L.p, C, L.dx, _, _, rfl, W.ob, X.cl, X.nH, wF_held L, L.ha, _, rfl, .inl (SqL.of W.hd), _, _, rfl, rfl, _, rfl, ?_⟩
    rw [List.length_map, W.len]
    by_cases c : m.held.length ≤ a
    · rw [decide_eq_true (by omega)]
      rw [slot_out c] at q
      exact iteT (iteT q)
    · rw [decide_eq_false (by omega)]
      obtain ⟨x, hx⟩ : ∃ x, m.held[a]? = some x := ⟨m.held[a], List.getElem?_eq_getElem (by omega)⟩
      obtain ⟨t, ht⟩ : ∃ t, m.turns[a]? = some t := ⟨m.turns[a]'(by have := W.ln; omega), List.getElem?_eq_getElem _⟩
      have s := W.dd a
      rw [hx] at s
      refine iteF ?_
      cases x with
      | none =>
        have e := slot_none s
        rw [slot_empty hx] at q
        refine ⟨_, rfl, L.p, C, L.dx, _, _, rfl, W.ob, X.cl, X.nH, wF_held L, _, rfl, L.ha, _, _, _, rfl, rfl, SqL.of W.hd, atI_nat (v := V.non) (by rw [List.getElem?_map, e]; rfl), rfl, _, rfl, ?_⟩
        exact iteT q
      | some ps =>
        obtain ⟨d, kvs, e, _, _⟩ := slot_ds s
        rw [slot_at hx ht] at q
        refine ⟨_, rfl, L.p, C, L.dx, _, _, rfl, W.ob, X.cl, X.nH, wF_held L, _, rfl, L.ha, _, _, _, rfl, rfl, SqL.of W.hd, atI_nat (v := V.ref d) (by rw [List.getElem?_map, e]; rfl), rfl, _, rfl, ?_⟩
        refine iteF ?_
        refine ⟨_, rfl, L.p, C, L.dx, _, _, rfl, W.ob, X.cl, X.nT, wF_turns L, _, rfl, L.ta, _, _, _, rfl, rfl, SqL.of W.tu, atI_nat (il_get (z := (t : Int)) (by rw [List.getElem?_map, ht]; rfl)), _, rfl, rfl, ?_⟩
        by_cases c2 : t = b
        · subst c2
          rw [if_pos rfl] at q
          rw [decide_eq_true rfl]
          exact q
        · rw [if_neg c2] at q
          rw [decide_eq_false (fun z => c2 (by have := V.int.inj z; omega))]
          exact q
abbrev s_Things_how_many : Stmt := inClass (top 36) 1
abbrev N_Things_how_many : List Str := ["self", "parts"]
theorem sc_Things_how_many : FnScope N_Things_how_many ["self"] (defScope s_Things_how_many) := ⟨rfl, rfl, rfl, by decide +kernel, rfl, by decide +kernel, by decide +kernel⟩
def sp_Things_how_many (C : Addr) : Sp := fun vs H Q _ => ∃ (L : Lay) (m : M), vs = [.ref L.p] ∧ WAt C H L m ∧ m.held.length ≤ 1000 ∧ ∀ H', Same H H' → Q (.int (much m.held : Int)) H'
theorem ok_Things_how_many {f : Addr} {fd : FuncData} (F : Fun K "how_many" "Things.how_many" s_Things_how_many f fd) (T : Con mg) (X : WTxt K C) : FnOk P w K mg base CX0 1 f fd ["self"] (sp_Things_how_many C) := by
  refine F.ok sc_Things_how_many (fun vs H Q E h => ?_) (fun cdv A outer s H vs Q E hr h => ?_)
  · obtain ⟨L, m, rfl, _⟩ := h
    rfl
  · obtain ⟨L, m, rfl, W, hl, q⟩ := h
    refine ⟨_, (pss_one (ps_ret (pe_callB call_len_seq (by rfl) T.len PySem.boot_len (pa_cons (pe_lc (own := [("parts", 1)]) (g := gName 1) rfl sc_Things_how_many.nd (pi_list (pe_fld (pv 0) rfl)) (blkOk_by (N := N_Things_how_many) (sc := defScope s_Things_how_many) (by decide +kernel)) (fun _ _ _ _ _ => (pg_name (i := 1) sc_Things_how_many.nd rfl (Or.inl rfl))) (fun _ _ _ _ _ => pts_one (pt_cmpR op_notN (pv 1) pe_non (nomark _))) (fun _ _ _ _ _ => (pv 1))) pa_nil)))), ?_⟩
    refine ⟨_, rfl, L.p, C, L.dx, _, _, rfl, W.ob, X.cl, X.nH, wF_held L, L.ha, rfl, ⟨_, SqL.of W.hd⟩, fun D hD => ?_⟩
    have wl := W.len
    refine lc_list (K := K) (a := L.ha) (xs := L.ds.map oV) (fun i H' => ∃ acc, H' = upd H D (.lst acc) ∧ acc.length = much (m.held.take i)) ⟨[], rfl, rfl⟩ ?_ ?_ ?_
    · rintro i H' _ ⟨acc, rfl, _⟩
      exact SqL.of ((Same.new hD) _ _ W.hd)
    · rintro i x H' hi ⟨acc, rfl, ha⟩
      rw [List.getElem?_map] at hi
      cases e : L.ds[i]? with
      | none =>
        rw [e] at hi
        cases hi
      | some o =>
        rw [e] at hi
        have hi : oV o = x := Option.some.inj hi
        subst hi
        have s := W.dd i
        rw [e] at s
        refine ⟨rfl, _, rfl, rfl, _, rfl, ?_⟩
        cases hm : m.held[i]? with
        | none =>
          rw [hm] at s
          cases o with
          | none => exact s.elim
          | some d => exact s.elim
        | some y =>
          rw [hm] at s
          have mt := much_take hm
          cases o with
          | none =>
            cases y with
            | some ps => exact s.elim
            | none =>
              refine iteF ⟨acc, rfl, ?_⟩
              rw [ha, mt]
              rfl
          | some d =>
            cases y with
            | none => exact s.elim
            | some ps =>
              have hil := (List.getElem?_eq_some_iff.mp hm).1
              have := much_le_len (m.held.take i)
              rw [List.length_take] at this
              refine iteT ⟨_, rfl, acc, upd_same, small1000 (by omega), acc ++ [V.ref d], upd_upd, ?_⟩
              rw [List.length_append, ha, mt]
              rfl
    · rintro H' ⟨acc, rfl, ha⟩
      rw [List.length_map, wl, List.take_length] at ha
      refine ⟨D, acc, rfl, .inl (SqL.of upd_same), ?_⟩
      rw [ha]
      exact q _ (Same.new hD)
abbrev s_Things_free_place : Stmt := inClass (top 36) 5
abbrev N_Things_free_place : List Str := ["self", "place", "parts"]
theorem sc_Things_free_place : FnScope N_Things_free_place ["self"] (defScope s_Things_free_place) := ⟨rfl, rfl, rfl, by decide +kernel, rfl, by decide +kernel, by decide +kernel⟩
def sp_Things_free_place (C : Addr) : Sp := fun vs H Q _ => ∃ (L : Lay) (m : M), vs = [.ref L.p] ∧ WAt C H L m ∧ ∀ H', Same H H' → Q (.int (free m.held : Int)) H'
theorem ok_Things_free_place {f : Addr} {fd : FuncData} (F : Fun K "free_place" "Things.free_place" s_Things_free_place f fd) (T : Con mg) (X : WTxt K C) : FnOk P w K mg base CX0 1 f fd ["self"] (sp_Things_free_place C) := by
  refine F.ok sc_Things_free_place (fun vs H Q E h => ?_) (fun cdv A outer s H vs Q E hr h => ?_)
  · obtain ⟨L, m, rfl, _⟩ := h
    rfl
  · obtain ⟨L, m, rfl, W, q⟩ := h
    refine ⟨_, (pss_cons (ps_for PassesOwn.never rfl (pi_enum rfl T.enumerate (pa_cons (pe_fld (pv 0) rfl) pa_nil)) (pg_tup rfl (pgs_cons (pg_name (i := 1) sc_Things_free_place.nd rfl (Or.inl rfl)) (pgs_cons (pg_name (i := 2) sc_Things_free_place.nd rfl (Or.inl rfl)) pgs_nil))) (pss_one (ps_if (pt_cmpR op_isN (pv 2) pe_non (nomark _)) (pss_one (ps_ret (pv 1))) pss_nil)))
      (pss_one (ps_ret (pe_callB call_len_seq (by rfl) T.len PySem.boot_len (pa_cons (pe_fld (pv 0) rfl) pa_nil))))), ?_⟩
    have wl := W.len
    refine ⟨_, rfl, L.p, C, L.dx, _, _, rfl, W.ob, X.cl, X.nH, wF_held L, L.ha, _, rfl, SqL.of W.hd, for_it (walk_enum (K := K) (a := L.ha) (xs := L.ds.map oV)) (fun i σ H' => ∃ u v, σ = [some (.ref L.p), u, v] ∧ Same H H' ∧ i ≤ free m.held) ⟨none, none, rfl, Same.refl H, Nat.zero_le _⟩ ?_ ?_ ?_⟩
    · rintro i σ H' _ ⟨u, v, rfl, s, _⟩
      exact SqL.of (s _ _ W.hd)
    · rintro i x σ H' H2 hi ⟨u, v, rfl, s, hf⟩ ⟨T', y, z, rfl, hT, rfl, ey, ez⟩
      have ey : V.int (i : Int) = y := Option.some.inj ey
      subst ey
      have ez : (L.ds.map oV)[i]? = some z := ez
      rw [List.getElem?_map] at ez
      refine ⟨T', _, rfl, .inl (.inl upd_same), rfl, _, _, rfl, _, _, rfl, rfl, ?_⟩
      refine ⟨_, rfl, rfl, _, rfl, ?_⟩
      cases e : L.ds[i]? with
      | none =>
        rw [e] at ez
        cases ez
      | some o =>
        rw [e] at ez
        have ez : oV o = z := Option.some.inj ez
        subst ez
        have sl := W.dd i
        rw [e] at sl
        cases hm : m.held[i]? with
        | none =>
          rw [hm] at sl
          cases o with
          | none => exact sl.elim
          | some d => exact sl.elim
        | some y =>
          rw [hm] at sl
          cases o with
          | none =>
            cases y with
            | some ps => exact sl.elim
            | none =>
              refine iteT ⟨_, rfl, ?_⟩
              rw [free_step_none hf hm] at q
              exact q _ (s.trans (Same.new hT))
          | some d =>
            cases y with
            | none => exact sl.elim
            | some ps =>
              refine iteF ⟨_, _, rfl, s.trans (Same.new hT), free_step_some hf hm⟩
    · rintro σ H' ⟨u, v, rfl, s, hf⟩
      rw [List.length_map, wl] at hf
      have fl := free_le_len m.held
      have e : free m.held = m.held.length := by omega
      refine ⟨_, rfl, L.p, C, L.dx, _, _, rfl, s _ _ W.ob, X.cl, X.nH, wF_held L, L.ha, _, rfl, .inl (SqL.of (s _ _ W.hd)), ?_⟩
      rw [List.length_map, wl, ← e]
      exact q _ s
end
end Pw

namespace Pw
open L2 PySem PySem.Spec PyProof.Rows
open Ge01 (Part Name Change Question)
theorem ixN_nat {n j : Nat} (h : j < n) : ixN n (j : Int) = some j := by
  unfold ixN
  rw [if_pos (by omega), if_pos (by omega), Int.toNat_natCast]
theorem sz1 : ([V.non] : List V).length ≤ sizeLine := by decide
/-! ### what the calls answer, over the places -/
def makeR (m : M) (ps : List Part) : M × List Int := if Ge01.partsOk ps = false then (m, [-1]) else if 20 ≤ much m.held then (m, [-5]) else (m.made ps, [(m.place.place : Int), (m.place.turn : Int)])
def goneR (m : M) (a b : Nat) : M × List Int := match m.slot a b with
  | none => (m, [-2])
  | some _ => (m.gone a b, [(much (m.gone a b).held : Int)])
def putR (m : M) (a b k v : Nat) : M × List Int := if Ge01.partOk (k, v) = false then (m, [-1]) else match m.slot a b with
  | none => (m, [-2])
  | some p => (m.to a (Ge01.partsPut k v p), [0])
def takeR (m : M) (a b k : Nat) : M × List Int := match m.slot a b with
  | none => (m, [-2])
  | some p => match look p k with
    | none => (m, [-3])
    | some _ => (m.to a (p.filter fun q => q.1 != k), [0])
def getR (m : M) (a b k : Nat) : List Int := match m.slot a b with
  | none => [-2]
  | some p => match look p k with
    | none => [-3]
    | some v => [(v : Int)]
def partsR (m : M) (a b : Nat) : List Int := match m.slot a b with
  | none => [-2]
  | some p => (p.length : Int) :: flat p
def laterR (off : List Change) (c : Change) : List Change × List Int := if Ge01.changeOk c = false then (off, [-1]) else if 30 ≤ off.length then (off, [-5]) else (off ++ [c], [((off.length + 1 : Nat) : Int)])
section
variable {K : PySem.W.Frag} {P : Program} {w : World} {mg : Str → Option Value} {base : Heap} {C : Addr}
abbrev s_Things___init__ : Stmt := inClass (top 36) 0
abbrev N_Things___init__ : List Str := ["self"]
theorem sc_Things___init__ : FnScope N_Things___init__ ["self"] (defScope s_Things___init__) := ⟨rfl, rfl, rfl, by decide +kernel, rfl, by decide +kernel, by decide +kernel⟩
def sp_Things___init__ (C : Addr) : Sp := fun vs H Q _ => ∃ (p dx : Addr), vs = [.ref p] ∧ H p = some (.ins C dx []) ∧ ∀ (H' : Hp) (L : Lay), WAt C H' L M.new → L.p = p → L.dx = dx → (∀ b o, H b = some o → b ≠ p → H' b = some o) → (∀ q, Fp L q → q = p ∨ H q = none) → (∀ q, H' q = none → H q = none) → Q .non H'
theorem ok_Things___init__ {f : Addr} {fd : FuncData} (F : Fun K "__init__" "Things.__init__" s_Things___init__ f fd) (X : WTxt K C) : FnOk P w K mg base CX0 1 f fd ["self"] (sp_Things___init__ C) := by
  refine F.ok sc_Things___init__ (fun vs H Q E h => ?_) (fun cdv A outer s H vs Q E hr h => ?_)
  · obtain ⟨p, dx, rfl, _⟩ := h
    rfl
  · obtain ⟨p, dx, rfl, hp, q⟩ := h
    refine ⟨_, (pss_cons (ps_fld (pv 0) (pe_lst pa_nil) rfl)
      (pss_one (ps_fld (pv 0) (pe_lst pa_nil) rfl))), ?_⟩
    refine ⟨by decide, fun ha h1 => ?_⟩
    have np : p ≠ ha := ne_of_none hp h1
    refine ⟨_, rfl, p, C, dx, [], rfl, (by rw [upd_ne np]; exact hp), X.cl, X.nH, (by show 0 < 1000; decide), ?_⟩
    refine ⟨by decide, fun ta h2 => ?_⟩
    have np2 : p ≠ ta := ne_of_none upd_same h2
    have h2' := upd_none h2
    have n1 : ha ≠ ta := ne_of_none upd_same h2'
    refine ⟨_, rfl, p, C, dx, _, rfl, (by rw [upd_ne np2, upd_same]), X.cl, X.nT, (by show 1 < 1000; decide), ?_⟩
    have hh : H ha = none := h1
    have ht : H ta = none := upd_none h2'
    refine q _ ⟨p, dx, ha, ta, []⟩ ⟨?_, ?_, ?_, n1, fun i => ?_, fun i j a h => ?_, rfl, good_new⟩ rfl rfl (fun b o h n => ?_) (fun z f => ?_) (fun z f => ?_)
    · show upd _ p _ p = _
      rw [upd_same]
      refine congrArg (fun l => some (HO.ins C dx l)) ?_
      exact (put_past (by decide +kernel)).trans rfl
    · show upd _ p _ ha = _
      rw [upd_ne np.symm, upd_ne n1, upd_ne np.symm, upd_same]
      rfl
    · show upd _ p _ ta = _
      rw [upd_ne np2.symm, upd_same]
      rfl
    · exact True.intro
    · simp at h
    · rw [upd_ne n, upd_ne (ne_of_none h ht), upd_ne n, upd_ne (ne_of_none h hh)]
      exact h
    · rcases f with f | f | f | ⟨i, f⟩
      · exact .inl f
      · exact .inr (f ▸ hh)
      · exact .inr (f ▸ ht)
      · simp at f
    · exact upd_none (upd_none (upd_none (upd_none f)))
abbrev s_Things_gone : Stmt := inClass (top 36) 8
abbrev N_Things_gone : List Str := ["self", "place", "turn"]
theorem sc_Things_gone : FnScope N_Things_gone ["self", "place", "turn"] (defScope s_Things_gone) := ⟨rfl, rfl, rfl, by decide +kernel, rfl, by decide +kernel, by decide +kernel⟩
def sp_Things_gone (C : Addr) : Sp := fun vs H Q _ => ∃ (L : Lay) (m : M) (a b : Nat), vs = [.ref L.p, .int (a : Int), .int (b : Int)] ∧ WAt C H L m ∧ m.held.length ≤ 1000 ∧ Res C H L (goneR m a b).1 (goneR m a b).2 Q
theorem ok_Things_gone {f : Addr} {fd : FuncData} (F : Fun K "gone" "Things.gone" s_Things_gone f fd) (T : Con mg) (X : WTxt K C) (D_Things_lives : MethOk P w K mg base 1 C "lives" ["self", "place", "turn"] (sp_Things_lives C))
    (D_Things_how_many : MethOk P w K mg base 1 C "how_many" ["self"] (sp_Things_how_many C)) : FnOk P w K mg base CX0 2 f fd ["self", "place", "turn"] (sp_Things_gone C) := by
  refine F.ok sc_Things_gone (fun vs H Q E h => ?_) (fun cdv A outer s H vs Q E hr h => ?_)
  · obtain ⟨L, m, a, b, rfl, _⟩ := h
    rfl
  · obtain ⟨L, m, a, b, rfl, W, hl, R⟩ := h
    refine ⟨_, (pss_cons (ps_if (pt_not (pt_val (pe_me (pv 0) D_Things_lives (hr.mono (by decide)) (pa_cons (pv 1) (pa_cons (pv 2) pa_nil))))) (pss_one (ps_ret (pe_lst (pa_cons (pe_gc T.NO_SUCH_ONE) pa_nil)))) pss_nil)
      (pss_cons (ps_asg pe_non (pg_sub (pe_fld (pv 0) rfl) (pv 1) set_list))
      (pss_cons (ps_augS (pe_fld (pv 0) rfl) (pv 1) get_list pe_int ip_add set_list)
      (pss_one (ps_ret (pe_lst (pa_cons (pe_me0 (pv 0) D_Things_how_many (hr.mono (by decide))) pa_nil))))))), ?_⟩
    refine ⟨_, rfl, L.p, L.dx, _, rfl, W.ob, wF_no L (by decide +kernel) (by decide +kernel), _, rfl, _, rfl, L, m, a, b, rfl, W, _, rfl, ?_⟩
    unfold goneR at R
    cases e : m.slot a b with
    | none =>
      rw [e] at R
      refine iteT ?_
      exact ⟨sz1, fun q hq => R.new W (Fr.refl H L) hq⟩
    | some ps =>
      rw [e] at R
      refine iteF ?_
      obtain ⟨h1, h2⟩ := slot_some e
      have hl1 := (List.getElem?_eq_some_iff.mp h1).1
      have hl2 := (List.getElem?_eq_some_iff.mp h2).1
      have wl := W.len
      refine ⟨_, rfl, L.p, C, L.dx, _, _, rfl, W.ob, X.cl, X.nH, wF_held L, _, rfl, L.ha, _, _, a, rfl, rfl, W.hd, ixN_nat (by rw [List.length_map]; omega), ?_⟩
      have ob : (upd H L.ha (.lst ((L.ds.map oV).set a .non))) L.p = some (.ins C L.dx (wF L)) := by
        rw [upd_ne (ne_of W.ob W.hd (by intro z; cases z))]
        exact W.ob
      have tu : (upd H L.ha (.lst ((L.ds.map oV).set a .non))) L.ta = some (.lst (IL (up m.turns))) := by
        rw [upd_ne W.n1.symm]
        exact W.tu
      refine ⟨_, rfl, L.p, C, L.dx, _, _, rfl, ob, X.cl, X.nT, wF_turns L, _, rfl, L.ta, _, _, _, rfl, rfl, by omega, SqL.of tu, atI_nat (il_get (z := (b : Int)) (by rw [List.getElem?_map, h2]; rfl)), (b : Int), 1, rfl, rfl, L.ta, _, _, a, rfl, rfl, tu, ixN_nat (by rw [List.length_map, List.length_map]; exact hl2), ?_⟩
      obtain ⟨W', F'⟩ := W.setGone e
      refine ⟨_, rfl, L.p, L.dx, _, rfl, W'.ob, wF_no L (by decide +kernel) (by decide +kernel), { L with ds := L.ds.set a none }, m.gone a b, rfl, W', ?_, fun H2 s2 => ?_⟩
      · show (m.held.set a none).length ≤ 1000
        rw [List.length_set]
        exact hl
      · exact ⟨sz1, fun q hq => R.new (W'.same s2) (F'.after s2) hq⟩
abbrev s_Things_put : Stmt := inClass (top 36) 9
abbrev N_Things_put : List Str := ["self", "place", "turn", "kind", "value"]
theorem sc_Things_put : FnScope N_Things_put ["self", "place", "turn", "kind", "value"] (defScope s_Things_put) := ⟨rfl, rfl, rfl, by decide +kernel, rfl, by decide +kernel, by decide +kernel⟩
def sp_Things_put (C : Addr) : Sp := fun vs H Q _ => ∃ (L : Lay) (m : M) (a b k v : Nat), vs = [.ref L.p, .int (a : Int), .int (b : Int), .int (k : Int), .int (v : Int)] ∧ WAt C H L m ∧ Res C H L (putR m a b k v).1 (putR m a b k v).2 Q
theorem ok_Things_put {f : Addr} {fd : FuncData} (F : Fun K "put" "Things.put" s_Things_put f fd) (T : Con mg) (X : WTxt K C) (D_Things_lives : MethOk P w K mg base 1 C "lives" ["self", "place", "turn"] (sp_Things_lives C))
    (D_wrong_part : DefOk P w K mg base 1 "wrong_part" ["kind", "value"] sp_wrong_part) : FnOk P w K mg base CX0 2 f fd ["self", "place", "turn", "kind", "value"] (sp_Things_put C) := by
  refine F.ok sc_Things_put (fun vs H Q E h => ?_) (fun cdv A outer s H vs Q E hr h => ?_)
  · obtain ⟨L, m, a, b, k, v, rfl, _⟩ := h
    rfl
  · obtain ⟨L, m, a, b, k, v, rfl, W, R⟩ := h
    have hu := hu_of hr
    refine ⟨_, (pss_cons (ps_if (pt_val (pe_fn D_wrong_part (hr.mono (by decide)) (pa_cons (pv 3) (pa_cons (pv 4) pa_nil)))) (pss_one (ps_ret (pe_lst (pa_cons (pe_gc T.WRONG_KIND_OR_VALUE) pa_nil)))) pss_nil)
      (pss_cons (ps_if (pt_not (pt_val (pe_me (pv 0) D_Things_lives (hr.mono (by decide)) (pa_cons (pv 1) (pa_cons (pv 2) pa_nil))))) (pss_one (ps_ret (pe_lst (pa_cons (pe_gc T.NO_SUCH_ONE) pa_nil)))) pss_nil)
      (pss_cons (ps_dput hu (pe_ix ix_list (pe_fld (pv 0) rfl) (pv 1) (fun _ _ => rfl)) (pv 3) (pv 4) rfl)
      (pss_one (ps_ret (pe_lst (pa_cons pe_int pa_nil))))))), ?_⟩
    refine ⟨_, rfl, _, rfl, k, v, rfl, _, rfl, ?_⟩
    unfold putR at R
    rw [partOk_bad]
    cases c : Ge01.partOk (k, v) with
    | false =>
      rw [if_pos c] at R
      refine iteT ?_
      exact ⟨sz1, fun q hq => R.new W (Fr.refl H L) hq⟩
    | true =>
      rw [if_neg (by rw [c]; decide)] at R
      refine iteF ?_
      refine ⟨_, rfl, L.p, L.dx, _, rfl, W.ob, wF_no L (by decide +kernel) (by decide +kernel), _, rfl, _, rfl, L, m, a, b, rfl, W, _, rfl, ?_⟩
      cases e : m.slot a b with
      | none =>
        rw [e] at R
        refine iteT ?_
        exact ⟨sz1, fun q hq => R.new W (Fr.refl H L) hq⟩
      | some ps =>
        rw [e] at R
        refine iteF ?_
        obtain ⟨d, kvs, e1, e2, e3, e4⟩ := W.dict e
        have g := slot_good W.gd e
        have gl := good_len g
        have dl := dict_len e3
        refine ⟨_, rfl, _, rfl, L.p, C, L.dx, _, _, rfl, W.ob, X.cl, X.nH, wF_held L, _, rfl, L.ha, _, _, _, rfl, rfl, SqL.of W.hd, atI_nat e4, _, rfl, d, _, rfl, DPut.k (k := Sum.inl (k : Int)) e2 (small1000 (by omega)), ?_⟩
        have po := (partOk_iff k v).mp c
        obtain ⟨W', F'⟩ := W.setDict e1 e2 (slot_some e).1 (dict_put e3 g.inc k v) (good_put g po.1 po.2)
        exact ⟨sz1, fun q hq => R.new W' F' hq⟩
abbrev s_Things_take : Stmt := inClass (top 36) 10
abbrev N_Things_take : List Str := ["self", "place", "turn", "kind"]
theorem sc_Things_take : FnScope N_Things_take ["self", "place", "turn", "kind"] (defScope s_Things_take) := ⟨rfl, rfl, rfl, by decide +kernel, rfl, by decide +kernel, by decide +kernel⟩
def sp_Things_take (C : Addr) : Sp := fun vs H Q _ => ∃ (L : Lay) (m : M) (a b k : Nat), vs = [.ref L.p, .int (a : Int), .int (b : Int), .int (k : Int)] ∧ WAt C H L m ∧ Res C H L (takeR m a b k).1 (takeR m a b k).2 Q
theorem ok_Things_take {f : Addr} {fd : FuncData} (F : Fun K "take" "Things.take" s_Things_take f fd) (T : Con mg) (X : WTxt K C) (D_Things_lives : MethOk P w K mg base 1 C "lives" ["self", "place", "turn"] (sp_Things_lives C)) : FnOk P w K mg base CX0 2 f fd ["self", "place", "turn", "kind"] (sp_Things_take C) := by
  refine F.ok sc_Things_take (fun vs H Q E h => ?_) (fun cdv A outer s H vs Q E hr h => ?_)
  · obtain ⟨L, m, a, b, k, rfl, _⟩ := h
    rfl
  · obtain ⟨L, m, a, b, k, rfl, W, R⟩ := h
    have hu := hu_of hr
    refine ⟨_, (pss_cons (ps_if (pt_not (pt_val (pe_me (pv 0) D_Things_lives (hr.mono (by decide)) (pa_cons (pv 1) (pa_cons (pv 2) pa_nil))))) (pss_one (ps_ret (pe_lst (pa_cons (pe_gc T.NO_SUCH_ONE) pa_nil)))) pss_nil)
      (pss_cons (ps_if (pt_cmp (pc_dnotin hu (pv 3) (pe_ix ix_list (pe_fld (pv 0) rfl) (pv 1) (fun _ _ => rfl)))) (pss_one (ps_ret (pe_lst (pa_cons (pe_gc T.NO_SUCH_PART) pa_nil)))) pss_nil)
      (pss_cons (ps_expr (pe_dpop1 (pe_ix ix_list (pe_fld (pv 0) rfl) (pv 1) (fun _ _ => rfl)) (pv 3) m1_of))
      (pss_one (ps_ret (pe_lst (pa_cons pe_int pa_nil))))))), ?_⟩
    refine ⟨_, rfl, L.p, L.dx, _, rfl, W.ob, wF_no L (by decide +kernel) (by decide +kernel), _, rfl, _, rfl, L, m, a, b, rfl, W, _, rfl, ?_⟩
    unfold takeR at R
    cases e : m.slot a b with
    | none =>
      rw [e] at R
      refine iteT ?_
      exact ⟨sz1, fun q hq => R.new W (Fr.refl H L) hq⟩
    | some ps =>
      rw [e] at R
      refine iteF ?_
      obtain ⟨d, kvs, e1, e2, e3, e4⟩ := W.dict e
      have g := slot_good W.gd e
      have dv := dict_val e3 g.inc k
      refine ⟨_, rfl, _, rfl, L.p, C, L.dx, _, _, rfl, W.ob, X.cl, X.nH, wF_held L, _, rfl, L.ha, _, _, _, rfl, rfl, SqL.of W.hd, atI_nat e4, d, _, rfl, DGet.k (k := Sum.inl (k : Int)) e2, _, rfl, ?_⟩
      rw [dv]
      cases lk : look ps k with
      | none =>
        dsimp only at R
        rw [lk] at R
        refine iteT ?_
        exact ⟨sz1, fun q hq => R.new W (Fr.refl H L) hq⟩
      | some v =>
        dsimp only at R
        rw [lk] at R dv
        refine iteF ?_
        refine ⟨_, rfl, L.p, C, L.dx, _, _, rfl, W.ob, X.cl, X.nH, wF_held L, _, rfl, L.ha, _, _, _, rfl, rfl, SqL.of W.hd, atI_nat e4, d, rfl, .inl ⟨_, .inl e2⟩, _, rfl, kvs, Sum.inl (k : Int), _, e2, rfl, dv, ?_⟩
        obtain ⟨W', F'⟩ := W.setDict e1 e2 (slot_some e).1 (dict_drop e3 k) (good_filter g _)
        exact ⟨sz1, fun q hq => R.new W' F' hq⟩
abbrev s_Things_value_of : Stmt := inClass (top 36) 11
abbrev N_Things_value_of : List Str := ["self", "place", "turn", "kind"]
theorem sc_Things_value_of : FnScope N_Things_value_of ["self", "place", "turn", "kind"] (defScope s_Things_value_of) := ⟨rfl, rfl, rfl, by decide +kernel, rfl, by decide +kernel, by decide +kernel⟩
def sp_Things_value_of (C : Addr) : Sp := fun vs H Q _ => ∃ (L : Lay) (m : M) (a b k : Nat), vs = [.ref L.p, .int (a : Int), .int (b : Int), .int (k : Int)] ∧ WAt C H L m ∧ Res C H L m (getR m a b k) Q
theorem ok_Things_value_of {f : Addr} {fd : FuncData} (F : Fun K "value_of" "Things.value_of" s_Things_value_of f fd) (T : Con mg) (X : WTxt K C) (D_Things_lives : MethOk P w K mg base 1 C "lives" ["self", "place", "turn"] (sp_Things_lives C)) : FnOk P w K mg base CX0 2 f fd ["self", "place", "turn", "kind"] (sp_Things_value_of C) := by
  refine F.ok sc_Things_value_of (fun vs H Q E h => ?_) (fun cdv A outer s H vs Q E hr h => ?_)
  · obtain ⟨L, m, a, b, k, rfl, _⟩ := h
    rfl
  · obtain ⟨L, m, a, b, k, rfl, W, R⟩ := h
    have hu := hu_of hr
    refine ⟨_, (pss_cons (ps_if (pt_not (pt_val (pe_me (pv 0) D_Things_lives (hr.mono (by decide)) (pa_cons (pv 1) (pa_cons (pv 2) pa_nil))))) (pss_one (ps_ret (pe_lst (pa_cons (pe_gc T.NO_SUCH_ONE) pa_nil)))) pss_nil)
      (pss_cons (ps_if (pt_cmp (pc_dnotin hu (pv 3) (pe_ix ix_list (pe_fld (pv 0) rfl) (pv 1) (fun _ _ => rfl)))) (pss_one (ps_ret (pe_lst (pa_cons (pe_gc T.NO_SUCH_PART) pa_nil)))) pss_nil)
      (pss_one (ps_ret (pe_lst (pa_cons (pe_dget hu (pe_ix ix_list (pe_fld (pv 0) rfl) (pv 1) (fun _ _ => rfl)) (pv 3) (fun _ _ => rfl)) pa_nil)))))), ?_⟩
    refine ⟨_, rfl, L.p, L.dx, _, rfl, W.ob, wF_no L (by decide +kernel) (by decide +kernel), _, rfl, _, rfl, L, m, a, b, rfl, W, _, rfl, ?_⟩
    unfold getR at R
    cases e : m.slot a b with
    | none =>
      rw [e] at R
      refine iteT ?_
      exact ⟨sz1, fun q hq => R.new W (Fr.refl H L) hq⟩
    | some ps =>
      rw [e] at R
      refine iteF ?_
      obtain ⟨d, kvs, e1, e2, e3, e4⟩ := W.dict e
      have g := slot_good W.gd e
      have dv := dict_val e3 g.inc k
      refine ⟨_, rfl, _, rfl, L.p, C, L.dx, _, _, rfl, W.ob, X.cl, X.nH, wF_held L, _, rfl, L.ha, _, _, _, rfl, rfl, SqL.of W.hd, atI_nat e4, d, _, rfl, DGet.k (k := Sum.inl (k : Int)) e2, _, rfl, ?_⟩
      rw [dv]
      cases lk : look ps k with
      | none =>
        dsimp only at R
        rw [lk] at R
        refine iteT ?_
        exact ⟨sz1, fun q hq => R.new W (Fr.refl H L) hq⟩
      | some v =>
        dsimp only at R
        rw [lk] at R dv
        refine iteF ?_
        have dg : DGet H d (.int (k : Int)) (some (V.int (v : Int))) := by
          have := DGet.k (k := Sum.inl (k : Int)) e2
          rw [dv] at this
          exact this
        refine ⟨_, rfl, L.p, C, L.dx, _, _, rfl, W.ob, X.cl, X.nH, wF_held L, _, rfl, L.ha, _, _, _, rfl, rfl, SqL.of W.hd, atI_nat e4, _, rfl, d, _, rfl, dg, ?_⟩
        exact ⟨sz1, fun q hq => R.new W (Fr.refl H L) hq⟩
end
end Pw

namespace Pw
open L2 PySem PySem.Spec PyProof.Rows
open Ge01 (Part Name Change Question)
theorem flat_snoc (l : List Part) (p : Part) : flat (l ++ [p]) = flat l ++ [(p.1 : Int), (p.2 : Int)] := by
  unfold flat
  rw [List.flatMap_append]
  rfl
theorem take_snoc {α : Type} {l : List α} {i : Nat} {x : α} (h : l[i]? = some x) : l.take (i + 1) = l.take i ++ [x] := by
  rw [List.take_add_one, h]
  rfl
section
variable {K : PySem.W.Frag} {P : Program} {w : World} {mg : Str → Option Value} {base : Heap} {C : Addr}
abbrev s_Things_parts_of : Stmt := inClass (top 36) 12
abbrev N_Things_parts_of : List Str := ["self", "place", "turn", "parts", "answer", "kind"]
theorem sc_Things_parts_of : FnScope N_Things_parts_of ["self", "place", "turn"] (defScope s_Things_parts_of) := ⟨rfl, rfl, rfl, by decide +kernel, rfl, by decide +kernel, by decide +kernel⟩
def sp_Things_parts_of (C : Addr) : Sp := fun vs H Q _ => ∃ (L : Lay) (m : M) (a b : Nat), vs = [.ref L.p, .int (a : Int), .int (b : Int)] ∧ WAt C H L m ∧ Res C H L m (partsR m a b) Q
theorem ok_Things_parts_of {f : Addr} {fd : FuncData} (F : Fun K "parts_of" "Things.parts_of" s_Things_parts_of f fd) (T : Con mg) (X : WTxt K C) (D_Things_lives : MethOk P w K mg base 1 C "lives" ["self", "place", "turn"] (sp_Things_lives C)) : FnOk P w K mg base CX0 2 f fd ["self", "place", "turn"] (sp_Things_parts_of C) := by
  refine F.ok sc_Things_parts_of (fun vs H Q E h => ?_) (fun cdv A outer s H vs Q E hr h => ?_)
  · obtain ⟨L, m, a, b, rfl, _⟩ := h
    rfl
  · obtain ⟨L, m, a, b, rfl, W, R⟩ := h
    have hu := hu_of hr
    refine ⟨_, (pss_cons (ps_if (pt_not (pt_val (pe_me (pv 0) D_Things_lives (hr.mono (by decide)) (pa_cons (pv 1) (pa_cons (pv 2) pa_nil))))) (pss_one (ps_ret (pe_lst (pa_cons (pe_gc T.NO_SUCH_ONE) pa_nil)))) pss_nil)
      (pss_cons (ps_set (i := 3) sc_Things_parts_of.nd rfl (Or.inl rfl) (pe_ix ix_list (pe_fld (pv 0) rfl) (pv 1) (fun _ _ => rfl)))
      (pss_cons (ps_set (i := 4) sc_Things_parts_of.nd rfl (Or.inl rfl) (pe_lst (pa_cons (pe_callB call_lenD (by rfl) T.len PySem.boot_len (pa_cons (pv 3) pa_nil)) pa_nil)))
      (pss_cons (ps_for PassesOwn.never rfl (pi_list (pe_callB (call_sortedDI rfl) (by rfl) T.sorted boot_sorted (pa_cons (pv 3) pa_nil))) (pg_name (i := 5) sc_Things_parts_of.nd rfl (Or.inl rfl)) (pss_cons (ps_expr (pe_bm PySem.F.plainAttrs_list PySem.F.slot_list_append PySem.F.type_list_append mt_append (pv 4) (pa_cons (pv 5) pa_nil)))
      (pss_one (ps_expr (pe_bm PySem.F.plainAttrs_list PySem.F.slot_list_append PySem.F.type_list_append mt_append (pv 4) (pa_cons (pe_dget hu (pv 3) (pv 5) (fun _ _ => rfl)) pa_nil))))))
      (pss_one (ps_ret (pv 4))))))), ?_⟩
    refine ⟨_, rfl, L.p, L.dx, _, rfl, W.ob, wF_no L (by decide +kernel) (by decide +kernel), _, rfl, _, rfl, L, m, a, b, rfl, W, _, rfl, ?_⟩
    unfold partsR at R
    cases e : m.slot a b with
    | none =>
      rw [e] at R
      refine iteT ?_
      exact ⟨sz1, fun q hq => R.new W (Fr.refl H L) hq⟩
    | some ps =>
      rw [e] at R
      dsimp only at R
      refine iteF ?_
      obtain ⟨d, kvs, e1, e2, e3, e4⟩ := W.dict e
      have g := slot_good W.gd e
      have gl := good_len g
      have dl := dict_len e3
      refine ⟨_, rfl, L.p, C, L.dx, _, _, rfl, W.ob, X.cl, X.nH, wF_held L, _, rfl, L.ha, _, _, _, rfl, rfl, SqL.of W.hd, atI_nat e4, ?_⟩
      refine ⟨_, rfl, d, kvs, rfl, e2, sz1, fun an h1 => ?_⟩
      rw [dl]
      have s1 : Same H (upd H an (.lst [V.int (ps.length : Int)])) := Same.new h1
      refine ⟨_, rfl, d, kvs, kvs.map fun x => keyI x.1, rfl, .inl (s1 _ _ e2), dict_keys e3, by rw [List.length_map]; omega, fun ys l hp hs h2 => ?_⟩
      have ey := dict_sorted e3 g.inc hp hs
      subst ey
      have nal : an ≠ l := ne_of_none upd_same h2
      have s2 : Same H (upd (upd H an (.lst [V.int (ps.length : Int)])) l (.lst ((ps.map fun p => (p.1 : Int)).map V.int))) := s1.trans (Same.new h2)
      refine ⟨l, rfl, ⟨_, SqL.of upd_same⟩, for_list (K := K) (a := l) (xs := (ps.map fun p => (p.1 : Int)).map V.int) (fun i σ H' => ∃ v, σ = [some (.ref L.p), some (.int (a : Int)), some (.int (b : Int)), some (.ref d), some (.ref an), v] ∧
        H' = upd (upd (upd H an (.lst [V.int (ps.length : Int)])) l (.lst ((ps.map fun p => (p.1 : Int)).map V.int))) an (.lst (IL ((ps.length : Int) :: flat (ps.take i))))) ⟨none, rfl, ?_⟩ ?_ ?_ ?_⟩
      · funext z
        unfold upd
        by_cases c1 : z = l
        · subst c1
          rw [if_pos rfl, if_neg nal.symm]
        · rw [if_neg c1]
          by_cases c2 : z = an
          · rw [if_pos c2, if_pos c2]
            rfl
          · rw [if_neg c2, if_neg c2]
      · rintro i σ H' _ ⟨v, rfl, rfl⟩
        refine SqL.of ?_
        rw [upd_ne nal.symm, upd_same]
      · rintro i x σ H' hi ⟨v, rfl, rfl⟩
        rw [List.getElem?_map, List.getElem?_map] at hi
        cases ep : ps[i]? with
        | none =>
          rw [ep] at hi
          cases hi
        | some p =>
          rw [ep] at hi
          have hi : V.int (p.1 : Int) = x := Option.some.inj hi
          subst hi
          have hil := (List.getElem?_eq_some_iff.mp ep).1
          have fl := flat_len (ps.take i)
          rw [List.length_take] at fl
          have nad : d ≠ an := ne_of_none e2 h1
          have ndl : d ≠ l := ne_of_none (s1 _ _ e2) h2
          have dv := dict_val e3 g.inc p.1
          rw [(look_mem g.inc).mpr (show (p.1, p.2) ∈ ps from List.mem_of_getElem? ep)] at dv
          refine ⟨_, rfl, .inl ⟨rfl, _, SqL.of upd_same⟩, _, rfl, an, _, _, rfl, rfl, upd_same, small1000 (by rw [List.length_map, List.length_cons]; omega), ?_⟩
          rw [upd_upd]
          have dg : ∀ o, DGet (upd (upd (upd H an (.lst [V.int (ps.length : Int)])) l (.lst ((ps.map fun p => (p.1 : Int)).map V.int))) an o) d (.int (p.1 : Int)) (some (V.int (p.2 : Int))) := fun o => by
            have := DGet.k (H := upd (upd (upd H an (.lst [V.int (ps.length : Int)])) l (.lst ((ps.map fun p => (p.1 : Int)).map V.int))) an o) (a := d) (kvs := kvs) (k := Sum.inl (p.1 : Int)) (by rw [upd_ne nad, upd_ne ndl, upd_ne nad]; exact e2)
            rw [dv] at this
            exact this
          refine ⟨_, rfl, .inl ⟨rfl, _, SqL.of upd_same⟩, _, rfl, _, rfl, d, _, rfl, dg _, an, _, _, rfl, rfl, upd_same, small1000 (by rw [List.length_append, List.length_map, List.length_cons]; simp; omega), ?_⟩
          rw [upd_upd]
          refine ⟨_, rfl, ?_⟩
          rw [take_snoc ep, flat_snoc]
          simp [IL]
      · rintro σ H' ⟨v, rfl, rfl⟩
        rw [List.length_map, List.length_map, List.take_length]
        have s3 : Same H (upd (upd (upd H an (.lst [V.int (ps.length : Int)])) l (.lst ((ps.map fun p => (p.1 : Int)).map V.int))) an (.lst (IL ((ps.length : Int) :: flat ps)))) := fun b o h => by
          rw [upd_ne (ne_of_none h h1)]
          exact s2 b o h
        exact ⟨_, rfl, R _ L an (W.same s3) (Fr.same s3 L) h1 (W.no h1) upd_same⟩
abbrev s_Things_bring : Stmt := inClass (top 36) 6
abbrev N_Things_bring : List Str := ["self", "parts", "place"]
theorem sc_Things_bring : FnScope N_Things_bring ["self", "parts"] (defScope s_Things_bring) := ⟨rfl, rfl, rfl, by decide +kernel, rfl, by decide +kernel, by decide +kernel⟩
/-- a pair of numbers is given back, and the things behind it -/
def ResT (C : Addr) (H : Hp) (L : Lay) (m' : M) (n : Name) (Q : VK) : Prop :=
  ∀ (H' : Hp) (L' : Lay) (q : Addr), WAt C H' L' m' → Fr H L H' L' → H q = none → ¬ Fp L' q → H' q = some (.tup [.int (n.place : Int), .int (n.turn : Int)]) → Q (.ref q) H'
def sp_Things_bring (C : Addr) : Sp := fun vs H Q _ => ∃ (L : Lay) (m : M) (r : Addr) (ps : List Part), vs = [.ref L.p, .ref r] ∧ WAt C H L m ∧ H r = some (.lst (IL (flat ps))) ∧ ¬ Fp L r ∧ Good ps ∧ m.held.length ≤ 500 ∧ ResT C H L (m.made ps) m.place Q
theorem ok_Things_bring {f : Addr} {fd : FuncData} (F : Fun K "bring" "Things.bring" s_Things_bring f fd) (T : Con mg) (X : WTxt K C)
    (D_Things_free_place : MethOk P w K mg base 1 C "free_place" ["self"] (sp_Things_free_place C)) (D_by_kind : DefOk P w K mg base 1 "by_kind" ["parts"] (sp_by_kind K)) : FnOk P w K mg base CX0 2 f fd ["self", "parts"] (sp_Things_bring C) := by
  refine F.ok sc_Things_bring (fun vs H Q E h => ?_) (fun cdv A outer s H vs Q E hr h => ?_)
  · obtain ⟨L, m, r, ps, rfl, _⟩ := h
    rfl
  · obtain ⟨L, m, r, ps, rfl, W, hr1, nf, g, hlm, R⟩ := h
    refine ⟨_, (pss_cons (ps_set (i := 2) sc_Things_bring.nd rfl (Or.inl rfl) (pe_me0 (pv 0) D_Things_free_place (hr.mono (by decide))))
      (pss_cons (ps_if (pt_cmpR op_eq (pv 2) (pe_callB call_len_seq (by rfl) T.len PySem.boot_len (pa_cons (pe_fld (pv 0) rfl) pa_nil)) (nomark _)) (pss_cons (ps_expr (pe_bm PySem.F.plainAttrs_list PySem.F.slot_list_append PySem.F.type_list_append mt_append (pe_fld (pv 0) rfl) (pa_cons pe_non pa_nil)))
      (pss_one (ps_expr (pe_bm PySem.F.plainAttrs_list PySem.F.slot_list_append PySem.F.type_list_append mt_append (pe_fld (pv 0) rfl) (pa_cons pe_int pa_nil))))) pss_nil)
      (pss_cons (ps_asg (pe_fn D_by_kind (hr.mono (by decide)) (pa_cons (pv 1) pa_nil)) (pg_sub (pe_fld (pv 0) rfl) (pv 2) set_list))
      (pss_one (ps_ret (pe_tup (pa_cons (pv 2) (pa_cons (pe_ix ix_list (pe_fld (pv 0) rfl) (pv 2) (fun _ _ => rfl)) pa_nil)))))))), ?_⟩
    refine ⟨_, rfl, L.p, L.dx, _, rfl, W.ob, wF_no L (by decide +kernel) (by decide +kernel), L, m, rfl, W, fun H2 s12 => ?_⟩
    have W2 := W.same s12
    have wl := W.len
    refine ⟨_, rfl, _, rfl, L.p, C, L.dx, _, _, rfl, W2.ob, X.cl, X.nH, wF_held L, L.ha, _, rfl, .inl (SqL.of W2.hd), rfl, _, rfl, ?_⟩
    rw [List.length_map, wl]
    -- the last steps, from a world with an empty place f
    have fin : ∀ (H3 : Hp) (L3 : Lay) (m3 : M), WAt C H3 L3 m3 → Fr H L H3 L3 → L3.p = L.p → m3.held[free m.held]? = some none → (⟨m3.held.set (free m.held) (some ps), m3.turns⟩ : M) = m.made ps → m3.turns[free m.held]? = some m.place.turn → H3 r = some (.lst (IL (flat ps))) →
        tSeq (tAsg (tCall (sp_by_kind K) [] E0 (tCons (tVar 1) tNil)) (gSub (tFld K (tVar 0) "held") (tVar 2) rSetL)) (tRet (tTup (tCons (tVar 2) (tCons (tOp (rIxL K) (tFld K (tVar 0) "turns") (tVar 2)) tNil)))) { nx := fun x H' => Q V.non H', rt := Q } [some (.ref L.p), some (.ref r), some (.int (free m.held : Int))] H3 := by
      intro H3 L3 m3 W3 F3 ep hf em ht hr3
      refine ⟨_, rfl, r, ps, rfl, SqL.of hr3, g, fun d H4 hd s4 h4 => ?_⟩
      have W4 := W3.same s4
      have nd := W3.no hd
      have hfl := (List.getElem?_eq_some_iff.mp hf).1
      have w3l := W3.len
      refine ⟨_, rfl, L3.p, C, L3.dx, _, _, by rw [ep], W4.ob, X.cl, X.nH, wF_held L3, _, rfl, L3.ha, _, _, free m.held, rfl, rfl, W4.hd, ixN_nat (by rw [List.length_map, w3l]; exact hfl), ?_⟩
      obtain ⟨W5, k5, f5⟩ := W4.fill hf h4 (List.Perm.refl _) g nd
      have F5 : Fr H L (upd H4 L3.ha (.lst ((L3.ds.map oV).set (free m.held) (.ref d)))) { L3 with ds := L3.ds.set (free m.held) (some d) } := by
        refine ⟨fun q o h n => ?_, fun q z => ?_, ep, fun q z => F3.tr q (Same.free s4 (upd_none z))⟩
        · obtain ⟨h1, n1⟩ := F3.out h n
          exact k5 q o (s4 q o h1) fun z => n1 (z ▸ Fp.ha L3)
        · rcases f5 q z with z | rfl
          · exact F3.nw q z
          · exact .inr (F3.tr _ hd)
      rw [em] at W5
      refine ⟨_, rfl, _, rfl, L3.p, C, L3.dx, _, _, by rw [ep], W5.ob, X.cl, X.nT, wF_turns L3, _, rfl, L3.ta, _, _, _, rfl, rfl, SqL.of (xs := IL (up m3.turns)) ?_, atI_nat (il_get (z := (m.place.turn : Int)) (by rw [List.getElem?_map, ht]; rfl)), (by show 2 ≤ sizeLine; decide), fun q hq => ?_⟩
      · rw [upd_ne W4.n1.symm]
        exact W4.tu
      · exact R _ { L3 with ds := L3.ds.set (free m.held) (some d) } q (W5.same (Same.new hq)) (F5.after (Same.new hq)) (F5.tr q hq) (W5.no hq) upd_same
    by_cases cf : free m.held = m.held.length
    · rw [decide_eq_true (by rw [cf])]
      refine iteT ?_
      refine ⟨_, rfl, L.p, C, L.dx, _, _, rfl, W2.ob, X.cl, X.nH, wF_held L, .inl ⟨rfl, _, SqL.of W2.hd⟩, L.ha, _, _, rfl, rfl, W2.hd, small1000 (by rw [List.length_map]; omega), ?_⟩
      have ob : (upd H2 L.ha (.lst (L.ds.map oV ++ [.non]))) L.p = some (.ins C L.dx (wF L)) := by
        rw [upd_ne (ne_of W2.ob W2.hd (by intro z; cases z))]
        exact W2.ob
      have tu : (upd H2 L.ha (.lst (L.ds.map oV ++ [.non]))) L.ta = some (.lst (IL (up m.turns))) := by
        rw [upd_ne W2.n1.symm]
        exact W2.tu
      refine ⟨_, rfl, L.p, C, L.dx, _, _, rfl, ob, X.cl, X.nT, wF_turns L, .inl ⟨rfl, _, SqL.of tu⟩, L.ta, _, _, rfl, rfl, tu, small1000 (by rw [List.length_map, List.length_map, ← W.ln]; omega), ?_⟩
      obtain ⟨W3, F3⟩ := W2.grow
      refine fin _ _ _ W3 (F3.before s12) rfl ?_ ?_ ?_ ?_
      · show (m.held ++ [none])[free m.held]? = _
        rw [cf, List.getElem?_append_right (Nat.le_refl _), Nat.sub_self]
        rfl
      · show (⟨(m.held ++ [none]).set (free m.held) (some ps), m.turns ++ [0]⟩ : M) = ⟨hput m.held ps, tput m.held m.turns⟩
        unfold hput tput
        rw [if_neg (by omega), if_neg (by omega), cf, List.set_append_right _ _ (Nat.le_refl _), Nat.sub_self]
        rfl
      · show (m.turns ++ [0])[free m.held]? = some (m.turns.getD (free m.held) 0)
        rw [cf, W.ln, List.getElem?_append_right (Nat.le_refl _), Nat.sub_self, List.getD_eq_getElem?_getD, List.getElem?_eq_none (Nat.le_refl _)]
        rfl
      · exact F3.kp _ _ (s12 _ _ hr1) nf
    · rw [decide_eq_false (fun z => cf (by have := V.int.inj z; omega))]
      refine iteF ?_
      have fl := free_le_len m.held
      have flt : free m.held < m.held.length := by omega
      refine fin H2 L m W2 (Fr.same s12 L) rfl ?_ ?_ ?_ (s12 _ _ hr1)
      · rcases free_at m.held with z | z
        · rw [List.getElem?_eq_getElem flt] at z
          cases z
        · exact z
      · show (⟨m.held.set (free m.held) (some ps), m.turns⟩ : M) = ⟨hput m.held ps, tput m.held m.turns⟩
        unfold hput tput
        rw [if_pos flt, if_pos flt]
      · show m.turns[free m.held]? = some (m.turns.getD (free m.held) 0)
        have : free m.held < m.turns.length := by rw [← W.ln]; exact flt
        rw [List.getD_eq_getElem?_getD, List.getElem?_eq_getElem this]
        rfl
abbrev s_Things_make : Stmt := inClass (top 36) 7
abbrev N_Things_make : List Str := ["self", "parts"]
theorem sc_Things_make : FnScope N_Things_make ["self", "parts"] (defScope s_Things_make) := ⟨rfl, rfl, rfl, by decide +kernel, rfl, by decide +kernel, by decide +kernel⟩
def sp_Things_make (C : Addr) : Sp := fun vs H Q _ => ∃ (L : Lay) (m : M) (r : Addr) (ps : List Part), vs = [.ref L.p, .ref r] ∧ WAt C H L m ∧ H r = some (.lst (IL (flat ps))) ∧ ¬ Fp L r ∧ ps.length ≤ 5000 ∧ m.held.length ≤ 500 ∧ Res C H L (makeR m ps).1 (makeR m ps).2 Q
theorem ok_Things_make {f : Addr} {fd : FuncData} (F : Fun K "make" "Things.make" s_Things_make f fd) (T : Con mg) (X : WTxt K C) (D_wrong_parts : DefOk P w K mg base 2 "wrong_parts" ["parts"] (sp_wrong_parts K)) (D_Things_how_many : MethOk P w K mg base 1 C "how_many" ["self"] (sp_Things_how_many C))
    (D_Things_bring : MethOk P w K mg base 2 C "bring" ["self", "parts"] (sp_Things_bring C)) : FnOk P w K mg base CX0 3 f fd ["self", "parts"] (sp_Things_make C) := by
  refine F.ok sc_Things_make (fun vs H Q E h => ?_) (fun cdv A outer s H vs Q E hr h => ?_)
  · obtain ⟨L, m, r, ps, rfl, _⟩ := h
    rfl
  · obtain ⟨L, m, r, ps, rfl, W, hr1, nf, hl, hlm, R⟩ := h
    refine ⟨_, (pss_cons (ps_if (pt_val (pe_fn D_wrong_parts (hr.mono (by decide)) (pa_cons (pv 1) pa_nil))) (pss_one (ps_ret (pe_lst (pa_cons (pe_gc T.WRONG_KIND_OR_VALUE) pa_nil)))) pss_nil)
      (pss_cons (ps_if (pt_cmpR op_ge (pe_me0 (pv 0) D_Things_how_many (hr.mono (by decide))) (pe_gc T.MOST_THINGS) (nomark _)) (pss_one (ps_ret (pe_lst (pa_cons (pe_gc T.FULL) pa_nil)))) pss_nil)
      (pss_one (ps_ret (pe_callTy call_list_of (by rfl) T.list PyProof.Rows.boot_list (pa_cons (pe_me (pv 0) D_Things_bring (hr.mono (by decide)) (pa_cons (pv 1) pa_nil)) pa_nil)))))), ?_⟩
    refine ⟨_, rfl, r, ps, rfl, SqL.of hr1, hl, _, rfl, ?_⟩
    unfold makeR at R
    cases pk : Ge01.partsOk ps with
    | false =>
      rw [if_pos pk] at R
      exact iteT ⟨sz1, fun q hq => R.new W (Fr.refl H L) hq⟩
    | true =>
      rw [if_neg (by rw [pk]; decide)] at R
      have g := (good_iff ps).mp pk
      refine iteF ?_
      refine ⟨_, rfl, L.p, L.dx, _, rfl, W.ob, wF_no L (by decide +kernel) (by decide +kernel), L, m, rfl, W, by omega, fun H1 s1 => ?_⟩
      have W1 := W.same s1
      refine ⟨_, _, rfl, rfl, _, rfl, ?_⟩
      by_cases c20 : 20 ≤ much m.held
      · rw [if_pos c20] at R
        rw [decide_eq_true (by omega)]
        exact iteT ⟨sz1, fun q hq => R.new W1 (Fr.same s1 L) hq⟩
      · rw [if_neg c20] at R
        rw [decide_eq_false (by omega)]
        refine iteF ?_
        refine ⟨_, rfl, L.p, L.dx, _, rfl, W1.ob, wF_no L (by decide +kernel) (by decide +kernel), _, rfl, L, m, r, ps, rfl, W1, s1 _ _ hr1, nf, g, hlm, fun H2 L2 t W2 F2 ht nt ht2 => ?_⟩
        exact ⟨t, _, rfl, .inr (SqT.of ht2), fun q hq => R.new W2 (F2.before s1) hq⟩
end
end Pw

/-! The specification's steps, told over the places. -/
namespace Pw
open Ge01 (Part Name Change Question)
theorem has_look (p : List Part) (n : Name) (k : Nat) : Ge01.valueOf ⟨n, p⟩ k = look p k := rfl
theorem has_some (p : List Part) (n : Name) (k : Nat) : Ge01.has ⟨n, p⟩ k = (look p k).isSome := by
  unfold Ge01.has look
  rw [Option.isSome_map]
  show p.any (fun q => q.1 == k) = (p.find? fun q => q.1 == k).isSome
  rw [Bool.eq_iff_iff, List.any_eq_true, List.find?_isSome]
theorem step_make {g : Ge01.St} {m : M} (r : Rel g.world m) (p : List Part) :
    (Ge01.step g (.make p)).2 = (makeR m p).2 ∧ Rel (Ge01.step g (.make p)).1.world (makeR m p).1 ∧ (Ge01.step g (.make p)).1.later = g.later ∧ (Ge01.step g (.make p)).1.questions = g.questions ∧ (Ge01.step g (.make p)).1.told = g.told := by
  have h := rel_made r p
  have e : Ge01.step g (.make p) = if Ge01.partsOk p = false then (g, [-1]) else if 20 ≤ g.world.things.length then (g, [-5]) else ({ g with world := (Ge01.made g.world p).2 }, Ge01.ints (Ge01.nameRow (Ge01.made g.world p).1)) := rfl
  rw [e, rel_much r]
  unfold makeR
  by_cases c1 : Ge01.partsOk p = false
  · rw [if_pos c1, if_pos c1]
    exact ⟨rfl, r, rfl, rfl, rfl⟩
  · rw [if_neg c1, if_neg c1]
    by_cases c2 : 20 ≤ much m.held
    · rw [if_pos c2, if_pos c2]
      exact ⟨rfl, r, rfl, rfl, rfl⟩
    · rw [if_neg c2, if_neg c2]
      refine ⟨?_, h.2, rfl, rfl, rfl⟩
      rw [h.1]
      rfl
theorem step_gone {g : Ge01.St} {m : M} (r : Rel g.world m) (a b : Nat) :
    (Ge01.step g (.gone ⟨a, b⟩)).2 = (goneR m a b).2 ∧ Rel (Ge01.step g (.gone ⟨a, b⟩)).1.world (goneR m a b).1 ∧ (Ge01.step g (.gone ⟨a, b⟩)).1.later = g.later ∧ (Ge01.step g (.gone ⟨a, b⟩)).1.questions = g.questions ∧ (Ge01.step g (.gone ⟨a, b⟩)).1.told = g.told := by
  unfold goneR
  dsimp only [Ge01.step]
  rw [rel_lives r]
  cases e : m.slot a b with
  | none => exact ⟨rfl, r, rfl, rfl, rfl⟩
  | some p =>
    have h := rel_gone r e
    rw [if_neg (by simp)]
    refine ⟨?_, h, rfl, rfl, rfl⟩
    dsimp only
    rw [rel_much h]
    rfl
theorem step_put {g : Ge01.St} {m : M} (r : Rel g.world m) (a b k v : Nat) :
    (Ge01.step g (.put ⟨a, b⟩ k v)).2 = (putR m a b k v).2 ∧ Rel (Ge01.step g (.put ⟨a, b⟩ k v)).1.world (putR m a b k v).1 ∧ (Ge01.step g (.put ⟨a, b⟩ k v)).1.later = g.later ∧ (Ge01.step g (.put ⟨a, b⟩ k v)).1.questions = g.questions ∧ (Ge01.step g (.put ⟨a, b⟩ k v)).1.told = g.told := by
  unfold putR
  dsimp only [Ge01.step]
  rw [rel_lives r]
  split
  · exact ⟨rfl, r, rfl, rfl, rfl⟩
  · cases e : m.slot a b with
    | none => exact ⟨rfl, r, rfl, rfl, rfl⟩
    | some p =>
      rw [if_neg (by simp)]
      exact ⟨rfl, rel_puts r e k v, rfl, rfl, rfl⟩
theorem step_take {g : Ge01.St} {m : M} (r : Rel g.world m) (a b k : Nat) :
    (Ge01.step g (.take ⟨a, b⟩ k)).2 = (takeR m a b k).2 ∧ Rel (Ge01.step g (.take ⟨a, b⟩ k)).1.world (takeR m a b k).1 ∧ (Ge01.step g (.take ⟨a, b⟩ k)).1.later = g.later ∧ (Ge01.step g (.take ⟨a, b⟩ k)).1.questions = g.questions ∧ (Ge01.step g (.take ⟨a, b⟩ k)).1.told = g.told := by
  unfold takeR
  dsimp only [Ge01.step]
  rw [rel_find r]
  cases e : m.slot a b with
  | none => exact ⟨rfl, r, rfl, rfl, rfl⟩
  | some p =>
    dsimp only [Option.map]
    rw [has_some]
    cases l : look p k with
    | none => exact ⟨rfl, r, rfl, rfl, rfl⟩
    | some v =>
      rw [if_neg (by simp)]
      exact ⟨rfl, rel_takes r e k, rfl, rfl, rfl⟩
theorem step_get {g : Ge01.St} {m : M} (r : Rel g.world m) (a b k : Nat) : Ge01.step g (.get ⟨a, b⟩ k) = (g, getR m a b k) := by
  unfold getR
  dsimp only [Ge01.step]
  rw [rel_find r]
  cases e : m.slot a b with
  | none => rfl
  | some p =>
    dsimp only [Option.map]
    rw [has_look]
    cases l : look p k <;> rfl
theorem flat_ints (p : List Part) : Ge01.ints (p.flatMap fun p => [p.1, p.2]) = flat p := by
  unfold Ge01.ints flat
  rw [List.map_flatMap]
  rfl
theorem step_parts {g : Ge01.St} {m : M} (r : Rel g.world m) (a b : Nat) : Ge01.step g (.parts ⟨a, b⟩) = (g, partsR m a b) := by
  unfold partsR
  dsimp only [Ge01.step]
  rw [rel_find r]
  cases e : m.slot a b with
  | none => rfl
  | some p =>
    dsimp only [Option.map]
    rw [← flat_ints]
    rfl
theorem step_later {g : Ge01.St} (c : Change) :
    (Ge01.step g (.later c)).2 = (laterR g.later c).2 ∧ (Ge01.step g (.later c)).1.later = (laterR g.later c).1 ∧ (Ge01.step g (.later c)).1.world = g.world ∧ (Ge01.step g (.later c)).1.questions = g.questions ∧ (Ge01.step g (.later c)).1.told = g.told := by
  unfold laterR
  dsimp only [Ge01.step]
  split
  · exact ⟨rfl, rfl, rfl, rfl, rfl⟩
  · split
    · exact ⟨rfl, rfl, rfl, rfl, rfl⟩
    · exact ⟨rfl, rfl, rfl, rfl, rfl⟩
/-! ### bounds -/
structure Small (m : M) : Prop where
  few : much m.held ≤ 20
  len : m.held.length ≤ 50
theorem small_new : Small M.new := ⟨Nat.zero_le _, Nat.zero_le _⟩
theorem small_make {m : M} (h : Small m) (ps : List Part) : Small (makeR m ps).1 := by
  unfold makeR
  split
  · exact h
  · split
    · exact h
    · rename_i c
      refine ⟨?_, ?_⟩
      · show much (hput m.held ps) ≤ 20
        rw [much_hput]
        omega
      · show (hput m.held ps).length ≤ 50
        rw [hput_len]
        have := free_le_much m.held
        have := h.len
        split <;> omega
theorem small_gone {m : M} (h : Small m) (a b : Nat) : Small (goneR m a b).1 := by
  unfold goneR
  cases e : m.slot a b with
  | none => exact h
  | some p =>
    have := much_set_none m.held a p (slot_some e).1
    refine ⟨?_, ?_⟩
    · show much (m.held.set a none) ≤ 20
      have := h.few
      omega
    · show (m.held.set a none).length ≤ 50
      rw [List.length_set]
      exact h.len
theorem small_to {m : M} (h : Small m) {a b : Nat} {p : List Part} (e : m.slot a b = some p) (q : List Part) : Small (m.to a q) := by
  refine ⟨?_, ?_⟩
  · show much (m.held.set a (some q)) ≤ 20
    rw [much_set_some m.held a p q (slot_some e).1]
    exact h.few
  · show (m.held.set a (some q)).length ≤ 50
    rw [List.length_set]
    exact h.len
theorem small_put {m : M} (h : Small m) (a b k v : Nat) : Small (putR m a b k v).1 := by
  unfold putR
  split
  · exact h
  · cases e : m.slot a b with
    | none => exact h
    | some p => exact small_to h e _
theorem small_take {m : M} (h : Small m) (a b k : Nat) : Small (takeR m a b k).1 := by
  unfold takeR
  cases e : m.slot a b with
  | none => exact h
  | some p =>
    dsimp only
    cases look p k with
    | none => exact h
    | some v => exact small_to h e _
theorem small_later {off : List Change} (h : off.length ≤ 30) (c : Change) : (laterR off c).1.length ≤ 30 := by
  unfold laterR
  split
  · exact h
  · split
    · exact h
    · rw [List.length_append]
      simp
      omega
end Pw

/-! Questions, and what is put off, over the places. -/
namespace Pw
open Ge01 (Thing Part Name Change Question)
abbrev Qn := Ge01.Question
def fitP (q : Question) (ps : List Part) : Bool := (q.all.all fun k => (look ps k).isSome) && ((!(q.no.any fun k => (look ps k).isSome)) && (q.some_ == [] || q.some_.any fun k => (look ps k).isSome))
theorem fits_fitP (q : Question) (x : Thing) : Ge01.fits q x = fitP q x.parts := by
  cases x with
  | mk n p =>
    have e : Ge01.has ⟨n, p⟩ = fun k => (look p k).isSome := funext (has_some p n)
    unfold Ge01.fits fitP
    rw [e]
theorem things_succ : ∀ (h : Hs) (ts : List Nat) (k i : Nat) (x : Option (List Part)) (t : Nat), h[i]? = some x → ts[i]? = some t →
    things k (h.take (i + 1)) (ts.take (i + 1)) = things k (h.take i) (ts.take i) ++ (match x with | some p => [⟨⟨k + i, t⟩, p⟩] | none => [])
  | [], _, _, _, _, _, e, _ => by simp at e
  | _ :: _, [], _, _, _, _, _, e => by simp at e
  | y :: h, u :: ts, k, 0, x, t, e1, e2 => by
    have e1 : y = x := Option.some.inj e1
    have e2 : u = t := Option.some.inj e2
    subst e1 e2
    cases y <;> simp [things]
  | y :: h, u :: ts, k, i + 1, x, t, e1, e2 => by
    have ih := things_succ h ts (k + 1) i x t (by simpa using e1) (by simpa using e2)
    rw [show k + 1 + i = k + (i + 1) by omega] at ih
    cases y with
    | none =>
      simp only [List.take_succ_cons, things]
      exact ih
    | some p =>
      simp only [List.take_succ_cons, things, List.cons_append]
      rw [ih]
theorem things_mem : ∀ (h : Hs) (ts : List Nat) (k : Nat) (x : Thing), x ∈ things k h ts → ∃ i, x.name.place = k + i ∧ h[i]? = some (some x.parts) ∧ ts[i]? = some x.name.turn
  | [], _, _, _, m => by simp [things] at m
  | some _ :: _, [], _, _, m => by simp [things] at m
  | none :: _, [], _, _, m => by simp [things] at m
  | some p :: h, t :: ts, k, x, m => by
    simp only [things, List.mem_cons] at m
    rcases m with rfl | m
    · exact ⟨0, rfl, rfl, rfl⟩
    · obtain ⟨i, e1, e2, e3⟩ := things_mem h ts (k + 1) x m
      exact ⟨i + 1, by omega, by simpa using e2, by simpa using e3⟩
  | none :: h, t :: ts, k, x, m => by
    simp only [things] at m
    obtain ⟨i, e1, e2, e3⟩ := things_mem h ts (k + 1) x m
    exact ⟨i + 1, by omega, by simpa using e2, by simpa using e3⟩
/-- what a question tells -/
def tellT (q : Question) (m : M) : List Thing := (things 0 m.held m.turns).filter fun x => fitP q x.parts
def tellTo (q : Question) (m : M) (i : Nat) : List Thing := (things 0 (m.held.take i) (m.turns.take i)).filter fun x => fitP q x.parts
def nms (l : List Thing) : List Name := l.map fun x => x.name
theorem tellTo_all (q : Question) (m : M) (e : m.held.length = m.turns.length) : tellTo q m m.held.length = tellT q m := by
  unfold tellTo tellT
  rw [List.take_length, e, List.take_length]
theorem tellTo_succ (q : Question) (m : M) {i t : Nat} {x : Option (List Part)} (e1 : m.held[i]? = some x) (e2 : m.turns[i]? = some t) :
    tellTo q m (i + 1) = tellTo q m i ++ (match x with | some p => if fitP q p = true then [⟨⟨i, t⟩, p⟩] else [] | none => []) := by
  unfold tellTo
  rw [things_succ _ _ _ _ _ _ e1 e2, List.filter_append]
  congr 1
  rw [Nat.zero_add]
  cases x with
  | none => rfl
  | some p =>
    simp only [List.filter_cons, List.filter_nil]
theorem rel_asked {w : Ge01.World} {m : M} (r : Rel w m) (q : Question) : Ge01.asked w q = tellT q m := by
  unfold Ge01.asked tellT
  rw [r.th]
  apply List.filter_congr
  intro x _
  exact fits_fitP q x
theorem tellT_len (q : Question) (m : M) (e : m.held.length = m.turns.length) : (tellT q m).length ≤ m.held.length := by
  have h1 := List.length_filter_le (fun x : Thing => fitP q x.parts) (things 0 m.held m.turns)
  have h2 := things_len m.held m.turns 0 e
  have h3 := much_le_len m.held
  unfold tellT
  omega
theorem tellT_at {q : Question} {m : M} {x : Thing} (h : x ∈ tellT q m) : m.held[x.name.place]? = some (some x.parts) := by
  obtain ⟨i, e1, e2, _⟩ := things_mem _ _ _ _ (List.mem_filter.mp h).1
  rw [Nat.zero_add] at e1
  rw [e1]
  exact e2
/-- names as numbers -/
def nrow (ns : List Name) : List Int := ns.flatMap fun n => [(n.place : Int), (n.turn : Int)]
def nAns (ns : List Name) : List Int := (ns.length : Int) :: nrow ns
theorem nrow_len : ∀ ns : List Name, (nrow ns).length = 2 * ns.length
  | [] => rfl
  | n :: l => by
    show (nrow l).length + 1 + 1 = _
    rw [nrow_len l, List.length_cons]
    omega
theorem nrow_snoc (l : List Name) (n : Name) : nrow (l ++ [n]) = nrow l ++ [(n.place : Int), (n.turn : Int)] := by
  unfold nrow
  rw [List.flatMap_append]
  rfl
theorem ints_names (l : List Name) : Ge01.ints (l.length :: l.flatMap Ge01.nameRow) = nAns l := by
  unfold Ge01.ints nAns nrow
  rw [List.map_cons, List.map_flatMap]
  rfl
def askR (m : M) (q : Question) : List Int := if Ge01.questionOk q = false then [-1] else nAns (nms (tellT q m))
def sumR (m : M) (k : Nat) (q : Question) : List Int := if Ge01.questionOk q = false then [-1] else [(((tellT q m).filterMap fun x => look x.parts k).length : Int), (((tellT q m).filterMap fun x => look x.parts k).sum : Int)]
theorem step_ask {g : Ge01.St} {m : M} (r : Rel g.world m) (q : Question) : Ge01.step g (.ask q) = (g, askR m q) := by
  unfold askR
  dsimp only [Ge01.step]
  rw [rel_asked r]
  split
  · rfl
  · rw [← ints_names]
    unfold nms
    rw [List.length_map, List.flatMap_map]
theorem sum_cast (l : List Nat) : ((l.sum : Nat) : Int) = (up l).sum := by
  induction l with
  | nil => rfl
  | cons a l ih =>
    show ((a + l.sum : Nat) : Int) = (a : Int) + (up l).sum
    rw [← ih]
    omega
theorem step_sum {g : Ge01.St} {m : M} (r : Rel g.world m) (k : Nat) (q : Question) : Ge01.step g (.sum q k) = (g, sumR m k q) := by
  unfold sumR
  dsimp only [Ge01.step]
  rw [rel_asked r]
  split
  · rfl
  · rfl
theorem step_count {g : Ge01.St} {m : M} (r : Rel g.world m) : Ge01.step g .count = (g, [(much m.held : Int), (g.later.length : Int), (m.turns.sum : Int)]) := by
  dsimp only [Ge01.step]
  rw [rel_much r, rel_sum r]
  rfl
/-! ### what is put off, done -/
theorem much_set_none_le (h : Hs) (a : Nat) (p : List Part) (e : h[a]? = some (some p)) : much (h.set a none) ≤ much h := by
  have := much_set_none h a p e
  omega
theorem to_bound {m : M} {a b : Nat} {p : List Part} (e : m.slot a b = some p) (q : List Part) : much (m.to a q).held = much m.held ∧ (m.to a q).held.length = m.held.length :=
  ⟨much_set_some m.held a p q (slot_some e).1, List.length_set⟩
theorem gone_bound {m : M} {a b : Nat} {p : List Part} (e : m.slot a b = some p) : much (m.gone a b).held ≤ much m.held ∧ (m.gone a b).held.length = m.held.length :=
  ⟨much_set_none_le m.held a p (slot_some e).1, List.length_set⟩
theorem mdo1_bound (m : M) (ws : Ws) (c : Change) : much (mdo1 m ws c).1.held ≤ much m.held + 1 ∧ (mdo1 m ws c).1.held.length ≤ max m.held.length (much m.held + 1) ∧ (mdo1 m ws c).2.length ≤ ws.length + 1 := by
  cases c with
  | make d p =>
    dsimp only [mdo1]
    refine ⟨Nat.le_of_eq (much_hput m.held p), ?_, ?_⟩
    · show (hput m.held p).length ≤ _
      rw [hput_len]
      have := free_le_much m.held
      split <;> omega
    · rw [List.length_append]
      have := List.length_filter_le (fun y : Nat × Name => y.1 != d) ws
      simp
      omega
  | gone n =>
    dsimp only [mdo1]
    cases e : m.slot n.place n.turn with
    | none => exact ⟨by dsimp only; omega, by dsimp only; omega, by omega⟩
    | some p =>
      have := gone_bound e
      exact ⟨by dsimp only; omega, by dsimp only; omega, by omega⟩
  | put n k v =>
    dsimp only [mdo1]
    cases e : m.slot n.place n.turn with
    | none => exact ⟨by dsimp only; omega, by dsimp only; omega, by omega⟩
    | some p =>
      have := to_bound e (Ge01.partsPut k v p)
      exact ⟨by dsimp only; omega, by dsimp only; omega, by omega⟩
  | take n k =>
    dsimp only [mdo1]
    cases e : m.slot n.place n.turn with
    | none => exact ⟨by dsimp only; omega, by dsimp only; omega, by omega⟩
    | some p =>
      have := to_bound e (p.filter fun q => q.1 != k)
      exact ⟨by dsimp only; omega, by dsimp only; omega, by omega⟩
  | putNew d k v =>
    dsimp only [mdo1]
    cases ws.find? fun y => y.1 == d with
    | none => exact ⟨by dsimp only; omega, by dsimp only; omega, by omega⟩
    | some y =>
      dsimp only
      cases e : m.slot y.2.place y.2.turn with
      | none => exact ⟨by dsimp only; omega, by dsimp only; omega, by omega⟩
      | some p =>
        have := to_bound e (Ge01.partsPut k v p)
        exact ⟨by dsimp only; omega, by dsimp only; omega, by omega⟩
  | goneNew d =>
    dsimp only [mdo1]
    cases ws.find? fun y => y.1 == d with
    | none => exact ⟨by dsimp only; omega, by dsimp only; omega, by omega⟩
    | some y =>
      dsimp only
      cases e : m.slot y.2.place y.2.turn with
      | none => exact ⟨by dsimp only; omega, by dsimp only; omega, by omega⟩
      | some p =>
        have := gone_bound e
        exact ⟨by dsimp only; omega, by dsimp only; omega, by omega⟩
theorem mdo_snoc : ∀ (l : List Change) (m : M) (ws : Ws) (c : Change), mdo m ws (l ++ [c]) = mdo1 (mdo m ws l).1 (mdo m ws l).2 c
  | [], m, ws, c => rfl
  | d :: l, m, ws, c => mdo_snoc l _ _ c
theorem mdo_bound : ∀ (l : List Change) (m : M) (ws : Ws) (a b c : Nat), much m.held ≤ a → m.held.length ≤ b → ws.length ≤ c → a + l.length ≤ b → much (mdo m ws l).1.held ≤ a + l.length ∧ (mdo m ws l).1.held.length ≤ b ∧ (mdo m ws l).2.length ≤ c + l.length
  | [], m, ws, a, b, c, h1, h2, h3, h4 => ⟨h1, h2, h3⟩
  | d :: l, m, ws, a, b, c, h1, h2, h3, h4 => by
    obtain ⟨k1, k2, k3⟩ := mdo1_bound m ws d
    rw [List.length_cons] at h4 ⊢
    have := mdo_bound l (mdo1 m ws d).1 (mdo1 m ws d).2 (a + 1) b (c + 1) (by omega) (by omega) (by omega) (by omega)
    show much (mdo (mdo1 m ws d).1 (mdo1 m ws d).2 l).1.held ≤ _ ∧ (mdo (mdo1 m ws d).1 (mdo1 m ws d).2 l).1.held.length ≤ _ ∧ (mdo (mdo1 m ws d).1 (mdo1 m ws d).2 l).2.length ≤ _
    omega
/-- a change by a word, by the name that the word stands for -/
def named (ws : Ws) : Change → Option Change
  | .putNew d k v => (ws.find? fun y => y.1 == d).map fun y => .put y.2 k v
  | .goneNew d => (ws.find? fun y => y.1 == d).map fun y => .gone y.2
  | c => some c
theorem mdo1_named (m : M) (ws : Ws) (c : Change) (hc : ∀ d p, c ≠ .make d p) : mdo1 m ws c = match named ws c with
    | none => (m, ws)
    | some c' => ((mdo1 m ws c').1, ws) := by
  cases c with
  | make d p => exact absurd rfl (hc d p)
  | gone n => rfl
  | put n k v => rfl
  | take n k => rfl
  | putNew d k v =>
    dsimp only [mdo1, named]
    cases ws.find? fun y => y.1 == d <;> rfl
  | goneNew d =>
    dsimp only [mdo1, named]
    cases ws.find? fun y => y.1 == d <;> rfl
theorem to_same {m : M} {a : Nat} {p : List Part} (h : m.held[a]? = some (some p)) : m.to a p = m := by
  unfold M.to
  have e : m.held.set a (some p) = m.held := by
    apply List.ext_getElem?
    intro i
    rw [List.getElem?_set]
    split
    · rename_i c
      subst c
      rw [h, if_pos (List.getElem?_eq_some_iff.mp h).1]
    · rfl
  rw [e]
theorem look_none {p : List Part} {k : Nat} (h : look p k = none) : (p.filter fun q => q.1 != k) = p := by
  rw [List.filter_eq_self]
  intro x hx
  unfold look at h
  rw [Option.map_eq_none_iff, List.find?_eq_none] at h
  have := h x hx
  simpa using this
theorem takeR_mdo (m : M) (ws : Ws) (n : Name) (k : Nat) : (takeR m n.place n.turn k).1 = (mdo1 m ws (.take n k)).1 := by
  unfold takeR
  dsimp only [mdo1]
  cases e : m.slot n.place n.turn with
  | none => rfl
  | some p =>
    dsimp only
    cases e2 : look p k with
    | none =>
      dsimp only
      rw [look_none e2, to_same (slot_some e).1]
    | some v => rfl
theorem goneR_mdo (m : M) (ws : Ws) (n : Name) : (goneR m n.place n.turn).1 = (mdo1 m ws (.gone n)).1 := by
  unfold goneR
  dsimp only [mdo1]
  cases e : m.slot n.place n.turn <;> rfl
theorem putR_mdo (m : M) (ws : Ws) (n : Name) (k v : Nat) (h : Ge01.partOk (k, v) = true) : (putR m n.place n.turn k v).1 = (mdo1 m ws (.put n k v)).1 := by
  unfold putR
  dsimp only [mdo1]
  rw [if_neg (by rw [h]; decide)]
  cases e : m.slot n.place n.turn <;> rfl
/-- the words are told once each -/
def Once (ws : Ws) : Prop := (ws.map (·.1)).Nodup
theorem once_mdo1 {ws : Ws} (m : M) (h : Once ws) (c : Change) : Once (mdo1 m ws c).2 := by
  cases c with
  | make d p =>
    show (((ws.filter fun y => y.1 != d) ++ [(d, m.place)]).map (·.1)).Nodup
    rw [List.map_append]
    have hs : ((ws.filter fun y => y.1 != d).map (·.1)).Sublist (ws.map (·.1)) := (List.filter_sublist).map _
    refine List.nodup_append.mpr ⟨hs.nodup h, by simp, ?_⟩
    intro a ha b hb
    simp at hb
    subst hb
    obtain ⟨y, hy, rfl⟩ := List.mem_map.mp ha
    have := (List.mem_filter.mp hy).2
    simpa using this
  | gone n => exact h
  | put n k v => exact h
  | take n k => exact h
  | putNew d k v => exact h
  | goneNew d => exact h
def wAns (ws : Ws) : List Int := ws.flatMap fun y => [(y.1 : Int), (y.2.place : Int), (y.2.turn : Int)]
theorem wAns_snoc (l : Ws) (y : Nat × Name) : wAns (l ++ [y]) = wAns l ++ [(y.1 : Int), (y.2.place : Int), (y.2.turn : Int)] := by
  unfold wAns
  rw [List.flatMap_append]
  rfl
theorem wAns_len : ∀ ws : Ws, (wAns ws).length = 3 * ws.length
  | [] => rfl
  | n :: l => by
    show (wAns l).length + 1 + 1 + 1 = _
    rw [wAns_len l, List.length_cons]
    omega
/-- apply -/
def applyR (m : M) (off : List Change) : M × List Change × List Int :=
  if 20 < much (mdo m [] off).1.held then (m, off, [-5]) else ((mdo m [] off).1, [], (much (mdo m [] off).1.held : Int) :: ((mdo m [] off).2.length : Int) :: wAns (mdo m [] off).2)
theorem step_apply {g : Ge01.St} {m : M} (r : Rel g.world m) :
    (Ge01.step g .apply).2 = (applyR m g.later).2.2 ∧ Rel (Ge01.step g .apply).1.world (applyR m g.later).1 ∧ (Ge01.step g .apply).1.later = (applyR m g.later).2.1 ∧ (Ge01.step g .apply).1.questions = g.questions ∧ (Ge01.step g .apply).1.told = g.told := by
  obtain ⟨h1, h2⟩ := rel_doAll g.later g.world m [] r
  have e : Ge01.step g .apply = if 20 < (Ge01.doAll g.world [] g.later).1.things.length then (g, [-5]) else ({ g with world := (Ge01.doAll g.world [] g.later).1, later := [] }, Ge01.ints ([(Ge01.doAll g.world [] g.later).1.things.length, (Ge01.doAll g.world [] g.later).2.length] ++ (Ge01.doAll g.world [] g.later).2.flatMap fun y => y.1 :: Ge01.nameRow y.2)) := rfl
  rw [e, rel_much h2, h1]
  unfold applyR
  split
  · exact ⟨rfl, r, rfl, rfl, rfl⟩
  · refine ⟨?_, h2, rfl, rfl, rfl⟩
    show Ge01.ints (much (mdo m [] g.later).1.held :: (mdo m [] g.later).2.length :: (mdo m [] g.later).2.flatMap fun y => y.1 :: Ge01.nameRow y.2) = _
    unfold Ge01.ints wAns
    rw [List.map_cons, List.map_cons, List.map_flatMap]
    rfl
theorem small_apply {m : M} (h : Small m) {off : List Change} (hl : off.length ≤ 30) : Small (applyR m off).1 := by
  unfold applyR
  split
  · exact h
  · rename_i c
    have := mdo_bound off m [] 20 50 0 h.few h.len (Nat.zero_le _) (by omega)
    exact ⟨by dsimp only; omega, by dsimp only; omega⟩
/-! ### kept questions -/
def keepR (qs : List Question) (told : List (List Name)) (q : Question) : List Question × List (List Name) × List Int :=
  if Ge01.questionOk q = false then (qs, told, [-1]) else if 6 ≤ qs.length then (qs, told, [-5]) else (qs ++ [q], told ++ [[]], [(qs.length : Int)])
theorem step_keep {g : Ge01.St} (q : Question) :
    (Ge01.step g (.keep q)).2 = (keepR g.questions g.told q).2.2 ∧ (Ge01.step g (.keep q)).1.world = g.world ∧ (Ge01.step g (.keep q)).1.later = g.later ∧ (Ge01.step g (.keep q)).1.questions = (keepR g.questions g.told q).1 ∧ (Ge01.step g (.keep q)).1.told = (keepR g.questions g.told q).2.1 := by
  unfold keepR
  dsimp only [Ge01.step]
  split
  · exact ⟨rfl, rfl, rfl, rfl, rfl⟩
  · split
    · exact ⟨rfl, rfl, rfl, rfl, rfl⟩
    · exact ⟨rfl, rfl, rfl, rfl, rfl⟩
def freshR (m : M) (qs : List Question) (told : List (List Name)) (i : Nat) : List (List Name) × List Int := match qs[i]? with
  | none => (told, [-2])
  | some q => (told.set i (nms (tellT q m)), nAns ((nms (tellT q m)).filter fun n => !(told.getD i []).contains n) ++ nAns ((told.getD i []).filter fun n => !(nms (tellT q m)).contains n))
theorem step_fresh {g : Ge01.St} {m : M} (r : Rel g.world m) (i : Nat) :
    (Ge01.step g (.fresh i)).2 = (freshR m g.questions g.told i).2 ∧ (Ge01.step g (.fresh i)).1.world = g.world ∧ (Ge01.step g (.fresh i)).1.later = g.later ∧ (Ge01.step g (.fresh i)).1.questions = g.questions ∧ (Ge01.step g (.fresh i)).1.told = (freshR m g.questions g.told i).1 := by
  unfold freshR
  dsimp only [Ge01.step]
  cases e : g.questions[i]? with
  | none => exact ⟨rfl, rfl, rfl, rfl, rfl⟩
  | some q =>
    dsimp only
    rw [rel_asked r]
    refine ⟨?_, rfl, rfl, rfl, rfl⟩
    unfold Ge01.news
    dsimp only
    rw [ints_names, ints_names]
    rfl
end Pw

namespace Pw
open L2 PySem PySem.Spec PyProof.Rows
open Ge01 (Part Name Change Question)
/-! ### names in the heap -/
def tupN (n : Name) : HO := .tup [.int (n.place : Int), .int (n.turn : Int)]
def NamesAt (H : Hp) (ts : List Addr) (ns : List Name) : Prop := ts.length = ns.length ∧ ∀ (i : Nat) (t : Addr) (n : Name), ts[i]? = some t → ns[i]? = some n → H t = some (tupN n)
theorem NamesAt.nil (H : Hp) : NamesAt H [] [] := ⟨rfl, fun i t n h => by simp at h⟩
theorem NamesAt.mono {H H' : Hp} {ts : List Addr} {ns : List Name} (h : NamesAt H ts ns) (k : ∀ t ∈ ts, ∀ o, H t = some o → H' t = some o) : NamesAt H' ts ns :=
  ⟨h.1, fun i t n e1 e2 => k t (List.mem_of_getElem? e1) _ (h.2 i t n e1 e2)⟩
theorem NamesAt.same {H H' : Hp} {ts : List Addr} {ns : List Name} (h : NamesAt H ts ns) (s : Same H H') : NamesAt H' ts ns := h.mono fun t _ o e => s t o e
theorem NamesAt.snoc {H : Hp} {ts : List Addr} {ns : List Name} (h : NamesAt H ts ns) {t : Addr} {n : Name} (e : H t = some (tupN n)) : NamesAt H (ts ++ [t]) (ns ++ [n]) := by
  refine ⟨by rw [List.length_append, List.length_append, h.1]; rfl, fun i z y e1 e2 => ?_⟩
  rw [List.getElem?_append] at e1 e2
  rw [h.1] at e1
  split at e1
  · rename_i c
    rw [if_pos c] at e2
    exact h.2 i z y e1 e2
  · rename_i c
    rw [if_neg c] at e2
    have c0 : i - ns.length = 0 := by
      have := (List.getElem?_eq_some_iff.mp e1).1
      simp at this
      omega
    rw [c0] at e1 e2
    have e1 : t = z := Option.some.inj e1
    have e2 : n = y := Option.some.inj e2
    subst e1 e2
    exact e
theorem NamesAt.get {H : Hp} {ts : List Addr} {ns : List Name} (h : NamesAt H ts ns) {i : Nat} {t : Addr} (e : ts[i]? = some t) : ∃ n, ns[i]? = some n ∧ H t = some (tupN n) := by
  have hl := (List.getElem?_eq_some_iff.mp e).1
  rw [h.1] at hl
  exact ⟨ns[i], List.getElem?_eq_getElem hl, h.2 i t _ e (List.getElem?_eq_getElem hl)⟩
theorem ref_get {ts : List Addr} {i : Nat} {x : V} (h : (ts.map V.ref)[i]? = some x) : ∃ t, ts[i]? = some t ∧ x = V.ref t := by
  rw [List.getElem?_map] at h
  cases e : ts[i]? with
  | none =>
    rw [e] at h
    cases h
  | some t =>
    rw [e] at h
    exact ⟨t, rfl, (Option.some.inj h).symm⟩
section
variable {K : PySem.W.Frag} {P : Program} {w : World} {mg : Str → Option Value} {base : Heap} {C CQ : Addr}
abbrev s_counted_names : Stmt := top 33
abbrev N_counted_names : List Str := ["names", "answer", "name"]
theorem sc_counted_names : FnScope N_counted_names ["names"] (defScope s_counted_names) := ⟨rfl, rfl, rfl, by decide +kernel, rfl, by decide +kernel, by decide +kernel⟩
def sp_counted_names : Sp := fun vs H Q _ => ∃ (l : Addr) (ts : List Addr) (ns : List Name), vs = [.ref l] ∧ H l = some (.lst (ts.map V.ref)) ∧ NamesAt H ts ns ∧ ns.length ≤ 400 ∧ ∀ H' q, Same H H' → H q = none → H' q = some (.lst (IL (nAns ns))) → Q (.ref q) H'
theorem ok_counted_names {f : Addr} {fd : FuncData} (F : Fun K "counted_names" "counted_names" s_counted_names f fd) (T : Con mg) : FnOk P w K mg base CX0 1 f fd ["names"] sp_counted_names := by
  refine F.ok sc_counted_names (fun vs H Q E h => ?_) (fun cdv A outer s H vs Q E hr h => ?_)
  · obtain ⟨l, ts, ns, rfl, _⟩ := h
    rfl
  · obtain ⟨l, ts, ns, rfl, hS, hN, hl, q⟩ := h
    have tl := hN.1
    refine ⟨_, (pss_cons (ps_set (i := 1) sc_counted_names.nd rfl (Or.inl rfl) (pe_lst (pa_cons (pe_callB call_len_seq (by rfl) T.len PySem.boot_len (pa_cons (pv 0) pa_nil)) pa_nil)))
      (pss_cons (ps_for PassesOwn.never rfl (pi_list (pv 0)) (pg_name (i := 2) sc_counted_names.nd rfl (Or.inl rfl)) (pss_one (ps_expr (pe_bm PySem.F.plainAttrs_list PySem.F.slot_list_extend PySem.F.type_list_extend mt_extendT (pv 1) (pa_cons (pv 2) pa_nil)))))
      (pss_one (ps_ret (pv 1))))), ?_⟩
    refine ⟨_, rfl, l, _, rfl, .inl (SqL.of hS), sz1, fun an h1 => ?_⟩
    have nl : l ≠ an := ne_of_none hS h1
    rw [List.length_map]
    have s1 : ∀ o, Same H (upd H an o) := fun o => Same.new h1
    refine ⟨_, rfl, l, rfl, ⟨_, SqL.of (s1 _ _ _ hS)⟩, for_list (K := K) (a := l) (xs := ts.map V.ref) (fun i σ H' => ∃ v, σ = [some (.ref l), some (.ref an), v] ∧ H' = upd H an (.lst (IL ((ns.length : Int) :: nrow (ns.take i))))) ⟨none, rfl, ?_⟩ ?_ ?_ ?_⟩
    · rw [tl]
      rfl
    · rintro i σ H' _ ⟨v, rfl, rfl⟩
      exact SqL.of (s1 _ _ _ hS)
    · rintro i x σ H' hi ⟨v, rfl, rfl⟩
      obtain ⟨t, et, rfl⟩ := ref_get hi
      obtain ⟨n, en, ht⟩ := hN.get et
      have hil := (List.getElem?_eq_some_iff.mp en).1
      have rl := nrow_len (ns.take i)
      rw [List.length_take] at rl
      refine ⟨_, rfl, .inl ⟨rfl, _, SqL.of upd_same⟩, _, rfl, an, t, _, _, rfl, rfl, upd_same, s1 _ _ _ ht, ?_, ?_⟩
      · rw [List.length_map, List.length_cons]
        have : (1000 : Nat) < sizeLine := by decide
        show _ + 2 ≤ sizeLine
        omega
      · rw [upd_upd]
        refine ⟨_, rfl, ?_⟩
        rw [take_snoc en, nrow_snoc]
        simp [IL]
    · rintro σ H' ⟨v, rfl, rfl⟩
      rw [List.length_map, tl, List.take_length]
      exact ⟨_, rfl, q _ an (s1 _) h1 upd_same⟩
/-! ### questions -/
structure QLay where
  p : Addr
  dx : Addr
  a : Addr
  n : Addr
  s : Addr
def qF (Y : QLay) : List (Str × V) := [("all_of", .ref Y.a), ("none_of", .ref Y.n), ("one_of", .ref Y.s)]
theorem qF_a (Y : QLay) : (qF Y).lookup ("all_of" : Str) = some (.ref Y.a) := lk_here
theorem qF_n (Y : QLay) : (qF Y).lookup ("none_of" : Str) = some (.ref Y.n) := (lk_past (by decide +kernel)).trans lk_here
theorem qF_s (Y : QLay) : (qF Y).lookup ("one_of" : Str) = some (.ref Y.s) := (lk_past (by decide +kernel)).trans ((lk_past (by decide +kernel)).trans lk_here)
theorem qF_no (Y : QLay) {m : Str} (h1 : (m == ("all_of" : Str)) = false) (h2 : (m == ("none_of" : Str)) = false) (h3 : (m == ("one_of" : Str)) = false) : (qF Y).lookup m = none := (lk_past h1).trans ((lk_past h2).trans ((lk_past h3).trans rfl))
structure QTxt (K : PySem.W.Frag) (C : Addr) : Prop where
  cl : Cls K C
  nA : NoAttr K C "all_of"
  nN : NoAttr K C "none_of"
  nS : NoAttr K C "one_of"
structure QAt (C : Addr) (H : Hp) (Y : QLay) (q : Qn) : Prop where
  ob : H Y.p = some (.ins C Y.dx (qF Y))
  al : H Y.a = some (.lst (IL (up q.all)))
  no : H Y.n = some (.lst (IL (up q.no)))
  so : H Y.s = some (.lst (IL (up q.some_)))
def QLay.has (Y : QLay) (z : Addr) : Prop := z = Y.p ∨ z = Y.a ∨ z = Y.n ∨ z = Y.s
theorem QAt.mono {C : Addr} {H H' : Hp} {Y : QLay} {q : Qn} (h : QAt C H Y q) (k : ∀ z o, Y.has z → H z = some o → H' z = some o) : QAt C H' Y q :=
  ⟨k _ _ (.inl rfl) h.ob, k _ _ (.inr (.inl rfl)) h.al, k _ _ (.inr (.inr (.inl rfl))) h.no, k _ _ (.inr (.inr (.inr rfl))) h.so⟩
theorem QAt.same {C : Addr} {H H' : Hp} {Y : QLay} {q : Qn} (h : QAt C H Y q) (s : Same H H') : QAt C H' Y q := h.mono fun z o _ e => s z o e
theorem QAt.is {C : Addr} {H : Hp} {Y : QLay} {q : Qn} (h : QAt C H Y q) {z : Addr} (f : Y.has z) : ∃ o, H z = some o := by
  rcases f with rfl | rfl | rfl | rfl
  · exact ⟨_, h.ob⟩
  · exact ⟨_, h.al⟩
  · exact ⟨_, h.no⟩
  · exact ⟨_, h.so⟩
abbrev s_Question___init__ : Stmt := inClass (top 34) 0
abbrev N_Question___init__ : List Str := ["self", "all_of", "none_of", "one_of"]
theorem sc_Question___init__ : FnScope N_Question___init__ ["self", "all_of", "none_of", "one_of"] (defScope s_Question___init__) := ⟨rfl, rfl, rfl, by decide +kernel, rfl, by decide +kernel, by decide +kernel⟩
def sp_Question___init__ (C : Addr) : Sp := fun vs H Q _ => ∃ Y : QLay, vs = [.ref Y.p, .ref Y.a, .ref Y.n, .ref Y.s] ∧ H Y.p = some (.ins C Y.dx []) ∧ Q .non (upd H Y.p (.ins C Y.dx (qF Y)))
theorem ok_Question___init__ {f : Addr} {fd : FuncData} (F : Fun K "__init__" "Question.__init__" s_Question___init__ f fd) (R : QTxt K C) : FnOk P w K mg base CX0 1 f fd ["self", "all_of", "none_of", "one_of"] (sp_Question___init__ C) := by
  refine F.ok sc_Question___init__ (fun vs H Q E h => ?_) (fun cdv A outer s H vs Q E hr h => ?_)
  · obtain ⟨Y, rfl, _⟩ := h
    rfl
  · obtain ⟨Y, rfl, hp, q⟩ := h
    refine ⟨_, (pss_cons (ps_fld (pv 0) (pv 1) rfl)
      (pss_cons (ps_fld (pv 0) (pv 2) rfl)
      (pss_one (ps_fld (pv 0) (pv 3) rfl)))), ?_⟩
    refine ⟨_, rfl, _, rfl, Y.p, C, Y.dx, [], rfl, hp, R.cl, R.nA, (by show 0 < 1000; decide), _, rfl, _, rfl, Y.p, C, Y.dx, _, rfl, upd_same, R.cl, R.nN, (by show 1 < 1000; decide), _, rfl, _, rfl, Y.p, C, Y.dx, _, rfl, upd_same, R.cl, R.nS, (by show 2 < 1000; decide), ?_⟩
    rw [upd_upd, upd_upd]
    have e : putF "one_of" (.ref Y.s) (putF "none_of" (.ref Y.n) (putF "all_of" (.ref Y.a) [])) = qF Y := (congrArg (putF _ _) ((put_past (by decide +kernel)).trans rfl)).trans ((put_past (by decide +kernel)).trans (congrArg _ ((put_past (by decide +kernel)).trans rfl)))
    rw [e]
    exact q
theorem qOk_bad (q : Qn) : Ge01.questionOk q = false ↔ 12 < (q.all ++ q.no ++ q.some_).length ∨ ∃ k ∈ q.all ++ q.no ++ q.some_, 15 < k := by
  unfold Ge01.questionOk
  rw [← List.append_assoc, Bool.and_eq_false_iff, decide_eq_false_iff_not, List.all_eq_false]
  constructor
  · rintro (h | ⟨k, h1, h2⟩)
    · exact .inl (by omega)
    · exact .inr ⟨k, h1, by simpa using h2⟩
  · rintro (h | ⟨k, h1, h2⟩)
    · exact .inl (by omega)
    · exact .inr ⟨k, h1, by simpa using h2⟩
abbrev s_Question_wrong : Stmt := inClass (top 34) 1
abbrev N_Question_wrong : List Str := ["self", "kinds"]
theorem sc_Question_wrong : FnScope N_Question_wrong ["self"] (defScope s_Question_wrong) := ⟨rfl, rfl, rfl, by decide +kernel, rfl, by decide +kernel, by decide +kernel⟩
def sp_Question_wrong (C : Addr) : Sp := fun vs H Q _ => ∃ (Y : QLay) (q : Qn), vs = [.ref Y.p] ∧ QAt C H Y q ∧ q.all.length ≤ 2400 ∧ q.no.length ≤ 2400 ∧ q.some_.length ≤ 2400 ∧ ∀ H', Same H H' → Q (.bl (!Ge01.questionOk q)) H'
theorem ok_Question_wrong {f : Addr} {fd : FuncData} (F : Fun K "wrong" "Question.wrong" s_Question_wrong f fd) (T : Con mg) (R : QTxt K C) : FnOk P w K mg base CX0 1 f fd ["self"] (sp_Question_wrong C) := by
  refine F.ok sc_Question_wrong (fun vs H Q E h => ?_) (fun cdv A outer s H vs Q E hr h => ?_)
  · obtain ⟨Y, q, rfl, _⟩ := h
    rfl
  · obtain ⟨Y, q, rfl, A1, l1, l2, l3, k⟩ := h
    have sz : (100000 : Nat) < sizeLine := by decide
    have hu := hu_of hr
    refine ⟨_, (pss_cons (ps_set (i := 1) sc_Question_wrong.nd rfl (Or.inl rfl) (pe_op op_cat (pe_op op_cat (pe_fld (pv 0) rfl) (pe_fld (pv 0) rfl)) (pe_fld (pv 0) rfl)))
      (pss_one (ps_ret (pe_or (pe_cmpR op_gt (pe_callB call_len_seq (by rfl) T.len PySem.boot_len (pa_cons (pv 1) pa_nil)) (pe_gc T.MOST_KINDS_TOLD) (nomark _)) (pe_one (pe_cmpR op_gt (pe_callBK (cr_maxDf hu rfl) (by rfl) T.max boot_max (pa_cons (pv 1) pa_nil) (pk_cons pe_int pk_nil)) (pe_gc T.HIGHEST_KIND) (nomark _))))))), ?_⟩
    refine ⟨_, rfl, Y.p, C, Y.dx, _, _, rfl, A1.ob, R.cl, R.nA, qF_a Y, _, rfl, Y.p, C, Y.dx, _, _, rfl, A1.ob, R.cl, R.nN, qF_n Y, _, _, _, _, rfl, rfl, A1.al, A1.no, ?_, fun d1 h1 => ?_⟩
    · simp only [List.length_map]
      omega
    have s1 := Same.new h1 (o := .lst (IL (up q.all) ++ IL (up q.no)))
    refine ⟨_, rfl, Y.p, C, Y.dx, _, _, rfl, s1 _ _ A1.ob, R.cl, R.nS, qF_s Y, _, _, _, _, rfl, rfl, upd_same, s1 _ _ A1.so, ?_, fun d2 h2 => ?_⟩
    · simp only [List.length_map, List.length_append]
      omega
    have s2 := s1.trans (Same.new h2 (o := .lst (IL (up q.all) ++ IL (up q.no) ++ IL (up q.some_))))
    have e : IL (up q.all) ++ IL (up q.no) ++ IL (up q.some_) = IL (up (q.all ++ q.no ++ q.some_)) := by simp [IL]
    rw [e] at s2 ⊢
    refine ⟨_, rfl, d2, _, rfl, .inl (SqL.of upd_same), _, _, rfl, rfl, _, rfl, ?_⟩
    rw [List.length_map, List.length_map]
    by_cases c : 12 < (q.all ++ q.no ++ q.some_).length
    · rw [decide_eq_true (by omega)]
      have b := (qOk_bad q).mpr (.inl c)
      have := k _ s2
      rw [b] at this
      exact iteT this
    · rw [decide_eq_false (by omega)]
      refine iteF ?_
      refine ⟨_, rfl, d2, _, 0, rfl, rfl, SqL.of upd_same, fun e0 => ?_, fun m hm hle => ?_⟩
      · refine ⟨_, _, rfl, rfl, ?_⟩
        have e1 : q.all ++ q.no ++ q.some_ = [] := List.map_eq_nil_iff.mp e0
        have b : Ge01.questionOk q = true := by
          cases z : Ge01.questionOk q with
          | true => rfl
          | false =>
            rcases (qOk_bad q).mp z with h | ⟨x, hx, _⟩
            · exact absurd h c
            · rw [e1] at hx
              cases hx
        have := k _ s2
        rw [b] at this
        exact this
      · refine ⟨_, _, rfl, rfl, ?_⟩
        obtain ⟨x, hx, rfl⟩ := List.mem_map.mp hm
        have b : decide ((15 : Int) < (x : Int)) = !Ge01.questionOk q := by
          cases z : Ge01.questionOk q with
          | true =>
            have : ¬ (15 < x) := fun h => by
              have := (qOk_bad q).mpr (.inr ⟨x, hx, h⟩)
              rw [z] at this
              cases this
            rw [decide_eq_false (by omega)]
            rfl
          | false =>
            rcases (qOk_bad q).mp z with h | ⟨y, hy, h⟩
            · exact absurd h c
            · have := hle (y : Int) (List.mem_map_of_mem hy)
              rw [decide_eq_true (by omega)]
              rfl
        show Q (.bl (decide ((15 : Int) < (x : Int)))) _
        rw [b]
        exact k _ s2
end
end Pw

namespace Pw
open L2 PySem PySem.Spec PyProof.Rows
open Ge01 (Part Name Change)
section
variable {K : PySem.W.Frag} {P : Program} {w : World} {mg : Str → Option Value} {base : Heap} {C CQ : Addr}
def hasL (ps : List Part) (ks : List Nat) : List Bool := ks.map fun k => (look ps k).isSome
theorem hasL_take {ps : List Part} {ks : List Nat} {i k : Nat} (h : ks[i]? = some k) : hasL ps (ks.take (i + 1)) = hasL ps (ks.take i) ++ [(look ps k).isSome] := by
  unfold hasL
  rw [take_snoc h, List.map_append]
  rfl
abbrev s_Question_fits : Stmt := inClass (top 34) 2
abbrev N_Question_fits : List Str := ["self", "parts", "kind"]
theorem sc_Question_fits : FnScope N_Question_fits ["self", "parts"] (defScope s_Question_fits) := ⟨rfl, rfl, rfl, by decide +kernel, rfl, by decide +kernel, by decide +kernel⟩
theorem up_get {ks : List Nat} {i : Nat} {x : V} (h : (IL (up ks))[i]? = some x) : ∃ k0, ks[i]? = some k0 ∧ x = .int (k0 : Int) := by
  rw [List.getElem?_map, List.getElem?_map] at h
  cases e : ks[i]? with
  | none =>
    rw [e] at h
    cases h
  | some k0 =>
    rw [e] at h
    exact ⟨k0, rfl, (Option.some.inj h).symm⟩
/-- one list of kinds, looked up in a thing's parts -/
theorem lc_has {p d dx a : Addr} {fs : List (Str × V)} {f : Str} {ks : List Nat} {kvs : List (Key × V)} {ps : List Part} {H : Hp} {Q : VK} (hp : H p = some (.ins C dx fs)) (cl : Cls K C) (nf : NoAttr K C f) (hf : fs.lookup f = some (.ref a)) (ha : H a = some (.lst (IL (up ks)))) (hd : H d = some (.dK kvs)) (dk : DictIs kvs ps) (hi : Inc ps) (hl : ks.length ≤ 900)
    (q : ∀ D, H D = none → Q (.ref D) (upd H D (.lst ((hasL ps ks).map V.bl)))) : tLc (iList K (tFld K (tVar 0) f)) (gName 2) tYes (tDIn (tVar 2) (tVar 1)) (List.map (fun x => x.snd) [(("kind" : Str), 2)]) (L2.start N_Question_fits [V.ref p, V.ref d]) H Q := by
  refine ⟨_, rfl, p, C, dx, _, _, rfl, hp, cl, nf, hf, a, rfl, ⟨_, SqL.of ha⟩, fun D hD => ?_⟩
  refine lc_list (K := K) (a := a) (xs := IL (up ks)) (fun i H' => H' = upd H D (.lst ((hasL ps (ks.take i)).map V.bl))) rfl ?_ ?_ ?_
  · rintro i H' _ rfl
    exact SqL.of (Same.new hD _ _ ha)
  · rintro i x H' hx rfl
    obtain ⟨k0, ek, rfl⟩ := up_get hx
    have hil := (List.getElem?_eq_some_iff.mp ek).1
    refine ⟨rfl, ?_⟩
    dsimp only [tYes]
    rw [if_pos rfl]
    refine ⟨_, rfl, _, rfl, d, _, rfl, DGet.k (k := Sum.inl (k0 : Int)) (Same.new hD _ _ hd), _, upd_same, ?_, ?_⟩
    · rw [List.length_map]
      unfold hasL
      rw [List.length_map, List.length_take]
      exact small1000 (by omega)
    · rw [upd_upd, hasL_take ek, List.map_append, dict_val dk hi]
      congr 4
      cases look ps k0 <;> rfl
  · rintro H' rfl
    rw [List.length_map, List.length_map, List.take_length]
    exact q D hD
def sp_Question_fits (C : Addr) : Sp := fun vs H Q _ => ∃ (Y : QLay) (q : Qn) (d : Addr) (kvs : List (Key × V)) (ps : List Part), vs = [.ref Y.p, .ref d] ∧ QAt C H Y q ∧ H d = some (.dK kvs) ∧ DictIs kvs ps ∧ Inc ps ∧ q.all.length ≤ 900 ∧ q.no.length ≤ 900 ∧ q.some_.length ≤ 900 ∧ ∀ H', Same H H' → Q (.bl (fitP q ps)) H'
theorem ok_Question_fits {f : Addr} {fd : FuncData} (F : Fun K "fits" "Question.fits" s_Question_fits f fd) (T : Con mg) (R : QTxt K C) : FnOk P w K mg base CX0 1 f fd ["self", "parts"] (sp_Question_fits C) := by
  refine F.ok sc_Question_fits (fun vs H Q E h => ?_) (fun cdv A outer s H vs Q E hr h => ?_)
  · obtain ⟨Y, q, d, kvs, ps, rfl, _⟩ := h
    rfl
  · obtain ⟨Y, q, d, kvs, ps, rfl, A1, hd, dk, hi, l1, l2, l3, k⟩ := h
    have hu := hu_of hr
    refine ⟨_, (pss_cons (ps_if (pt_not (pt_val (pe_callB (cr_all rfl) (by rfl) T.all boot_all (pa_cons (pe_lc (own := [("kind", 2)]) (g := gName 2) rfl sc_Question_fits.nd (pi_list (pe_fld (pv 0) rfl)) (blkOk_by (N := N_Question_fits) (sc := defScope s_Question_fits) (by decide +kernel)) (fun _ _ _ _ _ => (pg_name (i := 2) sc_Question_fits.nd rfl (Or.inl rfl))) (fun _ _ _ _ _ => pts_nil) (fun _ _ _ _ _ => (pe_cmp (pc_din hu (pv 2) (pv 1))))) pa_nil)))) (pss_one (ps_ret pe_bl)) pss_nil)
      (pss_cons (ps_if (pt_val (pe_callB (cr_any rfl) (by rfl) T.any boot_any (pa_cons (pe_lc (own := [("kind", 2)]) (g := gName 2) rfl sc_Question_fits.nd (pi_list (pe_fld (pv 0) rfl)) (blkOk_by (N := N_Question_fits) (sc := defScope s_Question_fits) (by decide +kernel)) (fun _ _ _ _ _ => (pg_name (i := 2) sc_Question_fits.nd rfl (Or.inl rfl))) (fun _ _ _ _ _ => pts_nil) (fun _ _ _ _ _ => (pe_cmp (pc_din hu (pv 2) (pv 1))))) pa_nil))) (pss_one (ps_ret pe_bl)) pss_nil)
      (pss_one (ps_ret (pe_or (pe_cmpR op_eq (pe_callB call_len_seq (by rfl) T.len PySem.boot_len (pa_cons (pe_fld (pv 0) rfl) pa_nil)) pe_int (nomark _)) (pe_one (pe_callB (cr_any rfl) (by rfl) T.any boot_any (pa_cons (pe_lc (own := [("kind", 2)]) (g := gName 2) rfl sc_Question_fits.nd (pi_list (pe_fld (pv 0) rfl)) (blkOk_by (N := N_Question_fits) (sc := defScope s_Question_fits) (by decide +kernel)) (fun _ _ _ _ _ => (pg_name (i := 2) sc_Question_fits.nd rfl (Or.inl rfl))) (fun _ _ _ _ _ => pts_nil) (fun _ _ _ _ _ => (pe_cmp (pc_din hu (pv 2) (pv 1))))) pa_nil)))))))), ?_⟩
    dsimp only [tSeq, tIfS, tNot, tB, tCB, tCons]
    refine lc_has A1.ob R.cl R.nA (qF_a Y) A1.al hd dk hi l1 fun D1 h1 => ?_
    have s1 := Same.new h1 (o := .lst ((hasL ps q.all).map V.bl))
    have A2 := A1.same s1
    refine ⟨D1, _, rfl, SqL.of upd_same, _, rfl, ?_⟩
    have e1 : (hasL ps q.all).all id = q.all.all fun k => (look ps k).isSome := by
      unfold hasL
      rw [List.all_map]
      rfl
    have e2 : (hasL ps q.no).any id = q.no.any fun k => (look ps k).isSome := by
      unfold hasL
      rw [List.any_map]
      rfl
    have e3 : (hasL ps q.some_).any id = q.some_.any fun k => (look ps k).isSome := by
      unfold hasL
      rw [List.any_map]
      rfl
    rw [e1]
    unfold fitP at k
    cases c1 : q.all.all fun k => (look ps k).isSome with
    | false =>
      rw [c1] at k
      exact iteT (k _ s1)
    | true =>
      rw [c1] at k
      refine iteF ?_
      dsimp only [tNext, tSeq, tIfS, tNot, tB, tCB, tCons]
      refine lc_has A2.ob R.cl R.nN (qF_n Y) A2.no (s1 _ _ hd) dk hi l2 fun D2 h2 => ?_
      have s2 := s1.trans (Same.new h2 (o := .lst ((hasL ps q.no).map V.bl)))
      have A3 := A1.same s2
      refine ⟨D2, _, rfl, SqL.of upd_same, _, rfl, ?_⟩
      rw [e2]
      cases c2 : q.no.any fun k => (look ps k).isSome with
      | true =>
        rw [c2] at k
        exact iteT (k _ s2)
      | false =>
        rw [c2] at k
        refine iteF ?_
        refine ⟨_, rfl, Y.p, C, Y.dx, _, _, rfl, A3.ob, R.cl, R.nS, qF_s Y, Y.s, _, rfl, .inl (SqL.of A3.so), rfl, _, rfl, ?_⟩
        rw [List.length_map, List.length_map]
        cases c3 : q.some_ with
        | nil =>
          rw [c3] at k
          rw [decide_eq_true (by rfl)]
          exact iteT (k _ s2)
        | cons z l =>
          rw [decide_eq_false (by intro e; have e := V.int.inj e; simp at e; omega)]
          refine iteF ?_
          dsimp only [tCB, tCons]
          refine lc_has A3.ob R.cl R.nS (qF_s Y) A3.so (s2 _ _ hd) dk hi l3 fun D3 h3 => ?_
          have s3 := s2.trans (Same.new h3 (o := .lst ((hasL ps q.some_).map V.bl)))
          refine ⟨D3, _, rfl, SqL.of upd_same, ?_⟩
          rw [e3]
          have := k _ s3
          rw [c3] at this ⊢
          exact this
end
end Pw

namespace Pw
open L2 PySem PySem.Spec PyProof.Rows
open Ge01 (Part Name Change)
section
variable {K : PySem.W.Frag} {P : Program} {w : World} {mg : Str → Option Value} {base : Heap} {C CQ : Addr}
/-- the kinds that a question tells are few -/
def FewQ (q : Qn) : Prop := q.all.length ≤ 900 ∧ q.no.length ≤ 900 ∧ q.some_.length ≤ 900
def LenQ (q : Qn) : Prop := q.all.length ≤ 2400 ∧ q.no.length ≤ 2400 ∧ q.some_.length ≤ 2400
theorem few_of_ok {q : Qn} (h : Ge01.questionOk q = true) : FewQ q := by
  unfold Ge01.questionOk at h
  rw [Bool.and_eq_true, decide_eq_true_eq, List.length_append, List.length_append] at h
  exact ⟨by omega, by omega, by omega⟩
theorem nms_append (a b : List Ge01.Thing) : nms (a ++ b) = nms a ++ nms b := List.map_append
abbrev s_Things_told_by : Stmt := inClass (top 36) 13
abbrev N_Things_told_by : List Str := ["self", "question", "told", "place", "parts"]
theorem sc_Things_told_by : FnScope N_Things_told_by ["self", "question"] (defScope s_Things_told_by) := ⟨rfl, rfl, rfl, by decide +kernel, rfl, by decide +kernel, by decide +kernel⟩
def sp_Things_told_by (C CQ : Addr) : Sp := fun vs H Q _ => ∃ (L : Lay) (m : M) (Y : QLay) (q : Qn), vs = [.ref L.p, .ref Y.p] ∧ WAt C H L m ∧ QAt CQ H Y q ∧ FewQ q ∧ m.held.length ≤ 300 ∧
  ∀ H' l ts, Same H H' → H l = none → (∀ z ∈ ts, H z = none) → H' l = some (.lst (ts.map V.ref)) → NamesAt H' ts (nms (tellT q m)) → Q (.ref l) H'
theorem ok_Things_told_by {f : Addr} {fd : FuncData} (F : Fun K "told_by" "Things.told_by" s_Things_told_by f fd) (T : Con mg) (X : WTxt K C) (D_Question_fits : MethOk P w K mg base 1 CQ "fits" ["self", "parts"] (sp_Question_fits CQ)) : FnOk P w K mg base CX0 2 f fd ["self", "question"] (sp_Things_told_by C CQ) := by
  refine F.ok sc_Things_told_by (fun vs H Q E h => ?_) (fun cdv A outer s H vs Q E hr h => ?_)
  · obtain ⟨L, m, Y, q, rfl, _⟩ := h
    rfl
  · obtain ⟨L, m, Y, q, rfl, W, A1, ⟨l1, l2, l3⟩, hl, R⟩ := h
    refine ⟨_, (pss_cons (ps_set (i := 2) sc_Things_told_by.nd rfl (Or.inl rfl) (pe_lst pa_nil))
      (pss_cons (ps_for PassesOwn.never rfl (pi_enum rfl T.enumerate (pa_cons (pe_fld (pv 0) rfl) pa_nil)) (pg_tup rfl (pgs_cons (pg_name (i := 3) sc_Things_told_by.nd rfl (Or.inl rfl)) (pgs_cons (pg_name (i := 4) sc_Things_told_by.nd rfl (Or.inl rfl)) pgs_nil))) (pss_one (ps_if (pw_and (pt_cmpR op_notN (pv 4) pe_non (nomark _)) (pw_and1 (pt_val (pe_me (pv 1) D_Question_fits (hr.mono (by decide)) (pa_cons (pv 4) pa_nil))))).pt (pss_one (ps_expr (pe_bm PySem.F.plainAttrs_list PySem.F.slot_list_append PySem.F.type_list_append mt_append (pv 2) (pa_cons (pe_tup (pa_cons (pv 3) (pa_cons (pe_ix ix_list (pe_fld (pv 0) rfl) (pv 3) (fun _ _ => rfl)) pa_nil))) pa_nil)))) pss_nil)))
      (pss_one (ps_ret (pv 2))))), ?_⟩
    have wl := W.len
    refine ⟨by decide, fun tl htl => ?_⟩
    have s0 := Same.new htl (o := .lst [])
    refine ⟨_, rfl, L.p, C, L.dx, _, _, rfl, s0 _ _ W.ob, X.cl, X.nH, wF_held L, L.ha, _, rfl, SqL.of (s0 _ _ W.hd), for_it (walk_enum (K := K) (a := L.ha) (xs := L.ds.map oV)) (fun i σ H' => ∃ u v ts, σ = [some (.ref L.p), some (.ref Y.p), some (.ref tl), u, v] ∧ Same H H' ∧ H' tl = some (.lst (ts.map V.ref)) ∧ NamesAt H' ts (nms (tellTo q m i)) ∧ (∀ z ∈ ts, H z = none ∧ z ≠ tl) ∧ (tellTo q m i).length ≤ i) ⟨none, none, [], rfl, s0, upd_same, NamesAt.nil _, fun z h => absurd h (by simp), Nat.le_refl 0⟩ ?_ ?_ ?_⟩
    · rintro i σ H' _ ⟨u, v, ts, rfl, s, _⟩
      exact SqL.of (s _ _ W.hd)
    · rintro i x σ H' H2 hi ⟨u, v, ts, rfl, s, ht, hn, hz, hli⟩ ⟨T', y, z, rfl, hT, rfl, ey, ez⟩
      have ey : V.int (i : Int) = y := Option.some.inj ey
      subst ey
      have ez : (L.ds.map oV)[i]? = some z := ez
      rw [List.getElem?_map] at ez
      have nT : tl ≠ T' := ne_of_none ht hT
      refine ⟨T', _, rfl, .inl (.inl upd_same), rfl, _, _, rfl, _, _, rfl, rfl, ?_⟩
      have sT : Same H' (upd H' T' (.tup [.int (i : Int), z])) := Same.new hT
      have s2 := s.trans sT
      refine ⟨_, rfl, rfl, _, rfl, ?_⟩
      cases e : L.ds[i]? with
      | none =>
        rw [e] at ez
        cases ez
      | some o =>
        rw [e] at ez
        have ez : oV o = z := Option.some.inj ez
        subst ez
        have sl := W.dd i
        rw [e] at sl
        cases hm : m.held[i]? with
        | none =>
          rw [hm] at sl
          cases o with
          | none => exact sl.elim
          | some d => exact sl.elim
        | some y =>
          rw [hm] at sl
          have hil := (List.getElem?_eq_some_iff.mp hm).1
          obtain ⟨t, et⟩ : ∃ t, m.turns[i]? = some t := ⟨m.turns[i]'(by have := W.ln; omega), List.getElem?_eq_getElem _⟩
          have st := tellTo_succ q m hm et
          cases o with
          | none =>
            cases y with
            | some ps => exact sl.elim
            | none =>
              have st : tellTo q m (i + 1) = tellTo q m i := st.trans (List.append_nil _)
              refine iteF ⟨_, _, ts, rfl, s2, sT _ _ ht, ?_, hz, ?_⟩
              · rw [st]
                exact hn.same sT
              · rw [st]
                omega
          | some d =>
            cases y with
            | none => exact sl.elim
            | some ps =>
              obtain ⟨kvs, hd, dk⟩ := sl
              have g : Good ps := W.gd i ps hm
              have A2 := A1.same s2
              refine iteT ⟨_, rfl, Y.p, Y.dx, _, rfl, A2.ob, qF_no Y (by decide +kernel) (by decide +kernel) (by decide +kernel), _, rfl, Y, q, d, kvs, ps, rfl, A2, s2 _ _ hd, dk, g.inc, l1, l2, l3, fun H3 s3 => ⟨_, rfl, ?_⟩⟩
              have s4 := s2.trans s3
              have st : tellTo q m (i + 1) = tellTo q m i ++ (if fitP q ps = true then [⟨⟨i, t⟩, ps⟩] else []) := st
              cases c : fitP q ps with
              | false =>
                rw [c] at st
                have st : tellTo q m (i + 1) = tellTo q m i := st.trans (List.append_nil _)
                refine iteF ⟨_, _, ts, rfl, s4, s3 _ _ (sT _ _ ht), ?_, hz, ?_⟩
                · rw [st]
                  exact (hn.same sT).same s3
                · rw [st]
                  omega
              | true =>
                rw [c, if_pos rfl] at st
                refine iteT ?_
                have ht3 := s3 _ _ (sT _ _ ht)
                refine ⟨_, rfl, .inl ⟨rfl, _, SqL.of ht3⟩, _, rfl, _, rfl, L.p, C, L.dx, _, _, rfl, s4 _ _ W.ob, X.cl, X.nT, wF_turns L, _, rfl, L.ta, _, _, _, rfl, rfl, SqL.of (s4 _ _ W.tu), atI_nat (il_get (z := (t : Int)) (by rw [List.getElem?_map, et]; rfl)), (by show 2 ≤ sizeLine; decide), fun nt hnt => ?_⟩
                have s5 : Same H3 (upd H3 nt (.tup [.int (i : Int), .int (t : Int)])) := Same.new hnt
                have n1 : tl ≠ nt := ne_of_none ht3 hnt
                have hln : ts.length = (tellTo q m i).length := hn.1.trans (List.length_map _)
                refine ⟨tl, _, _, rfl, rfl, s5 _ _ ht3, small1000 (by rw [List.length_map]; omega), ?_⟩
                refine ⟨_, _, ts ++ [nt], rfl, fun b o h => ?_, ?_, ?_, ?_, ?_⟩
                · rw [upd_ne (ne_of_none h htl)]
                  exact s5 _ _ (s4 b o h)
                · rw [upd_same, List.map_append]
                  rfl
                · rw [st, nms_append]
                  refine NamesAt.snoc ?_ (by rw [upd_ne n1.symm, upd_same]; rfl)
                  refine (((hn.same sT).same s3).same s5).mono fun z hz' o h => ?_
                  rw [upd_ne (hz z hz').2]
                  exact h
                · intro z hz'
                  rcases List.mem_append.mp hz' with h | h
                  · exact hz z h
                  · have h : z = nt := by simpa using h
                    subst h
                    exact ⟨s4.free hnt, n1.symm⟩
                · rw [st, List.length_append]
                  simp
                  omega
    · rintro σ H' ⟨u, v, ts, rfl, s, ht, hn, hz, _⟩
      rw [List.length_map, wl, tellTo_all q m W.ln] at hn
      exact ⟨_, rfl, R H' tl ts s htl (fun z h => (hz z h).1) ht hn⟩
abbrev s_Things_ask : Stmt := inClass (top 36) 14
abbrev N_Things_ask : List Str := ["self", "question"]
theorem sc_Things_ask : FnScope N_Things_ask ["self", "question"] (defScope s_Things_ask) := ⟨rfl, rfl, rfl, by decide +kernel, rfl, by decide +kernel, by decide +kernel⟩
def sp_Things_ask (C CQ : Addr) : Sp := fun vs H Q _ => ∃ (L : Lay) (m : M) (Y : QLay) (q : Qn), vs = [.ref L.p, .ref Y.p] ∧ WAt C H L m ∧ QAt CQ H Y q ∧ LenQ q ∧ m.held.length ≤ 300 ∧ Res C H L m (askR m q) Q
theorem ok_Things_ask {f : Addr} {fd : FuncData} (F : Fun K "ask" "Things.ask" s_Things_ask f fd) (T : Con mg) (D_Question_wrong : MethOk P w K mg base 1 CQ "wrong" ["self"] (sp_Question_wrong CQ)) (D_Things_told_by : MethOk P w K mg base 2 C "told_by" ["self", "question"] (sp_Things_told_by C CQ))
    (D_counted_names : DefOk P w K mg base 1 "counted_names" ["names"] sp_counted_names) : FnOk P w K mg base CX0 3 f fd ["self", "question"] (sp_Things_ask C CQ) := by
  refine F.ok sc_Things_ask (fun vs H Q E h => ?_) (fun cdv A outer s H vs Q E hr h => ?_)
  · obtain ⟨L, m, Y, q, rfl, _⟩ := h
    rfl
  · obtain ⟨L, m, Y, q, rfl, W, A1, fq, hl, R⟩ := h
    obtain ⟨l1, l2, l3⟩ := id fq
    refine ⟨_, (pss_cons (ps_if (pt_val (pe_me0 (pv 1) D_Question_wrong (hr.mono (by decide)))) (pss_one (ps_ret (pe_lst (pa_cons (pe_gc T.WRONG_KIND_OR_VALUE) pa_nil)))) pss_nil)
      (pss_one (ps_ret (pe_fn D_counted_names (hr.mono (by decide)) (pa_cons (pe_me (pv 0) D_Things_told_by (hr.mono (by decide)) (pa_cons (pv 1) pa_nil)) pa_nil))))), ?_⟩
    refine ⟨_, rfl, Y.p, Y.dx, _, rfl, A1.ob, qF_no Y (by decide +kernel) (by decide +kernel) (by decide +kernel), Y, q, rfl, A1, l1, l2, l3, fun H1 s1 => ⟨_, rfl, ?_⟩⟩
    have W1 := W.same s1
    unfold askR at R
    cases c : Ge01.questionOk q with
    | false =>
      rw [if_pos c] at R
      exact iteT ⟨sz1, fun z hz => R.new W1 (Fr.same s1 L) hz⟩
    | true =>
      rw [if_neg (by rw [c]; decide)] at R
      refine iteF ?_
      refine ⟨_, rfl, L.p, L.dx, _, rfl, W1.ob, wF_no L (by decide +kernel) (by decide +kernel), _, rfl, L, m, Y, q, rfl, W1, A1.same s1, few_of_ok c, hl, fun H2 l ts s2 n2 hz ht hn => ?_⟩
      have tn := tellT_len q m W.ln
      refine ⟨l, ts, _, rfl, ht, hn, by unfold nms; rw [List.length_map]; omega, fun H3 z s3 hz3 h3 => ?_⟩
      have s4 := (s1.trans s2).trans s3
      exact R H3 L z (W.same s4) (Fr.same s4 L) ((s1.trans s2).free hz3) ((W.same (s1.trans s2)).no hz3) h3
end
end Pw

namespace Pw
open L2 PySem PySem.Spec PyProof.Rows
open Ge01 (Part Name Change Thing)
section
variable {K : PySem.W.Frag} {P : Program} {w : World} {mg : Str → Option Value} {base : Heap} {C CQ : Addr}
abbrev s_Things_how_many_gone : Stmt := inClass (top 36) 2
abbrev N_Things_how_many_gone : List Str := ["self"]
theorem sc_Things_how_many_gone : FnScope N_Things_how_many_gone ["self"] (defScope s_Things_how_many_gone) := ⟨rfl, rfl, rfl, by decide +kernel, rfl, by decide +kernel, by decide +kernel⟩
def sp_Things_how_many_gone (C : Addr) : Sp := fun vs H Q _ => ∃ (L : Lay) (m : M), vs = [.ref L.p] ∧ WAt C H L m ∧ Q (.int (m.turns.sum : Int)) H
theorem ok_Things_how_many_gone {f : Addr} {fd : FuncData} (F : Fun K "how_many_gone" "Things.how_many_gone" s_Things_how_many_gone f fd) (T : Con mg) (X : WTxt K C) : FnOk P w K mg base CX0 1 f fd ["self"] (sp_Things_how_many_gone C) := by
  refine F.ok sc_Things_how_many_gone (fun vs H Q E h => ?_) (fun cdv A outer s H vs Q E hr h => ?_)
  · obtain ⟨L, m, rfl, _⟩ := h
    rfl
  · obtain ⟨L, m, rfl, W, q⟩ := h
    refine ⟨_, (pss_one (ps_ret (pe_callB (cr_sum rfl) (by rfl) T.sum boot_sum (pa_cons (pe_fld (pv 0) rfl) pa_nil)))), ?_⟩
    refine ⟨_, rfl, L.p, C, L.dx, _, _, rfl, W.ob, X.cl, X.nT, wF_turns L, L.ta, _, rfl, SqL.of W.tu, ?_⟩
    rw [← sum_cast]
    exact q
/-- dicts that stand for these things -/
def DictsAt (H : Hp) (ds : List Addr) (xs : List Thing) : Prop := ds.length = xs.length ∧ ∀ (i : Nat) (d : Addr) (x : Thing), ds[i]? = some d → xs[i]? = some x → ∃ kvs, H d = some (.dK kvs) ∧ DictIs kvs x.parts ∧ Inc x.parts
theorem DictsAt.snoc {H : Hp} {ds : List Addr} {xs : List Thing} (h : DictsAt H ds xs) {d : Addr} {x : Thing} (e : ∃ kvs, H d = some (.dK kvs) ∧ DictIs kvs x.parts ∧ Inc x.parts) : DictsAt H (ds ++ [d]) (xs ++ [x]) := by
  refine ⟨by rw [List.length_append, List.length_append, h.1]; rfl, fun i z y e1 e2 => ?_⟩
  rw [List.getElem?_append] at e1 e2
  rw [h.1] at e1
  split at e1
  · rename_i c
    rw [if_pos c] at e2
    exact h.2 i z y e1 e2
  · rename_i c
    rw [if_neg c] at e2
    have c0 : i - xs.length = 0 := by
      have := (List.getElem?_eq_some_iff.mp e1).1
      simp at this
      omega
    rw [c0] at e1 e2
    have e1 : d = z := Option.some.inj e1
    have e2 : x = y := Option.some.inj e2
    subst e1 e2
    exact e
abbrev s_Things_sum_of : Stmt := inClass (top 36) 15
abbrev N_Things_sum_of : List Str := ["self", "kind", "question", "found", "values_of_kind", "name", "parts"]
theorem sc_Things_sum_of : FnScope N_Things_sum_of ["self", "kind", "question"] (defScope s_Things_sum_of) := ⟨rfl, rfl, rfl, by decide +kernel, rfl, by decide +kernel, by decide +kernel⟩
def sp_Things_sum_of (C CQ : Addr) : Sp := fun vs H Q _ => ∃ (L : Lay) (m : M) (k : Nat) (Y : QLay) (q : Qn), vs = [.ref L.p, .int (k : Int), .ref Y.p] ∧ WAt C H L m ∧ QAt CQ H Y q ∧ LenQ q ∧ m.held.length ≤ 300 ∧ Res C H L m (sumR m k q) Q
theorem ok_Things_sum_of {f : Addr} {fd : FuncData} (F : Fun K "sum_of" "Things.sum_of" s_Things_sum_of f fd) (T : Con mg) (X : WTxt K C) (D_Question_wrong : MethOk P w K mg base 1 CQ "wrong" ["self"] (sp_Question_wrong CQ)) (D_Things_told_by : MethOk P w K mg base 2 C "told_by" ["self", "question"] (sp_Things_told_by C CQ)) : FnOk P w K mg base CX0 3 f fd ["self", "kind", "question"] (sp_Things_sum_of C CQ) := by
  refine F.ok sc_Things_sum_of (fun vs H Q E h => ?_) (fun cdv A outer s H vs Q E hr h => ?_)
  · obtain ⟨L, m, k, Y, q, rfl, _⟩ := h
    rfl
  · obtain ⟨L, m, k, Y, q, rfl, W, A1, fq, hl, R⟩ := h
    obtain ⟨l1, l2, l3⟩ := id fq
    have hu := hu_of hr
    refine ⟨_, (pss_cons (ps_if (pt_val (pe_me0 (pv 2) D_Question_wrong (hr.mono (by decide)))) (pss_one (ps_ret (pe_lst (pa_cons (pe_gc T.WRONG_KIND_OR_VALUE) pa_nil)))) pss_nil)
      (pss_cons (ps_setLc (i := 3) (own := [("name", 5)]) (g := gName 5) rfl sc_Things_sum_of.nd rfl rfl (sw_true rfl rfl rfl (by decide +kernel)) (pi_list (pe_me (pv 0) D_Things_told_by (hr.mono (by decide)) (pa_cons (pv 2) pa_nil))) (blkOk_by (N := N_Things_sum_of) (sc := defScope s_Things_sum_of) (by decide +kernel)) (fun _ _ _ _ _ => (pg_name (i := 5) sc_Things_sum_of.nd rfl (Or.inl rfl))) (fun _ _ _ _ _ => pts_nil) (fun _ _ _ _ _ => (pe_ix (ix_listK (K := K) rfl) (pe_fldK (K := K) rfl (pv 0) rfl) (pe_ix (ix_tupK (K := K) rfl) (pv 5) pe_int (fun _ _ => rfl)) (fun _ _ => rfl))))
      (pss_cons (ps_setLc (i := 4) (own := [("parts", 6)]) (g := gName 6) rfl sc_Things_sum_of.nd rfl rfl (sw_true rfl rfl rfl (by decide +kernel)) (pi_list (pv 3)) (blkOk_by (N := N_Things_sum_of) (sc := defScope s_Things_sum_of) (by decide +kernel)) (fun _ _ _ _ _ => (pg_name (i := 6) sc_Things_sum_of.nd rfl (Or.inl rfl))) (fun _ _ _ _ _ => pts_one (pt_cmp (pc_din hu (pv 1) (pv 6)))) (fun _ _ _ _ _ => (pe_dget hu (pv 6) (pv 1) (fun _ _ => rfl))))
      (pss_one (ps_ret (pe_lst (pa_cons (pe_callB call_len_seq (by rfl) T.len PySem.boot_len (pa_cons (pv 4) pa_nil)) (pa_cons (pe_callB (cr_sum rfl) (by rfl) T.sum boot_sum (pa_cons (pv 4) pa_nil)) pa_nil)))))))), ?_⟩
    refine ⟨_, rfl, Y.p, Y.dx, _, rfl, A1.ob, qF_no Y (by decide +kernel) (by decide +kernel) (by decide +kernel), Y, q, rfl, A1, l1, l2, l3, fun H1 s1 => ⟨_, rfl, ?_⟩⟩
    have W1 := W.same s1
    unfold sumR at R
    cases c : Ge01.questionOk q with
    | false =>
      rw [if_pos c] at R
      exact iteT ⟨sz1, fun z hz => R.new W1 (Fr.same s1 L) hz⟩
    | true =>
      rw [if_neg (by rw [c]; decide)] at R
      refine iteF ?_
      refine ⟨_, rfl, L.p, L.dx, _, rfl, W1.ob, wF_no L (by decide +kernel) (by decide +kernel), _, rfl, L, m, Y, q, rfl, W1, A1.same s1, few_of_ok c, hl, fun H2 l ts s2 n2 hz ht hn => ?_⟩
      have tn := tellT_len q m W.ln
      have s12 := s1.trans s2
      have W2 := W.same s12
      refine ⟨l, rfl, ⟨_, SqL.of ht⟩, fun D hD => ?_⟩
      have sD : ∀ o, Same H2 (upd H2 D o) := fun o => Same.new hD
      refine lc_list (K := K) (a := l) (xs := ts.map V.ref) (fun i H' => ∃ ds, H' = upd H2 D (.lst (ds.map V.ref)) ∧ DictsAt H2 ds ((tellT q m).take i)) ⟨[], rfl, rfl, fun i d x h => by simp at h⟩ ?_ ?_ ?_
      · rintro i H' _ ⟨ds, rfl, _⟩
        exact SqL.of (sD _ _ _ ht)
      · rintro i x H' hx ⟨ds, rfl, hds⟩
        obtain ⟨t, et, rfl⟩ := ref_get hx
        obtain ⟨n, en, htn⟩ := hn.get et
        unfold nms at en
        rw [List.getElem?_map] at en
        cases ex : (tellT q m)[i]? with
        | none =>
          rw [ex] at en
          cases en
        | some y =>
          rw [ex] at en
          have en : y.name = n := Option.some.inj en
          subst en
          have hil := (List.getElem?_eq_some_iff.mp ex).1
          have hy := tellT_at (List.mem_of_getElem? ex)
          have sl := W2.dd y.name.place
          rw [hy] at sl
          obtain ⟨d, kvs, e1, e2, e3⟩ := slot_ds sl
          have dl := hds.1
          rw [List.length_take] at dl
          refine ⟨rfl, ?_⟩
          dsimp only [tYes]
          rw [if_pos rfl]
          refine ⟨_, rfl, L.p, C, L.dx, _, _, rfl, sD _ _ _ W2.ob, X.cl, X.nH, wF_held L, _, rfl, t, _, _, _, rfl, rfl, SqT.of (sD _ _ _ htn), (atI_nat (j := 0) (v := V.int (y.name.place : Int)) rfl), L.ha, _, _, _, rfl, rfl, SqL.of (sD _ _ _ W2.hd), atI_nat (v := V.ref d) (by rw [List.getElem?_map, e1]; rfl), _, upd_same, small1000 (by rw [List.length_map]; omega), ds ++ [d], ?_, ?_⟩
          · rw [upd_upd, List.map_append]
            rfl
          · rw [take_snoc ex]
            exact hds.snoc ⟨kvs, e2, e3, (W2.gd _ _ hy).inc⟩
      · rintro H' ⟨ds, rfl, hds⟩
        rw [List.length_map, hn.1] at hds
        unfold nms at hds
        rw [List.length_map, List.take_length] at hds
        have dl := hds.1
        have s3 := s12.trans (sD (.lst (ds.map V.ref)))
        refine ⟨_, rfl, D, rfl, ⟨_, SqL.of upd_same⟩, fun D2 hD2 => ?_⟩
        have nD : D ≠ D2 := ne_of_none upd_same hD2
        have sD2 : ∀ o, Same (upd H2 D (.lst (ds.map V.ref))) (upd (upd H2 D (.lst (ds.map V.ref))) D2 o) := fun o => Same.new hD2
        refine lc_list (K := K) (a := D) (xs := ds.map V.ref) (fun i H' => H' = upd (upd H2 D (.lst (ds.map V.ref))) D2 (.lst (IL (up (((tellT q m).take i).filterMap fun x => look x.parts k)))) ∧ (((tellT q m).take i).filterMap fun x => look x.parts k).length ≤ i) ⟨rfl, Nat.le_refl 0⟩ ?_ ?_ ?_
        · rintro i H' _ ⟨rfl, _⟩
          exact SqL.of (sD2 _ _ _ upd_same)
        · rintro i x H' hx ⟨rfl, hli⟩
          obtain ⟨d, ed, rfl⟩ := ref_get hx
          have hil := (List.getElem?_eq_some_iff.mp ed).1
          obtain ⟨y, ey⟩ : ∃ y, (tellT q m)[i]? = some y := ⟨(tellT q m)[i]'(by omega), List.getElem?_eq_getElem _⟩
          obtain ⟨kvs, e1, e2, e3⟩ := hds.2 i d y ed ey
          have dv := dict_val e2 e3 k
          have hd2 : ∀ o, (upd (upd H2 D (.lst (ds.map V.ref))) D2 o) d = some (.dK kvs) := fun o => sD2 o _ _ (sD _ _ _ e1)
          have tk : ((tellT q m).take (i + 1)).filterMap (fun x => look x.parts k) = ((tellT q m).take i).filterMap (fun x => look x.parts k) ++ (look y.parts k).toList := by
            rw [take_snoc ey, List.filterMap_append]
            congr 1
          refine ⟨rfl, _, rfl, _, rfl, d, _, rfl, DGet.k (k := Sum.inl (k : Int)) (hd2 _), _, rfl, ?_⟩
          rw [dv]
          rw [tk]
          cases lk : look y.parts k with
          | none =>
            refine iteF ⟨?_, ?_⟩
            · simp
            · simp
              omega
          | some v =>
            have dg : ∀ o, DGet (upd (upd H2 D (.lst (ds.map V.ref))) D2 o) d (.int (k : Int)) (some (V.int (v : Int))) := fun o => by
              have := DGet.k (k := Sum.inl (k : Int)) (hd2 o)
              rw [dv, lk] at this
              exact this
            refine iteT ⟨_, rfl, _, rfl, d, _, rfl, dg _, _, upd_same, small1000 (by rw [List.length_map, List.length_map]; omega), ?_, ?_⟩
            · rw [upd_upd]
              simp [IL]
            · simp
              omega
        · rintro H' ⟨rfl, _⟩
          rw [List.length_map, dl, List.take_length]
          refine ⟨_, rfl, D2, _, rfl, .inl (SqL.of upd_same), _, rfl, D2, _, rfl, SqL.of upd_same, (by show 2 ≤ sizeLine; decide), fun z hz => ?_⟩
          rw [List.length_map, List.length_map, ← sum_cast]
          have s4 := s3.trans (sD2 (.lst (IL (up ((tellT q m).filterMap fun x => look x.parts k)))))
          exact R.new (W.same s4) (Fr.same s4 L) hz
end
end Pw

namespace Pw
open L2 PySem PySem.Spec PyProof.Rows
open Ge01 (Part Name Change Thing)
section
variable {K : PySem.W.Frag} {P : Program} {w : World} {mg : Str → Option Value} {base : Heap} {C CQ : Addr}
theorem get_snoc {α : Type} {l : List α} {a x : α} {i : Nat} (h : (l ++ [a])[i]? = some x) : (i < l.length ∧ l[i]? = some x) ∨ (i = l.length ∧ x = a) := by
  rw [List.getElem?_append] at h
  split at h
  · rename_i c
    exact .inl ⟨c, h⟩
  · rename_i c
    have := (List.getElem?_eq_some_iff.mp h).1
    simp at this
    have c0 : i - l.length = 0 := by omega
    rw [c0] at h
    exact .inr ⟨by omega, (Option.some.inj h).symm⟩
abbrev s_Things_twin : Stmt := inClass (top 36) 3
abbrev N_Things_twin : List Str := ["self", "other", "parts"]
theorem sc_Things_twin : FnScope N_Things_twin ["self"] (defScope s_Things_twin) := ⟨rfl, rfl, rfl, by decide +kernel, rfl, by decide +kernel, by decide +kernel⟩
def sp_Things_twin (C : Addr) : Sp := fun vs H Q _ => ∃ (L : Lay) (m : M), vs = [.ref L.p] ∧ WAt C H L m ∧ m.held.length ≤ 500 ∧
  ∀ H' L', WAt C H' L' m → Same H H' → (∀ z, Fp L' z → H z = none) → Q (.ref L'.p) H'
theorem ok_Things_twin {f : Addr} {fd : FuncData} (F : Fun K "twin" "Things.twin" s_Things_twin f fd) (T : Con mg) (X : WTxt K C) (D_Things : MakeOk P w K mg base 1 "Things" C ["self"] (sp_Things___init__ C)) : FnOk P w K mg base CX0 3 f fd ["self"] (sp_Things_twin C) := by
  refine F.ok sc_Things_twin (fun vs H Q E h => ?_) (fun cdv A outer s H vs Q E hr h => ?_)
  · obtain ⟨L, m, rfl, _⟩ := h
    rfl
  · obtain ⟨L, m, rfl, W, hl, q⟩ := h
    have hu := hu_of hr
    refine ⟨_, (pss_cons (ps_set (i := 1) sc_Things_twin.nd rfl (Or.inl rfl) (pe_mk0 D_Things (hr.mono (by decide))))
      (pss_cons (ps_fld (pv 1) (pe_lc (own := [("parts", 2)]) (g := gName 2) rfl sc_Things_twin.nd (pi_list (pe_fld (pv 0) rfl)) (blkOk_by (N := N_Things_twin) (sc := defScope s_Things_twin) (by decide +kernel)) (fun _ _ _ _ _ => (pg_name (i := 2) sc_Things_twin.nd rfl (Or.inl rfl))) (fun _ _ _ _ _ => pts_nil) (fun _ _ _ _ _ => (pe_ifExp (pt_cmpR op_isN (pv 2) pe_non (nomark _)) pe_non (pe_callTy call_dictD (by rfl) T.dict PyProof.Rows.boot_dict (pa_cons (pv 2) pa_nil))))) rfl)
      (pss_cons (ps_fld (pv 1) (pe_callTy call_list_of (by rfl) T.list PyProof.Rows.boot_list (pa_cons (pe_fld (pv 0) rfl) pa_nil)) rfl)
      (pss_one (ps_ret (pv 1)))))), ?_⟩
    intro x dx nx ndx nex
    refine ⟨x, dx, rfl, upd_same, fun H1 L1 W1 ep1 edx k1 f1 t1 => ⟨rfl, ?_⟩⟩
    subst ep1
    subst edx
    have s1 : Same H H1 := Same.made nx ndx k1
    have fp1 : ∀ z, Fp L1 z → H z = none := fun z f => by
      rcases f1 z f with rfl | e
      · exact nx
      · exact upd_none (upd_none e)
    have Wh := W.same s1
    have wl := W.len
    refine ⟨_, rfl, L.p, C, L.dx, _, _, rfl, Wh.ob, X.cl, X.nH, wF_held L, L.ha, rfl, ⟨_, SqL.of Wh.hd⟩, fun D hD => ?_⟩
    refine lc_list (K := K) (a := L.ha) (xs := L.ds.map oV) (fun i H' => ∃ ds : List (Option Addr), Same H1 H' ∧ H' D = some (.lst (ds.map oV)) ∧ ds.length = i ∧ (∀ j : Nat, SlotIs H' ds[j]? (m.held.take i)[j]?) ∧ (∀ (j : Nat) (z : Addr), ds[j]? = some (some z) → H1 z = none ∧ z ≠ D) ∧ ∀ (a b : Nat) (z : Addr), ds[a]? = some (some z) → ds[b]? = some (some z) → a = b) ⟨[], Same.new hD, upd_same, rfl, fun j => by rw [List.take_zero]; exact True.intro, fun j z h => by simp at h, fun a b z h => by simp at h⟩ ?_ ?_ ?_
    · rintro i H' _ ⟨ds, s, _⟩
      exact SqL.of (s _ _ Wh.hd)
    · rintro i v H' hi ⟨ds, s, hD', dl, hsl, hnew, hnd⟩
      rw [List.getElem?_map] at hi
      cases e : L.ds[i]? with
      | none =>
        rw [e] at hi
        cases hi
      | some o =>
        rw [e] at hi
        have hi : oV o = v := Option.some.inj hi
        subst hi
        have sl := Wh.dd i
        rw [e] at sl
        have hil := (List.getElem?_eq_some_iff.mp e).1
        refine ⟨rfl, ?_⟩
        dsimp only [tYes]
        rw [if_pos rfl]
        refine ⟨_, rfl, rfl, _, rfl, ?_⟩
        cases hm : m.held[i]? with
        | none =>
          rw [hm] at sl
          cases o with
          | none => exact sl.elim
          | some d => exact sl.elim
        | some y =>
          rw [hm] at sl
          have tk := take_snoc hm
          have tl : (m.held.take i).length = i := by rw [List.length_take]; omega
          have slot : ∀ {H2 : Hp} {o2 : Option Addr}, (∀ z u, H' z = some u → z ≠ D → H2 z = some u) → SlotIs H2 (some o2) (some y) → ∀ j : Nat, SlotIs H2 (ds ++ [o2])[j]? (m.held.take (i + 1))[j]? := by
            intro H2 o2 keep hs j
            rw [tk, List.getElem?_append, List.getElem?_append, dl, tl]
            split
            · exact (hsl j).mono fun a u ea hu => keep a u hu (hnew j a ea).2
            · rename_i cj
              cases ej : j - i with
              | zero => exact hs
              | succ n => exact True.intro
          cases o with
          | none =>
            cases y with
            | some ps => exact sl.elim
            | none =>
              refine iteT ⟨_, hD', small1000 (by rw [List.length_map]; omega), ds ++ [none], fun b u h => ?_, ?_, ?_, ?_, ?_, ?_⟩
              · rw [upd_ne (ne_of_none h hD)]
                exact s b u h
              · rw [upd_same, List.map_append]
                rfl
              · rw [List.length_append, dl]
                rfl
              · exact slot (fun z u h n => by rw [upd_ne n]; exact h) True.intro
              · intro j z h
                rcases get_snoc h with ⟨_, h⟩ | ⟨_, h⟩
                · exact hnew j z h
                · cases h
              · intro a b z h1 h2
                rcases get_snoc h1 with ⟨_, h1⟩ | ⟨_, h1⟩
                · rcases get_snoc h2 with ⟨_, h2⟩ | ⟨_, h2⟩
                  · exact hnd a b z h1 h2
                  · cases h2
                · cases h1
          | some d =>
            cases y with
            | none => exact sl.elim
            | some ps =>
              obtain ⟨kvs, hd, dk⟩ := sl
              refine iteF ⟨_, rfl, d, kvs, rfl, .inl (s _ _ hd), fun p hp => ?_⟩
              have nDp : D ≠ p := ne_of_none hD' hp
              have sp : Same H' (upd H' p (.dK kvs)) := Same.new hp
              refine ⟨_, sp _ _ hD', small1000 (by rw [List.length_map]; omega), ds ++ [some p], fun b u h => ?_, ?_, ?_, ?_, ?_, ?_⟩
              · rw [upd_ne (ne_of_none h hD)]
                exact sp b u (s b u h)
              · rw [upd_same, List.map_append]
                rfl
              · rw [List.length_append, dl]
                rfl
              · refine slot (fun z u h n => by rw [upd_ne n]; exact sp z u h) ⟨kvs, ?_, dk⟩
                rw [upd_ne nDp.symm, upd_same]
              · intro j z h
                rcases get_snoc h with ⟨_, h⟩ | ⟨_, h⟩
                · exact hnew j z h
                · have h : z = p := Option.some.inj h
                  subst h
                  exact ⟨s.free hp, nDp.symm⟩
              · have old : ∀ {a : Nat}, ds[a]? = some (some p) → False := fun {a} h => by
                  have sl2 := hsl a
                  rw [h] at sl2
                  obtain ⟨k2, e2⟩ := sl2.dict
                  rw [hp] at e2
                  cases e2
                intro a b z h1 h2
                rcases get_snoc h1 with ⟨_, g1⟩ | ⟨c1, g1⟩
                · rcases get_snoc h2 with ⟨_, g2⟩ | ⟨_, g2⟩
                  · exact hnd a b z g1 g2
                  · have g2 : z = p := Option.some.inj g2
                    rw [g2] at g1
                    exact (old g1).elim
                · have g1 : z = p := Option.some.inj g1
                  rcases get_snoc h2 with ⟨_, g2⟩ | ⟨c2, _⟩
                  · rw [g1] at g2
                    exact (old g2).elim
                  · omega
    · rintro H' ⟨ds, s, hD', dl, hsl, hnew, hnd⟩
      rw [List.length_map, wl] at dl
      rw [List.length_map, wl, List.take_length] at hsl
      have W1' := W1.same s
      have Wo := Wh.same s
      have nDp : L1.p ≠ D := ne_of_none W1.ob hD
      -- other.held
      refine ⟨_, rfl, L1.p, C, L1.dx, _, rfl, W1'.ob, X.cl, X.nH, (by show 2 < 1000; decide), ?_⟩
      have nL : L.p ≠ L1.p := fun z => by
        have := fp1 _ (Fp.p L1)
        rw [← z, W.ob] at this
        cases this
      have e1 : putF "held" (.ref D) (wF L1) = (wF { L1 with ha := D }) := put_here
      rw [e1]
      have obL : (upd H' L1.p (.ins C L1.dx (wF { L1 with ha := D }))) L.p = some (.ins C L.dx (wF L)) := by
        rw [upd_ne nL]
        exact Wo.ob
      have tuL : (upd H' L1.p (.ins C L1.dx (wF { L1 with ha := D }))) L.ta = some (.lst (IL (up m.turns))) := by
        rw [upd_ne (ne_of Wo.tu W1'.ob (by intro z; cases z))]
        exact Wo.tu
      refine ⟨_, rfl, L.p, C, L.dx, _, _, rfl, obL, X.cl, X.nT, wF_turns L, L.ta, _, rfl, .inl (SqL.of tuL), fun t ht => ?_⟩
      have ntp : L1.p ≠ t := ne_of_none upd_same ht
      have ht0 : H' t = none := upd_none ht
      have nDt : D ≠ t := ne_of_none hD' ht0
      refine ⟨_, rfl, L1.p, C, L1.dx, _, rfl, (by rw [upd_ne ntp, upd_same]), X.cl, X.nT, (by show 2 < 1000; decide), ?_⟩
      have e2 : putF "turns" (.ref t) (wF { L1 with ha := D }) = wF ⟨L1.p, L1.dx, D, t, ds⟩ := (put_past (by decide +kernel)).trans (congrArg _ put_here)
      rw [e2]
      have keep : ∀ z u, H' z = some u → z ≠ L1.p → (upd (upd (upd H' L1.p (.ins C L1.dx (wF { L1 with ha := D }))) t (.lst (IL (up m.turns)))) L1.p (.ins C L1.dx (wF ⟨L1.p, L1.dx, D, t, ds⟩))) z = some u := fun z u h n => by
        rw [upd_ne n, upd_ne (ne_of_none h ht0), upd_ne n]
        exact h
      refine ⟨_, rfl, q _ ⟨L1.p, L1.dx, D, t, ds⟩ ⟨upd_same, keep _ _ hD' nDp.symm, ?_, nDt, fun j => ?_, fun i j a => hnd i j a, W.ln, W.gd⟩ (fun z u h => ?_) fun z hz => ?_⟩
      · show upd _ L1.p _ t = _
        rw [upd_ne ntp.symm, upd_same]
      · refine (hsl j).mono fun a u ea h => keep a u h fun z => ?_
        have := (hnew j a ea).1
        rw [z, W1.ob] at this
        cases this
      · refine keep z u (s _ _ (s1 _ _ h)) fun e => ?_
        rw [e, fp1 _ (Fp.p L1)] at h
        cases h
      · rcases hz with rfl | rfl | rfl | ⟨i, h⟩
        · exact fp1 _ (Fp.p L1)
        · exact s1.free hD
        · exact s1.free (s.free ht0)
        · exact s1.free (hnew i z h).1
end
end Pw

namespace Pw
open L2 PySem PySem.Spec PyProof.Rows
open Ge01 (Part Name Change Thing)
/-! ### words given -/
structure We where
  w : Nat
  n : Name
  t : Addr
def wsOf (es : List We) : Ws := es.map fun e => (e.w, e.n)
def kvOf (es : List We) : List (Key × V) := es.map fun e => (Sum.inl (e.w : Int), V.ref e.t)
structure WsAt (H : Hp) (d : Addr) (es : List We) : Prop where
  dk : H d = some (.dK (kvOf es))
  ts : ∀ e ∈ es, H e.t = some (tupN e.n)
theorem ws_find (es : List We) (d : Nat) : ((wsOf es).find? fun y => y.1 == d) = (es.find? fun e => e.w == d).map fun e => (e.w, e.n) := by
  unfold wsOf
  rw [List.find?_map]
  rfl
theorem kv_val (es : List We) (d : Nat) : valV (kvOf es) (Sum.inl (d : Int)) = (es.find? fun e => e.w == d).map fun e => V.ref e.t := by
  induction es with
  | nil => rfl
  | cons e l ih =>
    show valV ((Sum.inl (e.w : Int), V.ref e.t) :: kvOf l) (Sum.inl (d : Int)) = _
    by_cases c : e.w = d
    · rw [valV_pos (by rw [c]), List.find?_cons_of_pos (by simpa using c)]
      rfl
    · rw [valV_neg (fun z => c (by have := Sum.inl.inj z; omega)), List.find?_cons_of_neg (by simpa using c)]
      exact ih
theorem kv_drop (es : List We) (d : Nat) : dropK (kvOf es) (Sum.inl (d : Int)) = kvOf (es.filter fun e => e.w != d) := by
  unfold dropK kvOf
  rw [List.filter_map]
  congr 1
  apply List.filter_congr
  intro e _
  show decide ((Sum.inl (e.w : Int) : Key) ≠ Sum.inl (d : Int)) = (e.w != d)
  by_cases c : e.w = d
  · subst c
    simp
  · have : ¬ (Sum.inl (e.w : Int) : Key) = Sum.inl (d : Int) := fun z => c (by have := Sum.inl.inj z; omega)
    rw [decide_eq_true this]
    simp [c]
theorem ws_drop (es : List We) (d : Nat) : wsOf (es.filter fun e => e.w != d) = (wsOf es).filter fun y => y.1 != d := by
  unfold wsOf
  rw [List.filter_map]
  rfl
theorem kv_gone (es : List We) (d : Nat) : valV (kvOf (es.filter fun e => e.w != d)) (Sum.inl (d : Int)) = none := by
  rw [kv_val]
  rw [Option.map_eq_none_iff, List.find?_eq_none]
  intro e he
  have := (List.mem_filter.mp he).2
  simpa using this
theorem WAt.touch {C : Addr} {H : Hp} {L : Lay} {m : M} (W : WAt C H L m) {q : Addr} {o : HO} (n : ¬ Fp L q) : WAt C (upd H q o) L m := by
  have k : ∀ {z : Addr} {u : HO}, H z = some u → Fp L z → upd H q o z = some u := fun {z u} h f => by
    rw [upd_ne (fun e : z = q => n (by rw [← e]; exact f))]
    exact h
  exact ⟨k W.ob (Fp.p L), k W.hd (Fp.ha L), k W.tu (Fp.ta L), W.n1, fun i => (W.dd i).mono fun a o' e h => k h (.ds e), W.nd, W.ln, W.gd⟩
section
variable {K : PySem.W.Frag} {P : Program} {w : World} {mg : Str → Option Value} {base : Heap} {C CQ : Addr}
abbrev s_by_name : Stmt := top 37
abbrev N_by_name : List Str := ["change", "name_by_word", "form"]
theorem sc_by_name : FnScope N_by_name ["change", "name_by_word"] (defScope s_by_name) := ⟨rfl, rfl, rfl, by decide +kernel, rfl, by decide +kernel, by decide +kernel⟩
def sp_by_name : Sp := fun vs H Q _ => ∃ (r d : Addr) (c : Change) (es : List We), vs = [.ref r, .ref d] ∧ H r = some (.lst (IL (crow c))) ∧ WsAt H d es ∧ (∀ x p, c ≠ .make x p) ∧ (named (wsOf es) c = none → ∀ H', Same H H' → Q .non H') ∧
  ∀ c' H' z, named (wsOf es) c = some c' → Same H H' → (z = r ∨ H z = none) → H' z = some (.lst (IL (crow c'))) → Q (.ref z) H'
theorem ok_by_name {f : Addr} {fd : FuncData} (F : Fun K "by_name" "by_name" s_by_name f fd) (T : Con mg) : FnOk P w K mg base CX0 1 f fd ["change", "name_by_word"] sp_by_name := by
  refine F.ok sc_by_name (fun vs H Q E h => ?_) (fun cdv A outer s H vs Q E hr h => ?_)
  · obtain ⟨r, d, c, es, rfl, _⟩ := h
    rfl
  · obtain ⟨r, d, c, es, rfl, hS, hw, hc, q0, q1⟩ := h
    have hu := hu_of hr
    refine ⟨_, (pss_cons (ps_if (pt_cmpR op_notIn_seq (pe_ix ix_list (pv 0) pe_int (fun _ _ => rfl)) (pe_tup (pa_cons (pe_gc T.LATER_PUT_BY_WORD) (pa_cons (pe_gc T.LATER_GONE_BY_WORD) pa_nil))) (by rfl)) (pss_one (ps_ret (pv 0))) pss_nil)
      (pss_cons (ps_if (pt_cmp (pc_dnotin hu (pe_ix ix_list (pv 0) pe_int (fun _ _ => rfl)) (pv 1))) (pss_one (ps_ret pe_non)) pss_nil)
      (pss_cons (ps_set (i := 2) sc_by_name.nd rfl (Or.inl rfl) (pe_ifExp (pt_cmpR op_eq (pe_ix ix_list (pv 0) pe_int (fun _ _ => rfl)) (pe_gc T.LATER_PUT_BY_WORD) (nomark _)) (pe_gc T.LATER_PUT) (pe_gc T.LATER_GONE)))
      (pss_one (ps_ret (pe_op op_cat (pe_op op_cat (pe_lst (pa_cons (pv 2) pa_nil)) (pe_callTy call_list_of (by rfl) T.list PyProof.Rows.boot_list (pa_cons (pe_dget hu (pv 1) (pe_ix ix_list (pv 0) pe_int (fun _ _ => rfl)) (fun _ _ => rfl)) pa_nil))) (pe_slice sl_list (pv 0) (po_some pe_int) po_none))))))), ?_⟩
    have ix : ∀ {n : Nat} {z : Int}, (crow c)[n]? = some z → atI (IL (crow c)) (n : Int) = some (V.int z) := fun h => at_il h rfl
    cases c with
    | make x p => exact absurd rfl (hc x p)
    | gone n =>
      refine ⟨_, rfl, r, _, _, _, rfl, rfl, SqL.of hS, ix (n := 0) rfl, (by show 2 ≤ sizeLine; decide), fun p hp => ⟨p, _, rfl, .inr (SqT.of upd_same), rfl, rfl, _, rfl, iteT ?_⟩⟩
      exact ⟨_, rfl, q1 _ _ r rfl (Same.new hp) (.inl rfl) (Same.new hp _ _ hS)⟩
    | put n k v =>
      refine ⟨_, rfl, r, _, _, _, rfl, rfl, SqL.of hS, ix (n := 0) rfl, (by show 2 ≤ sizeLine; decide), fun p hp => ⟨p, _, rfl, .inr (SqT.of upd_same), rfl, rfl, _, rfl, iteT ?_⟩⟩
      exact ⟨_, rfl, q1 _ _ r rfl (Same.new hp) (.inl rfl) (Same.new hp _ _ hS)⟩
    | take n k =>
      refine ⟨_, rfl, r, _, _, _, rfl, rfl, SqL.of hS, ix (n := 0) rfl, (by show 2 ≤ sizeLine; decide), fun p hp => ⟨p, _, rfl, .inr (SqT.of upd_same), rfl, rfl, _, rfl, iteT ?_⟩⟩
      exact ⟨_, rfl, q1 _ _ r rfl (Same.new hp) (.inl rfl) (Same.new hp _ _ hS)⟩
    | putNew x k v =>
      refine ⟨_, rfl, r, _, _, _, rfl, rfl, SqL.of hS, ix (n := 0) rfl, (by show 2 ≤ sizeLine; decide), fun p hp => ⟨p, _, rfl, .inr (SqT.of upd_same), rfl, rfl, _, rfl, iteF ?_⟩⟩
      have s1 : Same H (upd H p (.tup [.int 4, .int 5])) := Same.new hp
      refine ⟨_, rfl, r, _, _, _, rfl, rfl, SqL.of (s1 _ _ hS), ix (n := 1) rfl, _, rfl, d, _, rfl, DGet.k (k := Sum.inl (x : Int)) (s1 _ _ hw.dk), _, rfl, ?_⟩
      rw [kv_val]
      dsimp only [named] at q0 q1
      rw [ws_find] at q0
      have vv := kv_val es x
      cases e : es.find? fun e => e.w == x with
      | none =>
        rw [e] at q0
        exact iteT (q0 rfl _ s1)
      | some y =>
        refine iteF ?_
        rw [e] at vv
        have hy := hw.ts y (List.mem_of_find?_eq_some e)
        have dg : DGet (upd H p (.tup [.int 4, .int 5])) d (.int (x : Int)) (some (V.ref y.t)) := by
          have := DGet.k (k := Sum.inl (x : Int)) (s1 _ _ hw.dk)
          rw [vv] at this
          exact this
        refine ⟨_, rfl, r, _, _, _, rfl, rfl, SqL.of (s1 _ _ hS), ix (n := 0) rfl, rfl, _, rfl, iteT ?_⟩
        refine ⟨_, rfl, sz1, fun a1 h1 => ?_⟩
        have s2 := s1.trans (Same.new h1 (o := .lst [.int 2]))
        have d2 : DGet (upd (upd H p (.tup [.int 4, .int 5])) a1 (.lst [.int 2])) d (.int (x : Int)) (some (V.ref y.t)) := by
          have := DGet.k (k := Sum.inl (x : Int)) (s2 _ _ hw.dk)
          rw [vv] at this
          exact this
        refine ⟨_, rfl, _, rfl, r, _, _, _, rfl, rfl, SqL.of (s2 _ _ hS), ix (n := 1) rfl, d, _, rfl, d2, y.t, _, rfl, .inr (SqT.of (s2 _ _ hy)), fun a2 h2 => ?_⟩
        have s3 := s2.trans (Same.new h2 (o := .lst [.int (y.n.place : Int), .int (y.n.turn : Int)]))
        refine ⟨a1, a2, _, _, rfl, rfl, Same.new h2 _ _ upd_same, upd_same, (by show 3 ≤ sizeLine; decide), fun a3 h3 => ?_⟩
        have s4 := s3.trans (Same.new h3 (o := .lst ([.int 2] ++ [.int (y.n.place : Int), .int (y.n.turn : Int)])))
        refine ⟨_, rfl, 2, rfl, r, _, rfl, SqL.of (s4 _ _ hS), fun a4 h4 => ?_⟩
        have s5 := s4.trans (Same.new h4 (o := .lst (cutV (IL (crow (.putNew x k v))) (some 2) none)))
        refine ⟨a3, a4, _, _, rfl, rfl, Same.new h4 _ _ upd_same, upd_same, (by show 5 ≤ sizeLine; decide), fun a5 h5 => ?_⟩
        refine q1 (.put y.n k v) _ a5 ?_ (s5.trans (Same.new h5)) (.inr (s5.free h5)) ?_
        · rw [ws_find, e]
          rfl
        · exact upd_same
    | goneNew x =>
      refine ⟨_, rfl, r, _, _, _, rfl, rfl, SqL.of hS, ix (n := 0) rfl, (by show 2 ≤ sizeLine; decide), fun p hp => ⟨p, _, rfl, .inr (SqT.of upd_same), rfl, rfl, _, rfl, iteF ?_⟩⟩
      have s1 : Same H (upd H p (.tup [.int 4, .int 5])) := Same.new hp
      refine ⟨_, rfl, r, _, _, _, rfl, rfl, SqL.of (s1 _ _ hS), ix (n := 1) rfl, _, rfl, d, _, rfl, DGet.k (k := Sum.inl (x : Int)) (s1 _ _ hw.dk), _, rfl, ?_⟩
      rw [kv_val]
      dsimp only [named] at q0 q1
      rw [ws_find] at q0
      have vv := kv_val es x
      cases e : es.find? fun e => e.w == x with
      | none =>
        rw [e] at q0
        exact iteT (q0 rfl _ s1)
      | some y =>
        refine iteF ?_
        rw [e] at vv
        have hy := hw.ts y (List.mem_of_find?_eq_some e)
        refine ⟨_, rfl, r, _, _, _, rfl, rfl, SqL.of (s1 _ _ hS), ix (n := 0) rfl, rfl, _, rfl, iteF ?_⟩
        refine ⟨_, rfl, sz1, fun a1 h1 => ?_⟩
        have s2 := s1.trans (Same.new h1 (o := .lst [.int 1]))
        have d2 : DGet (upd (upd H p (.tup [.int 4, .int 5])) a1 (.lst [.int 1])) d (.int (x : Int)) (some (V.ref y.t)) := by
          have := DGet.k (k := Sum.inl (x : Int)) (s2 _ _ hw.dk)
          rw [vv] at this
          exact this
        refine ⟨_, rfl, _, rfl, r, _, _, _, rfl, rfl, SqL.of (s2 _ _ hS), ix (n := 1) rfl, d, _, rfl, d2, y.t, _, rfl, .inr (SqT.of (s2 _ _ hy)), fun a2 h2 => ?_⟩
        have s3 := s2.trans (Same.new h2 (o := .lst [.int (y.n.place : Int), .int (y.n.turn : Int)]))
        refine ⟨a1, a2, _, _, rfl, rfl, Same.new h2 _ _ upd_same, upd_same, (by show 3 ≤ sizeLine; decide), fun a3 h3 => ?_⟩
        have s4 := s3.trans (Same.new h3 (o := .lst ([.int 1] ++ [.int (y.n.place : Int), .int (y.n.turn : Int)])))
        refine ⟨_, rfl, 2, rfl, r, _, rfl, SqL.of (s4 _ _ hS), fun a4 h4 => ?_⟩
        have s5 := s4.trans (Same.new h4 (o := .lst (cutV (IL (crow (.goneNew x))) (some 2) none)))
        refine ⟨a3, a4, _, _, rfl, rfl, Same.new h4 _ _ upd_same, upd_same, (by show 3 ≤ sizeLine; decide), fun a5 h5 => ?_⟩
        refine q1 (.gone y.n) _ a5 ?_ (s5.trans (Same.new h5)) (.inr (s5.free h5)) ?_
        · rw [ws_find, e]
          rfl
        · exact upd_same
end
end Pw

namespace Pw
open L2 PySem PySem.Spec PyProof.Rows
open Ge01 (Part Name Change Thing)
/-- a change that names a thing -/
def ByName : Change → Prop
  | .gone _ => True
  | .put _ _ _ => True
  | .take _ _ => True
  | _ => False
section
variable {K : PySem.W.Frag} {P : Program} {w : World} {mg : Str → Option Value} {base : Heap} {C CQ : Addr}
abbrev s_do_by_name : Stmt := top 38
abbrev N_do_by_name : List Str := ["things", "change"]
theorem sc_do_by_name : FnScope N_do_by_name ["things", "change"] (defScope s_do_by_name) := ⟨rfl, rfl, rfl, by decide +kernel, rfl, by decide +kernel, by decide +kernel⟩
def sp_do_by_name (C : Addr) : Sp := fun vs H Q _ => ∃ (L : Lay) (m : M) (z : Addr) (c : Change), vs = [.ref L.p, .ref z] ∧ WAt C H L m ∧ H z = some (.lst (IL (crow c))) ∧ ByName c ∧ Ge01.changeOk c = true ∧ m.held.length ≤ 500 ∧ ∀ H' L', WAt C H' L' (mdo1 m [] c).1 → Fr H L H' L' → Q .non H'
theorem ok_do_by_name {f : Addr} {fd : FuncData} (F : Fun K "do_by_name" "do_by_name" s_do_by_name f fd) (T : Con mg) (D_Things_gone : MethOk P w K mg base 2 C "gone" ["self", "place", "turn"] (sp_Things_gone C)) (D_Things_put : MethOk P w K mg base 2 C "put" ["self", "place", "turn", "kind", "value"] (sp_Things_put C))
    (D_Things_take : MethOk P w K mg base 2 C "take" ["self", "place", "turn", "kind"] (sp_Things_take C)) : FnOk P w K mg base CX0 3 f fd ["things", "change"] (sp_do_by_name C) := by
  refine F.ok sc_do_by_name (fun vs H Q E h => ?_) (fun cdv A outer s H vs Q E hr h => ?_)
  · obtain ⟨L, m, z, c, rfl, _⟩ := h
    rfl
  · obtain ⟨L, m, z, c, rfl, W, hS, hb, ok, hl, q⟩ := h
    refine ⟨_, (pss_one (ps_if (pt_cmpR op_eq (pe_ix ix_list (pv 1) pe_int (fun _ _ => rfl)) (pe_gc T.LATER_GONE) (nomark _)) (pss_one (ps_expr (pe_me (pv 0) D_Things_gone (hr.mono (by decide)) (pa_cons (pe_ix ix_list (pv 1) pe_int (fun _ _ => rfl)) (pa_cons (pe_ix ix_list (pv 1) pe_int (fun _ _ => rfl)) pa_nil))))) (pss_one (ps_if (pt_cmpR op_eq (pe_ix ix_list (pv 1) pe_int (fun _ _ => rfl)) (pe_gc T.LATER_PUT) (nomark _)) (pss_one (ps_expr (pe_me (pv 0) D_Things_put (hr.mono (by decide)) (pa_cons (pe_ix ix_list (pv 1) pe_int (fun _ _ => rfl)) (pa_cons (pe_ix ix_list (pv 1) pe_int (fun _ _ => rfl)) (pa_cons (pe_ix ix_list (pv 1) pe_int (fun _ _ => rfl)) (pa_cons (pe_ix ix_list (pv 1) pe_int (fun _ _ => rfl)) pa_nil))))))) (pss_one (ps_expr (pe_me (pv 0) D_Things_take (hr.mono (by decide)) (pa_cons (pe_ix ix_list (pv 1) pe_int (fun _ _ => rfl)) (pa_cons (pe_ix ix_list (pv 1) pe_int (fun _ _ => rfl)) (pa_cons (pe_ix ix_list (pv 1) pe_int (fun _ _ => rfl)) pa_nil)))))))))), ?_⟩
    have ix : ∀ {n : Nat} {x : Int}, (crow c)[n]? = some x → atI (IL (crow c)) (n : Int) = some (V.int x) := fun h => at_il h rfl
    cases c with
    | make x p => exact hb.elim
    | putNew x k v => exact hb.elim
    | goneNew x => exact hb.elim
    | gone n =>
      refine ⟨_, rfl, z, _, _, _, rfl, rfl, SqL.of hS, ix (n := 0) rfl, rfl, _, rfl, iteT ?_⟩
      refine ⟨_, rfl, L.p, L.dx, _, rfl, W.ob, wF_no L (by decide +kernel) (by decide +kernel), _, rfl, z, _, _, _, rfl, rfl, SqL.of hS, ix (n := 1) rfl, _, rfl, z, _, _, _, rfl, rfl, SqL.of hS, ix (n := 2) rfl, L, m, n.place, n.turn, rfl, W, by omega, fun H' L' t W' F' _ _ _ => ?_⟩
      rw [goneR_mdo m []] at W'
      exact q H' L' W' F'
    | put n k v =>
      refine ⟨_, rfl, z, _, _, _, rfl, rfl, SqL.of hS, ix (n := 0) rfl, rfl, _, rfl, iteF ?_⟩
      refine ⟨_, rfl, z, _, _, _, rfl, rfl, SqL.of hS, ix (n := 0) rfl, rfl, _, rfl, iteT ?_⟩
      refine ⟨_, rfl, L.p, L.dx, _, rfl, W.ob, wF_no L (by decide +kernel) (by decide +kernel), _, rfl, z, _, _, _, rfl, rfl, SqL.of hS, ix (n := 1) rfl, _, rfl, z, _, _, _, rfl, rfl, SqL.of hS, ix (n := 2) rfl, _, rfl, z, _, _, _, rfl, rfl, SqL.of hS, ix (n := 3) rfl, _, rfl, z, _, _, _, rfl, rfl, SqL.of hS, ix (n := 4) rfl, L, m, n.place, n.turn, k, v, rfl, W, fun H' L' t W' F' _ _ _ => ?_⟩
      rw [putR_mdo m [] n k v ok] at W'
      exact q H' L' W' F'
    | take n k =>
      refine ⟨_, rfl, z, _, _, _, rfl, rfl, SqL.of hS, ix (n := 0) rfl, rfl, _, rfl, iteF ?_⟩
      refine ⟨_, rfl, z, _, _, _, rfl, rfl, SqL.of hS, ix (n := 0) rfl, rfl, _, rfl, iteF ?_⟩
      refine ⟨_, rfl, L.p, L.dx, _, rfl, W.ob, wF_no L (by decide +kernel) (by decide +kernel), _, rfl, z, _, _, _, rfl, rfl, SqL.of hS, ix (n := 1) rfl, _, rfl, z, _, _, _, rfl, rfl, SqL.of hS, ix (n := 2) rfl, _, rfl, z, _, _, _, rfl, rfl, SqL.of hS, ix (n := 3) rfl, L, m, n.place, n.turn, k, rfl, W, fun H' L' t W' F' _ _ _ => ?_⟩
      rw [takeR_mdo m []] at W'
      exact q H' L' W' F'
/-- all else stands, the dict of words aside -/
structure FrD (d : Addr) (H : Hp) (L : Lay) (H' : Hp) (L' : Lay) : Prop where
  kp : ∀ q o, H q = some o → ¬ Fp L q → q ≠ d → H' q = some o
  nw : ∀ q, Fp L' q → Fp L q ∨ H q = none
  pe : L'.p = L.p
  tr : ∀ q, H' q = none → H q = none
theorem FrD.out {d : Addr} {H H' : Hp} {L L' : Lay} (f : FrD d H L H' L') {q : Addr} {o : HO} (h : H q = some o) (n : ¬ Fp L q) (nd : q ≠ d) : H' q = some o ∧ ¬ Fp L' q := by
  refine ⟨f.kp q o h n nd, fun z => ?_⟩
  rcases f.nw q z with z | z
  · exact n z
  · rw [h] at z
    cases z
theorem named_by {ws : Ws} {c c' : Change} (hc : ∀ x p, c ≠ .make x p) (h : named ws c = some c') (ok : Ge01.changeOk c = true) : ByName c' ∧ Ge01.changeOk c' = true := by
  cases c with
  | make x p => exact absurd rfl (hc x p)
  | gone n =>
    cases h
    exact ⟨True.intro, ok⟩
  | put n k v =>
    cases h
    exact ⟨True.intro, ok⟩
  | take n k =>
    cases h
    exact ⟨True.intro, ok⟩
  | putNew x k v =>
    dsimp only [named] at h
    cases e : ws.find? fun y => y.1 == x with
    | none =>
      rw [e] at h
      cases h
    | some y =>
      rw [e] at h
      cases h
      exact ⟨True.intro, ok⟩
  | goneNew x =>
    dsimp only [named] at h
    cases e : ws.find? fun y => y.1 == x with
    | none =>
      rw [e] at h
      cases h
    | some y =>
      rw [e] at h
      cases h
      exact ⟨True.intro, ok⟩
theorem mdo1_ws (m : M) (ws ws' : Ws) {c : Change} (h : ByName c) : (mdo1 m ws c).1 = (mdo1 m ws' c).1 := by
  cases c with
  | make x p => exact h.elim
  | putNew x k v => exact h.elim
  | goneNew x => exact h.elim
  | gone n => rfl
  | put n k v => rfl
  | take n k => rfl
theorem crow0 {c : Change} (hc : ∀ x p, c ≠ .make x p) : ∃ z, (crow c)[0]? = some z ∧ z ≠ 0 := by
  cases c with
  | make x p => exact absurd rfl (hc x p)
  | gone n => exact ⟨1, rfl, by decide⟩
  | put n k v => exact ⟨2, rfl, by decide⟩
  | take n k => exact ⟨3, rfl, by decide⟩
  | putNew x k v => exact ⟨4, rfl, by decide⟩
  | goneNew x => exact ⟨5, rfl, by decide⟩
abbrev s_do_change : Stmt := top 39
abbrev N_do_change : List Str := ["things", "change", "name_by_word", "named"]
theorem sc_do_change : FnScope N_do_change ["things", "change", "name_by_word"] (defScope s_do_change) := ⟨rfl, rfl, rfl, by decide +kernel, rfl, by decide +kernel, by decide +kernel⟩
def sp_do_change (C : Addr) : Sp := fun vs H Q _ => ∃ (L : Lay) (m : M) (r d : Addr) (c : Change) (es : List We), vs = [.ref L.p, .ref r, .ref d] ∧ WAt C H L m ∧ H r = some (.lst (IL (crow c))) ∧ ¬ Fp L r ∧ WsAt H d es ∧ ¬ Fp L d ∧ (∀ e ∈ es, ¬ Fp L e.t) ∧ Ge01.changeOk c = true ∧ m.held.length ≤ 500 ∧ es.length ≤ 900 ∧
  ∀ H' L' es', WAt C H' L' (mdo1 m (wsOf es) c).1 → FrD d H L H' L' → WsAt H' d es' → wsOf es' = (mdo1 m (wsOf es) c).2 → ¬ Fp L' d → (∀ e ∈ es', ¬ Fp L' e.t) → (∀ e ∈ es', e ∈ es ∨ H e.t = none) → Q .non H'
theorem ok_do_change {f : Addr} {fd : FuncData} (F : Fun K "do_change" "do_change" s_do_change f fd) (T : Con mg) (D_Things_bring : MethOk P w K mg base 2 C "bring" ["self", "parts"] (sp_Things_bring C)) (D_by_name : DefOk P w K mg base 1 "by_name" ["change", "name_by_word"] sp_by_name)
    (D_do_by_name : DefOk P w K mg base 3 "do_by_name" ["things", "change"] (sp_do_by_name C)) : FnOk P w K mg base CX0 4 f fd ["things", "change", "name_by_word"] (sp_do_change C) := by
  refine F.ok sc_do_change (fun vs H Q E h => ?_) (fun cdv A outer s H vs Q E hr h => ?_)
  · obtain ⟨L, m, r, d, c, es, rfl, _⟩ := h
    rfl
  · obtain ⟨L, m, r, d, c, es, rfl, W, hS, nr, hw, nd, nt, ok, hl, hel, q⟩ := h
    have hu := hu_of hr
    refine ⟨_, (pss_cons (ps_if (pt_cmpR op_eq (pe_ix ix_list (pv 1) pe_int (fun _ _ => rfl)) (pe_gc T.LATER_MADE) (nomark _)) (pss_cons (ps_expr (pe_dpop2 (pv 2) (pe_ix ix_list (pv 1) pe_int (fun _ _ => rfl)) pe_non m2_of))
      (pss_cons (ps_dput hu (pv 2) (pe_ix ix_list (pv 1) pe_int (fun _ _ => rfl)) (pe_me (pv 0) D_Things_bring (hr.mono (by decide)) (pa_cons (pe_slice sl_list (pv 1) (po_some pe_int) po_none) pa_nil)) rfl)
      (pss_one ps_retN))) pss_nil)
      (pss_cons (ps_set (i := 3) sc_do_change.nd rfl (Or.inl rfl) (pe_fn D_by_name (hr.mono (by decide)) (pa_cons (pv 1) (pa_cons (pv 2) pa_nil))))
      (pss_one (ps_if (pt_cmpR op_notN (pv 3) pe_non (nomark _)) (pss_one (ps_expr (pe_fn D_do_by_name (hr.mono (by decide)) (pa_cons (pv 0) (pa_cons (pv 3) pa_nil))))) pss_nil)))), ?_⟩
    have ix : ∀ {n : Nat} {x : Int}, (crow c)[n]? = some x → atI (IL (crow c)) (n : Int) = some (V.int x) := fun h => at_il h rfl
    by_cases hc : ∀ x p, c ≠ .make x p
    · obtain ⟨z0, e0, n0⟩ := crow0 hc
      refine ⟨_, rfl, r, _, _, _, rfl, rfl, SqL.of hS, ix (n := 0) e0, rfl, _, rfl, ?_⟩
      rw [decide_eq_false (fun z => n0 (V.int.inj z))]
      refine iteF ?_
      have mn := mdo1_named m (wsOf es) c hc
      refine ⟨_, rfl, _, rfl, r, d, c, es, rfl, hS, hw, hc, fun hn H1 s1 => ?_, fun c' H1 z hn s1 hz hz1 => ?_⟩
      · rw [hn] at mn
        refine ⟨_, rfl, rfl, _, rfl, iteF ?_⟩
        rw [mn] at q
        exact q H1 L es (W.same s1) ⟨fun z o h _ _ => s1 z o h, fun z h => .inl h, rfl, fun z h => s1.free h⟩ ⟨s1 _ _ hw.dk, fun e he => s1 _ _ (hw.ts e he)⟩ rfl nd nt fun e he => .inl he
      · rw [hn] at mn
        obtain ⟨b1, b2⟩ := named_by hc hn ok
        refine ⟨_, rfl, rfl, _, rfl, iteT ?_⟩
        refine ⟨_, rfl, _, rfl, L, m, z, c', rfl, W.same s1, hz1, b1, b2, hl, fun H2 L2 W2 F2 => ?_⟩
        rw [mn, mdo1_ws m (wsOf es) [] b1] at q
        have o1 : ∀ {a : Addr} {u : HO}, H a = some u → ¬ Fp L a → H2 a = some u ∧ ¬ Fp L2 a := fun h n => F2.out (s1 _ _ h) n
        refine q H2 L2 es W2 ⟨fun a u h n _ => (o1 h n).1, fun a h => ?_, F2.pe, fun a h => s1.free (F2.tr a h)⟩ ⟨(o1 hw.dk nd).1, fun e he => (o1 (hw.ts e he) (nt e he)).1⟩ rfl (o1 hw.dk nd).2 (fun e he => (o1 (hw.ts e he) (nt e he)).2) fun e he => .inl he
        rcases F2.nw a h with h | h
        · exact .inl h
        · exact .inr (s1.free h)
    · have hm : ∃ x p, c = .make x p := by
        cases c with
        | make x p => exact ⟨x, p, rfl⟩
        | gone n => exact absurd (fun _ _ z => by cases z) hc
        | put n k v => exact absurd (fun _ _ z => by cases z) hc
        | take n k => exact absurd (fun _ _ z => by cases z) hc
        | putNew x k v => exact absurd (fun _ _ z => by cases z) hc
        | goneNew x => exact absurd (fun _ _ z => by cases z) hc
      obtain ⟨x, p, rfl⟩ := hm
      refine ⟨_, rfl, r, _, _, _, rfl, rfl, SqL.of hS, ix (n := 0) rfl, rfl, _, rfl, iteT ?_⟩
      have g : Good p := (good_iff p).mp ok
      have hfl : (es.filter fun e => e.w != x).length ≤ es.length := List.length_filter_le _ _
      have nrd : r ≠ d := ne_of hS hw.dk (by intro z; cases z)
      refine ⟨_, rfl, d, rfl, .inl ⟨_, .inl hw.dk⟩, _, rfl, r, _, _, _, rfl, rfl, SqL.of hS, ix (n := 1) rfl, _, Sum.inl (x : Int), hw.dk, rfl, fun v hv => ?_, fun hv => ?_⟩
      · rw [kv_drop]
        have w1 : WsAt (upd H d (.dK (kvOf (es.filter fun e => e.w != x)))) d (es.filter fun e => e.w != x) := ⟨upd_same, fun e he => by
          have h1 := hw.ts e (List.mem_filter.mp he).1
          rw [upd_ne (fun z => by rw [z, hw.dk] at h1; cases h1)]
          exact h1⟩
        have k1 : ∀ a u, H a = some u → a ≠ d → (upd H d (.dK (kvOf (es.filter fun e => e.w != x)))) a = some u := fun a u h n => by
          rw [upd_ne n]
          exact h
        have t1 : ∀ a, (upd H d (.dK (kvOf (es.filter fun e => e.w != x)))) a = none → H a = none := fun a h => upd_none h
        have W1 : WAt C (upd H d (.dK (kvOf (es.filter fun e => e.w != x)))) L m := W.touch nd
        have hS1 : (upd H d (.dK (kvOf (es.filter fun e => e.w != x)))) r = some (.lst (IL (crow (.make x p)))) := k1 _ _ hS nrd
        refine ⟨_, rfl, L.p, L.dx, _, rfl, W1.ob, wF_no L (by decide +kernel) (by decide +kernel), _, rfl, 2, rfl, r, _, rfl, SqL.of hS1, fun l hl' => ?_⟩
        have ec : cutV (IL (crow (.make x p))) (some 2) none = IL (flat p) := cut_from (i := 2)
        rw [ec]
        have s2 : Same (upd H d (.dK (kvOf (es.filter fun e => e.w != x)))) (upd (upd H d (.dK (kvOf (es.filter fun e => e.w != x)))) l (.lst (IL (flat p)))) := Same.new hl'
        refine ⟨L, m, l, p, rfl, W1.same s2, upd_same, W1.no hl', g, hl, fun H3 L3 t W3 F3 ht nt3 ht3 => ?_⟩
        have o1 : ∀ {a : Addr} {u : HO}, (upd H d (.dK (kvOf (es.filter fun e => e.w != x)))) a = some u → ¬ Fp L a → H3 a = some u ∧ ¬ Fp L3 a := fun h n => F3.out (s2 _ _ h) n
        obtain ⟨hd3, nd3⟩ := o1 w1.dk nd
        have hr3 := (o1 hS1 nr).1
        have ntd : t ≠ d := fun z => by
          rw [z, s2 _ _ w1.dk] at ht
          cases ht
        refine ⟨_, rfl, _, rfl, r, _, _, _, rfl, rfl, SqL.of hr3, ix (n := 1) rfl, d, _, rfl, DPut.k (k := Sum.inl (x : Int)) hd3 (small1000 (by unfold kvOf; rw [List.length_map]; omega)), ?_⟩
        rw [putK_new _ (kv_gone es x)]
        refine q _ L3 ((es.filter fun e => e.w != x) ++ [⟨x, m.place, t⟩]) (W3.touch nd3) ⟨fun a u h n1 n2 => ?_, fun a h => ?_, F3.pe, fun a h => t1 a (s2.free (F3.tr a (upd_none h)))⟩ ⟨?_, fun e he => ?_⟩ ?_ nd3 (fun e he => ?_) fun e he => ?_
        · rw [upd_ne n2]
          exact (o1 (k1 _ _ h n2) n1).1
        · rcases F3.nw a h with h | h
          · exact .inl h
          · exact .inr (t1 a (s2.free h))
        · rw [upd_same]
          unfold kvOf
          rw [List.map_append]
          rfl
        · rcases List.mem_append.mp he with he | he
          · have h1 := w1.ts e he
            have h2 := nt e (List.mem_filter.mp he).1
            rw [upd_ne (fun z => by rw [z, w1.dk] at h1; cases h1)]
            exact (o1 h1 h2).1
          · have he : e = ⟨x, m.place, t⟩ := by simpa using he
            subst he
            rw [upd_ne ntd]
            exact ht3
        · show wsOf ((es.filter fun e => e.w != x) ++ [⟨x, m.place, t⟩]) = ((wsOf es).filter fun y => y.1 != x) ++ [(x, m.place)]
          rw [← ws_drop]
          unfold wsOf
          rw [List.map_append]
          rfl
        · rcases List.mem_append.mp he with he | he
          · exact (o1 (w1.ts e he) (nt e (List.mem_filter.mp he).1)).2
          · have he : e = ⟨x, m.place, t⟩ := by simpa using he
            subst he
            exact nt3
        · rcases List.mem_append.mp he with he | he
          · exact .inl (List.mem_filter.mp he).1
          · have he : e = ⟨x, m.place, t⟩ := by simpa using he
            subst he
            exact .inr (t1 t (s2.free ht))
      · have ef : (es.filter fun e => e.w != x) = es := by
          rw [kv_val, Option.map_eq_none_iff, List.find?_eq_none] at hv
          rw [List.filter_eq_self]
          intro e he
          have := hv e he
          simpa using this
        have w1 : WsAt H d (es.filter fun e => e.w != x) := by
          rw [ef]
          exact hw
        have k1 : ∀ a u, H a = some u → a ≠ d → H a = some u := fun a u h _ => h
        have t1 : ∀ a, H a = none → H a = none := fun a h => h
        have W1 : WAt C (H) L m := W
        have hS1 : (H) r = some (.lst (IL (crow (.make x p)))) := k1 _ _ hS nrd
        refine ⟨_, rfl, L.p, L.dx, _, rfl, W1.ob, wF_no L (by decide +kernel) (by decide +kernel), _, rfl, 2, rfl, r, _, rfl, SqL.of hS1, fun l hl' => ?_⟩
        have ec : cutV (IL (crow (.make x p))) (some 2) none = IL (flat p) := cut_from (i := 2)
        rw [ec]
        have s2 : Same (H) (upd (H) l (.lst (IL (flat p)))) := Same.new hl'
        refine ⟨L, m, l, p, rfl, W1.same s2, upd_same, W1.no hl', g, hl, fun H3 L3 t W3 F3 ht nt3 ht3 => ?_⟩
        have o1 : ∀ {a : Addr} {u : HO}, (H) a = some u → ¬ Fp L a → H3 a = some u ∧ ¬ Fp L3 a := fun h n => F3.out (s2 _ _ h) n
        obtain ⟨hd3, nd3⟩ := o1 w1.dk nd
        have hr3 := (o1 hS1 nr).1
        have ntd : t ≠ d := fun z => by
          rw [z, s2 _ _ w1.dk] at ht
          cases ht
        refine ⟨_, rfl, _, rfl, r, _, _, _, rfl, rfl, SqL.of hr3, ix (n := 1) rfl, d, _, rfl, DPut.k (k := Sum.inl (x : Int)) hd3 (small1000 (by unfold kvOf; rw [List.length_map]; omega)), ?_⟩
        rw [putK_new _ (kv_gone es x)]
        refine q _ L3 ((es.filter fun e => e.w != x) ++ [⟨x, m.place, t⟩]) (W3.touch nd3) ⟨fun a u h n1 n2 => ?_, fun a h => ?_, F3.pe, fun a h => t1 a (s2.free (F3.tr a (upd_none h)))⟩ ⟨?_, fun e he => ?_⟩ ?_ nd3 (fun e he => ?_) fun e he => ?_
        · rw [upd_ne n2]
          exact (o1 (k1 _ _ h n2) n1).1
        · rcases F3.nw a h with h | h
          · exact .inl h
          · exact .inr (t1 a (s2.free h))
        · rw [upd_same]
          unfold kvOf
          rw [List.map_append]
          rfl
        · rcases List.mem_append.mp he with he | he
          · have h1 := w1.ts e he
            have h2 := nt e (List.mem_filter.mp he).1
            rw [upd_ne (fun z => by rw [z, w1.dk] at h1; cases h1)]
            exact (o1 h1 h2).1
          · have he : e = ⟨x, m.place, t⟩ := by simpa using he
            subst he
            rw [upd_ne ntd]
            exact ht3
        · show wsOf ((es.filter fun e => e.w != x) ++ [⟨x, m.place, t⟩]) = ((wsOf es).filter fun y => y.1 != x) ++ [(x, m.place)]
          rw [← ws_drop]
          unfold wsOf
          rw [List.map_append]
          rfl
        · rcases List.mem_append.mp he with he | he
          · exact (o1 (w1.ts e he) (nt e (List.mem_filter.mp he).1)).2
          · have he : e = ⟨x, m.place, t⟩ := by simpa using he
            subst he
            exact nt3
        · rcases List.mem_append.mp he with he | he
          · exact .inl (List.mem_filter.mp he).1
          · have he : e = ⟨x, m.place, t⟩ := by simpa using he
            subst he
            exact .inr (t1 t (s2.free ht))
end
end Pw

namespace Pw
open L2 PySem PySem.Spec PyProof.Rows
open Ge01 (Part Name Change Thing)
/-! ### a kept question -/
structure KLay where
  p : Addr
  dx : Addr
  Y : QLay
  t : Addr
  ts : List Addr
def kF (k : KLay) : List (Str × V) := [("question", .ref k.Y.p), ("told", .ref k.t)]
theorem kF_q (k : KLay) : (kF k).lookup ("question" : Str) = some (.ref k.Y.p) := lk_here
theorem kF_t (k : KLay) : (kF k).lookup ("told" : Str) = some (.ref k.t) := (lk_past (by decide +kernel)).trans lk_here
structure KTxt (K : PySem.W.Frag) (C : Addr) : Prop where
  cl : Cls K C
  nQ : NoAttr K C "question"
  nT : NoAttr K C "told"
structure KAt (CK CQ : Addr) (H : Hp) (k : KLay) (q : Qn) (ns : List Name) : Prop where
  ob : H k.p = some (.ins CK k.dx (kF k))
  qa : QAt CQ H k.Y q
  tl : H k.t = some (.lst (k.ts.map V.ref))
  nm : NamesAt H k.ts ns
def KLay.imm (k : KLay) (z : Addr) : Prop := k.Y.has z ∨ z = k.t ∨ z ∈ k.ts
theorem KAt.mono {CK CQ : Addr} {H H' : Hp} {k : KLay} {q : Qn} {ns : List Name} (h : KAt CK CQ H k q ns) (f : ∀ z o, k.imm z ∨ z = k.p → H z = some o → H' z = some o) : KAt CK CQ H' k q ns :=
  ⟨f _ _ (.inr rfl) h.ob, h.qa.mono fun z o hz e => f z o (.inl (.inl hz)) e, f _ _ (.inl (.inr (.inl rfl))) h.tl, h.nm.mono fun t ht o e => f t o (.inl (.inr (.inr ht))) e⟩
theorem KAt.is {CK CQ : Addr} {H : Hp} {k : KLay} {q : Qn} {ns : List Name} (h : KAt CK CQ H k q ns) {z : Addr} (f : k.imm z ∨ z = k.p) : ∃ o, H z = some o := by
  rcases f with (f | rfl | f) | rfl
  · exact h.qa.is f
  · exact ⟨_, h.tl⟩
  · obtain ⟨i, hi, e⟩ := List.getElem_of_mem f
    obtain ⟨n, _, e2⟩ := h.nm.get (i := i) (t := z) (by rw [List.getElem?_eq_getElem hi, e])
    exact ⟨_, e2⟩
  · exact ⟨_, h.ob⟩
/-! ### the house -/
structure HLay where
  p : Addr
  dx : Addr
  T : Lay
  oa : Addr
  ka : Addr
  rs : List Addr
  ks : List KLay
structure Cs where
  T : Addr
  Q : Addr
  K : Addr
  W : Addr
def hF (t oa ka : Addr) : List (Str × V) := [("things", .ref t), ("put_off", .ref oa), ("kept", .ref ka)]
theorem hF_t (t oa ka : Addr) : (hF t oa ka).lookup ("things" : Str) = some (.ref t) := lk_here
theorem hF_o (t oa ka : Addr) : (hF t oa ka).lookup ("put_off" : Str) = some (.ref oa) := (lk_past (by decide +kernel)).trans lk_here
theorem hF_k (t oa ka : Addr) : (hF t oa ka).lookup ("kept" : Str) = some (.ref ka) := (lk_past (by decide +kernel)).trans ((lk_past (by decide +kernel)).trans lk_here)
theorem hF_no (t oa ka : Addr) {m : Str} (h1 : (m == ("things" : Str)) = false) (h2 : (m == ("put_off" : Str)) = false) (h3 : (m == ("kept" : Str)) = false) : (hF t oa ka).lookup m = none := (lk_past h1).trans ((lk_past h2).trans ((lk_past h3).trans rfl))
structure HTxt (K : PySem.W.Frag) (C : Addr) : Prop where
  cl : Cls K C
  nT : NoAttr K C "things"
  nO : NoAttr K C "put_off"
  nK : NoAttr K C "kept"
/-- what never changes, and what may -/
def Imm (X : HLay) (z : Addr) : Prop := z ∈ X.rs ∨ ∃ k ∈ X.ks, k.imm z
def Chg (X : HLay) (z : Addr) : Prop := z = X.p ∨ z = X.oa ∨ z = X.ka ∨ ∃ k ∈ X.ks, z = k.p
structure OAt (cs : Cs) (H : Hp) (X : HLay) (off : List Change) (qs : List Qn) (told : List (List Name)) : Prop where
  ob : H X.p = some (.ins cs.W X.dx (hF X.T.p X.oa X.ka))
  of : H X.oa = some (.lst (X.rs.map V.ref))
  kp : H X.ka = some (.lst (X.ks.map fun k => V.ref k.p))
  nok : X.oa ≠ X.ka
  rl : X.rs.length = off.length
  rr : ∀ (i : Nat) (r : Addr) (c : Change), X.rs[i]? = some r → off[i]? = some c → H r = some (.lst (IL (crow c)))
  kl : X.ks.length = qs.length
  tl : qs.length = told.length
  kk : ∀ (i : Nat) (k : KLay) (q : Qn) (ns : List Name), X.ks[i]? = some k → qs[i]? = some q → told[i]? = some ns → KAt cs.K cs.Q H k q ns
  kd : ∀ (i j : Nat) (k k' : KLay), X.ks[i]? = some k → X.ks[j]? = some k' → k.p = k'.p → i = j
  sM : ∀ z, Imm X z → ¬ Chg X z
section
variable {cs : Cs} {H H' : Hp} {X : HLay} {off : List Change} {qs : List Qn} {told : List (List Name)}
theorem mem_get {α : Type} {l : List α} {x : α} (h : x ∈ l) : ∃ i : Nat, l[i]? = some x := by
  obtain ⟨i, hi, e⟩ := List.getElem_of_mem h
  exact ⟨i, by rw [List.getElem?_eq_getElem hi, e]⟩
theorem get_len {α β : Type} {l : List α} {k : List β} {i : Nat} {x : α} (e : l.length = k.length) (h : l[i]? = some x) : ∃ y, k[i]? = some y := by
  have := (List.getElem?_eq_some_iff.mp h).1
  exact ⟨k[i]'(by omega), List.getElem?_eq_getElem _⟩
theorem OAt.kept (O : OAt cs H X off qs told) {i : Nat} {k : KLay} (h : X.ks[i]? = some k) : ∃ q ns, qs[i]? = some q ∧ told[i]? = some ns ∧ KAt cs.K cs.Q H k q ns := by
  obtain ⟨q, hq⟩ := get_len O.kl h
  obtain ⟨ns, hn⟩ := get_len O.tl hq
  exact ⟨q, ns, hq, hn, O.kk i k q ns h hq hn⟩
theorem OAt.is (O : OAt cs H X off qs told) {z : Addr} (f : Imm X z ∨ Chg X z) : ∃ o, H z = some o := by
  rcases f with (f | ⟨k, hk, f⟩) | (rfl | rfl | rfl | ⟨k, hk, rfl⟩)
  · obtain ⟨i, e⟩ := mem_get f
    obtain ⟨c, ec⟩ := get_len O.rl e
    exact ⟨_, O.rr i z c e ec⟩
  · obtain ⟨i, e⟩ := mem_get hk
    obtain ⟨q, ns, _, _, ka⟩ := O.kept e
    exact ka.is (.inl f)
  · exact ⟨_, O.ob⟩
  · exact ⟨_, O.of⟩
  · exact ⟨_, O.kp⟩
  · obtain ⟨i, e⟩ := mem_get hk
    obtain ⟨q, ns, _, _, ka⟩ := O.kept e
    exact ⟨_, ka.ob⟩
theorem OAt.mono (O : OAt cs H X off qs told) (k : ∀ z o, Imm X z ∨ Chg X z → H z = some o → H' z = some o) : OAt cs H' X off qs told :=
  ⟨k _ _ (.inr (.inl rfl)) O.ob, k _ _ (.inr (.inr (.inl rfl))) O.of, k _ _ (.inr (.inr (.inr (.inl rfl)))) O.kp, O.nok, O.rl, fun i r c e1 e2 => k _ _ (.inl (.inl (List.mem_of_getElem? e1))) (O.rr i r c e1 e2), O.kl, O.tl,
    fun i l q ns e1 e2 e3 => (O.kk i l q ns e1 e2 e3).mono fun z o f e => k z o (by
      rcases f with f | f
      · exact .inl (.inr ⟨l, List.mem_of_getElem? e1, f⟩)
      · exact .inr (.inr (.inr (.inr ⟨l, List.mem_of_getElem? e1, f⟩)))) e, O.kd, O.sM⟩
end
structure HAtM (cs : Cs) (H : Hp) (X : HLay) (g : Ge01.St) (m : M) : Prop where
  T : WAt cs.T H X.T m
  O : OAt cs H X g.later g.questions g.told
  sT : ∀ z, Imm X z ∨ Chg X z → ¬ Fp X.T z
  R : Rel g.world m
  S : Small m
  ll : g.later.length ≤ 30
  ok : ∀ c ∈ g.later, Ge01.changeOk c = true
  fq : ∀ q ∈ g.questions, FewQ q
  ql : g.questions.length ≤ 6
  tn : ∀ ns ∈ g.told, ns.length ≤ 50
def HAt (cs : Cs) (H : Hp) (X : HLay) (g : Ge01.St) : Prop := ∃ m, HAtM cs H X g m
def FpH (X : HLay) (z : Addr) : Prop := Fp X.T z ∨ Imm X z ∨ Chg X z
structure FrH (N : Addr → Prop) (H : Hp) (X : HLay) (H' : Hp) (X' : HLay) : Prop where
  kp : ∀ z o, H z = some o → ¬ FpH X z → H' z = some o
  nw : ∀ z, FpH X' z → FpH X z ∨ N z
  pe : X'.p = X.p
  tr : ∀ z, H' z = none → H z = none
section
variable {cs : Cs} {H H' H1 : Hp} {X X' : HLay} {g : Ge01.St} {m : M} {N : Addr → Prop}
theorem HAtM.is (h : HAtM cs H X g m) {z : Addr} (f : FpH X z) : ∃ o, H z = some o := by
  rcases f with f | f
  · exact h.T.has f
  · exact h.O.is f
theorem HAtM.no (h : HAtM cs H X g m) {z : Addr} (e : H z = none) : ¬ FpH X z := fun f => by
  obtain ⟨o, e2⟩ := h.is f
  rw [e] at e2
  cases e2
theorem HAtM.same (h : HAtM cs H X g m) (s : Same H H') : HAtM cs H' X g m := ⟨h.T.same s, h.O.mono fun z o _ e => s z o e, h.sT, h.R, h.S, h.ll, h.ok, h.fq, h.ql, h.tn⟩
theorem HAtM.touch (h : HAtM cs H X g m) {q : Addr} {o : HO} (n : ¬ FpH X q) : HAtM cs (upd H q o) X g m :=
  ⟨h.T.touch fun f => n (.inl f), h.O.mono fun z u f e => by
    rw [upd_ne (fun e2 : z = q => n (by rw [← e2]; exact .inr f))]
    exact e, h.sT, h.R, h.S, h.ll, h.ok, h.fq, h.ql, h.tn⟩
theorem HAt.no (h : HAt cs H X g) {z : Addr} (e : H z = none) : ¬ FpH X z := by
  obtain ⟨m, h⟩ := h
  exact h.no e
theorem HAt.same (h : HAt cs H X g) (s : Same H H') : HAt cs H' X g := by
  obtain ⟨m, h⟩ := h
  exact ⟨m, h.same s⟩
theorem HAt.touch (h : HAt cs H X g) {q : Addr} {o : HO} (n : ¬ FpH X q) : HAt cs (upd H q o) X g := by
  obtain ⟨m, h⟩ := h
  exact ⟨m, h.touch n⟩
theorem HAt.ob (h : HAt cs H X g) : H X.p = some (.ins cs.W X.dx (hF X.T.p X.oa X.ka)) := by
  obtain ⟨m, h⟩ := h
  exact h.O.ob
theorem FrH.refl (H : Hp) (X : HLay) : FrH (fun z => H z = none) H X H X := ⟨fun _ _ h _ => h, fun _ h => .inl h, rfl, fun _ h => h⟩
theorem FrH.same {H H' : Hp} (s : Same H H') (X : HLay) : FrH (fun z => H z = none) H X H' X := ⟨fun z o h _ => s z o h, fun _ h => .inl h, rfl, fun _ h => s.free h⟩
theorem FrH.after (f : FrH N H X H1 X') (s : Same H1 H') : FrH N H X H' X' := ⟨fun z o h n => s z o (f.kp z o h n), f.nw, f.pe, fun z h => f.tr z (s.free h)⟩
theorem FrH.before {H0 : Hp} (s : Same H0 H) (f : FrH N H X H1 X') : FrH N H0 X H1 X' := ⟨fun z o h n => f.kp z o (s z o h) n, f.nw, f.pe, fun z h => s.free (f.tr z h)⟩
theorem FrH.wide {N' : Addr → Prop} (f : FrH N H X H' X') (w : ∀ z, N z → N' z) : FrH N' H X H' X' := ⟨f.kp, fun z h => (f.nw z h).imp_right (w z), f.pe, f.tr⟩
/-- the things changed -/
theorem HAtM.things (h : HAtM cs H X g m) {L' : Lay} {m' : M} {w' : Ge01.World} (W' : WAt cs.T H' L' m') (F : Fr H X.T H' L') (r : Rel w' m') (s : Small m') : HAtM cs H' { X with T := L' } { g with world := w' } m' ∧ FrH (fun z => H z = none) H X H' { X with T := L' } := by
  have O := h.O.mono (H' := H') fun z o f e => F.kp z o e (h.sT z f)
  refine ⟨⟨W', ⟨?_, O.of, O.kp, O.nok, O.rl, O.rr, O.kl, O.tl, O.kk, O.kd, O.sM⟩, fun z f => ?_, r, s, h.ll, h.ok, h.fq, h.ql, h.tn⟩, ⟨fun z o e n => F.kp z o e fun f => n (.inl f), fun z f => ?_, rfl, F.tr⟩⟩
  · show H' X.p = some (.ins cs.W X.dx (hF L'.p X.oa X.ka))
    rw [F.pe]
    exact O.ob
  · obtain ⟨o, e⟩ := h.O.is (z := z) f
    exact (F.out e (h.sT z f)).2
  · rcases f with f | f
    · exact (F.nw z f).imp_left fun f => .inl f
    · exact .inl (.inr f)
end
/-- a new list is given back, and the house behind it -/
def ResH (cs : Cs) (N : Addr → Prop) (H : Hp) (X : HLay) (g' : Ge01.St) (ans : List Int) (Q : VK) : Prop :=
  ∀ (H' : Hp) (X' : HLay) (q : Addr), HAt cs H' X' g' → FrH N H X H' X' → H q = none → ¬ FpH X' q → H' q = some (.lst (IL ans)) → Q (.ref q) H'
theorem ResH.new {cs : Cs} {N : Addr → Prop} {H H1 : Hp} {X X1 : HLay} {g' : Ge01.St} {ans : List Int} {Q : VK} (R : ResH cs N H X g' ans Q) (A : HAt cs H1 X1 g') (F : FrH N H X H1 X1) {q : Addr} (hn : H1 q = none) : Q (.ref q) (upd H1 q (.lst (IL ans))) :=
  R _ X1 q (A.same (Same.new hn)) (F.after (Same.new hn)) (F.tr q hn) (A.no hn) upd_same
/-- what the things give back, told for the house -/
theorem Res.house {cs : Cs} {N : Addr → Prop} {H : Hp} {X : HLay} {g g' : Ge01.St} {m m' : M} {ans : List Int} {Q : VK} (h : HAtM cs H X g m) (hN : ∀ z, H z = none → N z) (R : ResH cs N H X g' ans Q) (r : Rel g'.world m') (s : Small m') (e1 : g'.later = g.later) (e2 : g'.questions = g.questions) (e3 : g'.told = g.told) : Res cs.T H X.T m' ans Q := by
  intro H' L' q W' F hq nq hq'
  have k := h.things W' F r s
  have eg : ({ g with world := g'.world } : Ge01.St) = g' := by
    cases g'
    cases g
    simp only at e1 e2 e3
    subst e1 e2 e3
    rfl
  rw [eg] at k
  refine R H' _ q ⟨m', k.1⟩ (k.2.wide hN) hq (fun f => ?_) hq'
  rcases f with f | f
  · exact nq f
  · obtain ⟨o, e⟩ := h.O.is (z := q) f
    rw [hq] at e
    cases e
end Pw

namespace Pw
open L2 PySem PySem.Spec PyProof.Rows
open Ge01 (Part Name Change Thing)
section
variable {K : PySem.W.Frag} {P : Program} {w : World} {mg : Str → Option Value} {base : Heap} {cs : Cs}
abbrev s_Kept___init__ : Stmt := inClass (top 35) 0
abbrev N_Kept___init__ : List Str := ["self", "question"]
theorem sc_Kept___init__ : FnScope N_Kept___init__ ["self", "question"] (defScope s_Kept___init__) := ⟨rfl, rfl, rfl, by decide +kernel, rfl, by decide +kernel, by decide +kernel⟩
def sp_Kept___init__ (C : Addr) : Sp := fun vs H Q _ => ∃ (p dx : Addr) (Y : QLay), vs = [.ref p, .ref Y.p] ∧ H p = some (.ins C dx []) ∧
  ∀ t H', H t = none → (∀ z o, H z = some o → z ≠ p → H' z = some o) → H' p = some (.ins C dx (kF ⟨p, dx, Y, t, []⟩)) → H' t = some (.lst []) → (∀ z, H' z = none → H z = none) → Q .non H'
theorem ok_Kept___init__ {C : Addr} {f : Addr} {fd : FuncData} (F : Fun K "__init__" "Kept.__init__" s_Kept___init__ f fd) (R : KTxt K C) : FnOk P w K mg base CX0 1 f fd ["self", "question"] (sp_Kept___init__ C) := by
  refine F.ok sc_Kept___init__ (fun vs H Q E h => ?_) (fun cdv A outer s H vs Q E hr h => ?_)
  · obtain ⟨p, dx, Y, rfl, _⟩ := h
    rfl
  · obtain ⟨p, dx, Y, rfl, hp, q⟩ := h
    refine ⟨_, (pss_cons (ps_fld (pv 0) (pv 1) rfl)
      (pss_one (ps_fld (pv 0) (pe_lst pa_nil) rfl))), ?_⟩
    refine ⟨_, rfl, _, rfl, p, C, dx, [], rfl, hp, R.cl, R.nQ, (by show 0 < 1000; decide), ?_⟩
    refine ⟨by decide, fun t ht => ?_⟩
    have npt : p ≠ t := ne_of_none upd_same ht
    have ht0 : H t = none := upd_none ht
    refine ⟨_, rfl, p, C, dx, _, rfl, (by rw [upd_ne npt, upd_same]), R.cl, R.nT, (by show 1 < 1000; decide), ?_⟩
    have e : putF "told" (.ref t) (putF "question" (.ref Y.p) []) = kF ⟨p, dx, Y, t, []⟩ := (put_past (by decide +kernel)).trans rfl
    rw [e]
    refine q t _ ht0 (fun z o h n => ?_) upd_same ?_ fun z h => upd_none (upd_none (upd_none h))
    · rw [upd_ne n, upd_ne (ne_of_none h ht0), upd_ne n]
      exact h
    · rw [upd_ne npt.symm, upd_same]
abbrev s_World___init__ : Stmt := inClass (top 40) 0
abbrev N_World___init__ : List Str := ["self"]
theorem sc_World___init__ : FnScope N_World___init__ ["self"] (defScope s_World___init__) := ⟨rfl, rfl, rfl, by decide +kernel, rfl, by decide +kernel, by decide +kernel⟩
def sp_World___init__ (cs : Cs) : Sp := fun vs H Q _ => ∃ (p dx : Addr), vs = [.ref p] ∧ H p = some (.ins cs.W dx []) ∧ ∀ (H' : Hp) (X : HLay), HAt cs H' X Ge01.init → X.p = p → (∀ b o, H b = some o → b ≠ p → H' b = some o) → (∀ q, FpH X q → q = p ∨ H q = none) → (∀ q, H' q = none → H q = none) → Q .non H'
theorem ok_World___init__ {f : Addr} {fd : FuncData} (F : Fun K "__init__" "World.__init__" s_World___init__ f fd) (R : HTxt K cs.W) (D_Things : MakeOk P w K mg base 1 "Things" cs.T ["self"] (sp_Things___init__ cs.T)) : FnOk P w K mg base CX0 3 f fd ["self"] (sp_World___init__ cs) := by
  refine F.ok sc_World___init__ (fun vs H Q E h => ?_) (fun cdv A outer s H vs Q E hr h => ?_)
  · obtain ⟨p, dx, rfl, _⟩ := h
    rfl
  · obtain ⟨p, dx, rfl, hp, q⟩ := h
    refine ⟨_, (pss_cons (ps_fld (pv 0) (pe_mk0 D_Things (hr.mono (by decide))) rfl)
      (pss_cons (ps_fld (pv 0) (pe_lst pa_nil) rfl)
      (pss_one (ps_fld (pv 0) (pe_lst pa_nil) rfl)))), ?_⟩
    intro x dy nx ndy ney
    refine ⟨x, dy, rfl, upd_same, fun H1 L1 W1 ep1 edx k1 f1 t1 => ⟨rfl, ?_⟩⟩
    subst ep1
    have s1 : Same H H1 := Same.made nx ndy k1
    have fp1 : ∀ z, Fp L1 z → H z = none := fun z f => by
      rcases f1 z f with rfl | e
      · exact nx
      · exact upd_none (upd_none e)
    have hp1 := s1 _ _ hp
    refine ⟨_, rfl, p, cs.W, dx, [], rfl, hp1, R.cl, R.nT, (by show 0 < 1000; decide), ?_⟩
    refine ⟨by decide, fun oa ho => ?_⟩
    have no1 : p ≠ oa := ne_of_none upd_same ho
    have ho1 : H1 oa = none := upd_none ho
    refine ⟨_, rfl, p, cs.W, dx, _, rfl, (by rw [upd_ne no1, upd_same]), R.cl, R.nO, (by show 1 < 1000; decide), ?_⟩
    refine ⟨by decide, fun ka hk => ?_⟩
    have nk1 : p ≠ ka := ne_of_none upd_same hk
    have hk3 := upd_none hk
    have nok : oa ≠ ka := ne_of_none upd_same hk3
    have hk1 : H1 ka = none := upd_none (upd_none hk3)
    refine ⟨_, rfl, p, cs.W, dx, _, rfl, (by rw [upd_ne nk1, upd_same]), R.cl, R.nK, (by show 2 < 1000; decide), ?_⟩
    have e : putF "kept" (.ref ka) (putF "put_off" (.ref oa) (putF "things" (.ref L1.p) [])) = hF L1.p oa ka := (congrArg (putF _ _) ((put_past (by decide +kernel)).trans rfl)).trans ((put_past (by decide +kernel)).trans (congrArg _ ((put_past (by decide +kernel)).trans rfl)))
    rw [e]
    have keep : ∀ z u, H1 z = some u → z ≠ p → (upd (upd (upd (upd (upd H1 p (.ins cs.W dx (putF "things" (.ref L1.p) []))) oa (.lst [])) p (.ins cs.W dx (putF "put_off" (.ref oa) (putF "things" (.ref L1.p) [])))) ka (.lst [])) p (.ins cs.W dx (hF L1.p oa ka))) z = some u := fun z u h n => by
      rw [upd_ne n, upd_ne (ne_of_none h hk1), upd_ne n, upd_ne (ne_of_none h ho1), upd_ne n]
      exact h
    have nfp : ∀ z, Fp L1 z → z ≠ p := fun z f e => by
      rw [e] at f
      rw [fp1 _ f] at hp
      cases hp
    have W2 : WAt cs.T (upd (upd (upd (upd (upd H1 p (.ins cs.W dx (putF "things" (.ref L1.p) []))) oa (.lst [])) p (.ins cs.W dx (putF "put_off" (.ref oa) (putF "things" (.ref L1.p) [])))) ka (.lst [])) p (.ins cs.W dx (hF L1.p oa ka))) L1 M.new :=
      ⟨keep _ _ W1.ob (nfp _ (Fp.p L1)), keep _ _ W1.hd (nfp _ (Fp.ha L1)), keep _ _ W1.tu (nfp _ (Fp.ta L1)), W1.n1, fun i => (W1.dd i).mono fun a o ea h => keep a o h (nfp _ (.ds ea)), W1.nd, W1.ln, W1.gd⟩
    refine q _ ⟨p, dx, L1, oa, ka, [], []⟩ ⟨M.new, W2, ⟨upd_same, ?_, ?_, nok, rfl, fun i r c h => by simp at h, rfl, rfl, fun i k q ns h => by simp at h, fun i j k k' h => by simp at h, fun z h => ?_⟩, fun z h => ?_, rel_new, small_new, Nat.zero_le _, fun c h => (by cases h), fun c h => (by cases h), Nat.zero_le _, fun c h => (by cases h)⟩ rfl (fun b o h n => keep b o (s1 _ _ h) n) (fun z f => ?_) fun z h => s1.free (upd_none (upd_none (upd_none (upd_none (upd_none h)))))
    · show upd _ p _ oa = _
      rw [upd_ne no1.symm, upd_ne nok, upd_ne no1.symm, upd_same]
      rfl
    · show upd _ p _ ka = _
      rw [upd_ne nk1.symm, upd_same]
      rfl
    · rcases h with h | ⟨k, h, _⟩
      · cases h
      · cases h
    · rcases h with (h | ⟨k, h, _⟩) | (rfl | rfl | rfl | ⟨k, h, _⟩)
      · cases h
      · cases h
      · exact fun f => nfp _ f rfl
      · exact W1.no ho1
      · exact W1.no hk1
      · cases h
    · rcases f with f | (h | ⟨k, h, _⟩) | (rfl | rfl | rfl | ⟨k, h, _⟩)
      · exact .inr (fp1 z f)
      · cases h
      · cases h
      · exact .inl rfl
      · exact .inr (s1.free ho1)
      · exact .inr (s1.free hk1)
      · cases h
abbrev s_World_counts : Stmt := inClass (top 40) 5
abbrev N_World_counts : List Str := ["self"]
theorem sc_World_counts : FnScope N_World_counts ["self"] (defScope s_World_counts) := ⟨rfl, rfl, rfl, by decide +kernel, rfl, by decide +kernel, by decide +kernel⟩
def sp_World_counts (cs : Cs) : Sp := fun vs H Q _ => ∃ (X : HLay) (g : Ge01.St), vs = [.ref X.p] ∧ HAt cs H X g ∧ ResH cs (fun z => H z = none) H X (Ge01.step g .count).1 (Ge01.step g .count).2 Q
theorem ok_World_counts {f : Addr} {fd : FuncData} (F : Fun K "counts" "World.counts" s_World_counts f fd) (T : Con mg) (R : HTxt K cs.W) (D_Things_how_many : MethOk P w K mg base 1 cs.T "how_many" ["self"] (sp_Things_how_many cs.T)) (D_Things_how_many_gone : MethOk P w K mg base 1 cs.T "how_many_gone" ["self"] (sp_Things_how_many_gone cs.T)) : FnOk P w K mg base CX0 2 f fd ["self"] (sp_World_counts cs) := by
  refine F.ok sc_World_counts (fun vs H Q E h => ?_) (fun cdv A outer s H vs Q E hr h => ?_)
  · obtain ⟨X, g, rfl, _⟩ := h
    rfl
  · obtain ⟨X, g, rfl, ⟨m, h⟩, q⟩ := h
    rw [step_count h.R] at q
    have sl := h.S.len
    refine ⟨_, (pss_one (ps_ret (pe_lst (pa_cons (pe_me0 (pe_fld (pv 0) rfl) D_Things_how_many (hr.mono (by decide))) (pa_cons (pe_callB call_len_seq (by rfl) T.len PySem.boot_len (pa_cons (pe_fld (pv 0) rfl) pa_nil)) (pa_cons (pe_me0 (pe_fld (pv 0) rfl) D_Things_how_many_gone (hr.mono (by decide))) pa_nil)))))), ?_⟩
    refine ⟨_, rfl, X.p, cs.W, X.dx, _, _, rfl, h.O.ob, R.cl, R.nT, hF_t _ _ _, X.T.p, X.T.dx, _, rfl, h.T.ob, wF_no X.T (by decide +kernel) (by decide +kernel), X.T, m, rfl, h.T, by omega, fun H1 s1 => ?_⟩
    have h1 := h.same s1
    refine ⟨_, rfl, X.p, cs.W, X.dx, _, _, rfl, h1.O.ob, R.cl, R.nO, hF_o _ _ _, X.oa, _, rfl, .inl (SqL.of h1.O.of), ?_⟩
    refine ⟨_, rfl, X.p, cs.W, X.dx, _, _, rfl, h1.O.ob, R.cl, R.nT, hF_t _ _ _, X.T.p, X.T.dx, _, rfl, h1.T.ob, wF_no X.T (by decide +kernel) (by decide +kernel), X.T, m, rfl, h1.T, (by show 3 ≤ sizeLine; decide), fun z hz => ?_⟩
    rw [List.length_map, h.O.rl]
    exact q.new ⟨m, h1⟩ (FrH.same s1 X) hz
abbrev s_World_later : Stmt := inClass (top 40) 1
abbrev N_World_later : List Str := ["self", "change"]
theorem sc_World_later : FnScope N_World_later ["self", "change"] (defScope s_World_later) := ⟨rfl, rfl, rfl, by decide +kernel, rfl, by decide +kernel, by decide +kernel⟩
def sp_World_later (cs : Cs) : Sp := fun vs H Q _ => ∃ (X : HLay) (g : Ge01.St) (r : Addr) (c : Change), vs = [.ref X.p, .ref r] ∧ HAt cs H X g ∧ H r = some (.lst (IL (crow c))) ∧ ¬ FpH X r ∧ (crow c).length ≤ 5000 ∧ ResH cs (fun z => z = r ∨ H z = none) H X (Ge01.step g (.later c)).1 (Ge01.step g (.later c)).2 Q
theorem ok_World_later {f : Addr} {fd : FuncData} (F : Fun K "later" "World.later" s_World_later f fd) (T : Con mg) (R : HTxt K cs.W) (D_wrong_change : DefOk P w K mg base 3 "wrong_change" ["change"] (sp_wrong_change K)) : FnOk P w K mg base CX0 4 f fd ["self", "change"] (sp_World_later cs) := by
  refine F.ok sc_World_later (fun vs H Q E h => ?_) (fun cdv A outer s H vs Q E hr h => ?_)
  · obtain ⟨X, g, r, c, rfl, _⟩ := h
    rfl
  · obtain ⟨X, g, r, c, rfl, ⟨m, h⟩, hr1, nf, hl, q⟩ := h
    refine ⟨_, (pss_cons (ps_if (pt_val (pe_fn D_wrong_change (hr.mono (by decide)) (pa_cons (pv 1) pa_nil))) (pss_one (ps_ret (pe_lst (pa_cons (pe_gc T.WRONG_KIND_OR_VALUE) pa_nil)))) pss_nil)
      (pss_cons (ps_if (pt_cmpR op_ge (pe_callB call_len_seq (by rfl) T.len PySem.boot_len (pa_cons (pe_fld (pv 0) rfl) pa_nil)) (pe_gc T.MOST_PUT_OFF) (nomark _)) (pss_one (ps_ret (pe_lst (pa_cons (pe_gc T.FULL) pa_nil)))) pss_nil)
      (pss_cons (ps_expr (pe_bm PySem.F.plainAttrs_list PySem.F.slot_list_append PySem.F.type_list_append mt_append (pe_fld (pv 0) rfl) (pa_cons (pv 1) pa_nil)))
      (pss_one (ps_ret (pe_lst (pa_cons (pe_callB call_len_seq (by rfl) T.len PySem.boot_len (pa_cons (pe_fld (pv 0) rfl) pa_nil)) pa_nil))))))), ?_⟩
    refine ⟨_, rfl, r, c, rfl, SqL.of hr1, hl, fun H1 s1 => ⟨_, rfl, ?_⟩⟩
    have h1 := h.same s1
    have es : Ge01.step g (.later c) = if Ge01.changeOk c = false then (g, [-1]) else if 30 ≤ g.later.length then (g, [-5]) else ({ g with later := g.later ++ [c] }, [((g.later.length + 1 : Nat) : Int)]) := rfl
    rw [es] at q
    cases ck : Ge01.changeOk c with
    | false =>
      rw [if_pos ck] at q
      exact iteT ⟨sz1, fun z hz => q.new ⟨m, h1⟩ ((FrH.same s1 X).wide fun _ e => .inr e) hz⟩
    | true =>
      rw [if_neg (by rw [ck]; decide)] at q
      refine iteF ?_
      have ll : (X.rs.map V.ref).length = g.later.length := by rw [List.length_map]; exact h.O.rl
      refine ⟨_, rfl, X.p, cs.W, X.dx, _, _, rfl, h1.O.ob, R.cl, R.nO, hF_o _ _ _, X.oa, _, rfl, .inl (SqL.of h1.O.of), _, _, rfl, rfl, _, rfl, ?_⟩
      rw [ll]
      by_cases c30 : 30 ≤ g.later.length
      · rw [if_pos c30] at q
        rw [decide_eq_true (by omega)]
        exact iteT ⟨sz1, fun z hz => q.new ⟨m, h1⟩ ((FrH.same s1 X).wide fun _ e => .inr e) hz⟩
      · rw [if_neg c30] at q
        rw [decide_eq_false (by omega)]
        refine iteF ?_
        refine ⟨_, rfl, X.p, cs.W, X.dx, _, _, rfl, h1.O.ob, R.cl, R.nO, hF_o _ _ _, .inl ⟨rfl, _, SqL.of h1.O.of⟩, _, rfl, X.oa, _, _, rfl, rfl, h1.O.of, small1000 (by omega), ?_⟩
        have hr2 := s1 _ _ hr1
        have keep : ∀ z u, H1 z = some u → z ≠ X.oa → (upd H1 X.oa (.lst (X.rs.map V.ref ++ [.ref r]))) z = some u := fun z u e n => by
          rw [upd_ne n]
          exact e
        have nro : r ≠ X.oa := fun e => nf (.inr (.inr (.inr (.inl e))))
        have imm : ∀ z, Imm X z → z ≠ X.oa := fun z i e => h.O.sM z i (.inr (.inl e))
        have A2 : HAtM cs (upd H1 X.oa (.lst (X.rs.map V.ref ++ [.ref r]))) { X with rs := X.rs ++ [r] } { g with later := g.later ++ [c] } m := by
          have npo : X.p ≠ X.oa := ne_of h1.O.ob h1.O.of (by intro z; cases z)
          refine ⟨h1.T.touch (h.sT _ (.inr (.inr (.inl rfl)))), ⟨keep _ _ h1.O.ob npo, ?_, keep _ _ h1.O.kp h.O.nok.symm, h.O.nok, ?_, fun i z d e1 e2 => ?_, h.O.kl, h.O.tl, fun i k q' ns e1 e2 e3 => ?_, h.O.kd, fun z f => ?_⟩, fun z f => ?_, h.R, h.S, ?_, fun d hd => ?_, h.fq, h.ql, h.tn⟩
          · show upd _ X.oa _ X.oa = _
            rw [upd_same, List.map_append]
            rfl
          · show (X.rs ++ [r]).length = (g.later ++ [c]).length
            rw [List.length_append, List.length_append, h.O.rl]
            rfl
          · rcases get_snoc e1 with ⟨c1, e1⟩ | ⟨c1, rfl⟩
            · rcases get_snoc e2 with ⟨_, e2⟩ | ⟨c2, _⟩
              · exact keep _ _ (h1.O.rr i z d e1 e2) (imm z (.inl (List.mem_of_getElem? e1)))
              · rw [h.O.rl] at c1
                omega
            · rcases get_snoc e2 with ⟨c2, _⟩ | ⟨_, rfl⟩
              · rw [h.O.rl] at c1
                omega
              · exact keep _ _ hr2 nro
          · refine (h1.O.kk i k q' ns e1 e2 e3).mono fun z o f e => keep z o e ?_
            rcases f with f | rfl
            · exact imm z (.inr ⟨k, List.mem_of_getElem? e1, f⟩)
            · exact ne_of (h1.O.kk i k q' ns e1 e2 e3).ob h1.O.of (by intro z; cases z)
          · have nch : Imm X z ∨ z = r := by
              rcases f with f | f
              · rcases List.mem_append.mp f with f | f
                · exact .inl (.inl f)
                · exact .inr (by simpa using f)
              · exact .inl (.inr f)
            rcases nch with f | rfl
            · exact h.O.sM z f
            · exact fun e => nf (.inr (.inr e))
          · rcases f with f | f
            · rcases f with f | f
              · rcases List.mem_append.mp f with f | f
                · exact h.sT z (.inl (.inl f))
                · have f : z = r := by simpa using f
                  subst f
                  exact fun e => nf (.inl e)
              · exact h.sT z (.inl (.inr f))
            · exact h.sT z (.inr f)
          · show (g.later ++ [c]).length ≤ 30
            rw [List.length_append]
            simp
            omega
          · rcases List.mem_append.mp hd with hd | hd
            · exact h.ok d hd
            · have hd : d = c := by simpa using hd
              subst hd
              exact ck
        refine ⟨_, rfl, X.p, cs.W, X.dx, _, _, rfl, A2.O.ob, R.cl, R.nO, hF_o _ _ _, X.oa, _, rfl, .inl (SqL.of upd_same), sz1, fun z hz => ?_⟩
        rw [List.length_append, ll]
        refine q.new ⟨m, A2⟩ ⟨fun z o e n => keep z o (s1 _ _ e) fun e2 => n (.inr (.inr (.inr (.inl e2)))), fun z f => ?_, rfl, fun z e => s1.free (upd_none e)⟩ hz
        rcases f with f | (f | f) | f
        · exact .inl (.inl f)
        · rcases List.mem_append.mp f with f | f
          · exact .inl (.inr (.inl (.inl f)))
          · exact .inr (.inl (by simpa using f))
        · exact .inl (.inr (.inl (.inr f)))
        · exact .inl (.inr (.inr f))
end
end Pw

namespace Pw
open L2 PySem PySem.Spec PyProof.Rows
open Ge01 (Part Name Change Thing)
section
variable {K : PySem.W.Frag} {P : Program} {w : World} {mg : Str → Option Value} {base : Heap} {cs : Cs}
abbrev s_World_keep : Stmt := inClass (top 40) 3
abbrev N_World_keep : List Str := ["self", "question"]
theorem sc_World_keep : FnScope N_World_keep ["self", "question"] (defScope s_World_keep) := ⟨rfl, rfl, rfl, by decide +kernel, rfl, by decide +kernel, by decide +kernel⟩
def sp_World_keep (cs : Cs) : Sp := fun vs H Q _ => ∃ (X : HLay) (g : Ge01.St) (Y : QLay) (q : Qn), vs = [.ref X.p, .ref Y.p] ∧ HAt cs H X g ∧ QAt cs.Q H Y q ∧ (∀ z, Y.has z → ¬ FpH X z) ∧ q.all.length ≤ 2400 ∧ q.no.length ≤ 2400 ∧ q.some_.length ≤ 2400 ∧ ResH cs (fun z => Y.has z ∨ H z = none) H X (Ge01.step g (.keep q)).1 (Ge01.step g (.keep q)).2 Q
theorem ok_World_keep {f : Addr} {fd : FuncData} (F : Fun K "keep" "World.keep" s_World_keep f fd) (T : Con mg) (R : HTxt K cs.W) (D_Question_wrong : MethOk P w K mg base 1 cs.Q "wrong" ["self"] (sp_Question_wrong cs.Q)) (D_Kept : MakeOk P w K mg base 1 "Kept" cs.K ["self", "question"] (sp_Kept___init__ cs.K)) : FnOk P w K mg base CX0 3 f fd ["self", "question"] (sp_World_keep cs) := by
  refine F.ok sc_World_keep (fun vs H Q E h => ?_) (fun cdv A outer s H vs Q E hr h => ?_)
  · obtain ⟨X, g, Y, q, rfl, _⟩ := h
    rfl
  · obtain ⟨X, g, Y, q, rfl, ⟨m, h⟩, A1, nY, l1, l2, l3, k⟩ := h
    refine ⟨_, (pss_cons (ps_if (pt_val (pe_me0 (pv 1) D_Question_wrong (hr.mono (by decide)))) (pss_one (ps_ret (pe_lst (pa_cons (pe_gc T.WRONG_KIND_OR_VALUE) pa_nil)))) pss_nil)
      (pss_cons (ps_if (pt_cmpR op_ge (pe_callB call_len_seq (by rfl) T.len PySem.boot_len (pa_cons (pe_fld (pv 0) rfl) pa_nil)) (pe_gc T.MOST_KEPT) (nomark _)) (pss_one (ps_ret (pe_lst (pa_cons (pe_gc T.FULL) pa_nil)))) pss_nil)
      (pss_cons (ps_expr (pe_bm PySem.F.plainAttrs_list PySem.F.slot_list_append PySem.F.type_list_append mt_append (pe_fld (pv 0) rfl) (pa_cons (pe_mk D_Kept (hr.mono (by decide)) (pa_cons (pv 1) pa_nil)) pa_nil)))
      (pss_one (ps_ret (pe_lst (pa_cons (pe_op op_sub (pe_callB call_len_seq (by rfl) T.len PySem.boot_len (pa_cons (pe_fld (pv 0) rfl) pa_nil)) pe_int) pa_nil))))))), ?_⟩
    refine ⟨_, rfl, Y.p, Y.dx, _, rfl, A1.ob, qF_no Y (by decide +kernel) (by decide +kernel) (by decide +kernel), Y, q, rfl, A1, l1, l2, l3, fun H1 s1 => ⟨_, rfl, ?_⟩⟩
    have h1 := h.same s1
    have es : Ge01.step g (.keep q) = if Ge01.questionOk q = false then (g, [-1]) else if 6 ≤ g.questions.length then (g, [-5]) else ({ g with questions := g.questions ++ [q], told := g.told ++ [[]] }, [(g.questions.length : Int)]) := by
      dsimp only [Ge01.step]
      rfl
    rw [es] at k
    cases ck : Ge01.questionOk q with
    | false =>
      rw [if_pos ck] at k
      exact iteT ⟨sz1, fun z hz => k.new ⟨m, h1⟩ ((FrH.same s1 X).wide fun _ e => .inr e) hz⟩
    | true =>
      rw [if_neg (by rw [ck]; decide)] at k
      refine iteF ?_
      have ll : (X.ks.map fun k => V.ref k.p).length = g.questions.length := by rw [List.length_map]; exact h.O.kl
      refine ⟨_, rfl, X.p, cs.W, X.dx, _, _, rfl, h1.O.ob, R.cl, R.nK, hF_k _ _ _, X.ka, _, rfl, .inl (SqL.of h1.O.kp), _, _, rfl, rfl, _, rfl, ?_⟩
      rw [ll]
      by_cases c6 : 6 ≤ g.questions.length
      · rw [if_pos c6] at k
        rw [decide_eq_true (by omega)]
        exact iteT ⟨sz1, fun z hz => k.new ⟨m, h1⟩ ((FrH.same s1 X).wide fun _ e => .inr e) hz⟩
      · rw [if_neg c6] at k
        rw [decide_eq_false (by omega)]
        refine iteF ?_
        refine ⟨_, rfl, X.p, cs.W, X.dx, _, _, rfl, h1.O.ob, R.cl, R.nK, hF_k _ _ _, .inl ⟨rfl, _, SqL.of h1.O.kp⟩, _, rfl, ?_⟩
        intro x dx nx ndx nex
        refine ⟨x, dx, Y, rfl, upd_same, fun t H2 ht k2 hx2 ht2 t2 => ⟨rfl, ?_⟩⟩
        have s2 : Same H1 H2 := Same.made nx ndx k2
        have s12 := s1.trans s2
        have h2 := h.same s12
        have ht1 : H1 t = none := upd_none (upd_none ht)
        have ntx : t ≠ x := fun e => by
          rw [e, upd_same] at ht
          cases ht
        refine ⟨X.ka, _, _, rfl, rfl, h2.O.kp, small1000 (by omega), ?_⟩
        have keep : ∀ z u, H2 z = some u → z ≠ X.ka → (upd H2 X.ka (.lst ((X.ks.map fun k => V.ref k.p) ++ [.ref x]))) z = some u := fun z u e n => by
          rw [upd_ne n]
          exact e
        have trk : ∀ z, Imm X z ∨ Chg X z → z ≠ x ∧ z ≠ t := fun z f => by
          obtain ⟨o, e⟩ := h1.O.is f
          exact ⟨ne_of_none e nx, ne_of_none e ht1⟩
        have trY : ∀ z, Y.has z → z ≠ x ∧ z ≠ t := fun z f => by
          obtain ⟨o, e⟩ := (A1.same s1).is f
          exact ⟨ne_of_none e nx, ne_of_none e ht1⟩
        have imm : ∀ z, Imm X z → z ≠ X.ka := fun z i e => h.O.sM z i (.inr (.inr (.inl e)))
        have nYk : ∀ z, Y.has z → z ≠ X.ka := fun z f e => nY z f (.inr (.inr (.inr (.inr (.inl e)))))
        have ntk : t ≠ X.ka := (trk _ (.inr (.inr (.inr (.inl rfl))))).2.symm
        have nxk : x ≠ X.ka := (trk _ (.inr (.inr (.inr (.inl rfl))))).1.symm
        have immX : ∀ z, Imm { X with ks := X.ks ++ [⟨x, dx, Y, t, []⟩] } z → Imm X z ∨ Y.has z ∨ z = t := fun z f => by
          rcases f with f | ⟨l, hl, f⟩
          · exact .inl (.inl f)
          · rcases List.mem_append.mp hl with hl | hl
            · exact .inl (.inr ⟨l, hl, f⟩)
            · have hl : l = ⟨x, dx, Y, t, []⟩ := by simpa using hl
              subst hl
              rcases f with f | f | f
              · exact .inr (.inl f)
              · exact .inr (.inr f)
              · cases f
        have chgX : ∀ z, Chg { X with ks := X.ks ++ [⟨x, dx, Y, t, []⟩] } z → Chg X z ∨ z = x := fun z f => by
          rcases f with f | f | f | ⟨l, hl, f⟩
          · exact .inl (.inl f)
          · exact .inl (.inr (.inl f))
          · exact .inl (.inr (.inr (.inl f)))
          · rcases List.mem_append.mp hl with hl | hl
            · exact .inl (.inr (.inr (.inr ⟨l, hl, f⟩)))
            · have hl : l = ⟨x, dx, Y, t, []⟩ := by simpa using hl
              subst hl
              exact .inr f
        have A2 : HAtM cs (upd H2 X.ka (.lst ((X.ks.map fun k => V.ref k.p) ++ [.ref x]))) { X with ks := X.ks ++ [⟨x, dx, Y, t, []⟩] } { g with questions := g.questions ++ [q], told := g.told ++ [[]] } m := by
          have npk : X.p ≠ X.ka := ne_of h2.O.ob h2.O.kp (by intro z; cases z)
          refine ⟨h2.T.touch (h.sT _ (.inr (.inr (.inr (.inl rfl))))), ⟨keep _ _ h2.O.ob npk, keep _ _ h2.O.of h.O.nok, ?_, h.O.nok, h.O.rl, fun i z d e1 e2 => keep _ _ (h2.O.rr i z d e1 e2) (imm z (.inl (List.mem_of_getElem? e1))), ?_, ?_, fun i l q' ns e1 e2 e3 => ?_, fun i j l l' e1 e2 e3 => ?_, fun z f f2 => ?_⟩, fun z f => ?_, h.R, h.S, h.ll, h.ok, fun q' hq => ?_, ?_, fun ns hn => ?_⟩
          · show upd _ X.ka _ X.ka = _
            rw [upd_same, List.map_append]
            rfl
          · show (X.ks ++ [_]).length = (g.questions ++ [q]).length
            rw [List.length_append, List.length_append, h.O.kl]
            rfl
          · show (g.questions ++ [q]).length = (g.told ++ [[]]).length
            rw [List.length_append, List.length_append, h.O.tl]
            rfl
          · have kl := h.O.kl
            have tl := h.O.tl
            rcases get_snoc e1 with ⟨c1, e1⟩ | ⟨c1, rfl⟩
            · rcases get_snoc e2 with ⟨_, e2⟩ | ⟨c2, _⟩
              · rcases get_snoc e3 with ⟨_, e3⟩ | ⟨c3, _⟩
                · refine (h2.O.kk i l q' ns e1 e2 e3).mono fun z o f e => keep z o e ?_
                  rcases f with f | rfl
                  · exact imm z (.inr ⟨l, List.mem_of_getElem? e1, f⟩)
                  · exact ne_of (h2.O.kk i l q' ns e1 e2 e3).ob h2.O.kp (by intro z; cases z)
                · omega
              · omega
            · rcases get_snoc e2 with ⟨c2, _⟩ | ⟨_, rfl⟩
              · omega
              · rcases get_snoc e3 with ⟨c3, _⟩ | ⟨_, rfl⟩
                · omega
                · exact ⟨keep _ _ hx2 nxk, (A1.same s12).mono fun z o f e => keep z o e (nYk z f), keep _ _ ht2 ntk, NamesAt.nil _⟩
          · have old : ∀ {a : Nat} {b : KLay}, X.ks[a]? = some b → b.p ≠ x := fun {a b} e => (trk _ (.inr (.inr (.inr (.inr ⟨b, List.mem_of_getElem? e, rfl⟩))))).1
            rcases get_snoc e1 with ⟨c1, g1⟩ | ⟨c1, rfl⟩
            · rcases get_snoc e2 with ⟨_, g2⟩ | ⟨c2, rfl⟩
              · exact h.O.kd i j l l' g1 g2 e3
              · exact absurd e3 (old g1)
            · rcases get_snoc e2 with ⟨_, g2⟩ | ⟨c2, rfl⟩
              · exact absurd e3.symm (old g2)
              · omega
          · rcases immX z f with f | f | rfl
            · rcases chgX z f2 with f2 | f2
              · exact h.O.sM z f f2
              · exact (trk z (.inl f)).1 f2
            · rcases chgX z f2 with f2 | f2
              · exact nY z f (.inr (.inr f2))
              · exact (trY z f).1 f2
            · rcases chgX z f2 with f2 | f2
              · exact (trk z (.inr f2)).2 rfl
              · exact ntx f2
          · rcases f with f | f
            · rcases immX z f with f | f | rfl
              · exact h.sT z (.inl f)
              · exact fun e => nY z f (.inl e)
              · exact h1.T.no ht1
            · rcases chgX z f with f | rfl
              · exact h.sT z (.inr f)
              · exact h1.T.no nx
          · rcases List.mem_append.mp hq with hq | hq
            · exact h.fq q' hq
            · have hq : q' = q := by simpa using hq
              subst hq
              exact few_of_ok ck
          · show (g.questions ++ [q]).length ≤ 6
            rw [List.length_append]
            simp
            omega
          · rcases List.mem_append.mp hn with hn | hn
            · exact h.tn ns hn
            · have hn : ns = [] := by simpa using hn
              subst hn
              exact Nat.zero_le _
        refine ⟨_, rfl, X.p, cs.W, X.dx, _, _, rfl, A2.O.ob, R.cl, R.nK, hF_k _ _ _, X.ka, _, rfl, .inl (SqL.of upd_same), _, _, rfl, rfl, sz1, fun z hz => ?_⟩
        rw [List.length_append, ll]
        have ei : (((g.questions.length + [V.ref x].length : Nat) : Int) - 1) = (g.questions.length : Int) := by
          show (((g.questions.length + 1 : Nat) : Int) - 1) = _
          omega
        dsimp only
        rw [ei]
        refine k.new ⟨m, A2⟩ ⟨fun z o e n => keep z o (s12 _ _ e) fun e2 => n (.inr (.inr (.inr (.inr (.inl e2))))), fun z f => ?_, rfl, fun z e => s12.free (upd_none e)⟩ hz
        rcases f with f | f | f
        · exact .inl (.inl f)
        · rcases immX z f with f | f | rfl
          · exact .inl (.inr (.inl f))
          · exact .inr (.inl f)
          · exact .inr (.inr (s1.free ht1))
        · rcases chgX z f with f | rfl
          · exact .inl (.inr (.inr f))
          · exact .inr (.inr (s1.free nx))
end
end Pw

namespace Pw
open L2 PySem PySem.Spec PyProof.Rows
open Ge01 (Part Name Change Thing)
/-! ### names as data -/
def dataN (n : Name) : PyData := .tuple [.int (n.place : Int), .int (n.turn : Int)]
theorem eqv_data (a b : Name) : PyData.eqv (dataN a) (dataN b) = decide (a = b) := by
  show ((a.place : Int) == (b.place : Int) && ((a.turn : Int) == (b.turn : Int) && true)) = _
  cases a with
  | mk p t =>
    cases b with
    | mk p' t' =>
      by_cases c : p = p' ∧ t = t'
      · obtain ⟨rfl, rfl⟩ := c
        simp
      · have : ¬ ((⟨p, t⟩ : Name) = ⟨p', t'⟩) := fun z => c (by cases z; exact ⟨rfl, rfl⟩)
        rw [decide_eq_false this]
        by_cases c1 : p = p'
        · have c2 : ¬ t = t' := fun z => c ⟨c1, z⟩
          simp [c1]
          omega
        · simp
          omega
theorem any_data (ns : List Name) (n : Name) : ((ns.map dataN).any fun z => PyData.eqv z (dataN n)) = ns.contains n := by
  rw [List.any_map]
  induction ns with
  | nil => rfl
  | cons a l ih =>
    rw [List.any_cons, List.contains_cons, ih]
    congr 1
    show PyData.eqv (dataN a) (dataN n) = _
    rw [eqv_data]
    by_cases c : a = n
    · subst c
      simp
    · rw [decide_eq_false c]
      have : (n == a) = false := by simpa using fun z => c z.symm
      rw [this]
theorem shaped_N (n : Name) : SeqAt.shaped (dataN n) = true := rfl
theorem lay_all : ∀ ns : List Name, PyData.canLayAll0 (ns.map dataN) = true
  | [] => rfl
  | n :: l => by
    show (PyData.canLay0 (dataN n) && PyData.canLayAll0 (l.map dataN)) = true
    rw [lay_all l]
    rfl
theorem depth_all : ∀ ns : List Name, PyData.depthAll (ns.map dataN) ≤ 2
  | [] => Nat.zero_le _
  | n :: l => by
    show max (PyData.depth (dataN n)) (PyData.depthAll (l.map dataN)) ≤ 2
    have := depth_all l
    have e : PyData.depth (dataN n) = 1 := rfl
    omega
theorem shaped_L (ns : List Name) : SeqAt.shaped (.list (ns.map dataN)) = true := by
  unfold SeqAt.shaped
  rw [Bool.and_eq_true]
  refine ⟨lay_all ns, decide_eq_true ?_⟩
  have := depth_all ns
  show PyData.depthAll (ns.map dataN) + 1 ≤ 64
  omega
theorem dp_name {K : PySem.W.Frag} {H : Hp} {t : Addr} {n : Name} (h : H t = some (tupN n)) : Dp K H (.ref t) (dataN n) := .tup (SqT.of h) (.cons (.int _) (.cons (.int _) .nil))
theorem dp_names {K : PySem.W.Frag} {H : Hp} : ∀ {ts : List Addr} {ns : List Name}, NamesAt H ts ns → DpAll K H (ts.map V.ref) (ns.map dataN)
  | [], [], _ => .nil
  | [], n :: ns, h => by
    have := h.1
    simp at this
  | t :: ts, [], h => by
    have := h.1
    simp at this
  | t :: ts, n :: ns, h => .cons (dp_name (h.2 0 t n rfl rfl)) (dp_names ⟨by have := h.1; simpa using this, fun i a b e1 e2 => h.2 (i + 1) a b (by simpa using e1) (by simpa using e2)⟩)
theorem filter_take {ns : List Name} {i : Nat} {n : Name} (h : ns[i]? = some n) (f : Name → Bool) : (ns.take (i + 1)).filter f = (ns.take i).filter f ++ (if f n = true then [n] else []) := by
  rw [take_snoc h, List.filter_append]
  congr 1
  simp only [List.filter_cons, List.filter_nil]
end Pw

namespace Pw
open L2 PySem PySem.Spec PyProof.Rows
open Ge01 (Part Name Change Thing)
section
variable {K : PySem.W.Frag} {P : Program} {w : World} {mg : Str → Option Value} {base : Heap} {cs : Cs}
theorem u65 {A : Around} {k : Nat} (hr : Room k A) : A.units + 65 < cLine := by
  have := hr.un
  omega
theorem set_get {α : Type} {l : List α} {i j : Nat} {a x : α} (h : (l.set i a)[j]? = some x) : (i = j ∧ x = a ∧ i < l.length) ∨ (i ≠ j ∧ l[j]? = some x) := by
  rw [List.getElem?_set] at h
  split at h
  · rename_i c
    split at h
    · rename_i c2
      exact .inl ⟨c, (Option.some.inj h).symm, c2⟩
    · cases h
  · rename_i c
    exact .inr ⟨c, h⟩
theorem set_mem {α : Type} {l : List α} {i : Nat} {a x : α} (h : x ∈ l.set i a) : x ∈ l ∨ x = a := List.mem_or_eq_of_mem_set h
theorem map_set_same {α β : Type} {l : List α} {i : Nat} {a b : α} (f : α → β) (h : l[i]? = some a) (e : f b = f a) : (l.set i b).map f = l.map f := by
  apply List.ext_getElem?
  intro j
  rw [List.getElem?_map, List.getElem?_map, List.getElem?_set]
  split
  · rename_i c
    subst c
    rw [if_pos (List.getElem?_eq_some_iff.mp h).1, h]
    exact congrArg some e
  · rfl
/-- a kept question has told anew -/
theorem HAtM.told {H1 : Hp} {X : HLay} {g : Ge01.St} {m : M} (h : HAtM cs H1 X g m) {i : Nat} {k : KLay} {q : Qn} {l : Addr} {ts : List Addr} {ns : List Name} (ek : X.ks[i]? = some k) (eq : g.questions[i]? = some q)
    (nl : ¬ FpH X l) (nts : ∀ z ∈ ts, ¬ FpH X z) (hl : H1 l = some (.lst (ts.map V.ref))) (hn : NamesAt H1 ts ns) (h50 : ns.length ≤ 50) :
    HAtM cs (upd H1 k.p (.ins cs.K k.dx (kF { k with t := l, ts := ts }))) { X with ks := X.ks.set i { k with t := l, ts := ts } } { g with told := g.told.set i ns } m := by
  have mk : k ∈ X.ks := List.mem_of_getElem? ek
  have ck : Chg X k.p := .inr (.inr (.inr ⟨k, mk, rfl⟩))
  obtain ⟨q0, ns0, eq0, en0, ka⟩ := h.O.kept ek
  have keep : ∀ z u, H1 z = some u → z ≠ k.p → (upd H1 k.p (.ins cs.K k.dx (kF { k with t := l, ts := ts }))) z = some u := fun z u e n => by
    rw [upd_ne n]
    exact e
  have imm : ∀ z, Imm X z → z ≠ k.p := fun z f e => h.O.sM z f (e ▸ ck)
  have nlk : l ≠ k.p := fun e => nl (.inr (.inr (e ▸ ck)))
  have ntk : ∀ z ∈ ts, z ≠ k.p := fun z hz e => nts z hz (.inr (.inr (e ▸ ck)))
  have npk : X.p ≠ k.p := ne_of h.O.ob ka.ob (by
    intro z
    have := congrArg List.length (HO.ins.inj z).2.2
    simp [hF, kF] at this)
  have immX : ∀ z, Imm { X with ks := X.ks.set i { k with t := l, ts := ts } } z → Imm X z ∨ z = l ∨ z ∈ ts := fun z f => by
    rcases f with f | ⟨a, ha, f⟩
    · exact .inl (.inl f)
    · rcases set_mem ha with ha | rfl
      · exact .inl (.inr ⟨a, ha, f⟩)
      · rcases f with f | f | f
        · exact .inl (.inr ⟨k, mk, .inl f⟩)
        · exact .inr (.inl f)
        · exact .inr (.inr f)
  have chgX : ∀ z, Chg { X with ks := X.ks.set i { k with t := l, ts := ts } } z → Chg X z := fun z f => by
    rcases f with f | f | f | ⟨a, ha, f⟩
    · exact .inl f
    · exact .inr (.inl f)
    · exact .inr (.inr (.inl f))
    · rcases set_mem ha with ha | rfl
      · exact .inr (.inr (.inr ⟨a, ha, f⟩))
      · exact .inr (.inr (.inr ⟨k, mk, f⟩))
  refine ⟨h.T.touch (h.sT _ (.inr ck)), ⟨keep _ _ h.O.ob npk, keep _ _ h.O.of (ne_of h.O.of ka.ob (by intro z; cases z)), ?_, h.O.nok, h.O.rl, fun j z d e1 e2 => keep _ _ (h.O.rr j z d e1 e2) (imm z (.inl (List.mem_of_getElem? e1))), ?_, ?_, fun j a q' ns' e1 e2 e3 => ?_, fun a b u v e1 e2 e3 => ?_, fun z f f2 => ?_⟩, fun z f => ?_, h.R, h.S, h.ll, h.ok, h.fq, h.ql, fun u hu => ?_⟩
  · show upd _ k.p _ X.ka = some (.lst ((X.ks.set i _).map fun k => V.ref k.p))
    rw [map_set_same (fun k : KLay => V.ref k.p) ek (b := { k with t := l, ts := ts }) rfl]
    exact keep _ _ h.O.kp (ne_of h.O.kp ka.ob (by intro z; cases z))
  · show (X.ks.set i _).length = _
    rw [List.length_set]
    exact h.O.kl
  · show _ = (g.told.set i ns).length
    rw [List.length_set]
    exact h.O.tl
  · rcases set_get e1 with ⟨rfl, rfl, _⟩ | ⟨ne, e1⟩
    · rcases set_get e3 with ⟨_, rfl, _⟩ | ⟨n0, _⟩
      · have e2 : g.questions[i]? = some q' := e2
        rw [e2] at eq0
        cases eq0
        refine ⟨upd_same, ka.qa.mono fun z o f e => keep z o e (imm z (.inr ⟨k, mk, .inl f⟩)), keep _ _ hl nlk, hn.mono fun z hz o e => keep z o e (ntk z hz)⟩
      · exact absurd rfl n0
    · rcases set_get e3 with ⟨c, _, _⟩ | ⟨_, e3⟩
      · exact absurd c ne
      · refine (h.O.kk j a q' ns' e1 e2 e3).mono fun z o f e => keep z o e ?_
        rcases f with f | rfl
        · exact imm z (.inr ⟨a, List.mem_of_getElem? e1, f⟩)
        · exact fun z => ne (h.O.kd i j k a ek e1 z.symm)
  · have back : ∀ {c : Nat} {y : KLay}, (X.ks.set i { k with t := l, ts := ts })[c]? = some y → ∃ y', X.ks[c]? = some y' ∧ y.p = y'.p := fun {c y} e => by
      rcases set_get e with ⟨rfl, rfl, _⟩ | ⟨_, e⟩
      · exact ⟨k, ek, rfl⟩
      · exact ⟨y, e, rfl⟩
    obtain ⟨u', g1, g2⟩ := back e1
    obtain ⟨v', g3, g4⟩ := back e2
    exact h.O.kd a b u' v' g1 g3 (by rw [← g2, ← g4]; exact e3)
  · rcases immX z f with f | rfl | f
    · exact h.O.sM z f (chgX z f2)
    · exact nl (.inr (.inr (chgX _ f2)))
    · exact nts z f (.inr (.inr (chgX z f2)))
  · rcases f with f | f
    · rcases immX z f with f | rfl | f
      · exact h.sT z (.inl f)
      · exact fun e => nl (.inl e)
      · exact fun e => nts z f (.inl e)
    · exact h.sT z (.inr (chgX z f))
  · rcases set_mem hu with hu | rfl
    · exact h.tn u hu
    · exact h50
abbrev s_World_fresh : Stmt := inClass (top 40) 4
abbrev N_World_fresh : List Str := ["self", "which", "kept", "before", "came", "went", "name"]
theorem sc_World_fresh : FnScope N_World_fresh ["self", "which"] (defScope s_World_fresh) := ⟨rfl, rfl, rfl, by decide +kernel, rfl, by decide +kernel, by decide +kernel⟩
def sp_World_fresh (cs : Cs) : Sp := fun vs H Q _ => ∃ (X : HLay) (g : Ge01.St) (i : Nat), vs = [.ref X.p, .int (i : Int)] ∧ HAt cs H X g ∧ ResH cs (fun z => H z = none) H X (Ge01.step g (.fresh i)).1 (Ge01.step g (.fresh i)).2 Q
theorem ok_World_fresh {f : Addr} {fd : FuncData} (F : Fun K "fresh" "World.fresh" s_World_fresh f fd) (T : Con mg) (R : HTxt K cs.W) (RK : KTxt K cs.K) (D_Things_told_by : MethOk P w K mg base 2 cs.T "told_by" ["self", "question"] (sp_Things_told_by cs.T cs.Q)) (D_counted_names : DefOk P w K mg base 1 "counted_names" ["names"] sp_counted_names) : FnOk P w K mg base CX0 3 f fd ["self", "which"] (sp_World_fresh cs) := by
  refine F.ok sc_World_fresh (fun vs H Q E h => ?_) (fun cdv A outer s H vs Q E hr h => ?_)
  · obtain ⟨X, g, i, rfl, _⟩ := h
    rfl
  · obtain ⟨X, g, i, rfl, ⟨m, h⟩, q⟩ := h
    have hu65 := u65 hr
    have sl := h.S.len
    refine ⟨_, (pss_cons (ps_if (pt_cmpR op_ge (pv 1) (pe_callB call_len_seq (by rfl) T.len PySem.boot_len (pa_cons (pe_fld (pv 0) rfl) pa_nil)) (nomark _)) (pss_one (ps_ret (pe_lst (pa_cons (pe_gc T.NO_SUCH_ONE) pa_nil)))) pss_nil)
      (pss_cons (ps_set (i := 2) sc_World_fresh.nd rfl (Or.inr rfl) (pe_ix ix_list (pe_fld (pv 0) rfl) (pv 1) (fun _ _ => rfl)))
      (pss_cons (ps_set (i := 3) sc_World_fresh.nd rfl (Or.inr rfl) (pe_fld (pv 2) rfl))
      (pss_cons (ps_fld (pv 2) (pe_me (pe_fld (pv 0) rfl) D_Things_told_by (hr.mono (by decide)) (pa_cons (pe_fld (pv 2) rfl) pa_nil)) rfl)
      (pss_cons (ps_setLc (i := 4) (own := [("name", 6)]) (g := gName 6) rfl sc_World_fresh.nd rfl rfl (sw_true rfl rfl rfl (by decide +kernel)) (pi_list (pe_fld (pv 2) rfl)) (blkOk_by (N := N_World_fresh) (sc := defScope s_World_fresh) (by decide +kernel)) (fun _ _ _ _ _ => (pg_name (i := 6) sc_World_fresh.nd rfl (Or.inl rfl))) (fun _ _ _ _ _ => pts_one (pt_cmpR (op_notInK (K := K) rfl hu65) (pv 6) (pv 3) (by rfl))) (fun _ _ _ _ _ => (pv 6)))
      (pss_cons (ps_setLc (i := 5) (own := [("name", 6)]) (g := gName 6) rfl sc_World_fresh.nd rfl rfl (sw_true rfl rfl rfl (by decide +kernel)) (pi_list (pv 3)) (blkOk_by (N := N_World_fresh) (sc := defScope s_World_fresh) (by decide +kernel)) (fun _ _ _ _ _ => (pg_name (i := 6) sc_World_fresh.nd rfl (Or.inl rfl))) (fun _ _ _ _ _ => pts_one (pt_cmpR (op_notInK (K := K) rfl hu65) (pv 6) (pe_fldK (K := K) rfl (pv 2) rfl) (by rfl))) (fun _ _ _ _ _ => (pv 6)))
      (pss_one (ps_ret (pe_op op_cat (pe_fn D_counted_names (hr.mono (by decide)) (pa_cons (pv 4) pa_nil)) (pe_fn D_counted_names (hr.mono (by decide)) (pa_cons (pv 5) pa_nil))))))))))), ?_⟩
    have ll : (X.ks.map fun k => V.ref k.p).length = g.questions.length := by rw [List.length_map]; exact h.O.kl
    refine ⟨_, rfl, _, rfl, X.p, cs.W, X.dx, _, _, rfl, h.O.ob, R.cl, R.nK, hF_k _ _ _, X.ka, _, rfl, .inl (SqL.of h.O.kp), _, _, rfl, rfl, _, rfl, ?_⟩
    rw [ll]
    obtain ⟨a1, a2, a3, a4, a5⟩ := step_fresh h.R i
    have eg : Ge01.step g (.fresh i) = ({ g with told := (freshR m g.questions g.told i).1 }, (freshR m g.questions g.told i).2) := by
      refine Prod.ext ?_ a1
      have : ∀ x : Ge01.St, x.world = g.world → x.later = g.later → x.questions = g.questions → x.told = (freshR m g.questions g.told i).1 → x = { g with told := (freshR m g.questions g.told i).1 } := by
        intro x b1 b2 b3 b4
        cases x
        simp only at b1 b2 b3 b4
        subst b1 b2 b3 b4
        rfl
      exact this _ a2 a3 a4 a5
    rw [eg] at q
    unfold freshR at q
    by_cases c : g.questions.length ≤ i
    · rw [List.getElem?_eq_none c] at q
      rw [decide_eq_true (by omega)]
      exact iteT ⟨sz1, fun z hz => q.new ⟨m, h⟩ (FrH.refl H X) hz⟩
    · rw [decide_eq_false (by omega)]
      refine iteF ?_
      obtain ⟨k, ek⟩ : ∃ k, X.ks[i]? = some k := ⟨X.ks[i]'(by have := h.O.kl; omega), List.getElem?_eq_getElem _⟩
      obtain ⟨qn, ns, eq, en, ka⟩ := h.O.kept ek
      have en' : g.told.getD i [] = ns := by rw [List.getD_eq_getElem?_getD, en]; rfl
      rw [eq, en'] at q
      dsimp only at q
      have mk : k ∈ X.ks := List.mem_of_getElem? ek
      have h50 := h.tn ns (List.mem_of_getElem? en)
      refine ⟨_, rfl, X.p, cs.W, X.dx, _, _, rfl, h.O.ob, R.cl, R.nK, hF_k _ _ _, _, rfl, X.ka, _, _, _, rfl, rfl, SqL.of h.O.kp, atI_nat (v := V.ref k.p) (by rw [List.getElem?_map, ek]; rfl), ?_⟩
      refine ⟨_, rfl, k.p, cs.K, k.dx, _, _, rfl, ka.ob, RK.cl, RK.nT, kF_t k, ?_⟩
      refine ⟨_, rfl, X.p, cs.W, X.dx, _, _, rfl, h.O.ob, R.cl, R.nT, hF_t _ _ _, X.T.p, X.T.dx, _, rfl, h.T.ob, wF_no X.T (by decide +kernel) (by decide +kernel), _, rfl, k.p, cs.K, k.dx, _, _, rfl, ka.ob, RK.cl, RK.nQ, kF_q k, X.T, m, k.Y, qn, rfl, h.T, ka.qa, h.fq qn (List.mem_of_getElem? eq), by omega, fun H1 l ts s1 nl nts hl hn => ?_⟩
      have tn := tellT_len qn m h.T.ln
      have tn' : (nms (tellT qn m)).length ≤ 50 := by unfold nms; rw [List.length_map]; omega
      have h1 := h.same s1
      have ka1 : KAt cs.K cs.Q H1 k qn ns := ka.mono fun z o _ e => s1 z o e
      refine ⟨_, rfl, k.p, cs.K, k.dx, _, rfl, ka1.ob, RK.cl, RK.nT, (by show 2 < 1000; decide), ?_⟩
      have ep : putF "told" (.ref l) (kF k) = kF { k with t := l, ts := ts } := (put_past (by decide +kernel)).trans (congrArg _ put_here)
      rw [ep]
      have A2 := h1.told ek eq (h.no nl) (fun z hz => h.no (nts z hz)) hl hn tn'
      have nts' : ∀ z ∈ ts, z ≠ k.p := fun z hz e => by
        have := nts z hz
        rw [e, ka.ob] at this
        cases this
      have nlk : l ≠ k.p := fun e => by
        rw [e, ka.ob] at nl
        cases nl
      have ktn : k.t ≠ k.p := ne_of ka.tl ka.ob (by intro z; cases z)
      have imk : ∀ z ∈ k.ts, z ≠ k.p := fun z hz e => h.O.sM z (.inr ⟨k, mk, .inr (.inr hz)⟩) (.inr (.inr (.inr ⟨k, mk, e⟩)))
      have F2 : FrH (fun z => H z = none) H X (upd H1 k.p (.ins cs.K k.dx (kF { k with t := l, ts := ts }))) { X with ks := X.ks.set i { k with t := l, ts := ts } } := by
        refine ⟨fun z o e n => ?_, fun z f => ?_, rfl, fun z e => s1.free (upd_none e)⟩
        · rw [upd_ne (fun e2 => n (.inr (.inr (.inr (.inr (.inr ⟨k, mk, e2⟩))))))]
          exact s1 z o e
        · rcases f with f | f | f
          · exact .inl (.inl f)
          · rcases f with f | ⟨a, ha, f⟩
            · exact .inl (.inr (.inl (.inl f)))
            · rcases set_mem ha with ha | rfl
              · exact .inl (.inr (.inl (.inr ⟨a, ha, f⟩)))
              · rcases f with f | f | f
                · exact .inl (.inr (.inl (.inr ⟨k, mk, .inl f⟩)))
                · exact .inr (f ▸ nl)
                · exact .inr (nts z f)
          · rcases f with f | f | f | ⟨a, ha, f⟩
            · exact .inl (.inr (.inr (.inl f)))
            · exact .inl (.inr (.inr (.inr (.inl f))))
            · exact .inl (.inr (.inr (.inr (.inr (.inl f)))))
            · rcases set_mem ha with ha | rfl
              · exact .inl (.inr (.inr (.inr (.inr (.inr ⟨a, ha, f⟩)))))
              · exact .inl (.inr (.inr (.inr (.inr (.inr ⟨k, mk, f⟩)))))
      generalize hH2 : upd H1 k.p (.ins cs.K k.dx (kF { k with t := l, ts := ts })) = H2 at A2 F2 ⊢
      have ob2 : H2 k.p = some (.ins cs.K k.dx (kF { k with t := l, ts := ts })) := by
        rw [← hH2]
        exact upd_same
      have hl2 : H2 l = some (.lst (ts.map V.ref)) := by
        rw [← hH2, upd_ne nlk]
        exact hl
      have hn2 : NamesAt H2 ts (nms (tellT qn m)) := hn.mono fun z hz o e => by
        rw [← hH2, upd_ne (nts' z hz)]
        exact e
      have hb2 : H2 k.t = some (.lst (k.ts.map V.ref)) := by
        rw [← hH2, upd_ne ktn]
        exact ka1.tl
      have hbn : NamesAt H2 k.ts ns := ka1.nm.mono fun z hz o e => by
        rw [← hH2, upd_ne (imk z hz)]
        exact e
      clear hH2
      -- came
      refine ⟨_, rfl, k.p, cs.K, k.dx, _, _, rfl, ob2, RK.cl, RK.nT, kF_t _, l, rfl, ⟨_, SqL.of hl2⟩, fun D hD => ?_⟩
      have sD : ∀ o, Same H2 (upd H2 D o) := fun o => Same.new hD
      refine lc_list (K := K) (a := l) (xs := ts.map V.ref) (fun i H' => ∃ zs, H' = upd H2 D (.lst (zs.map V.ref)) ∧ NamesAt H2 zs (((nms (tellT qn m)).take i).filter fun n => !ns.contains n) ∧ zs.length ≤ i) ⟨[], rfl, NamesAt.nil _, Nat.le_refl 0⟩ ?_ ?_ ?_
      · rintro j H' _ ⟨zs, rfl, _⟩
        exact SqL.of (sD _ _ _ hl2)
      · rintro j x H' hx ⟨zs, rfl, hzs, hzl⟩
        obtain ⟨t, et, rfl⟩ := ref_get hx
        obtain ⟨n, en2, htn⟩ := hn2.get et
        have hjl := (List.getElem?_eq_some_iff.mp en2).1
        refine ⟨rfl, _, rfl, _, rfl, dataN n, ns.map dataN, dp_name (sD _ _ _ htn), .lst (SqL.of (sD _ _ _ hb2)) (dp_names (hbn.same (sD _))), shaped_N n, shaped_L ns, _, rfl, ?_⟩
        rw [any_data]
        have ft := filter_take en2 fun n => !ns.contains n
        cases cb : !ns.contains n with
        | false =>
          rw [cb] at ft
          have ft := ft.trans (List.append_nil _)
          refine iteF ⟨zs, rfl, ?_, by omega⟩
          rw [ft]
          exact hzs
        | true =>
          rw [cb, if_pos rfl] at ft
          refine iteT ⟨_, rfl, _, upd_same, small1000 (by rw [List.length_map]; omega), zs ++ [t], ?_, ?_, by rw [List.length_append]; simp; omega⟩
          · rw [upd_upd, List.map_append]
            rfl
          · rw [ft]
            exact hzs.snoc htn
      · rintro H' ⟨zs, rfl, hzs, _⟩
        rw [List.length_map, hn2.1, List.take_length] at hzs
        have fl1 : ((nms (tellT qn m)).filter fun n => !ns.contains n).length ≤ 400 := Nat.le_trans (List.length_filter_le _ _) (by omega)
        have s3 := sD (.lst (zs.map V.ref))
        -- went
        refine ⟨_, rfl, k.t, rfl, ⟨_, SqL.of (s3 _ _ hb2)⟩, fun D2 hD2 => ?_⟩
        have sD2 : ∀ o, Same (upd H2 D (.lst (zs.map V.ref))) (upd (upd H2 D (.lst (zs.map V.ref))) D2 o) := fun o => Same.new hD2
        refine lc_list (K := K) (a := k.t) (xs := k.ts.map V.ref) (fun i H' => ∃ ys, H' = upd (upd H2 D (.lst (zs.map V.ref))) D2 (.lst (ys.map V.ref)) ∧ NamesAt H2 ys ((ns.take i).filter fun n => !(nms (tellT qn m)).contains n) ∧ ys.length ≤ i) ⟨[], rfl, NamesAt.nil _, Nat.le_refl 0⟩ ?_ ?_ ?_
        · rintro j H' _ ⟨ys, rfl, _⟩
          exact SqL.of (sD2 _ _ _ (s3 _ _ hb2))
        · rintro j x H' hx ⟨ys, rfl, hys, hyl⟩
          obtain ⟨t, et, rfl⟩ := ref_get hx
          obtain ⟨n, en2, htn⟩ := hbn.get et
          have hjl := (List.getElem?_eq_some_iff.mp en2).1
          have s4 : ∀ o, Same H2 (upd (upd H2 D (.lst (zs.map V.ref))) D2 o) := fun o => s3.trans (sD2 o)
          refine ⟨rfl, _, rfl, _, rfl, k.p, cs.K, k.dx, _, _, rfl, s4 _ _ _ ob2, RK.cl, RK.nT, kF_t _, dataN n, (nms (tellT qn m)).map dataN, dp_name (s4 _ _ _ htn), .lst (SqL.of (s4 _ _ _ hl2)) (dp_names (hn2.same (s4 _))), shaped_N n, shaped_L _, _, rfl, ?_⟩
          rw [any_data]
          have ft := filter_take en2 fun n => !(nms (tellT qn m)).contains n
          cases cb : !(nms (tellT qn m)).contains n with
          | false =>
            rw [cb] at ft
            have ft := ft.trans (List.append_nil _)
            refine iteF ⟨ys, rfl, ?_, by omega⟩
            rw [ft]
            exact hys
          | true =>
            rw [cb, if_pos rfl] at ft
            refine iteT ⟨_, rfl, _, upd_same, small1000 (by rw [List.length_map]; omega), ys ++ [t], ?_, ?_, by rw [List.length_append]; simp; omega⟩
            · rw [upd_upd, List.map_append]
              rfl
            · rw [ft]
              exact hys.snoc htn
        · rintro H' ⟨ys, rfl, hys, _⟩
          rw [List.length_map, hbn.1, List.take_length] at hys
          have fl2 : (ns.filter fun n => !(nms (tellT qn m)).contains n).length ≤ 400 := Nat.le_trans (List.length_filter_le _ _) (by omega)
          have nD : D ≠ D2 := ne_of_none upd_same hD2
          have s4 := s3.trans (sD2 (.lst (ys.map V.ref)))
          refine ⟨_, rfl, D, zs, _, rfl, sD2 _ _ _ upd_same, hzs.same s4, fl1, fun H5 r1 s5 n5 h5 => ?_⟩
          refine ⟨_, rfl, D2, ys, _, rfl, s5 _ _ upd_same, (hys.same s4).same s5, fl2, fun H6 r2 s6 n6 h6 => ?_⟩
          have nl1 := nrow_len ((nms (tellT qn m)).filter fun n => !ns.contains n)
          have nl2 := nrow_len (ns.filter fun n => !(nms (tellT qn m)).contains n)
          refine ⟨r1, r2, _, _, rfl, rfl, s6 _ _ h5, h6, ?_, fun z hz => ?_⟩
          · have : (100000 : Nat) < sizeLine := by decide
            rw [List.length_map, List.length_map]
            unfold nAns
            rw [List.length_cons, List.length_cons]
            omega
          · rw [← List.map_append]
            have s7 := (s4.trans s5).trans s6
            exact q.new ⟨m, A2.same s7⟩ (F2.after s7) hz
end
end Pw

namespace Pw
open L2 PySem PySem.Spec PyProof.Rows
open Ge01 (Part Name Change Thing)
theorem once_mdo : ∀ (l : List Change) (m : M) (ws : Ws), Once ws → Once (mdo m ws l).2
  | [], _, _, h => h
  | c :: l, m, ws, h => once_mdo l _ _ (once_mdo1 m h c)
theorem keys_once {es : List We} (h : Once (wsOf es)) : ((kvOf es).map (·.1)).Nodup := by
  unfold Once wsOf at h
  unfold kvOf
  rw [List.map_map] at h ⊢
  have h := List.pairwise_map.mp h
  exact List.pairwise_map.mpr (h.imp fun h e => h (by have := Sum.inl.inj e; simp only [Function.comp] at *; omega))
theorem wsOf_len (es : List We) : (wsOf es).length = es.length := List.length_map _
theorem wsOf_take (es : List We) {i : Nat} {e : We} (h : es[i]? = some e) : (wsOf es).take (i + 1) = (wsOf es).take i ++ [(e.w, e.n)] := take_snoc (by unfold wsOf; rw [List.getElem?_map, h]; rfl)
section
variable {K : PySem.W.Frag} {P : Program} {w : World} {mg : Str → Option Value} {base : Heap} {cs : Cs}
abbrev s_World_apply : Stmt := inClass (top 40) 2
abbrev N_World_apply : List Str := ["self", "things", "name_by_word", "change", "answer", "word"]
theorem sc_World_apply : FnScope N_World_apply ["self"] (defScope s_World_apply) := ⟨rfl, rfl, rfl, by decide +kernel, rfl, by decide +kernel, by decide +kernel⟩
def sp_World_apply (cs : Cs) : Sp := fun vs H Q _ => ∃ (X : HLay) (g : Ge01.St), vs = [.ref X.p] ∧ HAt cs H X g ∧ ResH cs (fun z => H z = none) H X (Ge01.step g .apply).1 (Ge01.step g .apply).2 Q
theorem ok_World_apply {f : Addr} {fd : FuncData} (F : Fun K "apply" "World.apply" s_World_apply f fd) (T : Con mg) (R : HTxt K cs.W) (D_Things_twin : MethOk P w K mg base 3 cs.T "twin" ["self"] (sp_Things_twin cs.T)) (D_do_change : DefOk P w K mg base 4 "do_change" ["things", "change", "name_by_word"] (sp_do_change cs.T)) (D_Things_how_many : MethOk P w K mg base 1 cs.T "how_many" ["self"] (sp_Things_how_many cs.T)) : FnOk P w K mg base CX0 5 f fd ["self"] (sp_World_apply cs) := by
  refine F.ok sc_World_apply (fun vs H Q E h => ?_) (fun cdv A outer s H vs Q E hr h => ?_)
  · obtain ⟨X, g, rfl, _⟩ := h
    rfl
  · obtain ⟨X, g, rfl, ⟨m, h⟩, q⟩ := h
    have hu := hu_of hr
    have sl := h.S.len
    have sf := h.S.few
    have l30 := h.ll
    obtain ⟨d1, d2⟩ := rel_doAll g.later g.world m [] h.R
    have es : Ge01.step g .apply = if 20 < (Ge01.doAll g.world [] g.later).1.things.length then (g, [-5]) else ({ g with world := (Ge01.doAll g.world [] g.later).1, later := [] }, (applyR m g.later).2.2) := by
      have a := (step_apply h.R).1
      have e : Ge01.step g .apply = if 20 < (Ge01.doAll g.world [] g.later).1.things.length then (g, [-5]) else ({ g with world := (Ge01.doAll g.world [] g.later).1, later := [] }, Ge01.ints ([(Ge01.doAll g.world [] g.later).1.things.length, (Ge01.doAll g.world [] g.later).2.length] ++ (Ge01.doAll g.world [] g.later).2.flatMap fun y => y.1 :: Ge01.nameRow y.2)) := rfl
      rw [e] at a ⊢
      split
      · rfl
      · rename_i c
        rw [if_neg c] at a
        exact Prod.ext rfl a
    rw [es, rel_much d2] at q
    unfold applyR at q
    refine ⟨_, (pss_cons (ps_set (i := 1) sc_World_apply.nd rfl (Or.inl rfl) (pe_me0 (pe_fld (pv 0) rfl) D_Things_twin (hr.mono (by decide))))
      (pss_cons (ps_set (i := 2) sc_World_apply.nd rfl (Or.inl rfl) pe_dnewK)
      (pss_cons (ps_for PassesOwn.never rfl (pi_list (pe_fld (pv 0) rfl)) (pg_name (i := 3) sc_World_apply.nd rfl (Or.inl rfl)) (pss_one (ps_expr (pe_fn D_do_change (hr.mono (by decide)) (pa_cons (pv 1) (pa_cons (pv 3) (pa_cons (pv 2) pa_nil)))))))
      (pss_cons (ps_if (pt_cmpR op_gt (pe_me0 (pv 1) D_Things_how_many (hr.mono (by decide))) (pe_gc T.MOST_THINGS) (nomark _)) (pss_one (ps_ret (pe_lst (pa_cons (pe_gc T.FULL) pa_nil)))) pss_nil)
      (pss_cons (ps_fld (pv 0) (pv 1) rfl)
      (pss_cons (ps_fld (pv 0) (pe_lst pa_nil) rfl)
      (pss_cons (ps_set (i := 4) sc_World_apply.nd rfl (Or.inl rfl) (pe_lst (pa_cons (pe_me0 (pv 1) D_Things_how_many (hr.mono (by decide))) (pa_cons (pe_callB call_lenD (by rfl) T.len PySem.boot_len (pa_cons (pv 2) pa_nil)) pa_nil))))
      (pss_cons (ps_lock (ps_for PassesOwn.never rfl (pi_keys (pv 2)) (pg_name (i := 5) sc_World_apply.nd rfl (Or.inl rfl)) (pss_cons (ps_expr (pe_bm PySem.F.plainAttrs_list PySem.F.slot_list_append PySem.F.type_list_append mt_append (pv 4) (pa_cons (pv 5) pa_nil)))
      (pss_one (ps_expr (pe_bm PySem.F.plainAttrs_list PySem.F.slot_list_extend PySem.F.type_list_extend mt_extendT (pv 4) (pa_cons (pe_dget hu (pv 2) (pv 5) (fun _ _ => rfl)) pa_nil)))))))
      (pss_one (ps_ret (pv 4))))))))))), ?_⟩
    refine ⟨_, rfl, X.p, cs.W, X.dx, _, _, rfl, h.O.ob, R.cl, R.nT, hF_t _ _ _, X.T.p, X.T.dx, _, rfl, h.T.ob, wF_no X.T (by decide +kernel) (by decide +kernel), X.T, m, rfl, h.T, by omega, fun H1 L1 W1 s1 f1 => ?_⟩
    intro d hd
    have hd0 : H d = none := s1.free hd
    have s2 : Same H (upd H1 d (.dK [])) := s1.trans (Same.new hd)
    have h2 := h.same s2
    have bnd : ∀ i : Nat, much (mdo m [] (g.later.take i)).1.held ≤ 50 ∧ (mdo m [] (g.later.take i)).1.held.length ≤ 50 ∧ (mdo m [] (g.later.take i)).2.length ≤ 30 := fun i => by
      have tl : (g.later.take i).length ≤ 30 := by rw [List.length_take]; omega
      have := mdo_bound (g.later.take i) m [] 20 50 0 sf sl (Nat.zero_le _) (by omega)
      omega
    refine ⟨_, rfl, X.p, cs.W, X.dx, _, _, rfl, h2.O.ob, R.cl, R.nO, hF_o _ _ _, X.oa, rfl, ⟨_, SqL.of h2.O.of⟩, for_list (K := K) (a := X.oa) (xs := X.rs.map V.ref) (fun i σ H' => ∃ (L : Lay) (es : List We) (v : Option V), σ = [some (.ref X.p), some (.ref L.p), some (.ref d), v, none, none] ∧ WAt cs.T H' L (mdo m [] (g.later.take i)).1 ∧ WsAt H' d es ∧ wsOf es = (mdo m [] (g.later.take i)).2 ∧ ¬ Fp L d ∧ (∀ e ∈ es, ¬ Fp L e.t) ∧ Same H H' ∧ (∀ z, Fp L z → H z = none) ∧ ∀ e ∈ es, H e.t = none) ⟨L1, [], none, rfl, W1.same (Same.new hd), ⟨upd_same, fun e he => (by cases he)⟩, rfl, W1.no hd, fun e he => (by cases he), s2, f1, fun e he => (by cases he)⟩ ?_ ?_ ?_⟩
    · rintro i σ H' _ ⟨L, es, v, rfl, _, _, _, _, _, s', _⟩
      exact SqL.of (s' _ _ h.O.of)
    · rintro i x σ H' hx ⟨L, es, v, rfl, W', w', ew, nd, nt, s', fz, te⟩
      obtain ⟨r, er, rfl⟩ := ref_get hx
      obtain ⟨c, ec⟩ := get_len h.O.rl er
      have hrow := s' _ _ (h.O.rr i r c er ec)
      have nfl : ∀ z o, H z = some o → ¬ Fp L z := fun z o e f => by
        rw [fz z f] at e
        cases e
      have b := bnd i
      have el := wsOf_len es
      rw [ew] at el
      have hst := mdo_snoc (g.later.take i) m [] c
      rw [← take_snoc ec] at hst
      refine ⟨_, rfl, _, rfl, _, rfl, L, (mdo m [] (g.later.take i)).1, r, d, c, es, rfl, W', hrow, nfl r _ (h.O.rr i r c er ec), w', nd, nt, h.ok c (List.mem_of_getElem? ec), by omega, by omega, fun H3 L3 es3 W3 F3 w3 ew3 nd3 nt3 te3 => ?_⟩
      rw [ew, ← hst] at W3 ew3
      refine ⟨L3, es3, some (.ref r), ?_, W3, w3, ew3, nd3, nt3, fun z o e => ?_, fun z f => ?_, fun e he => ?_⟩
      · rw [F3.pe]
        rfl
      · exact F3.kp z o (s' _ _ e) (nfl z o e) (fun e2 => by rw [e2, hd0] at e; cases e)
      · rcases F3.nw z f with f | f
        · exact fz z f
        · exact s'.free f
      · rcases te3 e he with he | he
        · exact te e he
        · exact s'.free he
    · rintro σ H' ⟨L, es, v, rfl, W', w', ew, nd, nt, s', fz, te⟩
      rw [List.length_map, h.O.rl, List.take_length] at W' ew
      have b := bnd g.later.length
      rw [List.take_length] at b
      have el := wsOf_len es
      rw [ew] at el
      have nfl : ∀ z o, H z = some o → ¬ Fp L z := fun z o e f => by
        rw [fz z f] at e
        cases e
      refine ⟨_, rfl, L.p, L.dx, _, rfl, W'.ob, wF_no L (by decide +kernel) (by decide +kernel), L, _, rfl, W', by omega, fun H3 s3 => ⟨_, _, rfl, rfl, _, rfl, ?_⟩⟩
      have s13 := s'.trans s3
      by_cases c20 : 20 < much (mdo m [] g.later).1.held
      · rw [if_pos c20] at q
        rw [decide_eq_true (by omega)]
        exact iteT ⟨sz1, fun z hz => q.new ⟨m, h.same s13⟩ (FrH.same s13 X) hz⟩
      · rw [if_neg c20, if_neg c20] at q
        rw [decide_eq_false (by omega)]
        refine iteF ?_
        have h3 := h.same s13
        refine ⟨_, rfl, _, rfl, X.p, cs.W, X.dx, _, rfl, h3.O.ob, R.cl, R.nT, (by show 3 < 1000; decide), ?_⟩
        have e1 : putF "things" (.ref L.p) (hF X.T.p X.oa X.ka) = hF L.p X.oa X.ka := put_here
        rw [e1]
        refine ⟨by decide, fun oa ho => ?_⟩
        have npo : X.p ≠ oa := ne_of_none upd_same ho
        have ho3 : H3 oa = none := upd_none ho
        refine ⟨_, rfl, X.p, cs.W, X.dx, _, rfl, (by rw [upd_ne npo, upd_same]), R.cl, R.nO, (by show 3 < 1000; decide), ?_⟩
        have e2 : putF "put_off" (.ref oa) (hF L.p X.oa X.ka) = hF L.p oa X.ka := (put_past (by decide +kernel)).trans (congrArg _ put_here)
        rw [e2]
        have keep : ∀ z u, H3 z = some u → z ≠ X.p → (upd (upd (upd H3 X.p (.ins cs.W X.dx (hF L.p X.oa X.ka))) oa (.lst [])) X.p (.ins cs.W X.dx (hF L.p oa X.ka))) z = some u := fun z u e n => by
          rw [upd_ne n, upd_ne (ne_of_none e ho3), upd_ne n]
          exact e
        have kp : ∀ k ∈ X.ks, k.p ≠ X.p := fun k hk => by
          obtain ⟨i, ei⟩ := mem_get hk
          obtain ⟨q0, ns0, _, _, ka⟩ := h.O.kept ei
          refine ne_of ka.ob h.O.ob ?_
          intro z
          have := congrArg List.length (HO.ins.inj z).2.2
          simp [hF, kF] at this
        have immO : ∀ z, Imm ⟨X.p, X.dx, L, oa, X.ka, [], X.ks⟩ z → Imm X z := fun z f => by
          rcases f with f | f
          · cases f
          · exact .inr f
        have chgO : ∀ z, Chg ⟨X.p, X.dx, L, oa, X.ka, [], X.ks⟩ z → Chg X z ∨ z = oa := fun z f => by
          rcases f with f | f | f | f
          · exact .inl (.inl f)
          · exact .inr f
          · exact .inl (.inr (.inr (.inl f)))
          · exact .inl (.inr (.inr (.inr f)))
        have trk : ∀ z, Imm X z ∨ Chg X z → ∃ o, H z = some o := fun z f => h.O.is f
        have nim : ∀ z, Imm X z → z ≠ X.p := fun z f e => h.O.sM z f (.inl e)
        have W6 : WAt cs.T (upd (upd (upd H3 X.p (.ins cs.W X.dx (hF L.p X.oa X.ka))) oa (.lst [])) X.p (.ins cs.W X.dx (hF L.p oa X.ka))) L (mdo m [] g.later).1 := by
          have n1 := nfl _ _ h.O.ob
          exact (((W'.same s3).touch n1).touch ((W'.same s3).no ho3)).touch n1
        have A6 : HAtM cs (upd (upd (upd H3 X.p (.ins cs.W X.dx (hF L.p X.oa X.ka))) oa (.lst [])) X.p (.ins cs.W X.dx (hF L.p oa X.ka))) ⟨X.p, X.dx, L, oa, X.ka, [], X.ks⟩ { g with world := (Ge01.doAll g.world [] g.later).1, later := [] } (mdo m [] g.later).1 := by
          refine ⟨W6, ⟨upd_same, ?_, keep _ _ h3.O.kp (ne_of h.O.kp h.O.ob (by intro z; cases z)), ?_, rfl, fun i r c e => by simp at e, h.O.kl, h.O.tl, fun i k q' ns e1 e2 e3 => ?_, h.O.kd, fun z f f2 => ?_⟩, fun z f => ?_, d2, ⟨by omega, by omega⟩, Nat.zero_le _, fun c hc => (by cases hc), h.fq, h.ql, h.tn⟩
          · show upd _ X.p _ oa = _
            rw [upd_ne npo.symm, upd_same]
            rfl
          · exact fun e => by
              have := h3.O.kp
              rw [← e, ho3] at this
              cases this
          · refine (h3.O.kk i k q' ns e1 e2 e3).mono fun z o f e => keep z o e ?_
            rcases f with f | rfl
            · exact nim z (.inr ⟨k, List.mem_of_getElem? e1, f⟩)
            · exact kp k (List.mem_of_getElem? e1)
          · have f3 := immO z f
            rcases chgO z f2 with f4 | f4
            · exact h.O.sM z f3 f4
            · obtain ⟨o, e⟩ := trk _ (.inl f3)
              have e := s13 _ _ e
              rw [f4, ho3] at e
              cases e
          · rcases f with f | f
            · obtain ⟨o, e⟩ := trk _ (.inl (immO z f))
              exact nfl z o e
            · rcases chgO z f with f | rfl
              · obtain ⟨o, e⟩ := trk _ (.inr f)
                exact nfl z o e
              · exact (W'.same s3).no ho3
        have F6 : FrH (fun z => H z = none) H X (upd (upd (upd H3 X.p (.ins cs.W X.dx (hF L.p X.oa X.ka))) oa (.lst [])) X.p (.ins cs.W X.dx (hF L.p oa X.ka))) ⟨X.p, X.dx, L, oa, X.ka, [], X.ks⟩ := by
          refine ⟨fun z o e n => keep z o (s13 _ _ e) fun e2 => n (.inr (.inr (.inl e2))), fun z f => ?_, rfl, fun z e => s13.free (upd_none (upd_none (upd_none e)))⟩
          rcases f with f | f | f
          · exact .inr (fz z f)
          · exact .inl (.inr (.inl (immO z f)))
          · rcases chgO z f with f | rfl
            · exact .inl (.inr (.inr f))
            · exact .inr (s13.free ho3)
        have dX : d ≠ X.p := fun e => by
          rw [e, h.O.ob] at hd0
          cases hd0
        have w6 : WsAt (upd (upd (upd H3 X.p (.ins cs.W X.dx (hF L.p X.oa X.ka))) oa (.lst [])) X.p (.ins cs.W X.dx (hF L.p oa X.ka))) d es := by
          refine ⟨keep _ _ (s3 _ _ w'.dk) dX, fun e he => keep _ _ (s3 _ _ (w'.ts e he)) fun e2 => ?_⟩
          have := te e he
          rw [e2, h.O.ob] at this
          cases this
        have doa : d ≠ oa := ne_of_none (s3 _ _ w'.dk) ho3
        have dF : ¬ FpH ⟨X.p, X.dx, L, oa, X.ka, [], X.ks⟩ d := fun f => by
          rcases f with f | f | f
          · exact nd f
          · obtain ⟨o, e⟩ := trk _ (.inl (immO d f))
            rw [hd0] at e
            cases e
          · rcases chgO d f with f | f
            · obtain ⟨o, e⟩ := trk _ (.inr f)
              rw [hd0] at e
              cases e
            · exact doa f
        generalize upd (upd (upd H3 X.p (.ins cs.W X.dx (hF L.p X.oa X.ka))) oa (.lst [])) X.p (.ins cs.W X.dx (hF L.p oa X.ka)) = H6 at A6 F6 w6 W6 ⊢
        refine ⟨_, rfl, L.p, L.dx, _, rfl, W6.ob, wF_no L (by decide +kernel) (by decide +kernel), L, _, rfl, W6, by omega, fun H7 s7 => ?_⟩
        refine ⟨_, rfl, d, _, rfl, s7 _ _ w6.dk, (by show 2 ≤ sizeLine; decide), fun an ha => ?_⟩
        have A7 := A6.same s7
        have hd7 := s7 _ _ w6.dk
        have nda : d ≠ an := ne_of_none hd7 ha
        have kl : (kvOf es).length = (mdo m [] g.later).2.length := by unfold kvOf; rw [List.length_map]; omega
        rw [kl]
        refine ⟨d, .dK (kvOf es), (by rw [upd_ne nda]; exact hd7), True.intro, fun od => ?_⟩
        have sz : (1000 : Nat) < sizeLine := by decide
        have wl := wsOf_len es
        refine ⟨_, rfl, d, od, rfl, .inl ⟨_, upd_same, for_it walk_keys (fun i σ H' => ∃ u v, σ = [some (.ref X.p), some (.ref L.p), some (.ref d), u, some (.ref an), v] ∧ H' = upd (upd H7 d (.frz od (.dK (kvOf es)))) an (.lst (IL ((much (mdo m [] g.later).1.held : Int) :: ((mdo m [] g.later).2.length : Int) :: wAns ((wsOf es).take i))))) ⟨_, none, rfl, ?_⟩ ?_ ?_ ?_⟩⟩
        · funext z
          unfold upd
          by_cases c1 : z = d
          · subst c1
            rw [if_pos rfl, if_neg nda, if_pos rfl]
          · rw [if_neg c1, if_neg c1]
            rfl
        · rintro i σ H' _ ⟨u, v, rfl, rfl⟩
          rw [upd_ne nda, upd_same]
        · rintro i x σ H' H2 hi ⟨u, v, rfl, rfl⟩ ⟨rfl, k, vv, ek, rfl⟩
          unfold kvOf at ek
          rw [List.getElem?_map] at ek
          cases ee : es[i]? with
          | none =>
            rw [ee] at ek
            cases ek
          | some e =>
            rw [ee] at ek
            have ek := Option.some.inj ek
            have ek1 : Sum.inl (e.w : Int) = k := (Prod.mk.inj ek).1
            subst ek1
            have he : e ∈ es := List.mem_of_getElem? ee
            have hil := (List.getElem?_eq_some_iff.mp ee).1
            have vk : valV (kvOf es) (Sum.inl (e.w : Int)) = some (V.ref e.t) := (val_mem (keys_once (by rw [ew]; exact once_mdo g.later m [] List.nodup_nil))).mpr (List.mem_map_of_mem (f := fun e : We => ((Sum.inl (e.w : Int) : Key), V.ref e.t)) he)
            have wn := wAns_len ((wsOf es).take i)
            rw [List.length_take] at wn
            have nta : e.t ≠ an := ne_of_none (s7 _ _ (w6.ts e he)) ha
            have ntd : e.t ≠ d := ne_of (w6.ts e he) w6.dk (by intro z; cases z)
            refine ⟨_, rfl, .inl ⟨rfl, _, SqL.of upd_same⟩, _, rfl, an, _, _, rfl, rfl, upd_same, small1000 (by rw [List.length_map, List.length_cons, List.length_cons]; omega), ?_⟩
            rw [upd_upd]
            have dg : ∀ o, DGet (upd (upd H7 d (.frz od (.dK (kvOf es)))) an o) d (.int (e.w : Int)) (some (V.ref e.t)) := fun o => .inl ⟨kvOf es, Sum.inl (e.w : Int), .inr ⟨od, by rw [upd_ne nda, upd_same]⟩, rfl, vk.symm⟩
            have ht : ∀ o, (upd (upd H7 d (.frz od (.dK (kvOf es)))) an o) e.t = some (tupN e.n) := fun o => by
              rw [upd_ne nta, upd_ne ntd]
              exact s7 _ _ (w6.ts e he)
            refine ⟨_, rfl, .inl ⟨rfl, _, SqL.of upd_same⟩, _, rfl, _, rfl, d, _, rfl, dg _, an, e.t, _, _, rfl, rfl, upd_same, ht _, ?_, ?_⟩
            · rw [List.length_append, List.length_map, List.length_cons, List.length_cons]
              show _ + 1 + 2 ≤ sizeLine
              omega
            · rw [upd_upd]
              refine ⟨_, _, rfl, ?_⟩
              rw [wsOf_take es ee, wAns_snoc]
              simp [IL]
              rfl
        · rintro σ H' ⟨u, v, rfl, rfl⟩
          refine ⟨(by rw [upd_ne nda, upd_same]), _, rfl, ?_⟩
          have klw : (kvOf es).length = (wsOf es).length := by rw [kl, wl, el]
          rw [klw, List.take_length, ew]
          have aF : ¬ FpH ⟨X.p, X.dx, L, oa, X.ka, [], X.ks⟩ an := A7.no ha
          refine q _ ⟨X.p, X.dx, L, oa, X.ka, [], X.ks⟩ an ⟨_, ((A7.touch dF).touch aF).touch dF⟩ ⟨fun z o e n => ?_, F6.nw, rfl, fun z e => F6.tr z (s7.free (upd_none (upd_none (upd_none e))))⟩ (F6.tr an (s7.free ha)) aF ?_
          · have zd : z ≠ d := fun e2 => by
              rw [e2, hd0] at e
              cases e
            have h6 := s7 _ _ (F6.kp z o e n)
            rw [upd_ne zd, upd_ne (ne_of_none h6 ha), upd_ne zd]
            exact h6
          · rw [upd_ne nda.symm, upd_same]
end
end Pw

/-! One call, read off the list. -/
namespace Pw
open L2 PySem PySem.Spec PyProof.Rows
open Ge01 (Part Name Change Thing)
theorem sq_keep {K : PySem.W.Frag} {H H' : Hp} {a : Addr} {xs : List V} (h : SqL K H a xs) (k : ∀ o, H a = some o → H' a = some o) : SqL K H' a xs := by
  rcases h with (h | ⟨o, h⟩) | h
  · exact .inl (.inl (k _ h))
  · exact .inl (.inr ⟨o, k _ h⟩)
  · exact .inr h
/-- the list at a is to be read wherever what is neither the house's nor the reader's stands -/
def Stay (K : PySem.W.Frag) (H : Hp) (X : HLay) (rd a : Addr) (ns : List Int) : Prop := ∀ H2 : Hp, (∀ z o, H z = some o → ¬ FpH X z → z ≠ rd → H2 z = some o) → SqL K H2 a (IL ns)
structure Rdr where
  rd : Addr
  dx : Addr
  a : Addr
  ns : List Int
/-- where a call stands: the house as it was, the reader at j -/
structure Now (K : PySem.W.Frag) (cs : Cs) (CR : Addr) (H : Hp) (X : HLay) (r : Rdr) (g : Ge01.St) (m : M) (H1 : Hp) (j : Nat) : Prop where
  kp : ∀ z o, H z = some o → z ≠ r.rd → H1 z = some o
  tr : ∀ z, H1 z = none → H z = none
  rd : H1 r.rd = some (.ins CR r.dx (rF r.a j))
  at_ : HAtM cs H1 X g m
  st : Stay K H X r.rd r.a r.ns
  nr : ¬ FpH X r.rd
  tk : ∃ o, H r.rd = some o
section
variable {K : PySem.W.Frag} {cs : Cs} {CR : Addr} {H H1 H2 : Hp} {X : HLay} {r : Rdr} {g : Ge01.St} {m : M} {j : Nat}
theorem Now.sq (n : Now K cs CR H X r g m H1 j) : SqL K H1 r.a (IL r.ns) := n.st H1 fun z o e _ nz => n.kp z o e nz
theorem Now.num (n : Now K cs CR H X r g m H1 j) (j' : Nat) : Now K cs CR H X r g m (upd H1 r.rd (.ins CR r.dx (rF r.a j'))) j' :=
  ⟨fun z o e nz => by rw [upd_ne nz]; exact n.kp z o e nz, fun z e => n.tr z (upd_none e), upd_same, n.at_.touch n.nr, n.st, n.nr, n.tk⟩
theorem Now.same (n : Now K cs CR H X r g m H1 j) (s : Same H1 H2) : Now K cs CR H X r g m H2 j :=
  ⟨fun z o e nz => s z o (n.kp z o e nz), fun z e => n.tr z (s.free e), s _ _ n.rd, n.at_.same s, n.st, n.nr, n.tk⟩
/-- what one call gives back -/
def ResC (cs : Cs) (CR : Addr) (H : Hp) (X : HLay) (r : Rdr) (g' : Ge01.St) (ans t : List Int) (Q : VK) : Prop :=
  ∀ (H' : Hp) (X' : HLay) (q : Addr) (j : Nat), HAt cs H' X' g' → X'.p = X.p → (∀ z o, H z = some o → ¬ FpH X z → z ≠ r.rd → H' z = some o ∧ ¬ FpH X' z) → H' r.rd = some (.ins CR r.dx (rF r.a j)) → ¬ FpH X' r.rd → r.ns.drop j = t → j ≤ r.ns.length → H q = none → ¬ FpH X' q → H' q = some (.lst (IL ans)) → Q (.ref q) H'
theorem Now.res (n : Now K cs CR H X r g m H1 j) {g' : Ge01.St} {ans t : List Int} {Q : VK} {N : Addr → Prop} (hN : ∀ z, N z → H z = none) (R : ResC cs CR H X r g' ans t Q) (hj : r.ns.drop j = t) (hl : j ≤ r.ns.length) : ResH cs N H1 X g' ans Q := by
  intro H' X' q A F hq nq hq'
  refine R H' X' q j A F.pe (fun z o e nz nr => ⟨F.kp z o (n.kp z o e nr) nz, fun f => ?_⟩) (F.kp _ _ n.rd n.nr) (fun f => ?_) hj hl (n.tr q hq) nq hq'
  · rcases F.nw z f with f | f
    · exact nz f
    · rw [hN z f] at e
      cases e
  · rcases F.nw _ f with f | f
    · exact n.nr f
    · obtain ⟨o, e⟩ := n.tk
      rw [hN _ f] at e
      cases e
theorem Now.free (n : Now K cs CR H X r g m H1 j) : ∀ z, H1 z = none → H z = none := n.tr
end
theorem drop_le {ns : List Int} {i : Nat} {z : Int} {l : List Int} (h : ns.drop i = z :: l) : i + 1 ≤ ns.length := by
  have := congrArg List.length h
  rw [List.length_drop, List.length_cons] at this
  omega
theorem drop_row {ns x t : List Int} {i : Nat} (h : ns.drop i = rowed x t) : ns.drop (i + 1 + x.length) = t ∧ i + 1 + x.length ≤ ns.length ∧ x.length ≤ ns.length := by
  have h1 : ns.drop (i + 1) = x ++ t := (drop_head (z := (x.length : Int)) h).2
  have h2 : ns.drop (i + 1 + x.length) = t := by
    rw [← List.drop_drop, h1, List.drop_left]
  have h3 := congrArg List.length h
  unfold rowed at h3
  rw [List.length_drop, List.length_cons, List.length_append] at h3
  exact ⟨h2, by omega, by omega⟩
theorem drop_q {ns t : List Int} {q : Qn} {i : Nat} (h : ns.drop i = qrow q t) : ∃ j, ns.drop j = t ∧ j ≤ ns.length ∧ ns.drop (i + 1 + q.all.length) = rowed (up q.no) (rowed (up q.some_) t) ∧ ns.drop (i + 1 + q.all.length + 1 + q.no.length) = rowed (up q.some_) t ∧ j = i + 1 + q.all.length + 1 + q.no.length + 1 + q.some_.length ∧ q.all.length ≤ ns.length ∧ q.no.length ≤ ns.length ∧ q.some_.length ≤ ns.length := by
  obtain ⟨a1, a2, a3⟩ := drop_row h
  obtain ⟨b1, b2, b3⟩ := drop_row a1
  obtain ⟨c1, c2, c3⟩ := drop_row b1
  rw [List.length_map] at a1 a2 a3 b1 b2 b3 c1 c2 c3
  rw [List.length_map] at b1 b2 c1 c2
  rw [List.length_map] at c1 c2
  exact ⟨_, c1, c2, a1, b1, rfl, a3, b3, c3⟩
section
variable {K : PySem.W.Frag} {P : Program} {w : World} {mg : Str → Option Value} {base : Heap} {cs : Cs} {CR : Addr}
abbrev s_read_question : Stmt := top 42
abbrev N_read_question : List Str := ["reader", "all_of", "none_of", "one_of"]
theorem sc_read_question : FnScope N_read_question ["reader"] (defScope s_read_question) := ⟨rfl, rfl, rfl, by decide +kernel, rfl, by decide +kernel, by decide +kernel⟩
def sp_read_question (K : PySem.W.Frag) (cs : Cs) (CR : Addr) : Sp := fun vs H Q _ => ∃ (H0 : Hp) (X : HLay) (r : Rdr) (g : Ge01.St) (m : M) (i : Nat) (q : Qn) (t : List Int), vs = [.ref r.rd] ∧ Now K cs CR H0 X r g m H i ∧ r.ns.drop i = qrow q t ∧
  ∀ H' Y j, QAt cs.Q H' Y q → Now K cs CR H0 X r g m H' j → (∀ z, Y.has z → H z = none) → r.ns.drop j = t → j ≤ r.ns.length → Q (.ref Y.p) H'
theorem ok_read_question {f : Addr} {fd : FuncData} (F : Fun K "read_question" "read_question" s_read_question f fd) (T : Con mg) (D_Reader_row : MethOk P w K mg base 2 CR "row" ["self"] (sp_Reader_row K CR)) (D_Question : MakeOk P w K mg base 1 "Question" cs.Q ["self", "all_of", "none_of", "one_of"] (sp_Question___init__ cs.Q)) : FnOk P w K mg base CX0 3 f fd ["reader"] (sp_read_question K cs CR) := by
  refine F.ok sc_read_question (fun vs H Q E h => ?_) (fun cdv A outer s H vs Q E hr h => ?_)
  · obtain ⟨H0, X, r, g, m, i, q, t, rfl, _⟩ := h
    rfl
  · obtain ⟨H0, X, r, g, m, i, q, t, rfl, n0, hd, k⟩ := h
    obtain ⟨j, hj, hjl, hd2, hd3, ej, _, _, _⟩ := drop_q hd
    refine ⟨_, (pss_cons (ps_set (i := 1) sc_read_question.nd rfl (Or.inl rfl) (pe_me0 (pv 0) D_Reader_row (hr.mono (by decide))))
      (pss_cons (ps_set (i := 2) sc_read_question.nd rfl (Or.inl rfl) (pe_me0 (pv 0) D_Reader_row (hr.mono (by decide))))
      (pss_cons (ps_set (i := 3) sc_read_question.nd rfl (Or.inl rfl) (pe_me0 (pv 0) D_Reader_row (hr.mono (by decide))))
      (pss_one (ps_ret (pe_mk D_Question (hr.mono (by decide)) (pa_cons (pv 1) (pa_cons (pv 2) (pa_cons (pv 3) pa_nil))))))))), ?_⟩
    refine ⟨_, rfl, r.rd, r.dx, _, rfl, n0.rd, rF_no r.a i (by decide +kernel) (by decide +kernel), r.rd, r.dx, r.a, r.ns, i, up q.all, _, rfl, n0.rd, n0.sq, hd, fun l1 h1 => ?_⟩
    rw [List.length_map]
    have e1 : (upd H r.rd (.ins CR r.dx (rF r.a (i + 1 + q.all.length)))) l1 = none := by
      rw [upd_ne (fun e => by rw [e, n0.rd] at h1; cases h1)]
      exact h1
    have n1 := (n0.num (i + 1 + q.all.length)).same (Same.new e1 (o := .lst (IL (up q.all))))
    refine ⟨_, rfl, r.rd, r.dx, _, rfl, n1.rd, rF_no r.a _ (by decide +kernel) (by decide +kernel), r.rd, r.dx, r.a, r.ns, _, up q.no, _, rfl, n1.rd, n1.sq, hd2, fun l2 h2 => ?_⟩
    rw [List.length_map]
    generalize hH1 : upd (upd H r.rd (.ins CR r.dx (rF r.a (i + 1 + q.all.length)))) l1 (.lst (IL (up q.all))) = H1 at n1 h2 ⊢
    have k1 : H1 l1 = some (.lst (IL (up q.all))) := by
      rw [← hH1]
      exact upd_same
    have t1 : ∀ z, H1 z = none → H z = none := fun z e => by
      rw [← hH1] at e
      exact upd_none (upd_none e)
    clear hH1
    have e2 : (upd H1 r.rd (.ins CR r.dx (rF r.a (i + 1 + q.all.length + 1 + q.no.length)))) l2 = none := by
      rw [upd_ne (fun e => by rw [e, n1.rd] at h2; cases h2)]
      exact h2
    have n2 := (n1.num (i + 1 + q.all.length + 1 + q.no.length)).same (Same.new e2 (o := .lst (IL (up q.no))))
    refine ⟨_, rfl, r.rd, r.dx, _, rfl, n2.rd, rF_no r.a _ (by decide +kernel) (by decide +kernel), r.rd, r.dx, r.a, r.ns, _, up q.some_, _, rfl, n2.rd, n2.sq, hd3, fun l3 h3 => ?_⟩
    rw [List.length_map]
    have nl1 : l1 ≠ r.rd := ne_of k1 n1.rd (by intro z; cases z)
    generalize hH2 : upd (upd H1 r.rd (.ins CR r.dx (rF r.a (i + 1 + q.all.length + 1 + q.no.length)))) l2 (.lst (IL (up q.no))) = H2 at n2 h3 ⊢
    have k2 : H2 l2 = some (.lst (IL (up q.no))) := by
      rw [← hH2]
      exact upd_same
    have k21 : H2 l1 = some (.lst (IL (up q.all))) := by
      rw [← hH2, upd_ne (ne_of_none k1 h2), upd_ne nl1]
      exact k1
    have t2 : ∀ z, H2 z = none → H1 z = none := fun z e => by
      rw [← hH2] at e
      exact upd_none (upd_none e)
    clear hH2
    have nl2 : l2 ≠ r.rd := ne_of k2 n2.rd (by intro z; cases z)
    have e3 : (upd H2 r.rd (.ins CR r.dx (rF r.a (i + 1 + q.all.length + 1 + q.no.length + 1 + q.some_.length)))) l3 = none := by
      rw [upd_ne (fun e => by rw [e, n2.rd] at h3; cases h3)]
      exact h3
    have n3 := (n2.num (i + 1 + q.all.length + 1 + q.no.length + 1 + q.some_.length)).same (Same.new e3 (o := .lst (IL (up q.some_))))
    generalize hH3 : upd (upd H2 r.rd (.ins CR r.dx (rF r.a (i + 1 + q.all.length + 1 + q.no.length + 1 + q.some_.length)))) l3 (.lst (IL (up q.some_))) = H3 at n3 ⊢
    have k3 : H3 l3 = some (.lst (IL (up q.some_))) := by
      rw [← hH3]
      exact upd_same
    have k31 : H3 l1 = some (.lst (IL (up q.all))) := by
      rw [← hH3, upd_ne (ne_of_none k21 h3), upd_ne nl1]
      exact k21
    have k32 : H3 l2 = some (.lst (IL (up q.no))) := by
      rw [← hH3, upd_ne (ne_of_none k2 h3), upd_ne nl2]
      exact k2
    have t3 : ∀ z, H3 z = none → H2 z = none := fun z e => by
      rw [← hH3] at e
      exact upd_none (upd_none e)
    clear hH3
    refine ⟨_, rfl, _, rfl, _, rfl, ?_⟩
    intro x dx nx ndx nex
    refine ⟨⟨x, dx, l1, l2, l3⟩, rfl, upd_same, rfl, ?_⟩
    have s4 : Same H3 (upd (upd (upd H3 dx (.own x)) x (.ins cs.Q dx [])) x (.ins cs.Q dx (qF ⟨x, dx, l1, l2, l3⟩))) := Same.made nx ndx fun b o e n => by
      rw [upd_ne n]
      exact e
    rw [ej] at hj hjl
    refine k _ ⟨x, dx, l1, l2, l3⟩ _ ⟨upd_same, s4 _ _ k31, s4 _ _ k32, s4 _ _ k3⟩ (n3.same s4) (fun z f => ?_) hj hjl
    rcases f with rfl | rfl | rfl | rfl
    · exact t1 _ (t2 _ (t3 _ nx))
    · exact h1 |> fun e => by
        first
        | exact e
        | exact upd_none e
    · exact t1 _ h2
    · exact t1 _ (t2 _ h3)
end
end Pw

namespace Pw
open L2 PySem PySem.Spec PyProof.Rows
open Ge01 (Part Name Change Thing)
section
variable {K : PySem.W.Frag} {P : Program} {w : World} {mg : Str → Option Value} {base : Heap} {cs : Cs} {CR : Addr}
abbrev s_answer_by_name : Stmt := top 43
abbrev N_answer_by_name : List Str := ["things", "call", "reader", "place", "turn", "kind"]
theorem sc_answer_by_name : FnScope N_answer_by_name ["things", "call", "reader"] (defScope s_answer_by_name) := ⟨rfl, rfl, rfl, by decide +kernel, rfl, by decide +kernel, by decide +kernel⟩
def sp_answer_by_name (K : PySem.W.Frag) (cs : Cs) (CR : Addr) : Sp := fun vs H Q _ => ∃ (H0 : Hp) (X : HLay) (r : Rdr) (g : Ge01.St) (m : M) (i : Nat) (c : Ge01.Call) (t : List Int) (n : Int), vs = [.ref X.T.p, .int n, .ref r.rd] ∧ Now K cs CR H0 X r g m H i ∧ Rd (n :: r.ns.drop i) c t ∧ 1 ≤ n ∧ n ≤ 5 ∧ ResC cs CR H0 X r (Ge01.step g c).1 (Ge01.step g c).2 t Q
theorem ok_answer_by_name {f : Addr} {fd : FuncData} (F : Fun K "answer_by_name" "answer_by_name" s_answer_by_name f fd) (T : Con mg) (D_Reader_number : MethOk P w K mg base 1 CR "number" ["self"] (sp_Reader_number K CR))
    (D_Things_gone : MethOk P w K mg base 2 cs.T "gone" ["self", "place", "turn"] (sp_Things_gone cs.T)) (D_Things_parts_of : MethOk P w K mg base 2 cs.T "parts_of" ["self", "place", "turn"] (sp_Things_parts_of cs.T)) (D_Things_take : MethOk P w K mg base 2 cs.T "take" ["self", "place", "turn", "kind"] (sp_Things_take cs.T))
    (D_Things_value_of : MethOk P w K mg base 2 cs.T "value_of" ["self", "place", "turn", "kind"] (sp_Things_value_of cs.T)) (D_Things_put : MethOk P w K mg base 2 cs.T "put" ["self", "place", "turn", "kind", "value"] (sp_Things_put cs.T)) : FnOk P w K mg base CX0 3 f fd ["things", "call", "reader"] (sp_answer_by_name K cs CR) := by
  refine F.ok sc_answer_by_name (fun vs H Q E h => ?_) (fun cdv A outer s H vs Q E hr h => ?_)
  · obtain ⟨H0, X, r, g, m, i, c, t, n, rfl, _⟩ := h
    rfl
  · obtain ⟨H0, X, r, g, m, i, c, t, n, rfl, n0, hrd, hn1, hn5, R⟩ := h
    refine ⟨_, (pss_cons (ps_set (i := 3) sc_answer_by_name.nd rfl (Or.inl rfl) (pe_me0 (pv 2) D_Reader_number (hr.mono (by decide))))
      (pss_cons (ps_set (i := 4) sc_answer_by_name.nd rfl (Or.inl rfl) (pe_me0 (pv 2) D_Reader_number (hr.mono (by decide))))
      (pss_cons (ps_if (pt_cmpR op_eq (pv 1) (pe_gc T.GONE) (nomark _)) (pss_one (ps_ret (pe_me (pv 0) D_Things_gone (hr.mono (by decide)) (pa_cons (pv 3) (pa_cons (pv 4) pa_nil))))) pss_nil)
      (pss_cons (ps_if (pt_cmpR op_eq (pv 1) (pe_gc T.PARTS) (nomark _)) (pss_one (ps_ret (pe_me (pv 0) D_Things_parts_of (hr.mono (by decide)) (pa_cons (pv 3) (pa_cons (pv 4) pa_nil))))) pss_nil)
      (pss_cons (ps_set (i := 5) sc_answer_by_name.nd rfl (Or.inl rfl) (pe_me0 (pv 2) D_Reader_number (hr.mono (by decide))))
      (pss_cons (ps_if (pt_cmpR op_eq (pv 1) (pe_gc T.TAKE) (nomark _)) (pss_one (ps_ret (pe_me (pv 0) D_Things_take (hr.mono (by decide)) (pa_cons (pv 3) (pa_cons (pv 4) (pa_cons (pv 5) pa_nil)))))) pss_nil)
      (pss_cons (ps_if (pt_cmpR op_eq (pv 1) (pe_gc T.GET) (nomark _)) (pss_one (ps_ret (pe_me (pv 0) D_Things_value_of (hr.mono (by decide)) (pa_cons (pv 3) (pa_cons (pv 4) (pa_cons (pv 5) pa_nil)))))) pss_nil)
      (pss_one (ps_ret (pe_me (pv 0) D_Things_put (hr.mono (by decide)) (pa_cons (pv 3) (pa_cons (pv 4) (pa_cons (pv 5) (pa_cons (pe_me0 (pv 2) D_Reader_number (hr.mono (by decide))) pa_nil)))))))))))))), ?_⟩
    have sl := n0.at_.S.len
    -- the name, which each of them begins with
    have two : ∀ {a b : Nat} {u : List Int}, r.ns.drop i = (a : Int) :: (b : Int) :: u → r.ns[i]? = some (a : Int) ∧ r.ns[i + 1]? = some (b : Int) ∧ r.ns.drop (i + 1 + 1) = u ∧ i + 1 + 1 ≤ r.ns.length := fun {a b u} e => by
      obtain ⟨e1, e2⟩ := drop_head e
      obtain ⟨e3, e4⟩ := drop_head e2
      exact ⟨e1, e3, e4, drop_le e2⟩
    generalize e : n :: r.ns.drop i = l at hrd
    cases hrd with
    | make p => have := (List.cons.inj e).1; omega
    | later c => have := (List.cons.inj e).1; omega
    | apply => have := (List.cons.inj e).1; omega
    | ask q => have := (List.cons.inj e).1; omega
    | keep q => have := (List.cons.inj e).1; omega
    | fresh j => have := (List.cons.inj e).1; omega
    | sum k q => have := (List.cons.inj e).1; omega
    | count => have := (List.cons.inj e).1; omega
    | gone a b =>
      obtain ⟨rfl, ed⟩ := List.cons.inj e
      obtain ⟨z1, z2, z3, z4⟩ := two ed
      refine ⟨_, rfl, r.rd, r.dx, _, rfl, n0.rd, rF_no r.a _ (by decide +kernel) (by decide +kernel), r.rd, r.dx, r.a, r.ns, _, _, rfl, n0.rd, n0.sq, z1, ?_⟩
      have n1 := n0.num (i + 1)
      refine ⟨_, rfl, r.rd, r.dx, _, rfl, n1.rd, rF_no r.a _ (by decide +kernel) (by decide +kernel), r.rd, r.dx, r.a, r.ns, _, _, rfl, n1.rd, n1.sq, z2, ?_⟩
      have n2 := n1.num (i + 1 + 1)
      refine ⟨_, rfl, rfl, _, rfl, iteT ?_⟩
      have st := step_gone n2.at_.R a b
      refine ⟨_, rfl, X.T.p, X.T.dx, _, rfl, n2.at_.T.ob, wF_no X.T (by decide +kernel) (by decide +kernel), _, rfl, _, rfl, X.T, m, a, b, rfl, n2.at_.T, by omega, ?_⟩
      have RH := n2.res (N := fun z => upd (upd H r.rd (.ins CR r.dx (rF r.a (i + 1)))) r.rd (.ins CR r.dx (rF r.a (i + 1 + 1))) z = none) n2.tr R z3 z4
      rw [st.1] at RH
      exact Res.house n2.at_ (fun _ e => e) RH st.2.1 (small_gone n2.at_.S a b) st.2.2.1 st.2.2.2.1 st.2.2.2.2
    | parts a b =>
      obtain ⟨rfl, ed⟩ := List.cons.inj e
      obtain ⟨z1, z2, z3, z4⟩ := two ed
      refine ⟨_, rfl, r.rd, r.dx, _, rfl, n0.rd, rF_no r.a _ (by decide +kernel) (by decide +kernel), r.rd, r.dx, r.a, r.ns, _, _, rfl, n0.rd, n0.sq, z1, ?_⟩
      have n1 := n0.num (i + 1)
      refine ⟨_, rfl, r.rd, r.dx, _, rfl, n1.rd, rF_no r.a _ (by decide +kernel) (by decide +kernel), r.rd, r.dx, r.a, r.ns, _, _, rfl, n1.rd, n1.sq, z2, ?_⟩
      have n2 := n1.num (i + 1 + 1)
      refine ⟨_, rfl, rfl, _, rfl, iteF ?_⟩
      refine ⟨_, rfl, rfl, _, rfl, iteT ?_⟩
      refine ⟨_, rfl, X.T.p, X.T.dx, _, rfl, n2.at_.T.ob, wF_no X.T (by decide +kernel) (by decide +kernel), _, rfl, _, rfl, X.T, m, a, b, rfl, n2.at_.T, ?_⟩
      rw [step_parts n2.at_.R] at R
      have RH := n2.res (N := fun z => upd (upd H r.rd (.ins CR r.dx (rF r.a (i + 1)))) r.rd (.ins CR r.dx (rF r.a (i + 1 + 1))) z = none) n2.tr R z3 z4
      exact Res.house n2.at_ (fun _ e => e) RH n2.at_.R n2.at_.S rfl rfl rfl
    | take a b k =>
      obtain ⟨rfl, ed⟩ := List.cons.inj e
      obtain ⟨z1, z2, z3, z4⟩ := two ed
      obtain ⟨z5, z6⟩ := drop_head z3
      have z7 := drop_le z3
      refine ⟨_, rfl, r.rd, r.dx, _, rfl, n0.rd, rF_no r.a _ (by decide +kernel) (by decide +kernel), r.rd, r.dx, r.a, r.ns, _, _, rfl, n0.rd, n0.sq, z1, ?_⟩
      have n1 := n0.num (i + 1)
      refine ⟨_, rfl, r.rd, r.dx, _, rfl, n1.rd, rF_no r.a _ (by decide +kernel) (by decide +kernel), r.rd, r.dx, r.a, r.ns, _, _, rfl, n1.rd, n1.sq, z2, ?_⟩
      have n2 := n1.num (i + 1 + 1)
      refine ⟨_, rfl, rfl, _, rfl, iteF ?_⟩
      refine ⟨_, rfl, rfl, _, rfl, iteF ?_⟩
      refine ⟨_, rfl, r.rd, r.dx, _, rfl, n2.rd, rF_no r.a _ (by decide +kernel) (by decide +kernel), r.rd, r.dx, r.a, r.ns, _, _, rfl, n2.rd, n2.sq, z5, ?_⟩
      have n3 := n2.num (i + 1 + 1 + 1)
      refine ⟨_, rfl, rfl, _, rfl, iteT ?_⟩
      have st := step_take n3.at_.R a b k
      refine ⟨_, rfl, X.T.p, X.T.dx, _, rfl, n3.at_.T.ob, wF_no X.T (by decide +kernel) (by decide +kernel), _, rfl, _, rfl, _, rfl, X.T, m, a, b, k, rfl, n3.at_.T, ?_⟩
      have RH := n3.res (N := fun z => upd (upd (upd H r.rd (.ins CR r.dx (rF r.a (i + 1)))) r.rd (.ins CR r.dx (rF r.a (i + 1 + 1)))) r.rd (.ins CR r.dx (rF r.a (i + 1 + 1 + 1))) z = none) n3.tr R z6 z7
      rw [st.1] at RH
      exact Res.house n3.at_ (fun _ e => e) RH st.2.1 (small_take n3.at_.S a b k) st.2.2.1 st.2.2.2.1 st.2.2.2.2
    | get a b k =>
      obtain ⟨rfl, ed⟩ := List.cons.inj e
      obtain ⟨z1, z2, z3, z4⟩ := two ed
      obtain ⟨z5, z6⟩ := drop_head z3
      have z7 := drop_le z3
      refine ⟨_, rfl, r.rd, r.dx, _, rfl, n0.rd, rF_no r.a _ (by decide +kernel) (by decide +kernel), r.rd, r.dx, r.a, r.ns, _, _, rfl, n0.rd, n0.sq, z1, ?_⟩
      have n1 := n0.num (i + 1)
      refine ⟨_, rfl, r.rd, r.dx, _, rfl, n1.rd, rF_no r.a _ (by decide +kernel) (by decide +kernel), r.rd, r.dx, r.a, r.ns, _, _, rfl, n1.rd, n1.sq, z2, ?_⟩
      have n2 := n1.num (i + 1 + 1)
      refine ⟨_, rfl, rfl, _, rfl, iteF ?_⟩
      refine ⟨_, rfl, rfl, _, rfl, iteF ?_⟩
      refine ⟨_, rfl, r.rd, r.dx, _, rfl, n2.rd, rF_no r.a _ (by decide +kernel) (by decide +kernel), r.rd, r.dx, r.a, r.ns, _, _, rfl, n2.rd, n2.sq, z5, ?_⟩
      have n3 := n2.num (i + 1 + 1 + 1)
      refine ⟨_, rfl, rfl, _, rfl, iteF ?_⟩
      refine ⟨_, rfl, rfl, _, rfl, iteT ?_⟩
      refine ⟨_, rfl, X.T.p, X.T.dx, _, rfl, n3.at_.T.ob, wF_no X.T (by decide +kernel) (by decide +kernel), _, rfl, _, rfl, _, rfl, X.T, m, a, b, k, rfl, n3.at_.T, ?_⟩
      rw [step_get n3.at_.R] at R
      have RH := n3.res (N := fun z => upd (upd (upd H r.rd (.ins CR r.dx (rF r.a (i + 1)))) r.rd (.ins CR r.dx (rF r.a (i + 1 + 1)))) r.rd (.ins CR r.dx (rF r.a (i + 1 + 1 + 1))) z = none) n3.tr R z6 z7
      exact Res.house n3.at_ (fun _ e => e) RH n3.at_.R n3.at_.S rfl rfl rfl
    | put a b k v =>
      obtain ⟨rfl, ed⟩ := List.cons.inj e
      obtain ⟨z1, z2, z3, z4⟩ := two ed
      obtain ⟨z5, z6⟩ := drop_head z3
      obtain ⟨z8, z9⟩ := drop_head z6
      have z7 := drop_le z6
      refine ⟨_, rfl, r.rd, r.dx, _, rfl, n0.rd, rF_no r.a _ (by decide +kernel) (by decide +kernel), r.rd, r.dx, r.a, r.ns, _, _, rfl, n0.rd, n0.sq, z1, ?_⟩
      have n1 := n0.num (i + 1)
      refine ⟨_, rfl, r.rd, r.dx, _, rfl, n1.rd, rF_no r.a _ (by decide +kernel) (by decide +kernel), r.rd, r.dx, r.a, r.ns, _, _, rfl, n1.rd, n1.sq, z2, ?_⟩
      have n2 := n1.num (i + 1 + 1)
      refine ⟨_, rfl, rfl, _, rfl, iteF ?_⟩
      refine ⟨_, rfl, rfl, _, rfl, iteF ?_⟩
      refine ⟨_, rfl, r.rd, r.dx, _, rfl, n2.rd, rF_no r.a _ (by decide +kernel) (by decide +kernel), r.rd, r.dx, r.a, r.ns, _, _, rfl, n2.rd, n2.sq, z5, ?_⟩
      have n3 := n2.num (i + 1 + 1 + 1)
      refine ⟨_, rfl, rfl, _, rfl, iteF ?_⟩
      refine ⟨_, rfl, rfl, _, rfl, iteF ?_⟩
      refine ⟨_, rfl, X.T.p, X.T.dx, _, rfl, n3.at_.T.ob, wF_no X.T (by decide +kernel) (by decide +kernel), _, rfl, _, rfl, _, rfl, _, rfl, r.rd, r.dx, _, rfl, n3.rd, rF_no r.a _ (by decide +kernel) (by decide +kernel), r.rd, r.dx, r.a, r.ns, _, _, rfl, n3.rd, n3.sq, z8, ?_⟩
      have n4 := n3.num (i + 1 + 1 + 1 + 1)
      have st := step_put n4.at_.R a b k v
      refine ⟨X.T, m, a, b, k, v, rfl, n4.at_.T, ?_⟩
      have RH := n4.res (N := fun z => upd (upd (upd (upd H r.rd (.ins CR r.dx (rF r.a (i + 1)))) r.rd (.ins CR r.dx (rF r.a (i + 1 + 1)))) r.rd (.ins CR r.dx (rF r.a (i + 1 + 1 + 1)))) r.rd (.ins CR r.dx (rF r.a (i + 1 + 1 + 1 + 1))) z = none) n4.tr R z9 z7
      rw [st.1] at RH
      exact Res.house n4.at_ (fun _ e => e) RH st.2.1 (small_put n4.at_.S a b k v) st.2.2.1 st.2.2.2.1 st.2.2.2.2
end
end Pw

namespace Pw
open L2 PySem PySem.Spec PyProof.Rows
open Ge01 (Part Name Change Thing)
section
variable {K : PySem.W.Frag} {P : Program} {w : World} {mg : Str → Option Value} {base : Heap} {cs : Cs} {CR : Addr}
abbrev s_answer_call : Stmt := top 44
abbrev N_answer_call : List Str := ["world", "reader", "call", "kind"]
theorem sc_answer_call : FnScope N_answer_call ["world", "reader"] (defScope s_answer_call) := ⟨rfl, rfl, rfl, by decide +kernel, rfl, by decide +kernel, by decide +kernel⟩
def sp_answer_call (K : PySem.W.Frag) (cs : Cs) (CR : Addr) : Sp := fun vs H Q _ => ∃ (X : HLay) (r : Rdr) (g : Ge01.St) (i : Nat) (c : Ge01.Call) (t : List Int), vs = [.ref X.p, .ref r.rd] ∧ HAt cs H X g ∧ H r.rd = some (.ins CR r.dx (rF r.a i)) ∧ ¬ FpH X r.rd ∧ Stay K H X r.rd r.a r.ns ∧ r.ns.length ≤ 2400 ∧ Rd (r.ns.drop i) c t ∧ ResC cs CR H X r (Ge01.step g c).1 (Ge01.step g c).2 t Q
theorem ok_answer_call {f : Addr} {fd : FuncData} (F : Fun K "answer_call" "answer_call" s_answer_call f fd) (T : Con mg) (R : HTxt K cs.W) (D_Reader_number : MethOk P w K mg base 1 CR "number" ["self"] (sp_Reader_number K CR)) (D_Reader_row : MethOk P w K mg base 2 CR "row" ["self"] (sp_Reader_row K CR))
    (D_answer_by_name : DefOk P w K mg base 3 "answer_by_name" ["things", "call", "reader"] (sp_answer_by_name K cs CR)) (D_read_question : DefOk P w K mg base 3 "read_question" ["reader"] (sp_read_question K cs CR))
    (D_Things_make : MethOk P w K mg base 3 cs.T "make" ["self", "parts"] (sp_Things_make cs.T)) (D_Things_ask : MethOk P w K mg base 3 cs.T "ask" ["self", "question"] (sp_Things_ask cs.T cs.Q)) (D_Things_sum_of : MethOk P w K mg base 3 cs.T "sum_of" ["self", "kind", "question"] (sp_Things_sum_of cs.T cs.Q))
    (D_World_later : MethOk P w K mg base 4 cs.W "later" ["self", "change"] (sp_World_later cs)) (D_World_apply : MethOk P w K mg base 5 cs.W "apply" ["self"] (sp_World_apply cs)) (D_World_keep : MethOk P w K mg base 3 cs.W "keep" ["self", "question"] (sp_World_keep cs))
    (D_World_fresh : MethOk P w K mg base 3 cs.W "fresh" ["self", "which"] (sp_World_fresh cs)) (D_World_counts : MethOk P w K mg base 2 cs.W "counts" ["self"] (sp_World_counts cs)) : FnOk P w K mg base CX0 6 f fd ["world", "reader"] (sp_answer_call K cs CR) := by
  refine F.ok sc_answer_call (fun vs H Q E h => ?_) (fun cdv A outer s H vs Q E hr h => ?_)
  · obtain ⟨X, r, g, i, c, t, rfl, _⟩ := h
    rfl
  · obtain ⟨X, r, g, i, c, t, rfl, ⟨m, h⟩, hrd, nrd, stay, hl, hc, q⟩ := h
    refine ⟨_, (pss_cons (ps_set (i := 2) sc_answer_call.nd rfl (Or.inl rfl) (pe_me0 (pv 1) D_Reader_number (hr.mono (by decide))))
      (pss_cons (ps_if (pt_cmpR op_in_seq (pv 2) (pe_tup (pa_cons (pe_gc T.GONE) (pa_cons (pe_gc T.PUT) (pa_cons (pe_gc T.TAKE) (pa_cons (pe_gc T.GET) (pa_cons (pe_gc T.PARTS) pa_nil)))))) (by rfl)) (pss_one (ps_ret (pe_fn D_answer_by_name (hr.mono (by decide)) (pa_cons (pe_fld (pv 0) rfl) (pa_cons (pv 2) (pa_cons (pv 1) pa_nil)))))) pss_nil)
      (pss_cons (ps_if (pt_cmpR op_eq (pv 2) (pe_gc T.MAKE) (nomark _)) (pss_one (ps_ret (pe_me (pe_fld (pv 0) rfl) D_Things_make (hr.mono (by decide)) (pa_cons (pe_me0 (pv 1) D_Reader_row (hr.mono (by decide))) pa_nil)))) pss_nil)
      (pss_cons (ps_if (pt_cmpR op_eq (pv 2) (pe_gc T.LATER) (nomark _)) (pss_one (ps_ret (pe_me (pv 0) D_World_later (hr.mono (by decide)) (pa_cons (pe_me0 (pv 1) D_Reader_row (hr.mono (by decide))) pa_nil)))) pss_nil)
      (pss_cons (ps_if (pt_cmpR op_eq (pv 2) (pe_gc T.APPLY) (nomark _)) (pss_one (ps_ret (pe_me0 (pv 0) D_World_apply (hr.mono (by decide))))) pss_nil)
      (pss_cons (ps_if (pt_cmpR op_eq (pv 2) (pe_gc T.ASK) (nomark _)) (pss_one (ps_ret (pe_me (pe_fld (pv 0) rfl) D_Things_ask (hr.mono (by decide)) (pa_cons (pe_fn D_read_question (hr.mono (by decide)) (pa_cons (pv 1) pa_nil)) pa_nil)))) pss_nil)
      (pss_cons (ps_if (pt_cmpR op_eq (pv 2) (pe_gc T.KEEP) (nomark _)) (pss_one (ps_ret (pe_me (pv 0) D_World_keep (hr.mono (by decide)) (pa_cons (pe_fn D_read_question (hr.mono (by decide)) (pa_cons (pv 1) pa_nil)) pa_nil)))) pss_nil)
      (pss_cons (ps_if (pt_cmpR op_eq (pv 2) (pe_gc T.FRESH) (nomark _)) (pss_one (ps_ret (pe_me (pv 0) D_World_fresh (hr.mono (by decide)) (pa_cons (pe_me0 (pv 1) D_Reader_number (hr.mono (by decide))) pa_nil)))) pss_nil)
      (pss_cons (ps_if (pt_cmpR op_eq (pv 2) (pe_gc T.SUM) (nomark _)) (pss_cons (ps_set (i := 3) sc_answer_call.nd rfl (Or.inl rfl) (pe_me0 (pv 1) D_Reader_number (hr.mono (by decide))))
      (pss_one (ps_ret (pe_me (pe_fld (pv 0) rfl) D_Things_sum_of (hr.mono (by decide)) (pa_cons (pv 3) (pa_cons (pe_fn D_read_question (hr.mono (by decide)) (pa_cons (pv 1) pa_nil)) pa_nil)))))) pss_nil)
      (pss_one (ps_ret (pe_me0 (pv 0) D_World_counts (hr.mono (by decide)))))))))))))), ?_⟩
    have sl := h.S.len
    have n0 : Now K cs CR H X r g m H i := ⟨fun z o e _ => e, fun z e => e, hrd, h, stay, nrd, ⟨_, hrd⟩⟩
    have n1 := n0.num (i + 1)
    have hno : ∀ {a b c : Addr} {x : Str}, (x == ("things" : Str)) = false → (x == ("put_off" : Str)) = false → (x == ("kept" : Str)) = false → (hF a b c).lookup x = none := fun h1 h2 h3 => hF_no _ _ _ h1 h2 h3
    have tup : ∀ {p : Addr}, (upd H r.rd (.ins CR r.dx (rF r.a (i + 1)))) p = none → Now K cs CR H X r g m (upd (upd H r.rd (.ins CR r.dx (rF r.a (i + 1)))) p (.tup [.int 1, .int 2, .int 3, .int 4, .int 5])) (i + 1) := fun hp => n1.same (Same.new hp)
    -- a row is read
    have rowAt : ∀ {H2 : Hp} {j : Nat} {l : Addr} {x : List Int}, Now K cs CR H X r g m H2 j → H2 l = none → Now K cs CR H X r g m (upd (upd H2 r.rd (.ins CR r.dx (rF r.a (j + 1 + x.length)))) l (.lst (IL x))) (j + 1 + x.length) := fun {H2 j l x} n hl => (n.num _).same (Same.new (by
      rw [upd_ne (fun e => by rw [e, n.rd] at hl; cases hl)]
      exact hl))
    generalize e : r.ns.drop i = u at hc
    cases hc with
    | gone a b =>
      obtain ⟨z1, z2⟩ := drop_head e
      have z3 := drop_le e
      refine ⟨_, rfl, r.rd, r.dx, _, rfl, n0.rd, rF_no r.a _ (by decide +kernel) (by decide +kernel), r.rd, r.dx, r.a, r.ns, _, _, rfl, n0.rd, n0.sq, z1, ?_⟩
      refine ⟨_, rfl, (by show 5 ≤ sizeLine; decide), fun p hp => ⟨p, _, rfl, .inr (SqT.of upd_same), rfl, rfl, _, rfl, iteT ?_⟩⟩
      have n2 := tup hp
      refine ⟨_, rfl, X.p, cs.W, X.dx, _, _, rfl, n2.at_.O.ob, R.cl, R.nT, hF_t _ _ _, _, rfl, _, rfl, H, X, r, g, m, i + 1, _, t, 1, rfl, n2, ?_, by decide, by decide, q⟩
      rw [z2]
      constructor
    | put a b k v =>
      obtain ⟨z1, z2⟩ := drop_head e
      have z3 := drop_le e
      refine ⟨_, rfl, r.rd, r.dx, _, rfl, n0.rd, rF_no r.a _ (by decide +kernel) (by decide +kernel), r.rd, r.dx, r.a, r.ns, _, _, rfl, n0.rd, n0.sq, z1, ?_⟩
      refine ⟨_, rfl, (by show 5 ≤ sizeLine; decide), fun p hp => ⟨p, _, rfl, .inr (SqT.of upd_same), rfl, rfl, _, rfl, iteT ?_⟩⟩
      have n2 := tup hp
      refine ⟨_, rfl, X.p, cs.W, X.dx, _, _, rfl, n2.at_.O.ob, R.cl, R.nT, hF_t _ _ _, _, rfl, _, rfl, H, X, r, g, m, i + 1, _, t, 2, rfl, n2, ?_, by decide, by decide, q⟩
      rw [z2]
      constructor
    | take a b k =>
      obtain ⟨z1, z2⟩ := drop_head e
      have z3 := drop_le e
      refine ⟨_, rfl, r.rd, r.dx, _, rfl, n0.rd, rF_no r.a _ (by decide +kernel) (by decide +kernel), r.rd, r.dx, r.a, r.ns, _, _, rfl, n0.rd, n0.sq, z1, ?_⟩
      refine ⟨_, rfl, (by show 5 ≤ sizeLine; decide), fun p hp => ⟨p, _, rfl, .inr (SqT.of upd_same), rfl, rfl, _, rfl, iteT ?_⟩⟩
      have n2 := tup hp
      refine ⟨_, rfl, X.p, cs.W, X.dx, _, _, rfl, n2.at_.O.ob, R.cl, R.nT, hF_t _ _ _, _, rfl, _, rfl, H, X, r, g, m, i + 1, _, t, 3, rfl, n2, ?_, by decide, by decide, q⟩
      rw [z2]
      constructor
    | get a b k =>
      obtain ⟨z1, z2⟩ := drop_head e
      have z3 := drop_le e
      refine ⟨_, rfl, r.rd, r.dx, _, rfl, n0.rd, rF_no r.a _ (by decide +kernel) (by decide +kernel), r.rd, r.dx, r.a, r.ns, _, _, rfl, n0.rd, n0.sq, z1, ?_⟩
      refine ⟨_, rfl, (by show 5 ≤ sizeLine; decide), fun p hp => ⟨p, _, rfl, .inr (SqT.of upd_same), rfl, rfl, _, rfl, iteT ?_⟩⟩
      have n2 := tup hp
      refine ⟨_, rfl, X.p, cs.W, X.dx, _, _, rfl, n2.at_.O.ob, R.cl, R.nT, hF_t _ _ _, _, rfl, _, rfl, H, X, r, g, m, i + 1, _, t, 4, rfl, n2, ?_, by decide, by decide, q⟩
      rw [z2]
      constructor
    | parts a b =>
      obtain ⟨z1, z2⟩ := drop_head e
      have z3 := drop_le e
      refine ⟨_, rfl, r.rd, r.dx, _, rfl, n0.rd, rF_no r.a _ (by decide +kernel) (by decide +kernel), r.rd, r.dx, r.a, r.ns, _, _, rfl, n0.rd, n0.sq, z1, ?_⟩
      refine ⟨_, rfl, (by show 5 ≤ sizeLine; decide), fun p hp => ⟨p, _, rfl, .inr (SqT.of upd_same), rfl, rfl, _, rfl, iteT ?_⟩⟩
      have n2 := tup hp
      refine ⟨_, rfl, X.p, cs.W, X.dx, _, _, rfl, n2.at_.O.ob, R.cl, R.nT, hF_t _ _ _, _, rfl, _, rfl, H, X, r, g, m, i + 1, _, t, 5, rfl, n2, ?_, by decide, by decide, q⟩
      rw [z2]
      constructor
    | make p =>
      obtain ⟨z1, z2⟩ := drop_head e
      have z3 := drop_le e
      refine ⟨_, rfl, r.rd, r.dx, _, rfl, n0.rd, rF_no r.a _ (by decide +kernel) (by decide +kernel), r.rd, r.dx, r.a, r.ns, _, _, rfl, n0.rd, n0.sq, z1, ?_⟩
      refine ⟨_, rfl, (by show 5 ≤ sizeLine; decide), fun pt hp => ⟨pt, _, rfl, .inr (SqT.of upd_same), rfl, rfl, _, rfl, iteF ?_⟩⟩
      have n2 := tup hp
      refine ⟨_, rfl, rfl, _, rfl, iteT ?_⟩
      refine ⟨_, rfl, X.p, cs.W, X.dx, _, _, rfl, n2.at_.O.ob, R.cl, R.nT, hF_t _ _ _, X.T.p, X.T.dx, _, rfl, n2.at_.T.ob, wF_no X.T (by decide +kernel) (by decide +kernel), _, rfl, r.rd, r.dx, _, rfl, n2.rd, rF_no r.a _ (by decide +kernel) (by decide +kernel), r.rd, r.dx, r.a, r.ns, _, flat p, _, rfl, n2.rd, n2.sq, z2, fun l hl' => ?_⟩
      have n3 := rowAt (x := flat p) n2 hl'
      obtain ⟨y1, y2, y3⟩ := drop_row z2
      have fl := flat_len p
      have st := step_make n3.at_.R p
      refine ⟨X.T, m, l, p, rfl, n3.at_.T, upd_same, n2.at_.T.no hl', by omega, by omega, ?_⟩
      have RH := n3.res (N := fun z => upd (upd (upd (upd H r.rd (.ins CR r.dx (rF r.a (i + 1)))) pt (.tup [.int 1, .int 2, .int 3, .int 4, .int 5])) r.rd (.ins CR r.dx (rF r.a (i + 1 + 1 + (flat p).length)))) l (.lst (IL (flat p))) z = none) n3.tr q y1 y2
      rw [st.1] at RH
      exact Res.house n3.at_ (fun _ e => e) RH st.2.1 (small_make n3.at_.S p) st.2.2.1 st.2.2.2.1 st.2.2.2.2
    | later c =>
      obtain ⟨z1, z2⟩ := drop_head e
      have z3 := drop_le e
      refine ⟨_, rfl, r.rd, r.dx, _, rfl, n0.rd, rF_no r.a _ (by decide +kernel) (by decide +kernel), r.rd, r.dx, r.a, r.ns, _, _, rfl, n0.rd, n0.sq, z1, ?_⟩
      refine ⟨_, rfl, (by show 5 ≤ sizeLine; decide), fun pt hp => ⟨pt, _, rfl, .inr (SqT.of upd_same), rfl, rfl, _, rfl, iteF ?_⟩⟩
      have n2 := tup hp
      refine ⟨_, rfl, rfl, _, rfl, iteF ?_⟩
      refine ⟨_, rfl, rfl, _, rfl, iteT ?_⟩
      refine ⟨_, rfl, X.p, X.dx, _, rfl, n2.at_.O.ob, hno (by decide +kernel) (by decide +kernel) (by decide +kernel), _, rfl, r.rd, r.dx, _, rfl, n2.rd, rF_no r.a _ (by decide +kernel) (by decide +kernel), r.rd, r.dx, r.a, r.ns, _, crow c, _, rfl, n2.rd, n2.sq, z2, fun l hl' => ?_⟩
      have n3 := rowAt (x := crow c) n2 hl'
      obtain ⟨y1, y2, y3⟩ := drop_row z2
      refine ⟨X, g, l, c, rfl, ⟨m, n3.at_⟩, upd_same, n2.at_.no hl', by omega, ?_⟩
      refine n3.res (fun z f => ?_) q y1 y2
      rcases f with rfl | f
      · exact n2.tr _ hl'
      · exact n3.tr z f
    | apply =>
      obtain ⟨z1, z2⟩ := drop_head e
      have z3 := drop_le e
      refine ⟨_, rfl, r.rd, r.dx, _, rfl, n0.rd, rF_no r.a _ (by decide +kernel) (by decide +kernel), r.rd, r.dx, r.a, r.ns, _, _, rfl, n0.rd, n0.sq, z1, ?_⟩
      refine ⟨_, rfl, (by show 5 ≤ sizeLine; decide), fun pt hp => ⟨pt, _, rfl, .inr (SqT.of upd_same), rfl, rfl, _, rfl, iteF ?_⟩⟩
      have n2 := tup hp
      refine ⟨_, rfl, rfl, _, rfl, iteF ?_⟩
      refine ⟨_, rfl, rfl, _, rfl, iteF ?_⟩
      refine ⟨_, rfl, rfl, _, rfl, iteT ?_⟩
      refine ⟨_, rfl, X.p, X.dx, _, rfl, n2.at_.O.ob, hno (by decide +kernel) (by decide +kernel) (by decide +kernel), X, g, rfl, ⟨m, n2.at_⟩, n2.res (fun z f => n2.tr z f) q z2 z3⟩
    | ask qn =>
      obtain ⟨z1, z2⟩ := drop_head e
      have z3 := drop_le e
      refine ⟨_, rfl, r.rd, r.dx, _, rfl, n0.rd, rF_no r.a _ (by decide +kernel) (by decide +kernel), r.rd, r.dx, r.a, r.ns, _, _, rfl, n0.rd, n0.sq, z1, ?_⟩
      refine ⟨_, rfl, (by show 5 ≤ sizeLine; decide), fun pt hp => ⟨pt, _, rfl, .inr (SqT.of upd_same), rfl, rfl, _, rfl, iteF ?_⟩⟩
      have n2 := tup hp
      refine ⟨_, rfl, rfl, _, rfl, iteF ?_⟩
      refine ⟨_, rfl, rfl, _, rfl, iteF ?_⟩
      refine ⟨_, rfl, rfl, _, rfl, iteF ?_⟩
      refine ⟨_, rfl, rfl, _, rfl, iteT ?_⟩
      obtain ⟨_, _, _, _, _, _, y1, y2, y3⟩ := drop_q z2
      refine ⟨_, rfl, X.p, cs.W, X.dx, _, _, rfl, n2.at_.O.ob, R.cl, R.nT, hF_t _ _ _, X.T.p, X.T.dx, _, rfl, n2.at_.T.ob, wF_no X.T (by decide +kernel) (by decide +kernel), _, rfl, H, X, r, g, m, i + 1, qn, _, rfl, n2, z2, fun H3 Y j A3 n3 hY hj hjl => ?_⟩
      rw [step_ask n3.at_.R] at q
      exact ⟨X.T, m, Y, qn, rfl, n3.at_.T, A3, ⟨by omega, by omega, by omega⟩, by omega, Res.house n3.at_ (fun _ e => n3.tr _ e) (n3.res (N := fun z => H z = none) (fun _ e => e) q hj hjl) n3.at_.R n3.at_.S rfl rfl rfl⟩
    | keep qn =>
      obtain ⟨z1, z2⟩ := drop_head e
      have z3 := drop_le e
      refine ⟨_, rfl, r.rd, r.dx, _, rfl, n0.rd, rF_no r.a _ (by decide +kernel) (by decide +kernel), r.rd, r.dx, r.a, r.ns, _, _, rfl, n0.rd, n0.sq, z1, ?_⟩
      refine ⟨_, rfl, (by show 5 ≤ sizeLine; decide), fun pt hp => ⟨pt, _, rfl, .inr (SqT.of upd_same), rfl, rfl, _, rfl, iteF ?_⟩⟩
      have n2 := tup hp
      refine ⟨_, rfl, rfl, _, rfl, iteF ?_⟩
      refine ⟨_, rfl, rfl, _, rfl, iteF ?_⟩
      refine ⟨_, rfl, rfl, _, rfl, iteF ?_⟩
      refine ⟨_, rfl, rfl, _, rfl, iteF ?_⟩
      refine ⟨_, rfl, rfl, _, rfl, iteT ?_⟩
      obtain ⟨_, _, _, _, _, _, y1, y2, y3⟩ := drop_q z2
      refine ⟨_, rfl, X.p, X.dx, _, rfl, n2.at_.O.ob, hno (by decide +kernel) (by decide +kernel) (by decide +kernel), _, rfl, H, X, r, g, m, i + 1, qn, _, rfl, n2, z2, fun H3 Y j A3 n3 hY hj hjl => ?_⟩
      refine ⟨X, g, Y, qn, rfl, ⟨m, n3.at_⟩, A3, fun z f => n2.at_.no (hY z f), by omega, by omega, by omega, n3.res (fun z f => ?_) q hj hjl⟩
      rcases f with f | f
      · exact n2.tr _ (hY z f)
      · exact n3.tr z f
    | fresh k =>
      obtain ⟨z1, z2⟩ := drop_head e
      have z3 := drop_le e
      refine ⟨_, rfl, r.rd, r.dx, _, rfl, n0.rd, rF_no r.a _ (by decide +kernel) (by decide +kernel), r.rd, r.dx, r.a, r.ns, _, _, rfl, n0.rd, n0.sq, z1, ?_⟩
      refine ⟨_, rfl, (by show 5 ≤ sizeLine; decide), fun pt hp => ⟨pt, _, rfl, .inr (SqT.of upd_same), rfl, rfl, _, rfl, iteF ?_⟩⟩
      have n2 := tup hp
      refine ⟨_, rfl, rfl, _, rfl, iteF ?_⟩
      refine ⟨_, rfl, rfl, _, rfl, iteF ?_⟩
      refine ⟨_, rfl, rfl, _, rfl, iteF ?_⟩
      refine ⟨_, rfl, rfl, _, rfl, iteF ?_⟩
      refine ⟨_, rfl, rfl, _, rfl, iteF ?_⟩
      refine ⟨_, rfl, rfl, _, rfl, iteT ?_⟩
      obtain ⟨z4, z5⟩ := drop_head z2
      have z6 := drop_le z2
      refine ⟨_, rfl, X.p, X.dx, _, rfl, n2.at_.O.ob, hno (by decide +kernel) (by decide +kernel) (by decide +kernel), _, rfl, r.rd, r.dx, _, rfl, n2.rd, rF_no r.a _ (by decide +kernel) (by decide +kernel), r.rd, r.dx, r.a, r.ns, _, _, rfl, n2.rd, n2.sq, z4, ?_⟩
      have n3 := n2.num (i + 1 + 1)
      exact ⟨X, g, k, rfl, ⟨m, n3.at_⟩, n3.res (fun z f => n3.tr z f) q z5 z6⟩
    | sum k qn =>
      obtain ⟨z1, z2⟩ := drop_head e
      have z3 := drop_le e
      refine ⟨_, rfl, r.rd, r.dx, _, rfl, n0.rd, rF_no r.a _ (by decide +kernel) (by decide +kernel), r.rd, r.dx, r.a, r.ns, _, _, rfl, n0.rd, n0.sq, z1, ?_⟩
      refine ⟨_, rfl, (by show 5 ≤ sizeLine; decide), fun pt hp => ⟨pt, _, rfl, .inr (SqT.of upd_same), rfl, rfl, _, rfl, iteF ?_⟩⟩
      have n2 := tup hp
      refine ⟨_, rfl, rfl, _, rfl, iteF ?_⟩
      refine ⟨_, rfl, rfl, _, rfl, iteF ?_⟩
      refine ⟨_, rfl, rfl, _, rfl, iteF ?_⟩
      refine ⟨_, rfl, rfl, _, rfl, iteF ?_⟩
      refine ⟨_, rfl, rfl, _, rfl, iteF ?_⟩
      refine ⟨_, rfl, rfl, _, rfl, iteF ?_⟩
      refine ⟨_, rfl, rfl, _, rfl, iteT ?_⟩
      obtain ⟨z4, z5⟩ := drop_head z2
      refine ⟨_, rfl, r.rd, r.dx, _, rfl, n2.rd, rF_no r.a _ (by decide +kernel) (by decide +kernel), r.rd, r.dx, r.a, r.ns, _, _, rfl, n2.rd, n2.sq, z4, ?_⟩
      have n4 := n2.num (i + 1 + 1)
      obtain ⟨_, _, _, _, _, _, y1, y2, y3⟩ := drop_q z5
      refine ⟨_, rfl, X.p, cs.W, X.dx, _, _, rfl, n4.at_.O.ob, R.cl, R.nT, hF_t _ _ _, X.T.p, X.T.dx, _, rfl, n4.at_.T.ob, wF_no X.T (by decide +kernel) (by decide +kernel), _, rfl, _, rfl, H, X, r, g, m, i + 1 + 1, qn, _, rfl, n4, z5, fun H3 Y j A3 n3 hY hj hjl => ?_⟩
      rw [step_sum n3.at_.R] at q
      exact ⟨X.T, m, k, Y, qn, rfl, n3.at_.T, A3, ⟨by omega, by omega, by omega⟩, by omega, Res.house n3.at_ (fun _ e => n3.tr _ e) (n3.res (N := fun z => H z = none) (fun _ e => e) q hj hjl) n3.at_.R n3.at_.S rfl rfl rfl⟩
    | count =>
      obtain ⟨z1, z2⟩ := drop_head e
      have z3 := drop_le e
      refine ⟨_, rfl, r.rd, r.dx, _, rfl, n0.rd, rF_no r.a _ (by decide +kernel) (by decide +kernel), r.rd, r.dx, r.a, r.ns, _, _, rfl, n0.rd, n0.sq, z1, ?_⟩
      refine ⟨_, rfl, (by show 5 ≤ sizeLine; decide), fun pt hp => ⟨pt, _, rfl, .inr (SqT.of upd_same), rfl, rfl, _, rfl, iteF ?_⟩⟩
      have n2 := tup hp
      refine ⟨_, rfl, rfl, _, rfl, iteF ?_⟩
      refine ⟨_, rfl, rfl, _, rfl, iteF ?_⟩
      refine ⟨_, rfl, rfl, _, rfl, iteF ?_⟩
      refine ⟨_, rfl, rfl, _, rfl, iteF ?_⟩
      refine ⟨_, rfl, rfl, _, rfl, iteF ?_⟩
      refine ⟨_, rfl, rfl, _, rfl, iteF ?_⟩
      refine ⟨_, rfl, rfl, _, rfl, iteF ?_⟩
      exact ⟨_, rfl, X.p, X.dx, _, rfl, n2.at_.O.ob, hno (by decide +kernel) (by decide +kernel) (by decide +kernel), X, g, rfl, ⟨m, n2.at_⟩, n2.res (fun z f => n2.tr z f) q z2 z3⟩
end
end Pw

/-! The loop over the calls. -/
namespace Pw
open L2 PySem PySem.Spec PyProof.Rows
open Ge01 (Part Name Change Thing)
theorem rd_pos {r t : List Int} {c : Ge01.Call} (h : Rd r c t) : t.length < r.length := by
  cases h <;> simp [rowed, qrow] <;> omega
theorem told_cons (x : List Int) (l : List (List Int)) : PyFlat.told (x :: l) = (x.length : Int) :: x ++ PyFlat.told l := rfl
section
variable {K : PySem.W.Frag} {P : Program} {w : World} {mg : Str → Option Value} {base : Heap} {cs : Cs} {CR : Addr}
abbrev s_answers : Stmt := top 45
abbrev N_answers : List Str := ["calls", "world", "reader", "told", "answer"]
theorem sc_answers : FnScope N_answers ["calls"] (defScope s_answers) := ⟨rfl, rfl, rfl, by decide +kernel, rfl, by decide +kernel, by decide +kernel⟩
def sp_answers (K : PySem.W.Frag) : Sp := fun vs H Q _ => ∃ (a : Addr) (ns : List Int), vs = [.ref a] ∧ SqL K H a (IL ns) ∧ ns.length ≤ 2400 ∧ PyGe01.answers_asked ns = true ∧
  ∀ (H' : Hp) (p : Addr), H' p = some (.lst (IL (PyGe01.answers ns))) → Q (.ref p) H'
theorem ok_answers {f : Addr} {fd : FuncData} (F : Fun K "answers" "answers" s_answers f fd) (T : Con mg) (D_World : MakeOk P w K mg base 3 "World" cs.W ["self"] (sp_World___init__ cs)) (D_Reader : MakeOk P w K mg base 1 "Reader" CR ["self", "numbers"] (sp_Reader___init__ CR))
    (D_Reader_more : MethOk P w K mg base 1 CR "more" ["self"] (sp_Reader_more K CR)) (D_answer_call : DefOk P w K mg base 6 "answer_call" ["world", "reader"] (sp_answer_call K cs CR)) : FnOk P w K mg base CX0 7 f fd ["calls"] (sp_answers K) := by
  refine F.ok sc_answers (fun vs H Q E h => ?_) (fun cdv A outer s H vs Q E hr h => ?_)
  · obtain ⟨a, ns, rfl, _⟩ := h
    rfl
  · obtain ⟨a, ns, rfl, hS, hl, hask, q⟩ := h
    obtain ⟨cl, hrds, hcs, hans, hsz⟩ := decode hask
    refine ⟨_, (pss_cons (ps_set (i := 1) sc_answers.nd rfl (Or.inl rfl) (pe_mk0 D_World (hr.mono (by decide))))
      (pss_cons (ps_set (i := 2) sc_answers.nd rfl (Or.inl rfl) (pe_mk D_Reader (hr.mono (by decide)) (pa_cons (pv 0) pa_nil)))
      (pss_cons (ps_set (i := 3) sc_answers.nd rfl (Or.inl rfl) (pe_lst pa_nil))
      (pss_cons (ps_while PassesOwn.never (pt_val (pe_me0 (pv 2) D_Reader_more (hr.mono (by decide)))) (pss_cons (ps_set (i := 4) sc_answers.nd rfl (Or.inl rfl) (pe_fn D_answer_call (hr.mono (by decide)) (pa_cons (pv 1) (pa_cons (pv 2) pa_nil))))
      (pss_cons (ps_expr (pe_bm PySem.F.plainAttrs_list PySem.F.slot_list_append PySem.F.type_list_append mt_append (pv 3) (pa_cons (pe_callB call_len_seq (by rfl) T.len PySem.boot_len (pa_cons (pv 4) pa_nil)) pa_nil)))
      (pss_one (ps_expr (pe_bm PySem.F.plainAttrs_list PySem.F.slot_list_extend PySem.F.type_list_extend mt_extend (pv 3) (pa_cons (pv 4) pa_nil)))))))
      (pss_one (ps_ret (pv 3))))))), ?_⟩
    -- world = World()
    intro x dx nx ndx nex
    refine ⟨x, dx, rfl, upd_same, fun H1 L1 W1' ep1 k1 f1 t1 => ⟨rfl, ?_⟩⟩
    subst ep1
    have s1 : Same H H1 := Same.made nx ndx k1
    have fp1 : ∀ z, FpH L1 z → H z = none := fun z f => by
      rcases f1 z f with rfl | e
      · exact nx
      · exact upd_none (upd_none e)
    -- reader = Reader(calls)
    refine ⟨_, rfl, ?_⟩
    intro y dy ny ndy ney
    refine ⟨y, dy, a, rfl, upd_same, rfl, ?_⟩
    have e2 : (upd (upd (upd H1 dy (.own y)) y (.ins CR dy [])) y (.ins CR dy (rF a 0))) = upd (upd H1 dy (.own y)) y (.ins CR dy (rF a 0)) := upd_upd
    rw [e2]
    have s2 : Same H1 (upd (upd H1 dy (.own y)) y (.ins CR dy (rF a 0))) := (Same.new ndy).trans (Same.new (by rw [upd_ne ney.symm]; exact ny))
    -- told = []
    refine ⟨by decide, fun tl htl => ?_⟩
    have s3 := s2.trans (Same.new htl (o := .lst []))
    have hy : (upd (upd (upd H1 dy (.own y)) y (.ins CR dy (rF a 0))) tl (.lst [])) y = some (.ins CR dy (rF a 0)) := by
      rw [upd_ne (ne_of_none upd_same htl), upd_same]
    have ny0 : H y = none := s1.free ny
    have nt0 : H tl = none := s1.free (s2.free htl)
    have ytl : y ≠ tl := ne_of_none upd_same htl
    -- the loop
    refine ⟨fun n σ H' => ∃ (L : HLay) (g : Ge01.St) (cs' : List Ge01.Call) (i : Nat) (out : List Int) (v : Option V), σ = [some (.ref a), some (.ref L.p), some (.ref y), some (.ref tl), v] ∧ HAt cs H' L g ∧ H' y = some (.ins CR dy (rF a i)) ∧ ¬ FpH L y ∧
        H' tl = some (.lst (IL out)) ∧ ¬ FpH L tl ∧ (∀ z o, H z = some o → H' z = some o ∧ ¬ FpH L z) ∧ Rds (ns.drop i) cs' ∧ n = ns.length - i ∧ i ≤ ns.length ∧ out ++ PyFlat.told (run g cs') = PyGe01.answers ns,
      ⟨_, L1, Ge01.init, cl, 0, [], none, rfl, W1'.same s3, hy, W1'.no ny, upd_same, (W1'.same s2).no htl, fun z o h => ⟨s3 _ _ (s1 z o h), fun f => by rw [fp1 z f] at h; cases h⟩, hrds, rfl, Nat.zero_le _, by rw [hans]; rfl⟩, ?_⟩
    rintro n σ H' ⟨L, g, cs', i, out, v, rfl, G, hy', ny', ht', nt', kp, hr', rfl, hi, ho⟩
    have hst : Stay K H' L y a ns := fun H2 k2 => sq_keep hS fun o h => k2 a o (kp a o h).1 (kp a o h).2 fun z => by rw [z, ny0] at h; cases h
    have hS' : SqL K H' a (IL ns) := hst H' fun _ _ h _ _ => h
    refine ⟨_, rfl, y, dy, _, rfl, hy', rF_no a i (by decide +kernel) (by decide +kernel), y, dy, a, ns, i, rfl, hy', hS', _, rfl, ?_⟩
    by_cases c : i < ns.length
    · rw [decide_eq_true (by omega)]
      obtain ⟨c0, cs1, t, rfl, hrd, hrest⟩ : ∃ c0 cs1 t, cs' = c0 :: cs1 ∧ Rd (ns.drop i) c0 t ∧ Rds t cs1 := by
        cases e : ns.drop i with
        | nil =>
          have := congrArg List.length e
          rw [List.length_drop] at this
          simp at this
          omega
        | cons z r =>
          rw [e] at hr'
          cases hr' with
          | cons h1 h2 => exact ⟨_, _, _, rfl, h1, h2⟩
      refine iteT ⟨_, fun σ' H' h => h, ?_⟩
      refine ⟨_, rfl, _, rfl, L, ⟨y, dy, a, ns⟩, g, i, c0, t, rfl, G, hy', ny', hst, hl, hrd, fun H2 L2 q j G2 ep k2 hy2 ny2 hj hjl hq nq hl2 => ?_⟩
      obtain ⟨ht2, nt2⟩ := k2 tl _ ht' nt' ytl.symm
      have nqt : q ≠ tl := fun z => by rw [z, ht'] at hq; cases hq
      have nqy : q ≠ y := fun z => by rw [z, hy'] at hq; cases hq
      have hlen : out.length + 1 + (Ge01.step g c0).2.length ≤ 10000000 := by
        have := congrArg List.length ho
        show _ ≤ _
        rw [show run g (c0 :: cs1) = (Ge01.step g c0).2 :: run (Ge01.step g c0).1 cs1 from rfl, told_cons, List.length_append, List.length_append, List.length_cons] at this
        omega
      have szl : (10000000 : Nat) < sizeLine := by decide
      refine ⟨_, rfl, .inl ⟨rfl, _, SqL.of ht2⟩, _, rfl, q, _, rfl, .inl (SqL.of hl2), tl, _, _, rfl, rfl, ht2, by rw [List.length_map]; omega, ?_⟩
      rw [List.length_map]
      refine ⟨_, rfl, .inl ⟨rfl, _, SqL.of upd_same⟩, _, rfl, tl, q, _, _, rfl, rfl, upd_same, by rw [upd_ne nqt]; exact hl2, by rw [List.length_append, List.length_map, List.length_map]; simp; omega, ?_⟩
      rw [upd_upd]
      have hlt := rd_pos hrd
      rw [List.length_drop, ← hj, List.length_drop] at hlt
      refine ⟨_, by omega, L2, (Ge01.step g c0).1, cs1, j, out ++ ((Ge01.step g c0).2.length : Int) :: (Ge01.step g c0).2, some (.ref q), ?_, G2.touch nt2, by rw [upd_ne ytl]; exact hy2, ny2, ?_, nt2, fun z o h => ?_, by rw [hj]; exact hrest, rfl, hjl, ?_⟩
      · rw [ep]
        rfl
      · rw [upd_same]
        simp [IL]
      · obtain ⟨h1, h2⟩ := kp z o h
        obtain ⟨h3, h4⟩ := k2 z o h1 h2 fun e => by rw [e, ny0] at h; cases h
        exact ⟨by rw [upd_ne (fun e => by rw [e, nt0] at h; cases h)]; exact h3, h4⟩
      · rw [← ho, show run g (c0 :: cs1) = (Ge01.step g c0).2 :: run (Ge01.step g c0).1 cs1 from rfl, told_cons]
        simp
    · rw [decide_eq_false (by omega)]
      refine iteF ⟨_, rfl, ?_⟩
      have e : ns.drop i = [] := List.drop_eq_nil_of_le (by omega)
      rw [e] at hr'
      have ecs : cs' = [] := by
        cases hr' with
        | nil => rfl
        | cons h1 h2 =>
          have := rd_pos h1
          simp at this
      subst ecs
      have ho' : out = PyGe01.answers ns := by
        rw [← ho]
        exact (List.append_nil out).symm
      rw [ho'] at ht'
      exact q H' tl ht'
end
end Pw

namespace Pw
open L2 PySem PySem.Spec PyProof.Rows
theorem all_mk {P : Program} {w : World} {K : PySem.W.Frag} {h : Heap} {mg : Str → Option Value} {fa : Addr} {f_wrong_part f_wrong_parts f_wrong_change f_by_kind f_counted_names C_Question f_Question___init__ f_Question_wrong f_Question_fits C_Kept f_Kept___init__ C_Things f_Things___init__ f_Things_how_many f_Things_how_many_gone f_Things_twin f_Things_lives f_Things_free_place f_Things_bring f_Things_make f_Things_gone f_Things_put f_Things_take f_Things_value_of f_Things_parts_of f_Things_told_by f_Things_ask f_Things_sum_of f_by_name f_do_by_name f_do_change C_World f_World___init__ f_World_later f_World_apply f_World_keep f_World_fresh f_World_counts C_Reader f_Reader___init__ f_Reader_more f_Reader_number f_Reader_row f_read_question f_answer_by_name f_answer_call f_answers : Addr} (X : K.In h) (G : h.Ns mainGlobals mg) (hfa : mg "answers" = some (.ref fa))
    {od1 an1 od2 an2 od3 an3 od4 an4 od5 an5 od6 an6 od7 an7 od8 an8 od9 an9 od10 an10 od11 an11 od12 an12 od13 an13 od14 an14 od15 an15 od16 an16 od17 an17 od18 an18 od19 an19 od20 an20 od21 an21 od22 an22 od23 an23 od24 an24 od25 an25 od26 an26 od27 an27 od28 an28 od29 an29 od30 an30 od31 an31 od32 an32 od33 an33 od34 an34 od35 an35 od36 an36 od37 an37 od38 an38 od39 an39 od40 an40 od41 an41 od42 an42 : Option Addr} {sl1 sl2 sl3 sl4 sl5 sl6 sl7 sl8 sl9 sl10 sl11 sl12 sl13 sl14 sl15 sl16 sl17 sl18 sl19 sl20 sl21 sl22 sl23 sl24 sl25 sl26 sl27 sl28 sl29 sl30 sl31 sl32 sl33 sl34 sl35 sl36 sl37 sl38 sl39 sl40 sl41 sl42 : Array (Option Value)} {oc1 kV1 dc1 pm1 cd1 ct1 oc2 kV2 dc2 pm2 cd2 ct2 oc3 kV3 dc3 pm3 cd3 ct3 oc4 kV4 dc4 pm4 cd4 ct4 oc5 kV5 dc5 pm5 cd5 ct5 oc6 kV6 dc6 pm6 cd6 ct6 oc7 kV7 dc7 pm7 cd7 ct7 oc8 kV8 dc8 pm8 cd8 ct8 oc9 kV9 dc9 pm9 cd9 ct9 oc10 kV10 dc10 pm10 cd10 ct10 oc11 kV11 dc11 pm11 cd11 ct11 oc12 kV12 dc12 pm12 cd12 ct12 oc13 kV13 dc13 pm13 cd13 ct13 oc14 kV14 dc14 pm14 cd14 ct14 oc15 kV15 dc15 pm15 cd15 ct15 oc16 kV16 dc16 pm16 cd16 ct16 oc17 kV17 dc17 pm17 cd17 ct17 oc18 kV18 dc18 pm18 cd18 ct18 oc19 kV19 dc19 pm19 cd19 ct19 oc20 kV20 dc20 pm20 cd20 ct20 oc21 kV21 dc21 pm21 cd21 ct21 oc22 kV22 dc22 pm22 cd22 ct22 oc23 kV23 dc23 pm23 cd23 ct23 oc24 kV24 dc24 pm24 cd24 ct24 oc25 kV25 dc25 pm25 cd25 ct25 oc26 kV26 dc26 pm26 cd26 ct26 oc27 kV27 dc27 pm27 cd27 ct27 oc28 kV28 dc28 pm28 cd28 ct28 oc29 kV29 dc29 pm29 cd29 ct29 oc30 kV30 dc30 pm30 cd30 ct30 oc31 kV31 dc31 pm31 cd31 ct31 oc32 kV32 dc32 pm32 cd32 ct32 oc33 kV33 dc33 pm33 cd33 ct33 oc34 kV34 dc34 pm34 cd34 ct34 oc35 kV35 dc35 pm35 cd35 ct35 oc36 kV36 dc36 pm36 cd36 ct36 oc37 kV37 dc37 pm37 cd37 ct37 oc38 kV38 dc38 pm38 cd38 ct38 oc39 kV39 dc39 pm39 cd39 ct39 oc40 kV40 dc40 pm40 cd40 ct40 oc41 kV41 dc41 pm41 cd41 ct41 oc42 kV42 dc42 pm42 cd42 ct42 : Value} {t1 t2 t3 t4 t5 t6 t7 t8 t9 t10 t11 t12 t13 t14 t15 t16 t17 t18 t19 t20 t21 t22 t23 t24 t25 t26 t27 t28 : Tok}
    (v1 : PySem.W.nsIn K mainGlobals "HIGHEST_KIND" = some (some (.int (15) t1)))
    (v2 : PySem.W.nsIn K mainGlobals "HIGHEST_VALUE" = some (some (.int (9999) t2)))
    (v3 : PySem.W.nsIn K mainGlobals "MOST_THINGS" = some (some (.int (20) t3)))
    (v4 : PySem.W.nsIn K mainGlobals "MOST_PUT_OFF" = some (some (.int (30) t4)))
    (v5 : PySem.W.nsIn K mainGlobals "MOST_KINDS_TOLD" = some (some (.int (12) t5)))
    (v6 : PySem.W.nsIn K mainGlobals "MOST_KEPT" = some (some (.int (6) t6)))
    (v7 : PySem.W.nsIn K mainGlobals "WRONG_KIND_OR_VALUE" = some (some (.int (-1) t7)))
    (v8 : PySem.W.nsIn K mainGlobals "NO_SUCH_ONE" = some (some (.int (-2) t8)))
    (v9 : PySem.W.nsIn K mainGlobals "NO_SUCH_PART" = some (some (.int (-3) t9)))
    (v10 : PySem.W.nsIn K mainGlobals "FULL" = some (some (.int (-5) t10)))
    (v11 : PySem.W.nsIn K mainGlobals "MAKE" = some (some (.int (0) t11)))
    (v12 : PySem.W.nsIn K mainGlobals "GONE" = some (some (.int (1) t12)))
    (v13 : PySem.W.nsIn K mainGlobals "PUT" = some (some (.int (2) t13)))
    (v14 : PySem.W.nsIn K mainGlobals "TAKE" = some (some (.int (3) t14)))
    (v15 : PySem.W.nsIn K mainGlobals "GET" = some (some (.int (4) t15)))
    (v16 : PySem.W.nsIn K mainGlobals "PARTS" = some (some (.int (5) t16)))
    (v17 : PySem.W.nsIn K mainGlobals "LATER" = some (some (.int (6) t17)))
    (v18 : PySem.W.nsIn K mainGlobals "APPLY" = some (some (.int (7) t18)))
    (v19 : PySem.W.nsIn K mainGlobals "ASK" = some (some (.int (8) t19)))
    (v20 : PySem.W.nsIn K mainGlobals "KEEP" = some (some (.int (9) t20)))
    (v21 : PySem.W.nsIn K mainGlobals "FRESH" = some (some (.int (10) t21)))
    (v22 : PySem.W.nsIn K mainGlobals "SUM" = some (some (.int (11) t22)))
    (v23 : PySem.W.nsIn K mainGlobals "LATER_MADE" = some (some (.int (0) t23)))
    (v24 : PySem.W.nsIn K mainGlobals "LATER_GONE" = some (some (.int (1) t24)))
    (v25 : PySem.W.nsIn K mainGlobals "LATER_PUT" = some (some (.int (2) t25)))
    (v26 : PySem.W.nsIn K mainGlobals "LATER_TAKEN" = some (some (.int (3) t26)))
    (v27 : PySem.W.nsIn K mainGlobals "LATER_PUT_BY_WORD" = some (some (.int (4) t27)))
    (v28 : PySem.W.nsIn K mainGlobals "LATER_GONE_BY_WORD" = some (some (.int (5) t28)))
    (a_wrong_part : PySem.W.nsIn K mainGlobals "wrong_part" = some (some (.ref f_wrong_part)))
    (l1 : K.lookup f_wrong_part = some ⟨oc1, od1, .func (PySem.W.fnOf "wrong_part" "wrong_part" (defArgs s_wrong_part) (defBody s_wrong_part) (defScope s_wrong_part) .none kV1 dc1 pm1 an1 cd1 ct1), sl1⟩)
    (c1 : PySem.W.codeIn K cd1 "wrong_part" = true)
    (k1 : PySem.W.keepIn K (.ref f_wrong_part) = true)
    (a_wrong_parts : PySem.W.nsIn K mainGlobals "wrong_parts" = some (some (.ref f_wrong_parts)))
    (l2 : K.lookup f_wrong_parts = some ⟨oc2, od2, .func (PySem.W.fnOf "wrong_parts" "wrong_parts" (defArgs s_wrong_parts) (defBody s_wrong_parts) (defScope s_wrong_parts) .none kV2 dc2 pm2 an2 cd2 ct2), sl2⟩)
    (c2 : PySem.W.codeIn K cd2 "wrong_parts" = true)
    (k2 : PySem.W.keepIn K (.ref f_wrong_parts) = true)
    (a_wrong_change : PySem.W.nsIn K mainGlobals "wrong_change" = some (some (.ref f_wrong_change)))
    (l3 : K.lookup f_wrong_change = some ⟨oc3, od3, .func (PySem.W.fnOf "wrong_change" "wrong_change" (defArgs s_wrong_change) (defBody s_wrong_change) (defScope s_wrong_change) .none kV3 dc3 pm3 an3 cd3 ct3), sl3⟩)
    (c3 : PySem.W.codeIn K cd3 "wrong_change" = true)
    (k3 : PySem.W.keepIn K (.ref f_wrong_change) = true)
    (a_by_kind : PySem.W.nsIn K mainGlobals "by_kind" = some (some (.ref f_by_kind)))
    (l4 : K.lookup f_by_kind = some ⟨oc4, od4, .func (PySem.W.fnOf "by_kind" "by_kind" (defArgs s_by_kind) (defBody s_by_kind) (defScope s_by_kind) .none kV4 dc4 pm4 an4 cd4 ct4), sl4⟩)
    (c4 : PySem.W.codeIn K cd4 "by_kind" = true)
    (k4 : PySem.W.keepIn K (.ref f_by_kind) = true)
    (a_counted_names : PySem.W.nsIn K mainGlobals "counted_names" = some (some (.ref f_counted_names)))
    (l5 : K.lookup f_counted_names = some ⟨oc5, od5, .func (PySem.W.fnOf "counted_names" "counted_names" (defArgs s_counted_names) (defBody s_counted_names) (defScope s_counted_names) .none kV5 dc5 pm5 an5 cd5 ct5), sl5⟩)
    (c5 : PySem.W.codeIn K cd5 "counted_names" = true)
    (k5 : PySem.W.keepIn K (.ref f_counted_names) = true)
    (a_Question : PySem.W.nsIn K mainGlobals "Question" = some (some (.ref C_Question)))
    (pg_Question : PySem.W.plainGet K C_Question Str.empty = true)
    (hd_Question : PySem.W.hasDictIn K C_Question = true)
    (po_Question : PySem.W.plainOver K C_Question = true)
    (sa_Question : PySem.W.findIn K (.ref C_Question) "__setattr__" = some (some (.builtin "object.__setattr__")))
    (mk_Question : PySem.W.makesIn K C_Question = true)
    (kc_Question : PySem.W.keepIn K (.ref C_Question) = true)
    (n_Question_all_of : PySem.W.findIn K (.ref C_Question) "all_of" = some none)
    (n_Question_none_of : PySem.W.findIn K (.ref C_Question) "none_of" = some none)
    (n_Question_one_of : PySem.W.findIn K (.ref C_Question) "one_of" = some none)
    (a_Question___init__ : PySem.W.findIn K (.ref C_Question) "__init__" = some (some (.ref f_Question___init__)))
    (i_Question___init__ : PySem.W.isFn K (.ref f_Question___init__) = true)
    (l6 : K.lookup f_Question___init__ = some ⟨oc6, od6, .func (PySem.W.fnOf "__init__" "Question.__init__" (defArgs s_Question___init__) (defBody s_Question___init__) (defScope s_Question___init__) .none kV6 dc6 pm6 an6 cd6 ct6), sl6⟩)
    (c6 : PySem.W.codeIn K cd6 "Question.__init__" = true)
    (k6 : PySem.W.keepIn K (.ref f_Question___init__) = true)
    (a_Question_wrong : PySem.W.findIn K (.ref C_Question) "wrong" = some (some (.ref f_Question_wrong)))
    (i_Question_wrong : PySem.W.isFn K (.ref f_Question_wrong) = true)
    (l7 : K.lookup f_Question_wrong = some ⟨oc7, od7, .func (PySem.W.fnOf "wrong" "Question.wrong" (defArgs s_Question_wrong) (defBody s_Question_wrong) (defScope s_Question_wrong) .none kV7 dc7 pm7 an7 cd7 ct7), sl7⟩)
    (c7 : PySem.W.codeIn K cd7 "Question.wrong" = true)
    (k7 : PySem.W.keepIn K (.ref f_Question_wrong) = true)
    (a_Question_fits : PySem.W.findIn K (.ref C_Question) "fits" = some (some (.ref f_Question_fits)))
    (i_Question_fits : PySem.W.isFn K (.ref f_Question_fits) = true)
    (l8 : K.lookup f_Question_fits = some ⟨oc8, od8, .func (PySem.W.fnOf "fits" "Question.fits" (defArgs s_Question_fits) (defBody s_Question_fits) (defScope s_Question_fits) .none kV8 dc8 pm8 an8 cd8 ct8), sl8⟩)
    (c8 : PySem.W.codeIn K cd8 "Question.fits" = true)
    (k8 : PySem.W.keepIn K (.ref f_Question_fits) = true)
    (a_Kept : PySem.W.nsIn K mainGlobals "Kept" = some (some (.ref C_Kept)))
    (pg_Kept : PySem.W.plainGet K C_Kept Str.empty = true)
    (hd_Kept : PySem.W.hasDictIn K C_Kept = true)
    (po_Kept : PySem.W.plainOver K C_Kept = true)
    (sa_Kept : PySem.W.findIn K (.ref C_Kept) "__setattr__" = some (some (.builtin "object.__setattr__")))
    (mk_Kept : PySem.W.makesIn K C_Kept = true)
    (kc_Kept : PySem.W.keepIn K (.ref C_Kept) = true)
    (n_Kept_question : PySem.W.findIn K (.ref C_Kept) "question" = some none)
    (n_Kept_told : PySem.W.findIn K (.ref C_Kept) "told" = some none)
    (a_Kept___init__ : PySem.W.findIn K (.ref C_Kept) "__init__" = some (some (.ref f_Kept___init__)))
    (i_Kept___init__ : PySem.W.isFn K (.ref f_Kept___init__) = true)
    (l9 : K.lookup f_Kept___init__ = some ⟨oc9, od9, .func (PySem.W.fnOf "__init__" "Kept.__init__" (defArgs s_Kept___init__) (defBody s_Kept___init__) (defScope s_Kept___init__) .none kV9 dc9 pm9 an9 cd9 ct9), sl9⟩)
    (c9 : PySem.W.codeIn K cd9 "Kept.__init__" = true)
    (k9 : PySem.W.keepIn K (.ref f_Kept___init__) = true)
    (a_Things : PySem.W.nsIn K mainGlobals "Things" = some (some (.ref C_Things)))
    (pg_Things : PySem.W.plainGet K C_Things Str.empty = true)
    (hd_Things : PySem.W.hasDictIn K C_Things = true)
    (po_Things : PySem.W.plainOver K C_Things = true)
    (sa_Things : PySem.W.findIn K (.ref C_Things) "__setattr__" = some (some (.builtin "object.__setattr__")))
    (mk_Things : PySem.W.makesIn K C_Things = true)
    (kc_Things : PySem.W.keepIn K (.ref C_Things) = true)
    (n_Things_held : PySem.W.findIn K (.ref C_Things) "held" = some none)
    (n_Things_turns : PySem.W.findIn K (.ref C_Things) "turns" = some none)
    (a_Things___init__ : PySem.W.findIn K (.ref C_Things) "__init__" = some (some (.ref f_Things___init__)))
    (i_Things___init__ : PySem.W.isFn K (.ref f_Things___init__) = true)
    (l10 : K.lookup f_Things___init__ = some ⟨oc10, od10, .func (PySem.W.fnOf "__init__" "Things.__init__" (defArgs s_Things___init__) (defBody s_Things___init__) (defScope s_Things___init__) .none kV10 dc10 pm10 an10 cd10 ct10), sl10⟩)
    (c10 : PySem.W.codeIn K cd10 "Things.__init__" = true)
    (k10 : PySem.W.keepIn K (.ref f_Things___init__) = true)
    (a_Things_how_many : PySem.W.findIn K (.ref C_Things) "how_many" = some (some (.ref f_Things_how_many)))
    (i_Things_how_many : PySem.W.isFn K (.ref f_Things_how_many) = true)
    (l11 : K.lookup f_Things_how_many = some ⟨oc11, od11, .func (PySem.W.fnOf "how_many" "Things.how_many" (defArgs s_Things_how_many) (defBody s_Things_how_many) (defScope s_Things_how_many) .none kV11 dc11 pm11 an11 cd11 ct11), sl11⟩)
    (c11 : PySem.W.codeIn K cd11 "Things.how_many" = true)
    (k11 : PySem.W.keepIn K (.ref f_Things_how_many) = true)
    (a_Things_how_many_gone : PySem.W.findIn K (.ref C_Things) "how_many_gone" = some (some (.ref f_Things_how_many_gone)))
    (i_Things_how_many_gone : PySem.W.isFn K (.ref f_Things_how_many_gone) = true)
    (l12 : K.lookup f_Things_how_many_gone = some ⟨oc12, od12, .func (PySem.W.fnOf "how_many_gone" "Things.how_many_gone" (defArgs s_Things_how_many_gone) (defBody s_Things_how_many_gone) (defScope s_Things_how_many_gone) .none kV12 dc12 pm12 an12 cd12 ct12), sl12⟩)
    (c12 : PySem.W.codeIn K cd12 "Things.how_many_gone" = true)
    (k12 : PySem.W.keepIn K (.ref f_Things_how_many_gone) = true)
    (a_Things_twin : PySem.W.findIn K (.ref C_Things) "twin" = some (some (.ref f_Things_twin)))
    (i_Things_twin : PySem.W.isFn K (.ref f_Things_twin) = true)
    (l13 : K.lookup f_Things_twin = some ⟨oc13, od13, .func (PySem.W.fnOf "twin" "Things.twin" (defArgs s_Things_twin) (defBody s_Things_twin) (defScope s_Things_twin) .none kV13 dc13 pm13 an13 cd13 ct13), sl13⟩)
    (c13 : PySem.W.codeIn K cd13 "Things.twin" = true)
    (k13 : PySem.W.keepIn K (.ref f_Things_twin) = true)
    (a_Things_lives : PySem.W.findIn K (.ref C_Things) "lives" = some (some (.ref f_Things_lives)))
    (i_Things_lives : PySem.W.isFn K (.ref f_Things_lives) = true)
    (l14 : K.lookup f_Things_lives = some ⟨oc14, od14, .func (PySem.W.fnOf "lives" "Things.lives" (defArgs s_Things_lives) (defBody s_Things_lives) (defScope s_Things_lives) .none kV14 dc14 pm14 an14 cd14 ct14), sl14⟩)
    (c14 : PySem.W.codeIn K cd14 "Things.lives" = true)
    (k14 : PySem.W.keepIn K (.ref f_Things_lives) = true)
    (a_Things_free_place : PySem.W.findIn K (.ref C_Things) "free_place" = some (some (.ref f_Things_free_place)))
    (i_Things_free_place : PySem.W.isFn K (.ref f_Things_free_place) = true)
    (l15 : K.lookup f_Things_free_place = some ⟨oc15, od15, .func (PySem.W.fnOf "free_place" "Things.free_place" (defArgs s_Things_free_place) (defBody s_Things_free_place) (defScope s_Things_free_place) .none kV15 dc15 pm15 an15 cd15 ct15), sl15⟩)
    (c15 : PySem.W.codeIn K cd15 "Things.free_place" = true)
    (k15 : PySem.W.keepIn K (.ref f_Things_free_place) = true)
    (a_Things_bring : PySem.W.findIn K (.ref C_Things) "bring" = some (some (.ref f_Things_bring)))
    (i_Things_bring : PySem.W.isFn K (.ref f_Things_bring) = true)
    (l16 : K.lookup f_Things_bring = some ⟨oc16, od16, .func (PySem.W.fnOf "bring" "Things.bring" (defArgs s_Things_bring) (defBody s_Things_bring) (defScope s_Things_bring) .none kV16 dc16 pm16 an16 cd16 ct16), sl16⟩)
    (c16 : PySem.W.codeIn K cd16 "Things.bring" = true)
    (k16 : PySem.W.keepIn K (.ref f_Things_bring) = true)
    (a_Things_make : PySem.W.findIn K (.ref C_Things) "make" = some (some (.ref f_Things_make)))
    (i_Things_make : PySem.W.isFn K (.ref f_Things_make) = true)
    (l17 : K.lookup f_Things_make = some ⟨oc17, od17, .func (PySem.W.fnOf "make" "Things.make" (defArgs s_Things_make) (defBody s_Things_make) (defScope s_Things_make) .none kV17 dc17 pm17 an17 cd17 ct17), sl17⟩)
    (c17 : PySem.W.codeIn K cd17 "Things.make" = true)
    (k17 : PySem.W.keepIn K (.ref f_Things_make) = true)
    (a_Things_gone : PySem.W.findIn K (.ref C_Things) "gone" = some (some (.ref f_Things_gone)))
    (i_Things_gone : PySem.W.isFn K (.ref f_Things_gone) = true)
    (l18 : K.lookup f_Things_gone = some ⟨oc18, od18, .func (PySem.W.fnOf "gone" "Things.gone" (defArgs s_Things_gone) (defBody s_Things_gone) (defScope s_Things_gone) .none kV18 dc18 pm18 an18 cd18 ct18), sl18⟩)
    (c18 : PySem.W.codeIn K cd18 "Things.gone" = true)
    (k18 : PySem.W.keepIn K (.ref f_Things_gone) = true)
    (a_Things_put : PySem.W.findIn K (.ref C_Things) "put" = some (some (.ref f_Things_put)))
    (i_Things_put : PySem.W.isFn K (.ref f_Things_put) = true)
    (l19 : K.lookup f_Things_put = some ⟨oc19, od19, .func (PySem.W.fnOf "put" "Things.put" (defArgs s_Things_put) (defBody s_Things_put) (defScope s_Things_put) .none kV19 dc19 pm19 an19 cd19 ct19), sl19⟩)
    (c19 : PySem.W.codeIn K cd19 "Things.put" = true)
    (k19 : PySem.W.keepIn K (.ref f_Things_put) = true)
    (a_Things_take : PySem.W.findIn K (.ref C_Things) "take" = some (some (.ref f_Things_take)))
    (i_Things_take : PySem.W.isFn K (.ref f_Things_take) = true)
    (l20 : K.lookup f_Things_take = some ⟨oc20, od20, .func (PySem.W.fnOf "take" "Things.take" (defArgs s_Things_take) (defBody s_Things_take) (defScope s_Things_take) .none kV20 dc20 pm20 an20 cd20 ct20), sl20⟩)
    (c20 : PySem.W.codeIn K cd20 "Things.take" = true)
    (k20 : PySem.W.keepIn K (.ref f_Things_take) = true)
    (a_Things_value_of : PySem.W.findIn K (.ref C_Things) "value_of" = some (some (.ref f_Things_value_of)))
    (i_Things_value_of : PySem.W.isFn K (.ref f_Things_value_of) = true)
    (l21 : K.lookup f_Things_value_of = some ⟨oc21, od21, .func (PySem.W.fnOf "value_of" "Things.value_of" (defArgs s_Things_value_of) (defBody s_Things_value_of) (defScope s_Things_value_of) .none kV21 dc21 pm21 an21 cd21 ct21), sl21⟩)
    (c21 : PySem.W.codeIn K cd21 "Things.value_of" = true)
    (k21 : PySem.W.keepIn K (.ref f_Things_value_of) = true)
    (a_Things_parts_of : PySem.W.findIn K (.ref C_Things) "parts_of" = some (some (.ref f_Things_parts_of)))
    (i_Things_parts_of : PySem.W.isFn K (.ref f_Things_parts_of) = true)
    (l22 : K.lookup f_Things_parts_of = some ⟨oc22, od22, .func (PySem.W.fnOf "parts_of" "Things.parts_of" (defArgs s_Things_parts_of) (defBody s_Things_parts_of) (defScope s_Things_parts_of) .none kV22 dc22 pm22 an22 cd22 ct22), sl22⟩)
    (c22 : PySem.W.codeIn K cd22 "Things.parts_of" = true)
    (k22 : PySem.W.keepIn K (.ref f_Things_parts_of) = true)
    (a_Things_told_by : PySem.W.findIn K (.ref C_Things) "told_by" = some (some (.ref f_Things_told_by)))
    (i_Things_told_by : PySem.W.isFn K (.ref f_Things_told_by) = true)
    (l23 : K.lookup f_Things_told_by = some ⟨oc23, od23, .func (PySem.W.fnOf "told_by" "Things.told_by" (defArgs s_Things_told_by) (defBody s_Things_told_by) (defScope s_Things_told_by) .none kV23 dc23 pm23 an23 cd23 ct23), sl23⟩)
    (c23 : PySem.W.codeIn K cd23 "Things.told_by" = true)
    (k23 : PySem.W.keepIn K (.ref f_Things_told_by) = true)
    (a_Things_ask : PySem.W.findIn K (.ref C_Things) "ask" = some (some (.ref f_Things_ask)))
    (i_Things_ask : PySem.W.isFn K (.ref f_Things_ask) = true)
    (l24 : K.lookup f_Things_ask = some ⟨oc24, od24, .func (PySem.W.fnOf "ask" "Things.ask" (defArgs s_Things_ask) (defBody s_Things_ask) (defScope s_Things_ask) .none kV24 dc24 pm24 an24 cd24 ct24), sl24⟩)
    (c24 : PySem.W.codeIn K cd24 "Things.ask" = true)
    (k24 : PySem.W.keepIn K (.ref f_Things_ask) = true)
    (a_Things_sum_of : PySem.W.findIn K (.ref C_Things) "sum_of" = some (some (.ref f_Things_sum_of)))
    (i_Things_sum_of : PySem.W.isFn K (.ref f_Things_sum_of) = true)
    (l25 : K.lookup f_Things_sum_of = some ⟨oc25, od25, .func (PySem.W.fnOf "sum_of" "Things.sum_of" (defArgs s_Things_sum_of) (defBody s_Things_sum_of) (defScope s_Things_sum_of) .none kV25 dc25 pm25 an25 cd25 ct25), sl25⟩)
    (c25 : PySem.W.codeIn K cd25 "Things.sum_of" = true)
    (k25 : PySem.W.keepIn K (.ref f_Things_sum_of) = true)
    (a_by_name : PySem.W.nsIn K mainGlobals "by_name" = some (some (.ref f_by_name)))
    (l26 : K.lookup f_by_name = some ⟨oc26, od26, .func (PySem.W.fnOf "by_name" "by_name" (defArgs s_by_name) (defBody s_by_name) (defScope s_by_name) .none kV26 dc26 pm26 an26 cd26 ct26), sl26⟩)
    (c26 : PySem.W.codeIn K cd26 "by_name" = true)
    (k26 : PySem.W.keepIn K (.ref f_by_name) = true)
    (a_do_by_name : PySem.W.nsIn K mainGlobals "do_by_name" = some (some (.ref f_do_by_name)))
    (l27 : K.lookup f_do_by_name = some ⟨oc27, od27, .func (PySem.W.fnOf "do_by_name" "do_by_name" (defArgs s_do_by_name) (defBody s_do_by_name) (defScope s_do_by_name) .none kV27 dc27 pm27 an27 cd27 ct27), sl27⟩)
    (c27 : PySem.W.codeIn K cd27 "do_by_name" = true)
    (k27 : PySem.W.keepIn K (.ref f_do_by_name) = true)
    (a_do_change : PySem.W.nsIn K mainGlobals "do_change" = some (some (.ref f_do_change)))
    (l28 : K.lookup f_do_change = some ⟨oc28, od28, .func (PySem.W.fnOf "do_change" "do_change" (defArgs s_do_change) (defBody s_do_change) (defScope s_do_change) .none kV28 dc28 pm28 an28 cd28 ct28), sl28⟩)
    (c28 : PySem.W.codeIn K cd28 "do_change" = true)
    (k28 : PySem.W.keepIn K (.ref f_do_change) = true)
    (a_World : PySem.W.nsIn K mainGlobals "World" = some (some (.ref C_World)))
    (pg_World : PySem.W.plainGet K C_World Str.empty = true)
    (hd_World : PySem.W.hasDictIn K C_World = true)
    (po_World : PySem.W.plainOver K C_World = true)
    (sa_World : PySem.W.findIn K (.ref C_World) "__setattr__" = some (some (.builtin "object.__setattr__")))
    (mk_World : PySem.W.makesIn K C_World = true)
    (kc_World : PySem.W.keepIn K (.ref C_World) = true)
    (n_World_things : PySem.W.findIn K (.ref C_World) "things" = some none)
    (n_World_put_off : PySem.W.findIn K (.ref C_World) "put_off" = some none)
    (n_World_kept : PySem.W.findIn K (.ref C_World) "kept" = some none)
    (a_World___init__ : PySem.W.findIn K (.ref C_World) "__init__" = some (some (.ref f_World___init__)))
    (i_World___init__ : PySem.W.isFn K (.ref f_World___init__) = true)
    (l29 : K.lookup f_World___init__ = some ⟨oc29, od29, .func (PySem.W.fnOf "__init__" "World.__init__" (defArgs s_World___init__) (defBody s_World___init__) (defScope s_World___init__) .none kV29 dc29 pm29 an29 cd29 ct29), sl29⟩)
    (c29 : PySem.W.codeIn K cd29 "World.__init__" = true)
    (k29 : PySem.W.keepIn K (.ref f_World___init__) = true)
    (a_World_later : PySem.W.findIn K (.ref C_World) "later" = some (some (.ref f_World_later)))
    (i_World_later : PySem.W.isFn K (.ref f_World_later) = true)
    (l30 : K.lookup f_World_later = some ⟨oc30, od30, .func (PySem.W.fnOf "later" "World.later" (defArgs s_World_later) (defBody s_World_later) (defScope s_World_later) .none kV30 dc30 pm30 an30 cd30 ct30), sl30⟩)
    (c30 : PySem.W.codeIn K cd30 "World.later" = true)
    (k30 : PySem.W.keepIn K (.ref f_World_later) = true)
    (a_World_apply : PySem.W.findIn K (.ref C_World) "apply" = some (some (.ref f_World_apply)))
    (i_World_apply : PySem.W.isFn K (.ref f_World_apply) = true)
    (l31 : K.lookup f_World_apply = some ⟨oc31, od31, .func (PySem.W.fnOf "apply" "World.apply" (defArgs s_World_apply) (defBody s_World_apply) (defScope s_World_apply) .none kV31 dc31 pm31 an31 cd31 ct31), sl31⟩)
    (c31 : PySem.W.codeIn K cd31 "World.apply" = true)
    (k31 : PySem.W.keepIn K (.ref f_World_apply) = true)
    (a_World_keep : PySem.W.findIn K (.ref C_World) "keep" = some (some (.ref f_World_keep)))
    (i_World_keep : PySem.W.isFn K (.ref f_World_keep) = true)
    (l32 : K.lookup f_World_keep = some ⟨oc32, od32, .func (PySem.W.fnOf "keep" "World.keep" (defArgs s_World_keep) (defBody s_World_keep) (defScope s_World_keep) .none kV32 dc32 pm32 an32 cd32 ct32), sl32⟩)
    (c32 : PySem.W.codeIn K cd32 "World.keep" = true)
    (k32 : PySem.W.keepIn K (.ref f_World_keep) = true)
    (a_World_fresh : PySem.W.findIn K (.ref C_World) "fresh" = some (some (.ref f_World_fresh)))
    (i_World_fresh : PySem.W.isFn K (.ref f_World_fresh) = true)
    (l33 : K.lookup f_World_fresh = some ⟨oc33, od33, .func (PySem.W.fnOf "fresh" "World.fresh" (defArgs s_World_fresh) (defBody s_World_fresh) (defScope s_World_fresh) .none kV33 dc33 pm33 an33 cd33 ct33), sl33⟩)
    (c33 : PySem.W.codeIn K cd33 "World.fresh" = true)
    (k33 : PySem.W.keepIn K (.ref f_World_fresh) = true)
    (a_World_counts : PySem.W.findIn K (.ref C_World) "counts" = some (some (.ref f_World_counts)))
    (i_World_counts : PySem.W.isFn K (.ref f_World_counts) = true)
    (l34 : K.lookup f_World_counts = some ⟨oc34, od34, .func (PySem.W.fnOf "counts" "World.counts" (defArgs s_World_counts) (defBody s_World_counts) (defScope s_World_counts) .none kV34 dc34 pm34 an34 cd34 ct34), sl34⟩)
    (c34 : PySem.W.codeIn K cd34 "World.counts" = true)
    (k34 : PySem.W.keepIn K (.ref f_World_counts) = true)
    (a_Reader : PySem.W.nsIn K mainGlobals "Reader" = some (some (.ref C_Reader)))
    (pg_Reader : PySem.W.plainGet K C_Reader Str.empty = true)
    (hd_Reader : PySem.W.hasDictIn K C_Reader = true)
    (po_Reader : PySem.W.plainOver K C_Reader = true)
    (sa_Reader : PySem.W.findIn K (.ref C_Reader) "__setattr__" = some (some (.builtin "object.__setattr__")))
    (mk_Reader : PySem.W.makesIn K C_Reader = true)
    (kc_Reader : PySem.W.keepIn K (.ref C_Reader) = true)
    (n_Reader_numbers : PySem.W.findIn K (.ref C_Reader) "numbers" = some none)
    (n_Reader_at : PySem.W.findIn K (.ref C_Reader) "at" = some none)
    (a_Reader___init__ : PySem.W.findIn K (.ref C_Reader) "__init__" = some (some (.ref f_Reader___init__)))
    (i_Reader___init__ : PySem.W.isFn K (.ref f_Reader___init__) = true)
    (l35 : K.lookup f_Reader___init__ = some ⟨oc35, od35, .func (PySem.W.fnOf "__init__" "Reader.__init__" (defArgs s_Reader___init__) (defBody s_Reader___init__) (defScope s_Reader___init__) .none kV35 dc35 pm35 an35 cd35 ct35), sl35⟩)
    (c35 : PySem.W.codeIn K cd35 "Reader.__init__" = true)
    (k35 : PySem.W.keepIn K (.ref f_Reader___init__) = true)
    (a_Reader_more : PySem.W.findIn K (.ref C_Reader) "more" = some (some (.ref f_Reader_more)))
    (i_Reader_more : PySem.W.isFn K (.ref f_Reader_more) = true)
    (l36 : K.lookup f_Reader_more = some ⟨oc36, od36, .func (PySem.W.fnOf "more" "Reader.more" (defArgs s_Reader_more) (defBody s_Reader_more) (defScope s_Reader_more) .none kV36 dc36 pm36 an36 cd36 ct36), sl36⟩)
    (c36 : PySem.W.codeIn K cd36 "Reader.more" = true)
    (k36 : PySem.W.keepIn K (.ref f_Reader_more) = true)
    (a_Reader_number : PySem.W.findIn K (.ref C_Reader) "number" = some (some (.ref f_Reader_number)))
    (i_Reader_number : PySem.W.isFn K (.ref f_Reader_number) = true)
    (l37 : K.lookup f_Reader_number = some ⟨oc37, od37, .func (PySem.W.fnOf "number" "Reader.number" (defArgs s_Reader_number) (defBody s_Reader_number) (defScope s_Reader_number) .none kV37 dc37 pm37 an37 cd37 ct37), sl37⟩)
    (c37 : PySem.W.codeIn K cd37 "Reader.number" = true)
    (k37 : PySem.W.keepIn K (.ref f_Reader_number) = true)
    (a_Reader_row : PySem.W.findIn K (.ref C_Reader) "row" = some (some (.ref f_Reader_row)))
    (i_Reader_row : PySem.W.isFn K (.ref f_Reader_row) = true)
    (l38 : K.lookup f_Reader_row = some ⟨oc38, od38, .func (PySem.W.fnOf "row" "Reader.row" (defArgs s_Reader_row) (defBody s_Reader_row) (defScope s_Reader_row) .none kV38 dc38 pm38 an38 cd38 ct38), sl38⟩)
    (c38 : PySem.W.codeIn K cd38 "Reader.row" = true)
    (k38 : PySem.W.keepIn K (.ref f_Reader_row) = true)
    (a_read_question : PySem.W.nsIn K mainGlobals "read_question" = some (some (.ref f_read_question)))
    (l39 : K.lookup f_read_question = some ⟨oc39, od39, .func (PySem.W.fnOf "read_question" "read_question" (defArgs s_read_question) (defBody s_read_question) (defScope s_read_question) .none kV39 dc39 pm39 an39 cd39 ct39), sl39⟩)
    (c39 : PySem.W.codeIn K cd39 "read_question" = true)
    (k39 : PySem.W.keepIn K (.ref f_read_question) = true)
    (a_answer_by_name : PySem.W.nsIn K mainGlobals "answer_by_name" = some (some (.ref f_answer_by_name)))
    (l40 : K.lookup f_answer_by_name = some ⟨oc40, od40, .func (PySem.W.fnOf "answer_by_name" "answer_by_name" (defArgs s_answer_by_name) (defBody s_answer_by_name) (defScope s_answer_by_name) .none kV40 dc40 pm40 an40 cd40 ct40), sl40⟩)
    (c40 : PySem.W.codeIn K cd40 "answer_by_name" = true)
    (k40 : PySem.W.keepIn K (.ref f_answer_by_name) = true)
    (a_answer_call : PySem.W.nsIn K mainGlobals "answer_call" = some (some (.ref f_answer_call)))
    (l41 : K.lookup f_answer_call = some ⟨oc41, od41, .func (PySem.W.fnOf "answer_call" "answer_call" (defArgs s_answer_call) (defBody s_answer_call) (defScope s_answer_call) .none kV41 dc41 pm41 an41 cd41 ct41), sl41⟩)
    (c41 : PySem.W.codeIn K cd41 "answer_call" = true)
    (k41 : PySem.W.keepIn K (.ref f_answer_call) = true)
    (a_answers : PySem.W.nsIn K mainGlobals "answers" = some (some (.ref f_answers)))
    (l42 : K.lookup f_answers = some ⟨oc42, od42, .func (PySem.W.fnOf "answers" "answers" (defArgs s_answers) (defBody s_answers) (defScope s_answers) .none kV42 dc42 pm42 an42 cd42 ct42), sl42⟩)
    (c42 : PySem.W.codeIn K cd42 "answers" = true)
    (k42 : PySem.W.keepIn K (.ref f_answers) = true)
    (z_len : PySem.W.nsIn K mainGlobals "len" = some none)
    (z_range : PySem.W.nsIn K mainGlobals "range" = some none)
    (z_enumerate : PySem.W.nsIn K mainGlobals "enumerate" = some none)
    (z_sorted : PySem.W.nsIn K mainGlobals "sorted" = some none)
    (z_sum : PySem.W.nsIn K mainGlobals "sum" = some none)
    (z_max : PySem.W.nsIn K mainGlobals "max" = some none)
    (z_all : PySem.W.nsIn K mainGlobals "all" = some none)
    (z_any : PySem.W.nsIn K mainGlobals "any" = some none)
    (z_list : PySem.W.nsIn K mainGlobals "list" = some none)
    (z_dict : PySem.W.nsIn K mainGlobals "dict" = some none)
    : ∃ fd : FuncData, (∀ (s : Shared) (us : List Value), us.length = (["calls"] : List Str).length → BindsTo s fd ⟨us, []⟩ ((["calls"] : List Str).zip us)) ∧ ∀ base : Heap, K.In base → base.Ns mainGlobals mg → FnOk P w K mg base CX0 7 fa fd ["calls"] (sp_answers K) := by
  have e := hfa.symm.trans (PySem.W.mg_of X G a_answers)
  cases e
  have T : Con mg := ⟨⟨_, PySem.W.mg_of X G v1, ⟨_, rfl⟩⟩, ⟨_, PySem.W.mg_of X G v2, ⟨_, rfl⟩⟩, ⟨_, PySem.W.mg_of X G v3, ⟨_, rfl⟩⟩, ⟨_, PySem.W.mg_of X G v4, ⟨_, rfl⟩⟩, ⟨_, PySem.W.mg_of X G v5, ⟨_, rfl⟩⟩, ⟨_, PySem.W.mg_of X G v6, ⟨_, rfl⟩⟩, ⟨_, PySem.W.mg_of X G v7, ⟨_, rfl⟩⟩, ⟨_, PySem.W.mg_of X G v8, ⟨_, rfl⟩⟩, ⟨_, PySem.W.mg_of X G v9, ⟨_, rfl⟩⟩, ⟨_, PySem.W.mg_of X G v10, ⟨_, rfl⟩⟩, ⟨_, PySem.W.mg_of X G v11, ⟨_, rfl⟩⟩, ⟨_, PySem.W.mg_of X G v12, ⟨_, rfl⟩⟩, ⟨_, PySem.W.mg_of X G v13, ⟨_, rfl⟩⟩, ⟨_, PySem.W.mg_of X G v14, ⟨_, rfl⟩⟩, ⟨_, PySem.W.mg_of X G v15, ⟨_, rfl⟩⟩, ⟨_, PySem.W.mg_of X G v16, ⟨_, rfl⟩⟩, ⟨_, PySem.W.mg_of X G v17, ⟨_, rfl⟩⟩, ⟨_, PySem.W.mg_of X G v18, ⟨_, rfl⟩⟩, ⟨_, PySem.W.mg_of X G v19, ⟨_, rfl⟩⟩, ⟨_, PySem.W.mg_of X G v20, ⟨_, rfl⟩⟩, ⟨_, PySem.W.mg_of X G v21, ⟨_, rfl⟩⟩, ⟨_, PySem.W.mg_of X G v22, ⟨_, rfl⟩⟩, ⟨_, PySem.W.mg_of X G v23, ⟨_, rfl⟩⟩, ⟨_, PySem.W.mg_of X G v24, ⟨_, rfl⟩⟩, ⟨_, PySem.W.mg_of X G v25, ⟨_, rfl⟩⟩, ⟨_, PySem.W.mg_of X G v26, ⟨_, rfl⟩⟩, ⟨_, PySem.W.mg_of X G v27, ⟨_, rfl⟩⟩, ⟨_, PySem.W.mg_of X G v28, ⟨_, rfl⟩⟩, PySem.W.mg_none_of X G z_len, PySem.W.mg_none_of X G z_range, PySem.W.mg_none_of X G z_enumerate, PySem.W.mg_none_of X G z_sorted, PySem.W.mg_none_of X G z_sum, PySem.W.mg_none_of X G z_max, PySem.W.mg_none_of X G z_all, PySem.W.mg_none_of X G z_any, PySem.W.mg_none_of X G z_list, PySem.W.mg_none_of X G z_dict⟩
  have cl_Question : Cls K C_Question := ⟨pg_Question, hd_Question, po_Question, sa_Question⟩
  have cl_Kept : Cls K C_Kept := ⟨pg_Kept, hd_Kept, po_Kept, sa_Kept⟩
  have cl_Things : Cls K C_Things := ⟨pg_Things, hd_Things, po_Things, sa_Things⟩
  have cl_World : Cls K C_World := ⟨pg_World, hd_World, po_World, sa_World⟩
  have cl_Reader : Cls K C_Reader := ⟨pg_Reader, hd_Reader, po_Reader, sa_Reader⟩
  have F_wrong_part := fun_mk (st := s_wrong_part) l1 c1 k1
  have b_wrong_part := F_wrong_part.binds (ps := ["kind", "value"]) fun _ _ _ _ _ _ us hl => match us, hl with | [_, _], _ => rfl
  have F_wrong_parts := fun_mk (st := s_wrong_parts) l2 c2 k2
  have b_wrong_parts := F_wrong_parts.binds (ps := ["parts"]) fun _ _ _ _ _ _ us hl => match us, hl with | [_], _ => rfl
  have F_wrong_change := fun_mk (st := s_wrong_change) l3 c3 k3
  have b_wrong_change := F_wrong_change.binds (ps := ["change"]) fun _ _ _ _ _ _ us hl => match us, hl with | [_], _ => rfl
  have F_by_kind := fun_mk (st := s_by_kind) l4 c4 k4
  have b_by_kind := F_by_kind.binds (ps := ["parts"]) fun _ _ _ _ _ _ us hl => match us, hl with | [_], _ => rfl
  have F_counted_names := fun_mk (st := s_counted_names) l5 c5 k5
  have b_counted_names := F_counted_names.binds (ps := ["names"]) fun _ _ _ _ _ _ us hl => match us, hl with | [_], _ => rfl
  have F_by_name := fun_mk (st := s_by_name) l26 c26 k26
  have b_by_name := F_by_name.binds (ps := ["change", "name_by_word"]) fun _ _ _ _ _ _ us hl => match us, hl with | [_, _], _ => rfl
  have F_do_by_name := fun_mk (st := s_do_by_name) l27 c27 k27
  have b_do_by_name := F_do_by_name.binds (ps := ["things", "change"]) fun _ _ _ _ _ _ us hl => match us, hl with | [_, _], _ => rfl
  have F_do_change := fun_mk (st := s_do_change) l28 c28 k28
  have b_do_change := F_do_change.binds (ps := ["things", "change", "name_by_word"]) fun _ _ _ _ _ _ us hl => match us, hl with | [_, _, _], _ => rfl
  have F_read_question := fun_mk (st := s_read_question) l39 c39 k39
  have b_read_question := F_read_question.binds (ps := ["reader"]) fun _ _ _ _ _ _ us hl => match us, hl with | [_], _ => rfl
  have F_answer_by_name := fun_mk (st := s_answer_by_name) l40 c40 k40
  have b_answer_by_name := F_answer_by_name.binds (ps := ["things", "call", "reader"]) fun _ _ _ _ _ _ us hl => match us, hl with | [_, _, _], _ => rfl
  have F_answer_call := fun_mk (st := s_answer_call) l41 c41 k41
  have b_answer_call := F_answer_call.binds (ps := ["world", "reader"]) fun _ _ _ _ _ _ us hl => match us, hl with | [_, _], _ => rfl
  have F_answers := fun_mk (st := s_answers) l42 c42 k42
  have b_answers := F_answers.binds (ps := ["calls"]) fun _ _ _ _ _ _ us hl => match us, hl with | [_], _ => rfl
  have F_Question___init__ := fun_mk (st := s_Question___init__) l6 c6 k6
  have b_Question___init__ := F_Question___init__.binds (ps := ["self", "all_of", "none_of", "one_of"]) fun _ _ _ _ _ _ us hl => match us, hl with | [_, _, _, _], _ => rfl
  have F_Question_wrong := fun_mk (st := s_Question_wrong) l7 c7 k7
  have b_Question_wrong := F_Question_wrong.binds (ps := ["self"]) fun _ _ _ _ _ _ us hl => match us, hl with | [_], _ => rfl
  have F_Question_fits := fun_mk (st := s_Question_fits) l8 c8 k8
  have b_Question_fits := F_Question_fits.binds (ps := ["self", "parts"]) fun _ _ _ _ _ _ us hl => match us, hl with | [_, _], _ => rfl
  have F_Kept___init__ := fun_mk (st := s_Kept___init__) l9 c9 k9
  have b_Kept___init__ := F_Kept___init__.binds (ps := ["self", "question"]) fun _ _ _ _ _ _ us hl => match us, hl with | [_, _], _ => rfl
  have F_Things___init__ := fun_mk (st := s_Things___init__) l10 c10 k10
  have b_Things___init__ := F_Things___init__.binds (ps := ["self"]) fun _ _ _ _ _ _ us hl => match us, hl with | [_], _ => rfl
  have F_Things_how_many := fun_mk (st := s_Things_how_many) l11 c11 k11
  have b_Things_how_many := F_Things_how_many.binds (ps := ["self"]) fun _ _ _ _ _ _ us hl => match us, hl with | [_], _ => rfl
  have F_Things_how_many_gone := fun_mk (st := s_Things_how_many_gone) l12 c12 k12
  have b_Things_how_many_gone := F_Things_how_many_gone.binds (ps := ["self"]) fun _ _ _ _ _ _ us hl => match us, hl with | [_], _ => rfl
  have F_Things_twin := fun_mk (st := s_Things_twin) l13 c13 k13
  have b_Things_twin := F_Things_twin.binds (ps := ["self"]) fun _ _ _ _ _ _ us hl => match us, hl with | [_], _ => rfl
  have F_Things_lives := fun_mk (st := s_Things_lives) l14 c14 k14
  have b_Things_lives := F_Things_lives.binds (ps := ["self", "place", "turn"]) fun _ _ _ _ _ _ us hl => match us, hl with | [_, _, _], _ => rfl
  have F_Things_free_place := fun_mk (st := s_Things_free_place) l15 c15 k15
  have b_Things_free_place := F_Things_free_place.binds (ps := ["self"]) fun _ _ _ _ _ _ us hl => match us, hl with | [_], _ => rfl
  have F_Things_bring := fun_mk (st := s_Things_bring) l16 c16 k16
  have b_Things_bring := F_Things_bring.binds (ps := ["self", "parts"]) fun _ _ _ _ _ _ us hl => match us, hl with | [_, _], _ => rfl
  have F_Things_make := fun_mk (st := s_Things_make) l17 c17 k17
  have b_Things_make := F_Things_make.binds (ps := ["self", "parts"]) fun _ _ _ _ _ _ us hl => match us, hl with | [_, _], _ => rfl
  have F_Things_gone := fun_mk (st := s_Things_gone) l18 c18 k18
  have b_Things_gone := F_Things_gone.binds (ps := ["self", "place", "turn"]) fun _ _ _ _ _ _ us hl => match us, hl with | [_, _, _], _ => rfl
  have F_Things_put := fun_mk (st := s_Things_put) l19 c19 k19
  have b_Things_put := F_Things_put.binds (ps := ["self", "place", "turn", "kind", "value"]) fun _ _ _ _ _ _ us hl => match us, hl with | [_, _, _, _, _], _ => rfl
  have F_Things_take := fun_mk (st := s_Things_take) l20 c20 k20
  have b_Things_take := F_Things_take.binds (ps := ["self", "place", "turn", "kind"]) fun _ _ _ _ _ _ us hl => match us, hl with | [_, _, _, _], _ => rfl
  have F_Things_value_of := fun_mk (st := s_Things_value_of) l21 c21 k21
  have b_Things_value_of := F_Things_value_of.binds (ps := ["self", "place", "turn", "kind"]) fun _ _ _ _ _ _ us hl => match us, hl with | [_, _, _, _], _ => rfl
  have F_Things_parts_of := fun_mk (st := s_Things_parts_of) l22 c22 k22
  have b_Things_parts_of := F_Things_parts_of.binds (ps := ["self", "place", "turn"]) fun _ _ _ _ _ _ us hl => match us, hl with | [_, _, _], _ => rfl
  have F_Things_told_by := fun_mk (st := s_Things_told_by) l23 c23 k23
  have b_Things_told_by := F_Things_told_by.binds (ps := ["self", "question"]) fun _ _ _ _ _ _ us hl => match us, hl with | [_, _], _ => rfl
  have F_Things_ask := fun_mk (st := s_Things_ask) l24 c24 k24
  have b_Things_ask := F_Things_ask.binds (ps := ["self", "question"]) fun _ _ _ _ _ _ us hl => match us, hl with | [_, _], _ => rfl
  have F_Things_sum_of := fun_mk (st := s_Things_sum_of) l25 c25 k25
  have b_Things_sum_of := F_Things_sum_of.binds (ps := ["self", "kind", "question"]) fun _ _ _ _ _ _ us hl => match us, hl with | [_, _, _], _ => rfl
  have F_World___init__ := fun_mk (st := s_World___init__) l29 c29 k29
  have b_World___init__ := F_World___init__.binds (ps := ["self"]) fun _ _ _ _ _ _ us hl => match us, hl with | [_], _ => rfl
  have F_World_later := fun_mk (st := s_World_later) l30 c30 k30
  have b_World_later := F_World_later.binds (ps := ["self", "change"]) fun _ _ _ _ _ _ us hl => match us, hl with | [_, _], _ => rfl
  have F_World_apply := fun_mk (st := s_World_apply) l31 c31 k31
  have b_World_apply := F_World_apply.binds (ps := ["self"]) fun _ _ _ _ _ _ us hl => match us, hl with | [_], _ => rfl
  have F_World_keep := fun_mk (st := s_World_keep) l32 c32 k32
  have b_World_keep := F_World_keep.binds (ps := ["self", "question"]) fun _ _ _ _ _ _ us hl => match us, hl with | [_, _], _ => rfl
  have F_World_fresh := fun_mk (st := s_World_fresh) l33 c33 k33
  have b_World_fresh := F_World_fresh.binds (ps := ["self", "which"]) fun _ _ _ _ _ _ us hl => match us, hl with | [_, _], _ => rfl
  have F_World_counts := fun_mk (st := s_World_counts) l34 c34 k34
  have b_World_counts := F_World_counts.binds (ps := ["self"]) fun _ _ _ _ _ _ us hl => match us, hl with | [_], _ => rfl
  have F_Reader___init__ := fun_mk (st := s_Reader___init__) l35 c35 k35
  have b_Reader___init__ := F_Reader___init__.binds (ps := ["self", "numbers"]) fun _ _ _ _ _ _ us hl => match us, hl with | [_, _], _ => rfl
  have F_Reader_more := fun_mk (st := s_Reader_more) l36 c36 k36
  have b_Reader_more := F_Reader_more.binds (ps := ["self"]) fun _ _ _ _ _ _ us hl => match us, hl with | [_], _ => rfl
  have F_Reader_number := fun_mk (st := s_Reader_number) l37 c37 k37
  have b_Reader_number := F_Reader_number.binds (ps := ["self"]) fun _ _ _ _ _ _ us hl => match us, hl with | [_], _ => rfl
  have F_Reader_row := fun_mk (st := s_Reader_row) l38 c38 k38
  have b_Reader_row := F_Reader_row.binds (ps := ["self"]) fun _ _ _ _ _ _ us hl => match us, hl with | [_], _ => rfl
  have tx_Question : QTxt K C_Question := ⟨cl_Question, n_Question_all_of, n_Question_none_of, n_Question_one_of⟩
  have tx_Kept : KTxt K C_Kept := ⟨cl_Kept, n_Kept_question, n_Kept_told⟩
  have tx_Things : WTxt K C_Things := ⟨cl_Things, n_Things_held, n_Things_turns⟩
  have tx_World : HTxt K C_World := ⟨cl_World, n_World_things, n_World_put_off, n_World_kept⟩
  have tx_Reader : RTxt K C_Reader := ⟨cl_Reader, n_Reader_numbers, n_Reader_at⟩
  refine ⟨PySem.W.fnOf "answers" "answers" (defArgs s_answers) (defBody s_answers) (defScope s_answers) .none kV42 dc42 pm42 an42 cd42 ct42, fun s us hl => .of_eq (match us, hl with | [_], _ => rfl), fun base Kb Nb => ?_⟩
  have D_Things : MakeOk P w K mg base 1 "Things" C_Things ["self"] _ := ⟨PySem.W.mg_of X G a_Things, _, _, ok_Things___init__ F_Things___init__ tx_Things, ⟨mk_Things, a_Things___init__, i_Things___init__, kc_Things⟩, b_Things___init__⟩
  have D_World : MakeOk P w K mg base 3 "World" C_World ["self"] _ := ⟨PySem.W.mg_of X G a_World, _, _, ok_World___init__ (cs := ⟨C_Things, C_Question, C_Kept, C_World⟩) F_World___init__ tx_World D_Things, ⟨mk_World, a_World___init__, i_World___init__, kc_World⟩, b_World___init__⟩
  have D_Reader : MakeOk P w K mg base 1 "Reader" C_Reader ["self", "numbers"] _ := ⟨PySem.W.mg_of X G a_Reader, _, _, ok_Reader___init__ F_Reader___init__ tx_Reader, ⟨mk_Reader, a_Reader___init__, i_Reader___init__, kc_Reader⟩, b_Reader___init__⟩
  have D_Reader_more : MethOk P w K mg base 1 C_Reader "more" ["self"] _ := ⟨cl_Reader, _, _, ok_Reader_more F_Reader_more T tx_Reader, ⟨a_Reader_more, i_Reader_more, k36⟩, b_Reader_more⟩
  have D_Reader_number : MethOk P w K mg base 1 C_Reader "number" ["self"] _ := ⟨cl_Reader, _, _, ok_Reader_number F_Reader_number tx_Reader, ⟨a_Reader_number, i_Reader_number, k37⟩, b_Reader_number⟩
  have D_Reader_row : MethOk P w K mg base 2 C_Reader "row" ["self"] _ := ⟨cl_Reader, _, _, ok_Reader_row F_Reader_row tx_Reader D_Reader_number, ⟨a_Reader_row, i_Reader_row, k38⟩, b_Reader_row⟩
  have D_Things_lives : MethOk P w K mg base 1 C_Things "lives" ["self", "place", "turn"] _ := ⟨cl_Things, _, _, ok_Things_lives F_Things_lives T tx_Things, ⟨a_Things_lives, i_Things_lives, k14⟩, b_Things_lives⟩
  have D_Things_how_many : MethOk P w K mg base 1 C_Things "how_many" ["self"] _ := ⟨cl_Things, _, _, ok_Things_how_many F_Things_how_many T tx_Things, ⟨a_Things_how_many, i_Things_how_many, k11⟩, b_Things_how_many⟩
  have D_Things_gone : MethOk P w K mg base 2 C_Things "gone" ["self", "place", "turn"] _ := ⟨cl_Things, _, _, ok_Things_gone F_Things_gone T tx_Things D_Things_lives D_Things_how_many, ⟨a_Things_gone, i_Things_gone, k18⟩, b_Things_gone⟩
  have D_Things_parts_of : MethOk P w K mg base 2 C_Things "parts_of" ["self", "place", "turn"] _ := ⟨cl_Things, _, _, ok_Things_parts_of F_Things_parts_of T tx_Things D_Things_lives, ⟨a_Things_parts_of, i_Things_parts_of, k22⟩, b_Things_parts_of⟩
  have D_Things_take : MethOk P w K mg base 2 C_Things "take" ["self", "place", "turn", "kind"] _ := ⟨cl_Things, _, _, ok_Things_take F_Things_take T tx_Things D_Things_lives, ⟨a_Things_take, i_Things_take, k20⟩, b_Things_take⟩
  have D_Things_value_of : MethOk P w K mg base 2 C_Things "value_of" ["self", "place", "turn", "kind"] _ := ⟨cl_Things, _, _, ok_Things_value_of F_Things_value_of T tx_Things D_Things_lives, ⟨a_Things_value_of, i_Things_value_of, k21⟩, b_Things_value_of⟩
  have D_wrong_part : DefOk P w K mg base 1 "wrong_part" ["kind", "value"] _ := ⟨_, _, ok_wrong_part F_wrong_part T, PySem.W.mg_of X G a_wrong_part, k1, b_wrong_part⟩
  have D_Things_put : MethOk P w K mg base 2 C_Things "put" ["self", "place", "turn", "kind", "value"] _ := ⟨cl_Things, _, _, ok_Things_put F_Things_put T tx_Things D_Things_lives D_wrong_part, ⟨a_Things_put, i_Things_put, k19⟩, b_Things_put⟩
  have D_answer_by_name : DefOk P w K mg base 3 "answer_by_name" ["things", "call", "reader"] _ := ⟨_, _, ok_answer_by_name (cs := ⟨C_Things, C_Question, C_Kept, C_World⟩) F_answer_by_name T D_Reader_number D_Things_gone D_Things_parts_of D_Things_take D_Things_value_of D_Things_put, PySem.W.mg_of X G a_answer_by_name, k40, b_answer_by_name⟩
  have D_Question : MakeOk P w K mg base 1 "Question" C_Question ["self", "all_of", "none_of", "one_of"] _ := ⟨PySem.W.mg_of X G a_Question, _, _, ok_Question___init__ F_Question___init__ tx_Question, ⟨mk_Question, a_Question___init__, i_Question___init__, kc_Question⟩, b_Question___init__⟩
  have D_read_question : DefOk P w K mg base 3 "read_question" ["reader"] _ := ⟨_, _, ok_read_question (cs := ⟨C_Things, C_Question, C_Kept, C_World⟩) F_read_question T D_Reader_row D_Question, PySem.W.mg_of X G a_read_question, k39, b_read_question⟩
  have D_wrong_parts : DefOk P w K mg base 2 "wrong_parts" ["parts"] _ := ⟨_, _, ok_wrong_parts F_wrong_parts T D_wrong_part, PySem.W.mg_of X G a_wrong_parts, k2, b_wrong_parts⟩
  have D_Things_free_place : MethOk P w K mg base 1 C_Things "free_place" ["self"] _ := ⟨cl_Things, _, _, ok_Things_free_place F_Things_free_place T tx_Things, ⟨a_Things_free_place, i_Things_free_place, k15⟩, b_Things_free_place⟩
  have D_by_kind : DefOk P w K mg base 1 "by_kind" ["parts"] _ := ⟨_, _, ok_by_kind F_by_kind T, PySem.W.mg_of X G a_by_kind, k4, b_by_kind⟩
  have D_Things_bring : MethOk P w K mg base 2 C_Things "bring" ["self", "parts"] _ := ⟨cl_Things, _, _, ok_Things_bring F_Things_bring T tx_Things D_Things_free_place D_by_kind, ⟨a_Things_bring, i_Things_bring, k16⟩, b_Things_bring⟩
  have D_Things_make : MethOk P w K mg base 3 C_Things "make" ["self", "parts"] _ := ⟨cl_Things, _, _, ok_Things_make F_Things_make T tx_Things D_wrong_parts D_Things_how_many D_Things_bring, ⟨a_Things_make, i_Things_make, k17⟩, b_Things_make⟩
  have D_Question_wrong : MethOk P w K mg base 1 C_Question "wrong" ["self"] _ := ⟨cl_Question, _, _, ok_Question_wrong F_Question_wrong T tx_Question, ⟨a_Question_wrong, i_Question_wrong, k7⟩, b_Question_wrong⟩
  have D_Question_fits : MethOk P w K mg base 1 C_Question "fits" ["self", "parts"] _ := ⟨cl_Question, _, _, ok_Question_fits F_Question_fits T tx_Question, ⟨a_Question_fits, i_Question_fits, k8⟩, b_Question_fits⟩
  have D_Things_told_by : MethOk P w K mg base 2 C_Things "told_by" ["self", "question"] _ := ⟨cl_Things, _, _, ok_Things_told_by F_Things_told_by T tx_Things D_Question_fits, ⟨a_Things_told_by, i_Things_told_by, k23⟩, b_Things_told_by⟩
  have D_counted_names : DefOk P w K mg base 1 "counted_names" ["names"] _ := ⟨_, _, ok_counted_names F_counted_names T, PySem.W.mg_of X G a_counted_names, k5, b_counted_names⟩
  have D_Things_ask : MethOk P w K mg base 3 C_Things "ask" ["self", "question"] _ := ⟨cl_Things, _, _, ok_Things_ask F_Things_ask T D_Question_wrong D_Things_told_by D_counted_names, ⟨a_Things_ask, i_Things_ask, k24⟩, b_Things_ask⟩
  have D_Things_sum_of : MethOk P w K mg base 3 C_Things "sum_of" ["self", "kind", "question"] _ := ⟨cl_Things, _, _, ok_Things_sum_of F_Things_sum_of T tx_Things D_Question_wrong D_Things_told_by, ⟨a_Things_sum_of, i_Things_sum_of, k25⟩, b_Things_sum_of⟩
  have D_wrong_change : DefOk P w K mg base 3 "wrong_change" ["change"] _ := ⟨_, _, ok_wrong_change F_wrong_change T D_wrong_part D_wrong_parts, PySem.W.mg_of X G a_wrong_change, k3, b_wrong_change⟩
  have D_World_later : MethOk P w K mg base 4 C_World "later" ["self", "change"] _ := ⟨cl_World, _, _, ok_World_later (cs := ⟨C_Things, C_Question, C_Kept, C_World⟩) F_World_later T tx_World D_wrong_change, ⟨a_World_later, i_World_later, k30⟩, b_World_later⟩
  have D_Things_twin : MethOk P w K mg base 3 C_Things "twin" ["self"] _ := ⟨cl_Things, _, _, ok_Things_twin F_Things_twin T tx_Things D_Things, ⟨a_Things_twin, i_Things_twin, k13⟩, b_Things_twin⟩
  have D_by_name : DefOk P w K mg base 1 "by_name" ["change", "name_by_word"] _ := ⟨_, _, ok_by_name F_by_name T, PySem.W.mg_of X G a_by_name, k26, b_by_name⟩
  have D_do_by_name : DefOk P w K mg base 3 "do_by_name" ["things", "change"] _ := ⟨_, _, ok_do_by_name F_do_by_name T D_Things_gone D_Things_put D_Things_take, PySem.W.mg_of X G a_do_by_name, k27, b_do_by_name⟩
  have D_do_change : DefOk P w K mg base 4 "do_change" ["things", "change", "name_by_word"] _ := ⟨_, _, ok_do_change F_do_change T D_Things_bring D_by_name D_do_by_name, PySem.W.mg_of X G a_do_change, k28, b_do_change⟩
  have D_World_apply : MethOk P w K mg base 5 C_World "apply" ["self"] _ := ⟨cl_World, _, _, ok_World_apply (cs := ⟨C_Things, C_Question, C_Kept, C_World⟩) F_World_apply T tx_World D_Things_twin D_do_change D_Things_how_many, ⟨a_World_apply, i_World_apply, k31⟩, b_World_apply⟩
  have D_Kept : MakeOk P w K mg base 1 "Kept" C_Kept ["self", "question"] _ := ⟨PySem.W.mg_of X G a_Kept, _, _, ok_Kept___init__ F_Kept___init__ tx_Kept, ⟨mk_Kept, a_Kept___init__, i_Kept___init__, kc_Kept⟩, b_Kept___init__⟩
  have D_World_keep : MethOk P w K mg base 3 C_World "keep" ["self", "question"] _ := ⟨cl_World, _, _, ok_World_keep (cs := ⟨C_Things, C_Question, C_Kept, C_World⟩) F_World_keep T tx_World D_Question_wrong D_Kept, ⟨a_World_keep, i_World_keep, k32⟩, b_World_keep⟩
  have D_World_fresh : MethOk P w K mg base 3 C_World "fresh" ["self", "which"] _ := ⟨cl_World, _, _, ok_World_fresh (cs := ⟨C_Things, C_Question, C_Kept, C_World⟩) F_World_fresh T tx_World tx_Kept D_Things_told_by D_counted_names, ⟨a_World_fresh, i_World_fresh, k33⟩, b_World_fresh⟩
  have D_Things_how_many_gone : MethOk P w K mg base 1 C_Things "how_many_gone" ["self"] _ := ⟨cl_Things, _, _, ok_Things_how_many_gone F_Things_how_many_gone T tx_Things, ⟨a_Things_how_many_gone, i_Things_how_many_gone, k12⟩, b_Things_how_many_gone⟩
  have D_World_counts : MethOk P w K mg base 2 C_World "counts" ["self"] _ := ⟨cl_World, _, _, ok_World_counts (cs := ⟨C_Things, C_Question, C_Kept, C_World⟩) F_World_counts T tx_World D_Things_how_many D_Things_how_many_gone, ⟨a_World_counts, i_World_counts, k34⟩, b_World_counts⟩
  have D_answer_call : DefOk P w K mg base 6 "answer_call" ["world", "reader"] _ := ⟨_, _, ok_answer_call (cs := ⟨C_Things, C_Question, C_Kept, C_World⟩) F_answer_call T tx_World D_Reader_number D_Reader_row D_answer_by_name D_read_question D_Things_make D_Things_ask D_Things_sum_of D_World_later D_World_apply D_World_keep D_World_fresh D_World_counts, PySem.W.mg_of X G a_answer_call, k41, b_answer_call⟩
  exact ok_answers (cs := ⟨C_Things, C_Question, C_Kept, C_World⟩) F_answers T D_World D_Reader D_Reader_more D_answer_call
end Pw
open PySem PySem.W PyProof.Rows
set_option maxRecDepth 100000 in
set_option maxHeartbeats 16000000 in
theorem PySem.Challenge.cw_partsworld_s01_answers_holds : PySem.Challenge.rw_partsworld_s01_answers.Holds := by
  w_on; k_headS; (case hw => exact ⟨[.list [.int 12]], by decide +kernel, by decide +kernel⟩)
  k_fillS
  refine L2.walk_specK (r := PySem.Challenge.rw_partsworld_s01_answers) (k := 7) (CX := L2.CX0) (ps := ["calls"]) (sp := Pw.sp_answers) (by decide +kernel) rfl rfl ⟨rfl, by decide, by decide⟩ (fun w h Y => PySem.W.kIn_of Y) ?F ?S (fun _ _ _ _ z => z)
  case F =>
    intro w mg fa h Y KX G hmg
    refine' Pw.all_mk KX G hmg ?v1 ?v2 ?v3 ?v4 ?v5 ?v6 ?v7 ?v8 ?v9 ?v10 ?v11 ?v12 ?v13 ?v14 ?v15 ?v16 ?v17 ?v18 ?v19 ?v20 ?v21 ?v22 ?v23 ?v24 ?v25 ?v26 ?v27 ?v28 ?a_wrong_part ?l1 ?c1 ?k1 ?a_wrong_parts ?l2 ?c2 ?k2 ?a_wrong_change ?l3 ?c3 ?k3 ?a_by_kind ?l4 ?c4 ?k4 ?a_counted_names ?l5 ?c5 ?k5 ?a_Question ?pg_Question ?hd_Question ?po_Question ?sa_Question ?mk_Question ?kc_Question ?n_Question_all_of ?n_Question_none_of ?n_Question_one_of ?a_Question___init__ ?i_Question___init__ ?l6 ?c6 ?k6 ?a_Question_wrong ?i_Question_wrong ?l7 ?c7 ?k7 ?a_Question_fits ?i_Question_fits ?l8 ?c8 ?k8 ?a_Kept ?pg_Kept ?hd_Kept ?po_Kept ?sa_Kept ?mk_Kept ?kc_Kept ?n_Kept_question ?n_Kept_told ?a_Kept___init__ ?i_Kept___init__ ?l9 ?c9 ?k9 ?a_Things ?pg_Things ?hd_Things ?po_Things ?sa_Things ?mk_Things ?kc_Things ?n_Things_held ?n_Things_turns ?a_Things___init__ ?i_Things___init__ ?l10 ?c10 ?k10 ?a_Things_how_many ?i_Things_how_many ?l11 ?c11 ?k11 ?a_Things_how_many_gone ?i_Things_how_many_gone ?l12 ?c12 ?k12 ?a_Things_twin ?i_Things_twin ?l13 ?c13 ?k13 ?a_Things_lives ?i_Things_lives ?l14 ?c14 ?k14 ?a_Things_free_place ?i_Things_free_place ?l15 ?c15 ?k15 ?a_Things_bring ?i_Things_bring ?l16 ?c16 ?k16 ?a_Things_make ?i_Things_make ?l17 ?c17 ?k17 ?a_Things_gone ?i_Things_gone ?l18 ?c18 ?k18 ?a_Things_put ?i_Things_put ?l19 ?c19 ?k19 ?a_Things_take ?i_Things_take ?l20 ?c20 ?k20 ?a_Things_value_of ?i_Things_value_of ?l21 ?c21 ?k21 ?a_Things_parts_of ?i_Things_parts_of ?l22 ?c22 ?k22 ?a_Things_told_by ?i_Things_told_by ?l23 ?c23 ?k23 ?a_Things_ask ?i_Things_ask ?l24 ?c24 ?k24 ?a_Things_sum_of ?i_Things_sum_of ?l25 ?c25 ?k25 ?a_by_name ?l26 ?c26 ?k26 ?a_do_by_name ?l27 ?c27 ?k27 ?a_do_change ?l28 ?c28 ?k28 ?a_World ?pg_World ?hd_World ?po_World ?sa_World ?mk_World ?kc_World ?n_World_things ?n_World_put_off ?n_World_kept ?a_World___init__ ?i_World___init__ ?l29 ?c29 ?k29 ?a_World_later ?i_World_later ?l30 ?c30 ?k30 ?a_World_apply ?i_World_apply ?l31 ?c31 ?k31 ?a_World_keep ?i_World_keep ?l32 ?c32 ?k32 ?a_World_fresh ?i_World_fresh ?l33 ?c33 ?k33 ?a_World_counts ?i_World_counts ?l34 ?c34 ?k34 ?a_Reader ?pg_Reader ?hd_Reader ?po_Reader ?sa_Reader ?mk_Reader ?kc_Reader ?n_Reader_numbers ?n_Reader_at ?a_Reader___init__ ?i_Reader___init__ ?l35 ?c35 ?k35 ?a_Reader_more ?i_Reader_more ?l36 ?c36 ?k36 ?a_Reader_number ?i_Reader_number ?l37 ?c37 ?k37 ?a_Reader_row ?i_Reader_row ?l38 ?c38 ?k38 ?a_read_question ?l39 ?c39 ?k39 ?a_answer_by_name ?l40 ?c40 ?k40 ?a_answer_call ?l41 ?c41 ?k41 ?a_answers ?l42 ?c42 ?k42 ?z_len ?z_range ?z_enumerate ?z_sorted ?z_sum ?z_max ?z_all ?z_any ?z_list ?z_dict
    (case v1 => k_is)
    (case v2 => k_is)
    (case v3 => k_is)
    (case v4 => k_is)
    (case v5 => k_is)
    (case v6 => k_is)
    (case v7 => k_is)
    (case v8 => k_is)
    (case v9 => k_is)
    (case v10 => k_is)
    (case v11 => k_is)
    (case v12 => k_is)
    (case v13 => k_is)
    (case v14 => k_is)
    (case v15 => k_is)
    (case v16 => k_is)
    (case v17 => k_is)
    (case v18 => k_is)
    (case v19 => k_is)
    (case v20 => k_is)
    (case v21 => k_is)
    (case v22 => k_is)
    (case v23 => k_is)
    (case v24 => k_is)
    (case v25 => k_is)
    (case v26 => k_is)
    (case v27 => k_is)
    (case v28 => k_is)
    (case a_wrong_part => k_is)
    (case l1 => k_is)
    (case c1 => k_is)
    (case k1 => k_is)
    (case a_wrong_parts => k_is)
    (case l2 => k_is)
    (case c2 => k_is)
    (case k2 => k_is)
    (case a_wrong_change => k_is)
    (case l3 => k_is)
    (case c3 => k_is)
    (case k3 => k_is)
    (case a_by_kind => k_is)
    (case l4 => k_is)
    (case c4 => k_is)
    (case k4 => k_is)
    (case a_counted_names => k_is)
    (case l5 => k_is)
    (case c5 => k_is)
    (case k5 => k_is)
    (case a_Question => k_is)
    (case pg_Question => k_is)
    (case hd_Question => k_is)
    (case po_Question => k_is)
    (case sa_Question => k_is)
    (case mk_Question => k_is)
    (case kc_Question => k_is)
    (case n_Question_all_of => k_is)
    (case n_Question_none_of => k_is)
    (case n_Question_one_of => k_is)
    (case a_Question___init__ => k_is)
    (case i_Question___init__ => k_is)
    (case l6 => k_is)
    (case c6 => k_is)
    (case k6 => k_is)
    (case a_Question_wrong => k_is)
    (case i_Question_wrong => k_is)
    (case l7 => k_is)
    (case c7 => k_is)
    (case k7 => k_is)
    (case a_Question_fits => k_is)
    (case i_Question_fits => k_is)
    (case l8 => k_is)
    (case c8 => k_is)
    (case k8 => k_is)
    (case a_Kept => k_is)
    (case pg_Kept => k_is)
    (case hd_Kept => k_is)
    (case po_Kept => k_is)
    (case sa_Kept => k_is)
    (case mk_Kept => k_is)
    (case kc_Kept => k_is)
    (case n_Kept_question => k_is)
    (case n_Kept_told => k_is)
    (case a_Kept___init__ => k_is)
    (case i_Kept___init__ => k_is)
    (case l9 => k_is)
    (case c9 => k_is)
    (case k9 => k_is)
    (case a_Things => k_is)
    (case pg_Things => k_is)
    (case hd_Things => k_is)
    (case po_Things => k_is)
    (case sa_Things => k_is)
    (case mk_Things => k_is)
    (case kc_Things => k_is)
    (case n_Things_held => k_is)
    (case n_Things_turns => k_is)
    (case a_Things___init__ => k_is)
    (case i_Things___init__ => k_is)
    (case l10 => k_is)
    (case c10 => k_is)
    (case k10 => k_is)
    (case a_Things_how_many => k_is)
    (case i_Things_how_many => k_is)
    (case l11 => k_is)
    (case c11 => k_is)
    (case k11 => k_is)
    (case a_Things_how_many_gone => k_is)
    (case i_Things_how_many_gone => k_is)
    (case l12 => k_is)
    (case c12 => k_is)
    (case k12 => k_is)
    (case a_Things_twin => k_is)
    (case i_Things_twin => k_is)
    (case l13 => k_is)
    (case c13 => k_is)
    (case k13 => k_is)
    (case a_Things_lives => k_is)
    (case i_Things_lives => k_is)
    (case l14 => k_is)
    (case c14 => k_is)
    (case k14 => k_is)
    (case a_Things_free_place => k_is)
    (case i_Things_free_place => k_is)
    (case l15 => k_is)
    (case c15 => k_is)
    (case k15 => k_is)
    (case a_Things_bring => k_is)
    (case i_Things_bring => k_is)
    (case l16 => k_is)
    (case c16 => k_is)
    (case k16 => k_is)
    (case a_Things_make => k_is)
    (case i_Things_make => k_is)
    (case l17 => k_is)
    (case c17 => k_is)
    (case k17 => k_is)
    (case a_Things_gone => k_is)
    (case i_Things_gone => k_is)
    (case l18 => k_is)
    (case c18 => k_is)
    (case k18 => k_is)
    (case a_Things_put => k_is)
    (case i_Things_put => k_is)
    (case l19 => k_is)
    (case c19 => k_is)
    (case k19 => k_is)
    (case a_Things_take => k_is)
    (case i_Things_take => k_is)
    (case l20 => k_is)
    (case c20 => k_is)
    (case k20 => k_is)
    (case a_Things_value_of => k_is)
    (case i_Things_value_of => k_is)
    (case l21 => k_is)
    (case c21 => k_is)
    (case k21 => k_is)
    (case a_Things_parts_of => k_is)
    (case i_Things_parts_of => k_is)
    (case l22 => k_is)
    (case c22 => k_is)
    (case k22 => k_is)
    (case a_Things_told_by => k_is)
    (case i_Things_told_by => k_is)
    (case l23 => k_is)
    (case c23 => k_is)
    (case k23 => k_is)
    (case a_Things_ask => k_is)
    (case i_Things_ask => k_is)
    (case l24 => k_is)
    (case c24 => k_is)
    (case k24 => k_is)
    (case a_Things_sum_of => k_is)
    (case i_Things_sum_of => k_is)
    (case l25 => k_is)
    (case c25 => k_is)
    (case k25 => k_is)
    (case a_by_name => k_is)
    (case l26 => k_is)
    (case c26 => k_is)
    (case k26 => k_is)
    (case a_do_by_name => k_is)
    (case l27 => k_is)
    (case c27 => k_is)
    (case k27 => k_is)
    (case a_do_change => k_is)
    (case l28 => k_is)
    (case c28 => k_is)
    (case k28 => k_is)
    (case a_World => k_is)
    (case pg_World => k_is)
    (case hd_World => k_is)
    (case po_World => k_is)
    (case sa_World => k_is)
    (case mk_World => k_is)
    (case kc_World => k_is)
    (case n_World_things => k_is)
    (case n_World_put_off => k_is)
    (case n_World_kept => k_is)
    (case a_World___init__ => k_is)
    (case i_World___init__ => k_is)
    (case l29 => k_is)
    (case c29 => k_is)
    (case k29 => k_is)
    (case a_World_later => k_is)
    (case i_World_later => k_is)
    (case l30 => k_is)
    (case c30 => k_is)
    (case k30 => k_is)
    (case a_World_apply => k_is)
    (case i_World_apply => k_is)
    (case l31 => k_is)
    (case c31 => k_is)
    (case k31 => k_is)
    (case a_World_keep => k_is)
    (case i_World_keep => k_is)
    (case l32 => k_is)
    (case c32 => k_is)
    (case k32 => k_is)
    (case a_World_fresh => k_is)
    (case i_World_fresh => k_is)
    (case l33 => k_is)
    (case c33 => k_is)
    (case k33 => k_is)
    (case a_World_counts => k_is)
    (case i_World_counts => k_is)
    (case l34 => k_is)
    (case c34 => k_is)
    (case k34 => k_is)
    (case a_Reader => k_is)
    (case pg_Reader => k_is)
    (case hd_Reader => k_is)
    (case po_Reader => k_is)
    (case sa_Reader => k_is)
    (case mk_Reader => k_is)
    (case kc_Reader => k_is)
    (case n_Reader_numbers => k_is)
    (case n_Reader_at => k_is)
    (case a_Reader___init__ => k_is)
    (case i_Reader___init__ => k_is)
    (case l35 => k_is)
    (case c35 => k_is)
    (case k35 => k_is)
    (case a_Reader_more => k_is)
    (case i_Reader_more => k_is)
    (case l36 => k_is)
    (case c36 => k_is)
    (case k36 => k_is)
    (case a_Reader_number => k_is)
    (case i_Reader_number => k_is)
    (case l37 => k_is)
    (case c37 => k_is)
    (case k37 => k_is)
    (case a_Reader_row => k_is)
    (case i_Reader_row => k_is)
    (case l38 => k_is)
    (case c38 => k_is)
    (case k38 => k_is)
    (case a_read_question => k_is)
    (case l39 => k_is)
    (case c39 => k_is)
    (case k39 => k_is)
    (case a_answer_by_name => k_is)
    (case l40 => k_is)
    (case c40 => k_is)
    (case k40 => k_is)
    (case a_answer_call => k_is)
    (case l41 => k_is)
    (case c41 => k_is)
    (case k41 => k_is)
    (case a_answers => k_is)
    (case l42 => k_is)
    (case c42 => k_is)
    (case k42 => k_is)
    (case z_len => k_is)
    (case z_range => k_is)
    (case z_enumerate => k_is)
    (case z_sorted => k_is)
    (case z_sum => k_is)
    (case z_max => k_is)
    (case z_all => k_is)
    (case z_any => k_is)
    (case z_list => k_is)
    (case z_dict => k_is)
  case S =>
    intro K H xs a hO hwi hask hx
    cases hx with
    | cons h1 h2 =>
      cases h2
      cases h1 with
      | lst hs ha =>
        have e := L2.ints_dw a.1 _ ha
        subst e
        have q : ((Codec.inLen 0 2400 a.1 && a.1.all (Codec.inInt 0 4294967295)) && true) = true := hwi
        rw [Bool.and_eq_true, Bool.and_eq_true] at q
        exact ⟨_, a.1, rfl, hs, (Codec.inNat_iff.mp q.1.1).2, hask, fun H' p hp => .lst (L2.SqL.of hp) (L2.dw_ints _)⟩
