import PyProof.Rows.All
import Wide.All
import OpenK.AllK
import Wide.FinOn
import PyProof.EqAt
import PyProof.EqKinds
import PyProof.TupleCall
import Open.SpecLaws
import KE.OsHead
import KE.OsGo
import KE.GoesEnumKw
import HandS.ForSpec
import HandS.Comp
import HandS.Iter
import HandS.Deep
import PySem.Challenge.RW_ropeline_s01_answers
set_option Elab.async false
set_option linter.all false
/-! The mathematics: what the program computes, over plain lists, and that it is the specification's. -/
namespace Hm
open Uw38

/-! ### lists -/
theorem findSome_at {α β : Type} {f : α → Option β} : ∀ {l : List α} {i : Nat} {y : α} {b : β}, l[i]? = some y → f y = some b → (∀ j z, j < i → l[j]? = some z → f z = none) → l.findSome? f = some b
  | [], i, y, b, h, _, _ => by simp at h
  | a :: l, 0, y, b, h, hb, _ => by
    have e : a = y := Option.some.inj h
    subst e
    rw [List.findSome?_cons, hb]
  | a :: l, i + 1, y, b, h, hb, hn => by
    rw [List.findSome?_cons, hn 0 a (Nat.succ_pos _) rfl]
    exact findSome_at (l := l) (i := i) h hb fun j z hj hz => hn (j + 1) z (Nat.succ_lt_succ hj) hz
theorem findSome_no {α β : Type} {f : α → Option β} : ∀ {l : List α}, (∀ (j : Nat) z, l[j]? = some z → f z = none) → l.findSome? f = none
  | [], _ => rfl
  | a :: l, hn => by
    rw [List.findSome?_cons, hn 0 a rfl]
    exact findSome_no (l := l) fun j z hz => hn (j + 1) z hz
theorem find_at {α : Type} {f : α → Bool} : ∀ {l : List α} {i : Nat} {y : α}, l[i]? = some y → f y = true → (∀ j z, j < i → l[j]? = some z → f z = false) → l.find? f = some y
  | [], i, y, h, _, _ => by simp at h
  | a :: l, 0, y, h, hb, _ => by
    have e : a = y := Option.some.inj h
    subst e
    rw [List.find?_cons, hb]
  | a :: l, i + 1, y, h, hb, hn => by
    rw [List.find?_cons, hn 0 a (Nat.succ_pos _) rfl]
    exact find_at (l := l) (i := i) h hb fun j z hj hz => hn (j + 1) z (Nat.succ_lt_succ hj) hz
theorem find_no {α : Type} {f : α → Bool} : ∀ {l : List α}, (∀ (j : Nat) z, l[j]? = some z → f z = false) → l.find? f = none
  | [], _ => rfl
  | a :: l, hn => by
    rw [List.find?_cons, hn 0 a rfl]
    exact find_no (l := l) fun j z hz => hn (j + 1) z hz
theorem pairs_get : ∀ {ps : List (Nat × Nat)} {i : Nat} {a b : Nat × Nat}, ps[i]? = some a → ps[i + 1]? = some b → (pairs ps)[i]? = some (a, b)
  | [], i, a, b, h, _ => by simp at h
  | [x], i, a, b, _, h => by simp at h
  | x :: y :: r, 0, a, b, h, h' => by
    have e : x = a := Option.some.inj h
    have e' : y = b := Option.some.inj h'
    subst e e'
    rfl
  | x :: y :: r, i + 1, a, b, h, h' => by
    show (pairs (y :: r))[i]? = _
    exact pairs_get h h'
theorem pairs_of : ∀ {ps : List (Nat × Nat)} {i : Nat} {z : (Nat × Nat) × (Nat × Nat)}, (pairs ps)[i]? = some z → ps[i]? = some z.1 ∧ ps[i + 1]? = some z.2
  | [], i, z, h => by simp [pairs] at h
  | [x], i, z, h => by simp [pairs] at h
  | x :: y :: r, 0, z, h => by
    have e : (x, y) = z := Option.some.inj h
    subst e
    exact ⟨rfl, rfl⟩
  | x :: y :: r, i + 1, z, h => by
    have h2 : (pairs (y :: r))[i]? = some z := h
    exact pairs_of (ps := y :: r) (i := i) h2
theorem triples_get : ∀ {ps : List (Nat × Nat)} {i : Nat} {a b c : Nat × Nat}, ps[i]? = some a → ps[i + 1]? = some b → ps[i + 2]? = some c → (triples ps)[i]? = some (a, b, c)
  | [], i, a, b, c, h, _, _ => by simp at h
  | [x], i, a, b, c, _, h, _ => by simp at h
  | [x, y], i, a, b, c, _, _, h => by simp at h
  | x :: y :: z :: r, 0, a, b, c, h, h', h'' => by
    have e : x = a := Option.some.inj h
    have e' : y = b := Option.some.inj h'
    have e'' : z = c := Option.some.inj h''
    subst e e' e''
    rfl
  | x :: y :: z :: r, i + 1, a, b, c, h, h', h'' => by
    show (triples (y :: z :: r))[i]? = _
    exact triples_get h h' h''
theorem triples_of : ∀ {ps : List (Nat × Nat)} {i : Nat} {w : (Nat × Nat) × (Nat × Nat) × (Nat × Nat)}, (triples ps)[i]? = some w → ps[i]? = some w.1 ∧ ps[i + 1]? = some w.2.1 ∧ ps[i + 2]? = some w.2.2
  | [], i, w, h => by simp [triples] at h
  | [x], i, w, h => by simp [triples] at h
  | [x, y], i, w, h => by simp [triples] at h
  | x :: y :: z :: r, 0, w, h => by
    have e : (x, y, z) = w := Option.some.inj h
    subst e
    exact ⟨rfl, rfl, rfl⟩
  | x :: y :: z :: r, i + 1, w, h => by
    have h2 : (triples (y :: z :: r))[i]? = some w := h
    exact triples_of (ps := y :: z :: r) (i := i) h2
theorem pairs_app : ∀ (ps qs : List (Nat × Nat)), ∃ rs, pairs (ps ++ qs) = pairs ps ++ rs
  | [], qs => ⟨_, rfl⟩
  | [x], qs => ⟨pairs (x :: qs), rfl⟩
  | x :: y :: r, qs => by
    obtain ⟨rs, e⟩ := pairs_app (y :: r) qs
    refine ⟨rs, ?_⟩
    show (x, y) :: pairs (y :: r ++ qs) = (x, y) :: pairs (y :: r) ++ rs
    rw [e]
    rfl
theorem triples_app : ∀ (ps qs : List (Nat × Nat)), ∃ rs, triples (ps ++ qs) = triples ps ++ rs
  | [], qs => ⟨_, rfl⟩
  | [x], qs => ⟨triples (x :: qs), rfl⟩
  | [x, y], qs => ⟨triples (x :: y :: qs), rfl⟩
  | x :: y :: z :: r, qs => by
    obtain ⟨rs, e⟩ := triples_app (y :: z :: r) qs
    refine ⟨rs, ?_⟩
    show (x, y, z) :: triples (y :: z :: r ++ qs) = (x, y, z) :: triples (y :: z :: r) ++ rs
    rw [e]
    rfl

/-! ### places -/
def sup (l : Line) : Nat → List Nat → List (Nat × Nat)
  | _, [] => []
  | x, h :: r => if h = 0 then sup l (x + 1) r else (x, l.at_ x + h) :: sup l (x + 1) r
def endP (l : Line) (n : Nat) : List (Nat × Nat) := if n + 1 = l.points - 1 then [(l.points - 1, l.least (l.points - 1))] else []
def places (l : Line) (p : List Nat) : List (Nat × Nat) := (0, l.least 0) :: (sup l 1 p ++ endP l p.length)
theorem sup_snoc (l : Line) : ∀ (x : Nat) (p : List Nat) (h : Nat), sup l x (p ++ [h]) = sup l x p ++ (if h = 0 then [] else [(x + p.length, l.at_ (x + p.length) + h)])
  | x, [], h => by
    show (if h = 0 then [] else _) = _
    simp [sup]
  | x, g :: r, h => by
    show (if g = 0 then sup l (x + 1) (r ++ [h]) else (x, l.at_ x + g) :: sup l (x + 1) (r ++ [h])) = (if g = 0 then sup l (x + 1) r else (x, l.at_ x + g) :: sup l (x + 1) r) ++ _
    have e : x + (g :: r).length = x + 1 + r.length := by simp; omega
    rw [sup_snoc l (x + 1) r h, e]
    split <;> rfl
theorem sup_ge (l : Line) : ∀ (x : Nat) (p : List Nat) (z : Nat × Nat), z ∈ sup l x p → x ≤ z.1 ∧ z.1 < x + p.length
  | x, [], z, h => by simp [sup] at h
  | x, g :: r, z, h => by
    have h2 : z ∈ (if g = 0 then sup l (x + 1) r else (x, l.at_ x + g) :: sup l (x + 1) r) := h
    have e : x + (g :: r).length = x + 1 + r.length := by simp; omega
    rw [e]
    split at h2
    · have := sup_ge l (x + 1) r z h2
      omega
    · rcases List.mem_cons.mp h2 with q | q
      · subst q
        show x ≤ x ∧ x < _
        omega
      · have := sup_ge l (x + 1) r z q
        omega
theorem sup_inc (l : Line) : ∀ (x : Nat) (p : List Nat), (sup l x p).Pairwise fun a b => a.1 < b.1
  | x, [] => List.Pairwise.nil
  | x, g :: r => by
    show (if g = 0 then sup l (x + 1) r else (x, l.at_ x + g) :: sup l (x + 1) r).Pairwise _
    split
    · exact sup_inc l (x + 1) r
    · refine List.pairwise_cons.mpr ⟨fun z hz => ?_, sup_inc l (x + 1) r⟩
      have := sup_ge l (x + 1) r z hz
      show x < z.1
      omega
theorem places_inc (l : Line) (p : List Nat) (hp : p.length + 2 ≤ l.points) : (places l p).Pairwise fun a b => a.1 < b.1 := by
  unfold places
  refine List.pairwise_cons.mpr ⟨fun z hz => ?_, List.pairwise_append.mpr ⟨sup_inc l 1 p, ?_, fun a ha b hb => ?_⟩⟩
  · rcases List.mem_append.mp hz with h | h
    · have := sup_ge l 1 p z h
      show 0 < z.1
      omega
    · unfold endP at h
      split at h
      · have e := List.mem_singleton.mp h
        subst e
        show 0 < l.points - 1
        omega
      · simp at h
  · unfold endP
    split
    · exact List.pairwise_singleton _ _
    · exact List.Pairwise.nil
  · have h1 := sup_ge l 1 p a ha
    unfold endP at hb
    split at hb
    · have e := List.mem_singleton.mp hb
      subst e
      show a.1 < l.points - 1
      omega
    · simp at hb
theorem places_lt (l : Line) (p : List Nat) (hp : p.length + 2 ≤ l.points) : ∀ z ∈ places l p, z.1 < l.points := fun z hz => by
  unfold places at hz
  rcases List.mem_cons.mp hz with h | h
  · subst h
    show 0 < _
    omega
  · rcases List.mem_append.mp h with hs | h
    · have := sup_ge l 1 p z hs
      omega
    · unfold endP at h
      split at h
      · have e := List.mem_singleton.mp h
        subst e
        show l.points - 1 < _
        omega
      · simp at h
theorem knots_in (l : Line) (p : List Nat) (hp : p.length + 2 = l.points) : ∀ (q pre : List Nat) (x : Nat), p = pre ++ q → pre.length + 1 = x →
    (List.range' x q.length).filterMap (fun x => if x = 0 ∨ x + 1 = l.points then some (x, l.least x) else if p.getD (x - 1) 0 = 0 then none else some (x, l.at_ x + p.getD (x - 1) 0)) = sup l x q
  | [], pre, x, _, _ => rfl
  | h :: r, pre, x, e, ex => by
    have hl : p.length = pre.length + (r.length + 1) := by rw [e]; simp
    have eg : p.getD (x - 1) 0 = h := by
      rw [e, List.getD_eq_getElem?_getD, List.getElem?_append_right (by omega)]
      have : x - 1 - pre.length = 0 := by omega
      rw [this]
      rfl
    have ih := knots_in l p hp r (pre ++ [h]) (x + 1) (by rw [e]; simp) (by simp; omega)
    show (List.range' x (r.length + 1)).filterMap _ = (if h = 0 then sup l (x + 1) r else (x, l.at_ x + h) :: sup l (x + 1) r)
    rw [List.range'_succ, List.filterMap_cons, ih]
    rw [if_neg (show ¬ (x = 0 ∨ x + 1 = l.points) by omega), eg]
    by_cases hh : h = 0
    · rw [if_pos hh, if_pos hh]
    · rw [if_neg hh, if_neg hh]
theorem knots_eq (l : Line) (p : List Nat) (hp : p.length + 2 = l.points) : l.knots p = places l p := by
  have e1 : List.range l.points = 0 :: (List.range' 1 p.length ++ [p.length + 1]) := by
    rw [← hp, List.range_eq_range', List.range'_succ, List.range'_concat]
    simp [Nat.add_comm]
  have h1 := knots_in l p hp p [] 1 rfl rfl
  unfold Line.knots places
  rw [e1, List.filterMap_cons, if_pos (Or.inl rfl), List.filterMap_append, h1]
  have e2 : endP l p.length = [(p.length + 1, l.least (p.length + 1))] := by
    unfold endP
    have : l.points - 1 = p.length + 1 := by omega
    rw [this, if_pos rfl]
  rw [e2, List.filterMap_cons, if_pos (Or.inr (by omega))]
  rfl

/-! ### too low, lifting -/
def tooLow (l : Line) (a b : Nat × Nat) (x : Nat) : Bool := decide (height a b x < l.least x * (b.1 - a.1))
def lowIn (l : Line) (a b : Nat × Nat) : Option Nat := (List.range' a.1 (b.1 + 1 - a.1)).find? (tooLow l a b)
def firstLow (l : Line) (ps : List (Nat × Nat)) : Option Nat := (pairs ps).findSome? fun y => lowIn l y.1 y.2
def lift3 (y : (Nat × Nat) × (Nat × Nat) × (Nat × Nat)) : Bool := decide (height y.1 y.2.2 y.2.1.1 > y.2.1.2 * (y.2.2.1 - y.1.1))
def firstLift (ps : List (Nat × Nat)) : Option Nat := ((triples ps).find? lift3).map fun y => y.2.1.1
def lowAny (l : Line) (ps : List (Nat × Nat)) (x : Nat) : Bool := (pairs ps).any fun y => decide (y.1.1 ≤ x) && (decide (x ≤ y.2.1) && decide (height y.1 y.2 x < l.least x * (y.2.1 - y.1.1)))
theorem lowIn_some {l : Line} {a b : Nat × Nat} {x : Nat} (h : lowIn l a b = some x) : (a.1 ≤ x ∧ x ≤ b.1 ∧ tooLow l a b x = true) ∧ ∀ j, a.1 ≤ j → j < x → tooLow l a b j = false := by
  unfold lowIn at h
  obtain ⟨h1, h2, h3⟩ := List.find?_range'_eq_some.mp h
  rw [List.mem_range'_1] at h2
  exact ⟨⟨h2.1, by omega, h1⟩, fun j ha hj => by simpa using h3 j ha hj⟩
theorem lowIn_none {l : Line} {a b : Nat × Nat} (h : lowIn l a b = none) : ∀ j, a.1 ≤ j → j ≤ b.1 → tooLow l a b j = false := fun j h1 h2 => by
  unfold lowIn at h
  have := List.find?_eq_none.mp h j (List.mem_range'_1.mpr ⟨h1, by omega⟩)
  simpa using this
theorem pairs_mem_fst : ∀ {ps : List (Nat × Nat)} {y : (Nat × Nat) × (Nat × Nat)}, y ∈ pairs ps → y.1 ∈ ps
  | [], y, h => by simp [pairs] at h
  | [x], y, h => by simp [pairs] at h
  | a :: b :: r, y, h => by
    have h2 : y ∈ (a, b) :: pairs (b :: r) := h
    rcases List.mem_cons.mp h2 with q | q
    · subst q
      exact List.mem_cons_self
    · exact List.mem_cons_of_mem _ (pairs_mem_fst q)
theorem lowAny_false {l : Line} {ps : List (Nat × Nat)} {x : Nat} : lowAny l ps x = false ↔ ∀ y ∈ pairs ps, y.1.1 ≤ x → x ≤ y.2.1 → tooLow l y.1 y.2 x = false := by
  unfold lowAny tooLow
  rw [List.any_eq_false]
  constructor
  · intro h y hy h1 h2
    have := h y hy
    simp only [Bool.and_eq_true, decide_eq_true_eq, not_and] at this
    exact decide_eq_false (this h1 h2)
  · intro h y hy
    simp only [Bool.and_eq_true, decide_eq_true_eq, not_and]
    intro h1 h2
    exact of_decide_eq_false (h y hy h1 h2)
theorem lowAny_true {l : Line} {ps : List (Nat × Nat)} {x : Nat} {y : (Nat × Nat) × (Nat × Nat)} (hy : y ∈ pairs ps) (h1 : y.1.1 ≤ x) (h2 : x ≤ y.2.1) (h3 : tooLow l y.1 y.2 x = true) : lowAny l ps x = true := by
  unfold lowAny
  rw [List.any_eq_true]
  refine ⟨y, hy, ?_⟩
  unfold tooLow at h3
  simp [h1, h2, of_decide_eq_true h3]
theorem firstLow_is (l : Line) : ∀ {ps : List (Nat × Nat)}, ps.Pairwise (fun a b => a.1 < b.1) →
    (∀ x, firstLow l ps = some x → (lowAny l ps x = true ∧ (∃ y ∈ pairs ps, x ≤ y.2.1) ∧ ∀ j, j < x → lowAny l ps j = false)) ∧ (firstLow l ps = none → ∀ j, lowAny l ps j = false)
  | [], _ => ⟨fun x h => by simp [firstLow, pairs] at h, fun _ j => rfl⟩
  | [a], _ => ⟨fun x h => by simp [firstLow, pairs] at h, fun _ j => rfl⟩
  | a :: b :: r, hi => by
    obtain ⟨ha, hr⟩ := List.pairwise_cons.mp hi
    obtain ⟨ih1, ih2⟩ := firstLow_is l hr
    have hb := (List.pairwise_cons.mp hr).1
    have e : firstLow l (a :: b :: r) = match lowIn l a b with | some x => some x | none => firstLow l (b :: r) := by
      show ((a, b) :: pairs (b :: r)).findSome? _ = _
      cases hq : lowIn l a b with
      | some x => exact findSome_at (i := 0) (y := (a, b)) rfl hq fun j _ h => absurd h (Nat.not_lt_zero _)
      | none =>
        rw [List.findSome?_cons]
        simp only [hq]
        rfl
    have mem : ∀ y, y ∈ pairs (a :: b :: r) ↔ y = (a, b) ∨ y ∈ pairs (b :: r) := fun y => by
      show y ∈ (a, b) :: pairs (b :: r) ↔ _
      exact List.mem_cons
    have ge : ∀ y ∈ pairs (b :: r), b.1 ≤ y.1.1 := fun y hy => by
      rcases List.mem_cons.mp (pairs_mem_fst hy) with q | q
      · rw [q]
        exact Nat.le_refl _
      · exact Nat.le_of_lt (hb _ q)
    cases hl : lowIn l a b with
    | some x =>
      rw [e, hl]
      refine ⟨fun z hz => ?_, fun h => by cases h⟩
      have ez : x = z := Option.some.inj hz
      subst ez
      obtain ⟨⟨h1, h2, h3⟩, h4⟩ := lowIn_some hl
      refine ⟨lowAny_true ((mem (a, b)).mpr (.inl rfl)) h1 h2 h3, ⟨(a, b), (mem (a, b)).mpr (.inl rfl), h2⟩, fun j hj => lowAny_false.mpr fun y hy g1 g2 => ?_⟩
      rcases (mem y).mp hy with q | q
      · subst q
        exact h4 j g1 hj
      · have := ge y q
        omega
    | none =>
      rw [e, hl]
      have hn := lowIn_none hl
      refine ⟨fun x hx => ?_, fun h j => lowAny_false.mpr fun y hy g1 g2 => ?_⟩
      · obtain ⟨g1, ⟨y, hy, g2⟩, g3⟩ := ih1 x hx
        refine ⟨?_, ⟨y, (mem y).mpr (.inr hy), g2⟩, fun j hj => lowAny_false.mpr fun y hy k1 k2 => ?_⟩
        · unfold lowAny at g1 ⊢
          rw [List.any_eq_true] at g1 ⊢
          obtain ⟨y, hy, k⟩ := g1
          exact ⟨y, (mem y).mpr (.inr hy), k⟩
        · rcases (mem y).mp hy with q | q
          · subst q
            exact hn j k1 k2
          · exact lowAny_false.mp (g3 j hj) y q k1 k2
      · rcases (mem y).mp hy with q | q
        · subst q
          exact hn j g1 g2
        · exact lowAny_false.mp (ih2 h j) y q g1 g2
theorem pairs_mem_snd : ∀ {ps : List (Nat × Nat)} {y : (Nat × Nat) × (Nat × Nat)}, y ∈ pairs ps → y.2 ∈ ps
  | [], y, h => by simp [pairs] at h
  | [x], y, h => by simp [pairs] at h
  | a :: b :: r, y, h => by
    have h2 : y ∈ (a, b) :: pairs (b :: r) := h
    rcases List.mem_cons.mp h2 with q | q
    · subst q
      exact List.mem_cons_of_mem _ List.mem_cons_self
    · exact List.mem_cons_of_mem _ (pairs_mem_snd q)
theorem low_eq (l : Line) (p : List Nat) (hp : p.length + 2 = l.points) : l.low p = firstLow l (places l p) := by
  have e : l.low p = (List.range l.points).find? (lowAny l (places l p)) := by
    unfold Line.low
    rw [knots_eq l p hp]
    rfl
  rw [e]
  obtain ⟨h1, h2⟩ := firstLow_is l (places_inc l p (by omega))
  cases hf : firstLow l (places l p) with
  | some x =>
    obtain ⟨g1, ⟨y, hy, g2⟩, g3⟩ := h1 x hf
    have hlt := places_lt l p (by omega) _ (pairs_mem_snd hy)
    refine List.find?_range_eq_some.mpr ⟨g1, List.mem_range.mpr (by omega), fun j hj => ?_⟩
    rw [g3 j hj]
    rfl
  | none =>
    refine List.find?_eq_none.mpr fun j _ => ?_
    rw [h2 hf j]
    exact Bool.false_ne_true
theorem lifts_eq (l : Line) (p : List Nat) (hp : p.length + 2 = l.points) : l.lifts p = firstLift (places l p) := by
  unfold Line.lifts firstLift
  rw [knots_eq l p hp]
  rfl

/-! ### right plans -/
def isRight (l : Line) (p : List Nat) : Bool := (firstLow l (places l p)).isNone && (firstLift (places l p)).isNone
def fits (l : Line) (t : Nat) (p : List Nat) : Bool := p.length == l.points - 2 && p.all fun h => decide (h ≤ t)
theorem sup_tall (l : Line) (t : Nat) : ∀ (x : Nat) (p : List Nat), sup { l with tall := t } x p = sup l x p
  | _, [] => rfl
  | x, h :: r => by
    show (if h = 0 then sup { l with tall := t } (x + 1) r else (x, l.at_ x + h) :: sup { l with tall := t } (x + 1) r) = (if h = 0 then sup l (x + 1) r else (x, l.at_ x + h) :: sup l (x + 1) r)
    rw [sup_tall l t (x + 1) r]
theorem places_tall (l : Line) (t : Nat) (p : List Nat) : places { l with tall := t } p = places l p := by
  unfold places
  rw [sup_tall]
  rfl
theorem right_eq (l : Line) (t : Nat) (p : List Nat) (hp : p.length + 2 = l.points) (ht : ∀ h ∈ p, h ≤ t) : ({ l with tall := t } : Line).right p = isRight l p := by
  have h1 : ({ l with tall := t } : Line).told p = true := by
    unfold Line.told
    rw [Bool.and_eq_true]
    refine ⟨?_, List.all_eq_true.mpr fun h hh => decide_eq_true (ht h hh)⟩
    have : p.length = l.points - 2 := by omega
    exact beq_iff_eq.mpr this
  unfold Line.right
  rw [h1, low_eq { l with tall := t } p hp, lifts_eq { l with tall := t } p hp, places_tall]
  rfl
def grown (l : Line) (t : Nat) (plans : List (List Nat)) : List (List Nat) := plans.flatMap fun p => ((List.range (t + 1)).map fun h => p ++ [h]).filter (isRight l)
def rightPlans (l : Line) (t : Nat) : Nat → List (List Nat)
  | 0 => [[]]
  | n + 1 => grown l t (rightPlans l t n)
theorem rows_snoc (k : Nat) : ∀ n, rows k (n + 1) = (rows k n).flatMap fun p => (List.range (k + 1)).map fun h => p ++ [h]
  | 0 => by
    show (List.range (k + 1)).flatMap (fun a => [[]].map fun l => a :: l) = [[]].flatMap _
    rw [List.flatMap_cons, List.flatMap_nil, List.append_nil, List.map_eq_flatMap]
    rfl
  | n + 1 => by
    show (List.range (k + 1)).flatMap (fun a => (rows k (n + 1)).map fun l => a :: l) = ((List.range (k + 1)).flatMap fun a => (rows k n).map fun l => a :: l).flatMap _
    rw [rows_snoc k n, List.flatMap_assoc]
    congr 1
    funext a
    rw [List.map_flatMap, List.flatMap_map]
    congr 1
    funext p
    rw [List.map_map]
    rfl
theorem rows_mem (k : Nat) : ∀ n (p : List Nat), p ∈ rows k n → p.length = n ∧ ∀ h ∈ p, h ≤ k
  | 0, p, h => by
    have e := List.mem_singleton.mp h
    subst e
    exact ⟨rfl, fun _ h => by cases h⟩
  | n + 1, p, h => by
    obtain ⟨a, ha, hp⟩ := List.mem_flatMap.mp h
    obtain ⟨q, qIn, rfl⟩ := List.mem_map.mp hp
    obtain ⟨h1, h2⟩ := rows_mem k n q qIn
    refine ⟨by simp [h1], fun x hx => ?_⟩
    rcases List.mem_cons.mp hx with e | e
    · subst e
      have := List.mem_range.mp ha
      omega
    · exact h2 x e
theorem rows_len (k : Nat) : ∀ n, (rows k n).length = (k + 1) ^ n
  | 0 => rfl
  | n + 1 => by
    rw [rows_snoc, List.length_flatMap]
    have e : (fun p : List Nat => ((List.range (k + 1)).map fun h => p ++ [h]).length) = fun _ => k + 1 := by
      funext p
      simp
    rw [e]
    have hc : ∀ (L : List (List Nat)), (L.map fun _ => k + 1).sum = L.length * (k + 1) := by
      intro L
      induction L with
      | nil => simp
      | cons a L ih =>
        rw [List.map_cons, List.sum_cons, ih, List.length_cons, Nat.add_mul, Nat.one_mul, Nat.add_comm]
    rw [hc, rows_len k n, Nat.pow_succ]
theorem low_pre {l : Line} {ps qs : List (Nat × Nat)} (h : firstLow l (ps ++ qs) = none) : firstLow l ps = none := by
  obtain ⟨rs, e⟩ := pairs_app ps qs
  unfold firstLow at h ⊢
  rw [e, List.findSome?_append] at h
  exact (Option.or_eq_none_iff.mp h).1
theorem lift_pre {ps qs : List (Nat × Nat)} (h : firstLift (ps ++ qs) = none) : firstLift ps = none := by
  obtain ⟨rs, e⟩ := triples_app ps qs
  unfold firstLift at h ⊢
  rw [e, List.find?_append] at h
  rw [Option.map_eq_none_iff] at h ⊢
  exact (Option.or_eq_none_iff.mp h).1
theorem right_pre (l : Line) (p : List Nat) (h : Nat) (hp : p.length + 3 ≤ l.points) (hr : isRight l (p ++ [h]) = true) : isRight l p = true := by
  have e1 : places l p = (0, l.least 0) :: sup l 1 p := by
    unfold places endP
    rw [if_neg (by omega), List.append_nil]
  have e2 : ∃ qs, places l (p ++ [h]) = places l p ++ qs := by
    rw [e1]
    refine ⟨(if h = 0 then [] else [(1 + p.length, l.at_ (1 + p.length) + h)]) ++ endP l (p ++ [h]).length, ?_⟩
    unfold places
    rw [sup_snoc, List.append_assoc]
    rfl
  obtain ⟨qs, e2⟩ := e2
  unfold isRight at hr ⊢
  rw [Bool.and_eq_true, Option.isNone_iff_eq_none, Option.isNone_iff_eq_none, e2] at hr
  rw [low_pre hr.1, lift_pre hr.2]
  rfl
theorem right_nil (l : Line) (hp : 2 ≤ l.points) : isRight l [] = true := by
  unfold isRight places endP
  by_cases h : ([] : List Nat).length + 1 = l.points - 1
  · have e : l.points - 1 = 1 := h.symm
    rw [if_pos h, e]
    have e1 : firstLow l ((0, l.least 0) :: (sup l 1 [] ++ [(1, l.least 1)])) = none := by
      show ([((0, l.least 0), (1, l.least 1))] : List ((Nat × Nat) × (Nat × Nat))).findSome? (fun y => lowIn l y.1 y.2) = none
      rw [List.findSome?_cons]
      have e2 : lowIn l (0, l.least 0) (1, l.least 1) = none := by
        unfold lowIn
        refine List.find?_eq_none.mpr fun j hj => ?_
        have hj2 : j = 0 ∨ j = 1 := by
          have := (List.mem_range'_1.mp hj).2
          have h3 : j < 0 + (1 + 1 - 0) := this
          omega
        unfold tooLow height
        rcases hj2 with q | q
        · subst q
          simp
        · subst q
          simp
      rw [e2]
      rfl
    rw [e1]
    rfl
  · rw [if_neg h]
    rfl
theorem rightPlans_eq (l : Line) (t : Nat) (hl : 2 ≤ l.points) : ∀ n, n + 2 ≤ l.points → rightPlans l t n = (rows t n).filter (isRight l)
  | 0, _ => by
    show [[]] = [[]].filter (isRight l)
    rw [List.filter_cons, if_pos (right_nil l hl)]
    rfl
  | n + 1, hn => by
    show grown l t (rightPlans l t n) = _
    rw [rightPlans_eq l t hl n (by omega), rows_snoc, List.filter_flatMap]
    unfold grown
    have hmem : ∀ p ∈ rows t n, p.length = n := fun p hp => (rows_mem t n p hp).1
    have gen : ∀ L : List (List Nat), (∀ p ∈ L, p.length = n) → (L.filter (isRight l)).flatMap (fun p => ((List.range (t + 1)).map fun h => p ++ [h]).filter (isRight l)) = L.flatMap fun p => ((List.range (t + 1)).map fun h => p ++ [h]).filter (isRight l) := by
      intro L
      induction L with
      | nil => intro _; rfl
      | cons a L ih =>
        intro hL
        have ih' := ih fun p hp => hL p (List.mem_cons_of_mem _ hp)
        rw [List.filter_cons, List.flatMap_cons]
        by_cases ha : isRight l a = true
        · rw [if_pos ha, List.flatMap_cons, ih']
        · rw [if_neg ha, ih']
          have e0 : ((List.range (t + 1)).map fun h => a ++ [h]).filter (isRight l) = [] := by
            rw [List.filter_eq_nil_iff]
            intro q hq
            obtain ⟨h, _, rfl⟩ := List.mem_map.mp hq
            intro hr
            exact ha (right_pre l a h (by rw [hL a List.mem_cons_self]; omega) hr)
          rw [e0, List.nil_append]
    exact gen _ hmem
theorem rightPlans_len (l : Line) (t n : Nat) (hl : 2 ≤ l.points) (hn : n + 2 ≤ l.points) : (rightPlans l t n).length ≤ (t + 1) ^ n := by
  rw [rightPlans_eq l t hl n hn, ← rows_len t n]
  exact List.length_filter_le _ _
theorem spec_plans (l : Line) (t : Nat) (hl : 2 ≤ l.points) : (rows t (l.points - 2)).filter ({ l with tall := t } : Line).right = rightPlans l t (l.points - 2) := by
  rw [rightPlans_eq l t hl _ (by omega)]
  refine List.filter_congr fun p pIn => ?_
  obtain ⟨h1, h2⟩ := rows_mem t _ p pIn
  exact right_eq l t p (by omega) h2

/-! ### what a plan costs -/
theorem total_go : ∀ (xs : List Nat) (acc : Nat), xs.foldl (fun a b => a + b) acc = acc + xs.sum
  | [], acc => by simp
  | x :: xs, acc => by
    rw [List.foldl_cons, total_go xs, List.sum_cons]
    omega
theorem cost_eq (l : Line) (p : List Nat) : l.cost p = l.base * (p.filter fun h => decide (h > 0)).length + l.unit * (p.filter fun h => decide (h > 0)).sum := by
  unfold Line.cost total
  rw [total_go, Nat.zero_add]
  induction p with
  | nil => simp
  | cons h r ih =>
    rw [List.map_cons, List.sum_cons, ih, List.filter_cons]
    by_cases hh : h = 0
    · rw [if_pos hh, if_neg (by simp [hh])]
      omega
    · rw [if_neg hh, if_pos (by simp; omega), List.length_cons, List.sum_cons, Nat.mul_add, Nat.mul_add]
      omega
theorem supports_eq (p : List Nat) : supports p = (p.filter fun h => decide (h > 0)).length := by
  unfold supports
  congr 1
  refine List.filter_congr fun h _ => ?_
  cases h <;> rfl

/-! ### the best plan -/
def meas (l : Line) (p : List Nat) : Nat × Nat := (l.cost p, supports p)
def less (a b : Nat × Nat) : Bool := decide (a.1 < b.1 ∨ (a.1 = b.1 ∧ a.2 < b.2))
def bstep (l : Line) (b : Option Best) (p : List Nat) : Option Best := match b with
  | none => some ⟨l.cost p, supports p, 1, p⟩
  | some x => if l.cost p < x.cost ∨ (l.cost p = x.cost ∧ supports p < x.supports) then some ⟨l.cost p, supports p, 1, p⟩ else if l.cost p = x.cost ∧ supports p = x.supports then some { x with many := x.many + 1 } else some x
theorem best_fold (l : Line) : l.best = ((rows l.tall (l.points - 2)).filter l.right).foldl (bstep l) none := rfl
theorem best_pre (l : Line) (m : Nat × Nat) : ∀ (ps : List (List Nat)) (b : Option Best), (∀ x, b = some x → less m (x.cost, x.supports) = true) → (∀ q ∈ ps, less m (meas l q) = true) → ∀ x, ps.foldl (bstep l) b = some x → less m (x.cost, x.supports) = true
  | [], b, hb, _, x, hx => hb x hx
  | q :: ps, b, hb, hq, x, hx => by
    rw [List.foldl_cons] at hx
    refine best_pre l m ps _ ?_ (fun q' h => hq q' (List.mem_cons_of_mem _ h)) x hx
    intro y hy
    have h1 := hq q List.mem_cons_self
    cases b with
    | none =>
      have e : (⟨l.cost q, supports q, 1, q⟩ : Best) = y := Option.some.inj hy
      subst e
      exact h1
    | some z =>
      have hz := hb z rfl
      have hy2 : (if l.cost q < z.cost ∨ (l.cost q = z.cost ∧ supports q < z.supports) then some (⟨l.cost q, supports q, 1, q⟩ : Best) else if l.cost q = z.cost ∧ supports q = z.supports then some { z with many := z.many + 1 } else some z) = some y := hy
      split at hy2
      · have e := Option.some.inj hy2
        subst e
        exact h1
      · split at hy2
        · have e := Option.some.inj hy2
          subst e
          exact hz
        · have e := Option.some.inj hy2
          subst e
          exact hz
theorem best_post (l : Line) (c n : Nat) (p : List Nat) : ∀ (ps : List (List Nat)) (m : Nat), (∀ q ∈ ps, less (meas l q) (c, n) = false) → ps.foldl (bstep l) (some ⟨c, n, m, p⟩) = some ⟨c, n, m + (ps.map (meas l)).count (c, n), p⟩
  | [], m, _ => rfl
  | q :: ps, m, hq => by
    rw [List.foldl_cons, List.map_cons, List.count_cons]
    have h1 := of_decide_eq_false (hq q List.mem_cons_self)
    have h2 : ¬ (l.cost q < c ∨ (l.cost q = c ∧ supports q < n)) := h1
    have hr : ∀ q' ∈ ps, less (meas l q') (c, n) = false := fun q' h => hq q' (List.mem_cons_of_mem _ h)
    by_cases he : l.cost q = c ∧ supports q = n
    · have e1 : bstep l (some ⟨c, n, m, p⟩) q = some ⟨c, n, m + 1, p⟩ := by
        show (if l.cost q < c ∨ (l.cost q = c ∧ supports q < n) then _ else if l.cost q = c ∧ supports q = n then _ else _) = _
        rw [if_neg h2, if_pos he]
      have e2 : (meas l q == (c, n)) = true := by
        unfold meas
        rw [he.1, he.2]
        exact beq_self_eq_true _
      rw [e1, best_post l c n p ps (m + 1) hr, e2, if_pos rfl]
      congr 2
      omega
    · have e1 : bstep l (some ⟨c, n, m, p⟩) q = some ⟨c, n, m, p⟩ := by
        show (if l.cost q < c ∨ (l.cost q = c ∧ supports q < n) then _ else if l.cost q = c ∧ supports q = n then _ else _) = _
        rw [if_neg h2, if_neg he]
      have e2 : ¬ (meas l q == (c, n)) = true := by
        intro h
        have := eq_of_beq h
        exact he ⟨congrArg Prod.fst this, congrArg Prod.snd this⟩
      rw [e1, best_post l c n p ps m hr, if_neg e2]
      rfl
theorem best_at (l : Line) (ps : List (List Nat)) (j : Nat) (p : List Nat) (hj : ps[j]? = some p) (hmin : ∀ q ∈ ps, less (meas l q) (meas l p) = false)
    (hfirst : ∀ i q, i < j → ps[i]? = some q → meas l q ≠ meas l p) : ps.foldl (bstep l) none = some ⟨l.cost p, supports p, (ps.map (meas l)).count (meas l p), p⟩ := by
  obtain ⟨hlt, ep⟩ := List.getElem?_eq_some_iff.mp hj
  have es : ps = ps.take j ++ p :: ps.drop (j + 1) := by
    rw [← ep, ← List.drop_eq_getElem_cons hlt, List.take_append_drop]
  have hpre : ∀ q ∈ ps.take j, less (meas l p) (meas l q) = true := fun q hq => by
    obtain ⟨i, hi, e⟩ := List.mem_take_iff_getElem.mp hq
    have h1 := hmin q (by rw [← e]; exact List.getElem_mem _)
    have h2 := hfirst i q (by omega) (by rw [← e]; exact List.getElem?_eq_getElem _)
    have h3 := of_decide_eq_false h1
    refine decide_eq_true ?_
    by_cases a : (meas l p).1 < (meas l q).1
    · exact .inl a
    · have b : (meas l p).1 = (meas l q).1 := by omega
      refine .inr ⟨b, ?_⟩
      have : (meas l q).2 ≠ (meas l p).2 := fun e2 => h2 (Prod.ext b.symm e2)
      omega
  have hpost : ∀ q ∈ ps.drop (j + 1), less (meas l q) (l.cost p, supports p) = false := fun q hq => hmin q (List.mem_of_mem_drop hq)
  have hcount : (ps.map (meas l)).count (meas l p) = 1 + ((ps.drop (j + 1)).map (meas l)).count (meas l p) := by
    conv => lhs; rw [es]
    rw [List.map_append, List.map_cons, List.count_append, List.count_cons, beq_self_eq_true, if_pos rfl]
    have : ((ps.take j).map (meas l)).count (meas l p) = 0 := by
      refine List.count_eq_zero.mpr fun hm => ?_
      obtain ⟨q, hq, e⟩ := List.mem_map.mp hm
      have := hpre q hq
      rw [e] at this
      simp [less] at this
    rw [this]
    omega
  rw [hcount]
  have e3 : (ps.take j).foldl (bstep l) none = none ∨ ∃ x, (ps.take j).foldl (bstep l) none = some x ∧ less (meas l p) (x.cost, x.supports) = true := by
    cases q : (ps.take j).foldl (bstep l) none with
    | none => exact .inl rfl
    | some x => exact .inr ⟨x, rfl, best_pre l (meas l p) (ps.take j) none (fun _ h => by cases h) hpre x q⟩
  have e4 : (ps.take j ++ p :: ps.drop (j + 1)).foldl (bstep l) none = (ps.drop (j + 1)).foldl (bstep l) (some ⟨l.cost p, supports p, 1, p⟩) := by
    rw [List.foldl_append, List.foldl_cons]
    congr 1
    rcases e3 with h | ⟨x, h, hx⟩
    · rw [h]
      rfl
    · rw [h]
      have := of_decide_eq_true hx
      show (if _ then _ else _) = _
      rw [if_pos (show l.cost p < x.cost ∨ (l.cost p = x.cost ∧ supports p < x.supports) from this)]
  have e5 : ps.foldl (bstep l) none = (ps.take j ++ p :: ps.drop (j + 1)).foldl (bstep l) none := congrArg (fun z : List (List Nat) => z.foldl (bstep l) none) es
  rw [e5, e4, best_post l _ _ p _ 1 hpost]
  rfl
theorem best_some (l : Line) : ∀ (ps : List (List Nat)) (b : Option Best), (b.isSome = true ∨ ps ≠ []) → (ps.foldl (bstep l) b).isSome = true
  | [], b, h => by
    rcases h with h | h
    · exact h
    · exact (h rfl).elim
  | q :: ps, b, _ => by
    rw [List.foldl_cons]
    refine best_some l ps _ (.inl ?_)
    cases b with
    | none => rfl
    | some x =>
      show (if _ then _ else if _ then _ else _ : Option Best).isSome = true
      split
      · rfl
      · split <;> rfl
theorem best_isSome (l : Line) (t : Nat) (hl : 2 ≤ l.points) : (({ l with tall := t } : Line).best).isSome = decide (0 < (rightPlans l t (l.points - 2)).length) := by
  have e : ({ l with tall := t } : Line).best = (rightPlans l t (l.points - 2)).foldl (bstep { l with tall := t }) none := by
    rw [best_fold]
    show ((rows t (l.points - 2)).filter ({ l with tall := t } : Line).right).foldl _ none = _
    rw [spec_plans l t hl]
  rw [e]
  cases h : rightPlans l t (l.points - 2) with
  | nil => rfl
  | cons a r =>
    rw [best_some _ _ _ (.inr (by simp))]
    rfl
theorem best_eq (l : Line) (hl : 2 ≤ l.points) : l.best = (rightPlans l l.tall (l.points - 2)).foldl (bstep l) none := by
  rw [best_fold]
  have := spec_plans l l.tall hl
  have e : ({ l with tall := l.tall } : Line) = l := rfl
  rw [e] at this
  rw [this]
def leastTall (l : Line) : Option Nat := (List.range 5).find? fun t => decide (0 < (rightPlans l t (l.points - 2)).length)
theorem tallest_eq (l : Line) (hl : 2 ≤ l.points) : l.tallest = leastTall l := by
  unfold Line.tallest leastTall
  congr 1
  funext t
  exact best_isSome l t hl

/-! ### the rope at a point -/
theorem rope_pair (ps : List (Nat × Nat)) (x k : Nat) (y : (Nat × Nat) × (Nat × Nat)) (a : Nat) (h0 : ps[0]? = some (0, a)) (hk : (pairs ps)[k]? = some y) (hx : x ≤ y.2.1)
    (hn : ∀ j z, j < k → ps[j + 1]? = some z → z.1 < x) : ((pairs ps).find? fun y => decide (y.1.1 ≤ x) && decide (x ≤ y.2.1)) = some y ∧ y.1.1 ≤ x := by
  have h1 : y.1.1 ≤ x := by
    have := (pairs_of hk).1
    cases k with
    | zero =>
      rw [h0] at this
      have e := Option.some.inj this
      rw [← e]
      exact Nat.zero_le _
    | succ k => exact Nat.le_of_lt (hn k y.1 (Nat.lt_succ_self _) this)
  refine ⟨find_at hk (by simp [h1, hx]) fun j z hj hz => ?_, h1⟩
  have := hn j z.2 hj (pairs_of hz).2
  simp
  omega
end Hm

/-! How the flat list of numbers is read, call by call, and played. -/
namespace Hm
open Uw38
def RowIn (ns : List Int) (n : Nat) (p : List Nat) : Prop := ns[n]? = some (p.length : Int) ∧ n + 1 + p.length ≤ ns.length ∧ (ns.drop (n + 1)).take p.length = p.map (fun (k : Nat) => (k : Int)) ∧ p.length ≤ 12
def Reads (ns : List Int) (n : Nat) : Uw38.Call → Nat → Prop
  | .begins c t b u g, n' => ns[n]? = some 0 ∧ ns[n + 1]? = some (c : Int) ∧ ns[n + 2]? = some (t : Int) ∧ ns[n + 3]? = some (b : Int) ∧ ns[n + 4]? = some (u : Int) ∧ RowIn ns (n + 5) g ∧ n' = n + 6 + g.length
  | .best, n' => ns[n]? = some 1 ∧ n' = n + 1
  | .check p, n' => ns[n]? = some 2 ∧ RowIn ns (n + 1) p ∧ n' = n + 2 + p.length
  | .tallest, n' => ns[n]? = some 3 ∧ n' = n + 1
  | .rope p x, n' => ns[n]? = some 4 ∧ ns[n + 1]? = some (x : Int) ∧ RowIn ns (n + 2) p ∧ n' = n + 3 + p.length
theorem nat_cast {z : Int} (h : Uw38Neutral.nat z = true) : ((z.toNat : Nat) : Int) = z := by
  unfold Uw38Neutral.nat at h
  rw [Bool.and_eq_true] at h
  have := of_decide_eq_true h.1
  omega
theorem nats_cast : ∀ {l : List Int}, l.all Uw38Neutral.nat = true → (l.map Int.toNat).map (fun (k : Nat) => (k : Int)) = l
  | [], _ => rfl
  | z :: l, hAll => by
    rw [List.all_cons, Bool.and_eq_true] at hAll
    rw [List.map_cons, List.map_cons, nats_cast hAll.2, nat_cast hAll.1]
theorem row_in {ns : List Int} {n : Nat} {z : Int} {r : List Int} (e : ns.drop n = z :: r) (h0 : 0 ≤ z) (h1 : z.toNat ≤ r.length) (hn : (r.take z.toNat).all Uw38Neutral.nat = true) (h12 : (r.take z.toNat).length ≤ 12) :
    RowIn ns n ((r.take z.toNat).map Int.toNat) ∧ ns.drop (n + 1 + ((r.take z.toNat).map Int.toNat).length) = r.drop z.toNat := by
  have el : ((r.take z.toNat).map Int.toNat).length = z.toNat := by
    rw [List.length_map, List.length_take]
    omega
  have eg : ns[n]? = some z := by
    have := List.getElem?_drop (xs := ns) (i := n) (j := 0)
    rw [e] at this
    exact this.symm
  have ed : ns.drop (n + 1) = r := by
    rw [← List.drop_drop, e]
    rfl
  have hlen : ns.length = n + (r.length + 1) := by
    have h2 := congrArg List.length e
    rw [List.length_drop, List.length_cons] at h2
    have h3 := (List.getElem?_eq_some_iff.mp eg).1
    omega
  refine ⟨⟨?_, ?_, ?_, ?_⟩, ?_⟩
  · rw [el, eg]
    congr 1
    omega
  · rw [el]
    omega
  · rw [el, ed, nats_cast hn]
  · rw [List.length_map]
    exact h12
  · rw [el, ← List.drop_drop, ed]
theorem drop_get {ns : List Int} {n : Nat} {z : Int} {r : List Int} (e : ns.drop n = z :: r) : ns[n]? = some z ∧ ns.drop (n + 1) = r := by
  constructor
  · have := List.getElem?_drop (xs := ns) (i := n) (j := 0)
    rw [e] at this
    exact this.symm
  · rw [← List.drop_drop, e]
    rfl
theorem row_some {s : List Int} {x t : List Int} (h : PyFlat.row s = some (x, t)) : ∃ z r, s = z :: r ∧ 0 ≤ z ∧ z.toNat ≤ r.length ∧ x = r.take z.toNat ∧ t = r.drop z.toNat := by
  cases s with
  | nil => cases h
  | cons z r =>
    have h2 : (if 0 ≤ z ∧ z.toNat ≤ r.length then some (r.take z.toNat, r.drop z.toNat) else none) = some (x, t) := h
    split at h2
    · rename_i hc
      have e := Option.some.inj h2
      exact ⟨z, r, rfl, hc.1, hc.2, (congrArg Prod.fst e).symm, (congrArg Prod.snd e).symm⟩
    · cases h2
theorem rows_one {s : List Int} {xs : List (List Int)} {t : List Int} (h : PyFlat.rows 1 s = some (xs, t)) : ∃ z r, s = z :: r ∧ 0 ≤ z ∧ z.toNat ≤ r.length ∧ xs = [r.take z.toNat] ∧ t = r.drop z.toNat := by
  have h2 : (match PyFlat.row s with | none => none | some (x, s') => match PyFlat.rows 0 s' with | none => none | some (xs, t) => some (x :: xs, t)) = some (xs, t) := h
  cases hr : PyFlat.row s with
  | none =>
    rw [hr] at h2
    cases h2
  | some q =>
    obtain ⟨x, s'⟩ := q
    rw [hr] at h2
    have e : ([x], s') = (xs, t) := Option.some.inj h2
    obtain ⟨z, r, e1, e2, e3, e4, e5⟩ := row_some hr
    refine ⟨z, r, e1, e2, e3, ?_, ?_⟩
    · have e6 : [x] = xs := congrArg Prod.fst e
      rw [← e6, e4]
    · have e6 : s' = t := congrArg Prod.snd e
      rw [← e6, e5]
theorem callOf_some {l : List Int} {c : Uw38.Call} (h : Uw38Neutral.callOf l = some c) : l.all Uw38Neutral.nat = true ∧ Uw38Neutral.callIn (l.map Int.toNat) = some c := by
  unfold Uw38Neutral.callOf at h
  split at h
  · cases h
  · rename_i hc
    exact ⟨by cases e : l.all Uw38Neutral.nat with | true => rfl | false => exact absurd e hc, h⟩
/-- one call is read off -/
theorem call_read {ns : List Int} {n : Nat} {c : List (List Int)} {t : List Int} {k : Uw38.Call} (h : PyFlat.call PyUw38.shape (ns.drop n) = some (c, t)) (hk : Uw38Neutral.callOf ((PyUw38.whole c).headD []) = some k) :
    ∃ n', Reads ns n k n' ∧ n < n' ∧ n' ≤ ns.length ∧ t = ns.drop n' := by
  cases hd : ns.drop n with
  | nil =>
    rw [hd] at h
    cases h
  | cons p r =>
    rw [hd] at h
    obtain ⟨g0, d1⟩ := drop_get hd
    have hlen : n + 1 + r.length = ns.length := by
      have h2 := congrArg List.length hd
      rw [List.length_drop, List.length_cons] at h2
      have h3 := (List.getElem?_eq_some_iff.mp g0).1
      omega
    have h2 : (match PyUw38.shape p with | none => none | some (n, k) => if r.length < n then none else match PyFlat.rows k (r.drop n) with | none => none | some (xs, t) => some ((p :: r.take n) :: xs, t)) = some (c, t) := h
    by_cases p0 : p = 0
    · subst p0
      have h3 : (if r.length < 4 then none else match PyFlat.rows 1 (r.drop 4) with | none => none | some (xs, t) => some (((0 : Int) :: r.take 4) :: xs, t)) = some (c, t) := h2
      split at h3
      · cases h3
      · rename_i hr4
        match r, hr4, hd, d1, hlen, h3 with
        | x0 :: x1 :: x2 :: x3 :: s, _, hd, d1, hlen, h3 =>
          have h4 : (match PyFlat.rows 1 s with | none => none | some (xs, t) => some ([0, x0, x1, x2, x3] :: xs, t)) = some (c, t) := h3
          cases hrw : PyFlat.rows 1 s with
          | none =>
            rw [hrw] at h4
            cases h4
          | some q =>
            obtain ⟨xs, t'⟩ := q
            rw [hrw] at h4
            have e := Option.some.inj h4
            have ec := congrArg Prod.fst e
            have et := congrArg Prod.snd e
            obtain ⟨z, r', e1, e2, e3, e4, e5⟩ := rows_one hrw
            subst e1 e4
            have hc : c = [[0, x0, x1, x2, x3], r'.take z.toNat] := ec.symm
            subst hc
            have hk2 : Uw38Neutral.callOf (0 :: x0 :: x1 :: x2 :: x3 :: r'.take z.toNat) = some k := hk
            obtain ⟨ha, hi⟩ := callOf_some hk2
            simp only [List.all_cons, Bool.and_eq_true] at ha
            obtain ⟨_, a0, a1, a2, a3, ar⟩ := ha
            have hi2 : (if ((r'.take z.toNat).map Int.toNat).length ≤ 12 then some (Uw38.Call.begins x0.toNat x1.toNat x2.toNat x3.toNat ((r'.take z.toNat).map Int.toNat)) else none) = some k := hi
            split at hi2
            · rename_i h12
              have ek := Option.some.inj hi2
              obtain ⟨g1, d2⟩ := drop_get d1
              obtain ⟨g2, d3⟩ := drop_get d2
              obtain ⟨g3, d4⟩ := drop_get d3
              obtain ⟨g4, d5⟩ := drop_get d4
              rw [List.length_map] at h12
              obtain ⟨hrow, hrest⟩ := row_in d5 e2 e3 ar h12
              refine ⟨n + 6 + ((r'.take z.toNat).map Int.toNat).length, ?_, by omega, ?_, ?_⟩
              · rw [← ek]
                exact ⟨g0, by rw [nat_cast a0]; exact g1, by rw [nat_cast a1]; exact g2, by rw [nat_cast a2]; exact g3, by rw [nat_cast a3]; exact g4, hrow, rfl⟩
              · have := hrow.2.1
                omega
              · have et2 : t' = t := et
                rw [← et2, e5, ← hrest]
            · cases hi2
    by_cases p1 : p = 1
    · subst p1
      have h3 : (if r.length < 0 then none else some ([((1 : Int) :: r.take 0)], r.drop 0)) = some (c, t) := h2
      rw [if_neg (Nat.not_lt_zero _)] at h3
      have e := Option.some.inj h3
      have ec : [[(1 : Int)]] = c := congrArg Prod.fst e
      have et : r = t := congrArg Prod.snd e
      subst ec et
      have hk2 : Uw38Neutral.callOf [1] = some k := hk
      obtain ⟨_, hi⟩ := callOf_some hk2
      have hi2 : some Uw38.Call.best = some k := hi
      have ek := Option.some.inj hi2
      refine ⟨n + 1, ?_, by omega, by omega, d1.symm⟩
      rw [← ek]
      exact ⟨g0, rfl⟩
    by_cases p2 : p = 2
    · subst p2
      have h3 : (if r.length < 0 then none else match PyFlat.rows 1 (r.drop 0) with | none => none | some (xs, t) => some (((2 : Int) :: r.take 0) :: xs, t)) = some (c, t) := h2
      rw [if_neg (Nat.not_lt_zero _)] at h3
      have h4 : (match PyFlat.rows 1 r with | none => none | some (xs, t) => some ([2] :: xs, t)) = some (c, t) := h3
      cases hrw : PyFlat.rows 1 r with
      | none =>
        rw [hrw] at h4
        cases h4
      | some q =>
        obtain ⟨xs, t'⟩ := q
        rw [hrw] at h4
        have e := Option.some.inj h4
        have ec := congrArg Prod.fst e
        have et := congrArg Prod.snd e
        obtain ⟨z, r', e1, e2, e3, e4, e5⟩ := rows_one hrw
        subst e1 e4
        have hc : c = [[2], r'.take z.toNat] := ec.symm
        subst hc
        have hk2 : Uw38Neutral.callOf (2 :: r'.take z.toNat) = some k := hk
        obtain ⟨ha, hi⟩ := callOf_some hk2
        simp only [List.all_cons, Bool.and_eq_true] at ha
        have hi2 : (if ((r'.take z.toNat).map Int.toNat).length ≤ 12 then some (Uw38.Call.check ((r'.take z.toNat).map Int.toNat)) else none) = some k := hi
        split at hi2
        · rename_i h12
          have ek := Option.some.inj hi2
          rw [List.length_map] at h12
          obtain ⟨hrow, hrest⟩ := row_in d1 e2 e3 ha.2 h12
          refine ⟨n + 2 + ((r'.take z.toNat).map Int.toNat).length, ?_, by omega, ?_, ?_⟩
          · rw [← ek]
            exact ⟨g0, hrow, rfl⟩
          · have := hrow.2.1
            omega
          · have et2 : t' = t := et
            rw [← et2, e5, ← hrest]
        · cases hi2
    by_cases p3 : p = 3
    · subst p3
      have h3 : (if r.length < 0 then none else some ([((3 : Int) :: r.take 0)], r.drop 0)) = some (c, t) := h2
      rw [if_neg (Nat.not_lt_zero _)] at h3
      have e := Option.some.inj h3
      have ec : [[(3 : Int)]] = c := congrArg Prod.fst e
      have et : r = t := congrArg Prod.snd e
      subst ec et
      have hk2 : Uw38Neutral.callOf [3] = some k := hk
      obtain ⟨_, hi⟩ := callOf_some hk2
      have hi2 : some Uw38.Call.tallest = some k := hi
      have ek := Option.some.inj hi2
      refine ⟨n + 1, ?_, by omega, by omega, d1.symm⟩
      rw [← ek]
      exact ⟨g0, rfl⟩
    by_cases p4 : p = 4
    · subst p4
      have h3 : (if r.length < 1 then none else match PyFlat.rows 1 (r.drop 1) with | none => none | some (xs, t) => some (((4 : Int) :: r.take 1) :: xs, t)) = some (c, t) := h2
      split at h3
      · cases h3
      · rename_i hr1
        match r, hr1, hd, d1, hlen, h3 with
        | x0 :: s, _, hd, d1, hlen, h3 =>
          have h4 : (match PyFlat.rows 1 s with | none => none | some (xs, t) => some ([4, x0] :: xs, t)) = some (c, t) := h3
          cases hrw : PyFlat.rows 1 s with
          | none =>
            rw [hrw] at h4
            cases h4
          | some q =>
            obtain ⟨xs, t'⟩ := q
            rw [hrw] at h4
            have e := Option.some.inj h4
            have ec := congrArg Prod.fst e
            have et := congrArg Prod.snd e
            obtain ⟨z, r', e1, e2, e3, e4, e5⟩ := rows_one hrw
            subst e1 e4
            have hc : c = [[4, x0], r'.take z.toNat] := ec.symm
            subst hc
            have hk2 : Uw38Neutral.callOf (4 :: x0 :: r'.take z.toNat) = some k := hk
            obtain ⟨ha, hi⟩ := callOf_some hk2
            simp only [List.all_cons, Bool.and_eq_true] at ha
            obtain ⟨_, a0, ar⟩ := ha
            have hi2 : (if ((r'.take z.toNat).map Int.toNat).length ≤ 12 then some (Uw38.Call.rope ((r'.take z.toNat).map Int.toNat) x0.toNat) else none) = some k := hi
            split at hi2
            · rename_i h12
              have ek := Option.some.inj hi2
              obtain ⟨g1, d2⟩ := drop_get d1
              rw [List.length_map] at h12
              obtain ⟨hrow, hrest⟩ := row_in d2 e2 e3 ar h12
              refine ⟨n + 3 + ((r'.take z.toNat).map Int.toNat).length, ?_, by omega, ?_, ?_⟩
              · rw [← ek]
                exact ⟨g0, by rw [nat_cast a0]; exact g1, hrow, rfl⟩
              · have := hrow.2.1
                omega
              · have et2 : t' = t := et
                rw [← et2, e5, ← hrest]
            · cases hi2
    · exfalso
      have hs : PyUw38.shape p = none := by
        unfold PyUw38.shape
        rw [if_neg p0, if_neg p1, if_neg p2, if_neg p3, if_neg p4]
      rw [hs] at h2
      cases h2
/-- what is still to be answered from place n on, the line being L -/
def Rest (ns : List Int) (n : Nat) (L : Line) (out : List Int) : Prop := ∃ f raw, PyFlat.calls PyUw38.shape f (ns.drop n) = some raw ∧ (∀ c ∈ raw, (Uw38Neutral.callOf ((PyUw38.whole c).headD [])).isSome = true) ∧
  PyUw38.answers ns = out ++ PyFlat.told (PyFlat.played (fun s c => Uw38Neutral.step s (c.headD [])) L (raw.map PyUw38.whole))
def ans (L : Line) (c : Uw38.Call) : List Int := Uw38Neutral.out (Uw38.step L c).2
theorem rest_start {ns : List Int} (h : PyUw38.answers_asked ns = true) : Rest ns 0 Uw38.init [] := by
  unfold PyUw38.answers_asked at h
  cases hc : PyFlat.calls PyUw38.shape ns.length ns with
  | none =>
    rw [hc] at h
    cases h
  | some raw =>
    rw [hc] at h
    obtain ⟨⟨_, ha⟩, _⟩ := by simpa only [Bool.and_eq_true] using h
    refine ⟨ns.length, raw, by rw [List.drop_zero]; exact hc, fun c hcm => ?_, ?_⟩
    · unfold Uw38Neutral.asked at ha
      rw [Bool.and_eq_true] at ha
      have h2 := List.all_eq_true.mp ha.1
      exact h2 _ (List.mem_map.mpr ⟨_, List.mem_map.mpr ⟨c, hcm, rfl⟩, rfl⟩)
    · unfold PyUw38.answers PyUw38.calls
      rw [hc]
      rfl
theorem rest_step {ns : List Int} {n : Nat} {L : Line} {out : List Int} (h : Rest ns n L out) (hn : n < ns.length) : ∃ c n', Reads ns n c n' ∧ n < n' ∧ n' ≤ ns.length ∧ Rest ns n' (Uw38.step L c).1 (out ++ ((ans L c).length : Int) :: ans L c) := by
  obtain ⟨f, raw, h1, h2, h3⟩ := h
  cases hd : ns.drop n with
  | nil =>
    have := List.drop_eq_nil_iff.mp hd
    omega
  | cons p r =>
    cases f with
    | zero =>
      rw [hd] at h1
      cases h1
    | succ f =>
      rw [hd] at h1
      have h4 : (match PyFlat.call PyUw38.shape (p :: r) with | none => none | some (c, t) => match PyFlat.calls PyUw38.shape f t with | none => none | some cs => some (c :: cs)) = some raw := h1
      cases hc : PyFlat.call PyUw38.shape (p :: r) with
      | none =>
        rw [hc] at h4
        cases h4
      | some q =>
        obtain ⟨c0, t⟩ := q
        rw [hc] at h4
        have h5 : (match PyFlat.calls PyUw38.shape f t with | none => none | some cs => some (c0 :: cs)) = some raw := h4
        cases hcs : PyFlat.calls PyUw38.shape f t with
        | none =>
          rw [hcs] at h5
          cases h5
        | some cs =>
          rw [hcs] at h5
          have er := Option.some.inj h5
          subst er
          have hs := h2 c0 List.mem_cons_self
          cases hk : Uw38Neutral.callOf ((PyUw38.whole c0).headD []) with
          | none =>
            rw [hk] at hs
            cases hs
          | some k =>
            rw [← hd] at hc
            obtain ⟨n', r1, r2, r3, r4⟩ := call_read hc hk
            refine ⟨k, n', r1, r2, r3, f, cs, by rw [← r4]; exact hcs, fun c hcm => h2 c (List.mem_cons_of_mem _ hcm), ?_⟩
            have est : Uw38Neutral.step L ((PyUw38.whole c0).headD []) = ((Uw38.step L k).1, ans L k) := by
              unfold Uw38Neutral.step
              rw [hk]
              rfl
            rw [h3, List.map_cons]
            show out ++ PyFlat.told ((Uw38Neutral.step L ((PyUw38.whole c0).headD [])).2 :: PyFlat.played (fun s c => Uw38Neutral.step s (c.headD [])) (Uw38Neutral.step L ((PyUw38.whole c0).headD [])).1 (cs.map PyUw38.whole)) = _
            rw [est]
            show out ++ (((ans L k).length : Int) :: ans L k ++ PyFlat.told _) = _
            rw [List.append_assoc]
theorem rest_end {ns : List Int} {L : Line} {out : List Int} (h : Rest ns ns.length L out) : PyUw38.answers ns = out := by
  obtain ⟨f, raw, h1, h2, h3⟩ := h
  rw [List.drop_length] at h1
  have e : raw = [] := by
    cases f <;> exact (Option.some.inj h1).symm
  subst e
  rw [h3]
  exact List.append_nil _
end Hm

section
set_option maxRecDepth 100000
set_option maxHeartbeats 2000000
/-! Three rules of our own: enumerate with a start by keyword; min and count of a list of pairs of ints. -/
namespace Hr
open PySem PySem.Spec PyProof.Rows L2
/-! ### enumerate(list, start=c) -/
def ItS (K : PySem.W.Frag) (a : Addr) (c : Int) : It where
  go := fun i H => ∃ (xs : List V) (x : V), SqL K H a xs ∧ xs[i]? = some x
  yld := fun i H v H' => ∃ T x, v = .ref T ∧ H T = none ∧ H' = upd H T (.tup [.int (c + (i : Nat)), x]) ∧ ∀ xs, SqL K H a xs → xs[i]? = some x
  stop := fun i H => ∃ xs : List V, SqL K H a xs ∧ xs.length = i
theorem turn_start {P : Program} {w : World} {K : PySem.W.Frag} {elts : List Expr} {kk : Nat} {tpos : Pos} (a e it : Addr) (c : Int) :
    Turn P w K (.Tuple elts kk tpos) (ItS K a c) [e, it] e (fun i h => (∃ old, IsEnum h e it (c + (i : Nat)) old) ∧ h.IsListIter it a i ∧ e ≠ it ∧ a ≠ it) where
  mem := List.mem_cons_self
  obj := fun i h st b hb => by
    obtain ⟨⟨old, he⟩, ⟨o, ho, _, hd⟩, _⟩ := st
    rcases (show b = e ∨ b = it by simpa using hb) with z | z
    · subst z
      exact ⟨_, he, fun v q => nomatch q⟩
    · subst z
      exact ⟨o, ho, fun v q => by rw [hd] at q; cases q⟩
  keep := fun i h h' st k => by
    obtain ⟨⟨old, he⟩, hi, hne⟩ := st
    exact ⟨⟨old, k e List.mem_cons_self _ he⟩, hi.at fun o q => k it (by simp) o q, hne⟩
  item := by
    intro X hP hw hK hc i pz s σ H E I fps st hg
    subst hP hw hK
    obtain ⟨⟨old, he⟩, itAt, hne, hai⟩ := st
    obtain ⟨xs, x, hq, hx⟩ := hg
    obtain ⟨vals, rvl, p, hz⟩ := I.list hq
    obtain ⟨u, uAt, ru⟩ := rvl.get hx
    have eIn : e < s.heap.objs.size := Heap.lt_size he
    have iIn : it < s.heap.objs.size := by obtain ⟨_, q, _⟩ := itAt; exact Heap.lt_size q
    have hh : X.A.in1.handled = none := I.ok.hd hc
    have hus : vals.toArray[i]? = some u := by simpa using uAt
    have jlt : i < vals.toArray.size := (Array.getElem?_eq_some_iff.mp hus).1
    have hae : a ≠ e := fun z => by
      have q := (fps e (by simp)).1
      obtain ⟨ob, q2, q3, _⟩ := p.isList
      rw [z] at q2
      have q4 := q2.symm.trans he
      cases q4
      injection q3 with q5
      exact absurd q5 (by decide)
    refine wpAny_pyNext_enum_itemC (Draws.list hh it a hai vals.toArray) he ⟨itAt, p.isList⟩ jlt hne (by simp [hne, Ne.symm hae]) fun x' h' tk hx' ho hit' hT hsz kept => ?_
    have ex : x' = u := Option.some.inj (hx'.symm.trans hus)
    subst ex
    refine ⟨_, rfl, wpAny_letOwnedTupleGo_enum (s := { s with heap := h', toks := tk + 1 }) ho fun h'' he' sbut => ?_⟩
    have hT2 : h''.get? s.heap.objs.size = some { cls := .type "tuple", data := .seq #[.int (c + (i : Nat)) tk, x'] } := (sbut.2 _ (Nat.ne_of_gt eIn)).trans hT
    have new : ObjOk X.prog X.w (upd H s.heap.objs.size (.tup [.int (c + (i : Nat)), x])) h'' s.heap.objs.size (.tup [.int (c + (i : Nat)), x]) :=
      ⟨by show 2 ≤ sizeLine; decide, [.int (c + (i : Nat)) tk, x'], .cons ⟨_, rfl⟩ (.cons ru .nil), ⟨_, hT2, rfl, _, rfl⟩⟩
    have I1 : Inv X pz σ (upd H s.heap.objs.size (.tup [.int (c + (i : Nat)), x])) { s with heap := h'', toks := tk + 1 } :=
      I.turnedNew (ch := [e, it]) (fun b ob hb q => (sbut.2 b (fun z => hb (by simp [z]))).trans (kept b ob (fun z => hb (by simp [z])) (fun z => hb (by simp [z])) q)) fps (Nat.le_refl _) new
    refine ⟨.ref s.heap.objs.size, _, I1, rfl, ⟨_, x, rfl, I.hok.fresh (Nat.le_refl _), rfl, fun ys hy => by rw [I.list_inj hy hq]; exact hx⟩, ⟨⟨x', ?_⟩, ?_, hne, hai⟩, fun b hb => ?_⟩
    · have e1 : c + ((i + 1 : Nat) : Int) = c + (i : Nat) + 1 := by omega
      rw [e1]
      exact he'
    · exact hit'.1.at fun o q => (sbut.2 it (Ne.symm hne)).trans q
    · have inH : b < s.heap.objs.size := by
        rcases (show b = e ∨ b = it by simpa using hb) with z | z <;> rw [z] <;> assumption
      rw [upd_ne (Nat.ne_of_lt inH)]
      exact (fps b hb).1
  done := by
    intro X hP hw hK hc i pz s σ H E I fps st hg
    subst hP hw hK
    obtain ⟨⟨old, he⟩, itAt, hne, hai⟩ := st
    obtain ⟨xs, hq, hx⟩ := hg
    obtain ⟨vals, rvl, p, hz⟩ := I.list hq
    obtain ⟨p0, p1, _, p3, p4, p5⟩ := fps it (by simp)
    have hl := rvl.length
    have hh : X.A.in1.handled = none := I.ok.hd hc
    have hn : vals.toArray.size = i := by rw [List.size_toArray]; omega
    refine wpAny_pyNext_enum_endD (Draws.list hh it a hai vals.toArray) he ⟨by rw [hn]; exact itAt, p.isList⟩ fun h' eb => ⟨rfl, ?_⟩
    exact I.turned (t' := s.toks) (fun b o hb q => eb b o hb q) p0 p1 p3 p4 p5
  self := by
    rintro A i s Q E ⟨⟨_, he⟩, _⟩ h
    exact wpAny_pyIter_enum he h
def iStart (K : PySem.W.Frag) (ta tk : TA) : TI := fun σ H R => ta σ H fun vs H1 => tk σ H1 fun zs H2 => ∃ a xs c, vs = [.ref a] ∧ zs = [.int c] ∧ SqL K H2 a xs ∧ -(2 ^ 63) ≤ c ∧ c < 2 ^ 63 ∧ R (ItS K a c) H2
theorem callWith_typeK {M : Model} {A : Around} {E : Value → Shared → Prop} {s : Shared} {pos : Pos} {T : String} {args : List (Bool × Sem Value)} {ks : List (Option Str × Sem Value)} {Q : Value → Shared → Prop}
    (hp : args.any (·.1) = false) (kept : ks.any (·.1.isNone) = false) (h : wpAny M A (evalArgs (.type T) true args ks) (fun a s' => wpAny M A (call (.type T) a.pos a.kw) Q E s') E s) :
    wpAny M A (callWith pos (.type T) [] args ks) Q E s := by
  unfold callWith
  refine wpAny_bind (wpAny_holding (wpAny_mono h (fun a s' h' => wpAny_bind (wpAny_standAt ?_)) fun _ _ z => z))
  simp only [hp, kept, Bool.or_false]
  exact wpAny_bind (wpAny_pure (wpAny_bind (wpAny_mono h' (fun r s'' hr => wpAny_bind (wpAny_holding (wpAny_point (wpAny_pure hr)))) fun _ _ z => z)))
theorem pi_start {X : Cx} {e e1 : Expr} {ta tk : TA} {p pos tpos kpos : Pos} {elts : List Expr} {kk : Nat} (hg : Gl X "enumerate") (hm : X.mg "enumerate" = none) (ha : PA X [e] ta) (hk : PK X [⟨some "start", e1, kpos⟩] tk)
    (hs : backTo pos (starEach [e] X.env) = (false, eval e X.env) :: backTo pos (starEach [] X.env) := by rfl) :
    PI X (.Tuple elts kk tpos) (.Call (.Name "enumerate" p) [e] [⟨some "start", e1, kpos⟩] pos) (iStart X.K ta tk) := by
  refine ⟨fun pz s σ H R I h => ?_⟩
  refine wpAny_Call_Name_kw (ld_blt I hg hm boot_enumerate ?_)
  refine callWith_typeK (by rw [hs]; rfl) rfl ?_
  have h1 := ha.run pos pz s σ H _ I h
  rw [hs] at h1 ⊢
  refine evalArgs_kwB rfl (thn h1 fun us s1 ⟨vs, H1, I1, r1, q1⟩ => thn (hk.run pos pz s1 σ H1 _ I1 q1) fun ws s2 ⟨zs, H2, I2, r2, q2⟩ => ?_)
  obtain ⟨a, xs, c, ex, ez, hq, c0, c1, q⟩ := q2
  subst ex ez
  cases r1 with
  | cons r rr =>
    cases rr
    cases r
    cases r2 with
    | cons z zz =>
      cases zz
      obtain ⟨t, rfl⟩ := z
      obtain ⟨vals, rvl, p', hz⟩ := I2.list hq
      refine enum_begins_start (begins_list a vals.toArray) p'.isList c0 c1 fun h' he itAt hsz hk' => wpAny_pyIter_enum he ?_
      have hal : a < s2.heap.objs.size := by obtain ⟨_, q, _⟩ := p'.isList; exact Heap.lt_size q
      have I3 : Inv X pz σ H2 { s2 with heap := h' } := I2.kept (t' := s2.toks) hk'
      refine ⟨s2.heap.objs.size + 1, [s2.heap.objs.size + 1, s2.heap.objs.size], _, _, H2, rfl, I3, turn_start a (s2.heap.objs.size + 1) s2.heap.objs.size c, ⟨⟨.none, ?_⟩, ⟨_, itAt, rfl, rfl⟩, Nat.succ_ne_self _, Nat.ne_of_lt hal⟩, fun b hb => ?_, q⟩
      · have e0 : c + ((0 : Nat) : Int) = c := by omega
        rw [e0]
        exact he
      · have e' : b = s2.heap.objs.size + 1 ∨ b = s2.heap.objs.size := by simpa using hb
        have hle : s2.heap.objs.size ≤ b := by
          rcases e' with z | z
          · rw [z]
            exact Nat.le_succ _
          · rw [z]
            exact Nat.le_refl _
        exact I2.fpOk hle (I2.hok.fresh hle)

/-! ### lists of pairs of ints -/
def PrAt (K : PySem.W.Frag) (H : Hp) (b : Addr) (p : Int × Int) : Prop := SqT K H b [.int p.1, .int p.2]
def pD (p : Int × Int) : PyData := .tuple [.int p.1, .int p.2]
theorem pD_lay (p : Int × Int) : (pD p).canLay0 = true := by simp [pD, PyData.canLay0, PyData.canLayAll0]
theorem pD_depth (p : Int × Int) : (pD p).depth = 1 := by simp [pD, PyData.depth, PyData.depthAll]
theorem pDs_lay : ∀ ps : List (Int × Int), PyData.canLayAll0 (ps.map pD) = true
  | [] => by unfold PyData.canLayAll0; rfl
  | p :: ps => by simp [PyData.canLayAll0, pD_lay p, pDs_lay ps]
theorem pDs_depth : ∀ ps : List (Int × Int), PyData.depthAll (ps.map pD) ≤ 1
  | [] => by unfold PyData.depthAll; decide
  | p :: ps => by
    have h1 := pDs_depth ps
    have h2 := pD_depth p
    rw [List.map_cons]
    unfold PyData.depthAll
    omega
theorem pD_shaped (p : Int × Int) : SeqAt.shaped (pD p) = true := by
  show ((pD p).canLay0 && decide ((pD p).depth ≤ 64)) = true
  rw [pD_lay, pD_depth]
  rfl
theorem pDs_shaped (ps : List (Int × Int)) : SeqAt.shaped (.list (ps.map pD)) = true := by
  have h2 : PyData.depth (.list (ps.map pD)) ≤ 64 := by
    have h1 := pDs_depth ps
    simp only [PyData.depth]
    omega
  show (PyData.canLay0 (.list (ps.map pD)) && decide (PyData.depth (.list (ps.map pD)) ≤ 64)) = true
  rw [decide_eq_true h2, Bool.and_true]
  simp only [PyData.canLay0]
  exact pDs_lay ps
theorem pD_eqv (p q : Int × Int) : PyData.eqv (pD p) (pD q) = (p == q) := by
  have e : PyData.eqv (pD p) (pD q) = ((p.1 == q.1) && ((p.2 == q.2) && true)) := by simp only [pD, PyData.eqv, PyData.eqvAll]
  rw [e, Bool.and_true]
  rfl
theorem dp_one {K : PySem.W.Frag} {H : Hp} {b : Addr} {p : Int × Int} (h : PrAt K H b p) : Dp K H (.ref b) (pD p) := .tup h (.cons (.int _) (.cons (.int _) .nil))
theorem dp_all {K : PySem.W.Frag} {H : Hp} : ∀ {as : List Addr} {ps : List (Int × Int)}, Paired (PrAt K H) as ps → DpAll K H (as.map V.ref) (ps.map pD)
  | _, _, .nil => .nil
  | _, _, .cons h t => .cons (dp_one h) (dp_all t)
section
variable {X : Cx}
/-- l.count(x) of data -/
def rCountD (K : PySem.W.Frag) : V → List V → Hp → VK → Prop := fun x xs H Q => ∃ (a : Addr) (y : V) (d : PyData) (ds : List PyData), x = V.ref a ∧ xs = [y] ∧ Dp K H (V.ref a) (.list ds) ∧ Dp K H y d ∧ SeqAt.shaped (.list ds) = true ∧ SeqAt.shaped d = true ∧
  Q (.int ((ds.countP fun z => PyData.eqv z d : Nat) : Int)) H
theorem mt_countD (hu : X.A.units + 65 < cLine) : MtR X "list.count" (rCountD X.K) := by
  intro pz s σ H x xs v us Q I rlx rlxs h
  obtain ⟨a, y, d, ds, rfl, rfl, hl, hy, sl, sd, q⟩ := h
  cases rlx
  obtain ⟨uy, rfl, ry⟩ := rlxs.one
  obtain ⟨bs, rd1⟩ := Dp.reads I d y uy hy ry
  have lay : PyData.canLayAll0 ds = true := SeqAt.canLay_of_shaped sl
  have room : X.A.units + 1 + min (PyData.depthAll ds) d.depth < cLine := room_in_shaped sd hu
  cases hl with
  | lst hs ha =>
    obtain ⟨vals, rvl, ⟨⟨cls, dd, data, sls⟩, n, ho, hc, hdn, hdt⟩, hlen⟩ := I.list hs
    simp only at hc hdt
    subst hc hdt
    obtain ⟨as, h4⟩ := Dp.readsAll I ds _ vals ha rvl
    have hmap : vals.map (SeqAt.readOf s.heap) = ds := SeqAt.readsAll_map ds vals as lay h4
    refine call_meets PySem.F.slot_list_count ⟨_, ho, rfl⟩ PySem.F.entry_list_count (PySem.F.args_list_count_2 _ _) (SeqAt.list_countAt a vals.toArray n dd sls uy (fun u => PyData.eqv (SeqAt.readOf s.heap u) d)) ⟨ho, SeqAt.items_eqAt (vs := vals.toArray) (show ReadsAll s.heap vals.toArray.toList ds as from h4) rd1 lay (SeqAt.canLay_of_shaped sd) room, ?_⟩
    refine ⟨.int ((ds.countP fun z => PyData.eqv z d : Nat) : Int), H, I.tok _, ⟨s.toks, ?_⟩, q⟩
    have ec : vals.toArray.toList.countP (fun u => PyData.eqv (SeqAt.readOf s.heap u) d) = ds.countP fun z => PyData.eqv z d := by
      rw [← hmap, List.countP_map]
      rfl
    show Value.int ((vals.toArray.toList.countP (fun u => PyData.eqv (SeqAt.readOf s.heap u) d) : Nat) : Int) s.toks = _
    rw [ec]
end
/-! ### min of a list of pairs: the loop, a comparison that reads the heap -/
def Kp (h0 : Heap) (I S : Addr) (h : Heap) : Prop := ∀ b o, b ≠ I → b ≠ S → h0.get? b = some o → h.get? b = some o
section
variable {prog : Program} {w : World} {A : Around} {E : Value → Shared → Prop} {R : Result → Shared → Prop} {I l S : Addr} {items : Array Value} {h0 : Heap}
/-- the least so far, twice -/
abbrev two (v : Value) (c : Nat) : Obj := { cls := .type "list", dict := none, data := .seq #[v, v] c, slots := #[] }
theorem min_word : (toString "min" ++ toString ".loop" : String) = "min.loop" := by decide
theorem min_go (hh : A.handled = none) (hlI : l ≠ I) (hSI : S ≠ I) (hSl : S ≠ l) (bt : Nat → Nat → Bool)
    (cmp : ∀ i j u v (s : Shared) (Q : Value → Shared → Prop) (E : Value → Shared → Prop), Kp h0 I S s.heap → items[i]? = some u → items[j]? = some v → Q (.bool (bt i j)) s → wpAny (model prog w) A.in1 (richCompare .Lt u v) Q E s) :
    ∀ (k j : Nat) (s : Shared) (vb : Value) (c : Nat), items.size - (j + 1) = k → j + 1 ≤ items.size → Kp h0 I S s.heap → s.heap.IsListIter I l (j + 1) ∧ s.heap.IsList l items → items[argBest bt j]? = some vb →
    s.heap.get? S = some (two vb c) → (∀ v h' tk, items[argBest bt (items.size - 1)]? = some v → Kp h0 I S h' → R (.ok (.ret v)) { s with heap := h', toks := tk }) → codeAny (model prog w) A (.builtin "min.loop" ⟨[.ref I, .none, .ref S], []⟩) R s := by
  have W := Walks.list (prog := prog) (w := w) (A := A.in1) hh I l hlI items
  have hSw : S ∉ [I] := by simpa using hSI
  intro k
  induction k with
  | zero =>
    intro j s vb c kept hj kp st pb gSlot fin
    have hin : j + 1 = items.size := by omega
    refine codeAny_builtin F.entry_min_loop (Eq.mpr (by rw [Around.under_plainId F.plain_min_loop _]) ?_)
    refine wpAny_bind (m := seqItems? (.ref S)) (wpAny_seqItems gSlot rfl ?_)
    refine wpAny_bind (m := tryCatch (pyNext (.ref I)) _) (wpAny_tryCatch (W.done s _ _ (hin ▸ st) fun h' tk hk' => ?_))
    have gS' := hk' S _ hSw gSlot
    refine wpAny_bind (m := updateSeq S (fun _ => #[])) (wpAny_updateSeq gS' rfl (wpAny_bind (wpAny_letGo (wpAny_pure ?_))))
    refine fin vb _ tk (by rw [← hin]; exact pb) fun b o b1 b2 e => ?_
    exact (Heap.get?_update_other _ _ (Ne.symm b2)).trans (hk' b o (by simpa using b1) (kp b o b1 b2 e))
  | succ k ih =>
    intro j s vb c kept hj kp st pb gSlot fin
    have jlt : j + 1 < items.size := by omega
    refine codeAny_builtin F.entry_min_loop (Eq.mpr (by rw [Around.under_plainId F.plain_min_loop _]) ?_)
    refine wpAny_bind (m := seqItems? (.ref S)) (wpAny_seqItems gSlot rfl ?_)
    refine wpAny_bind (m := tryCatch (pyNext (.ref I)) _) (wpAny_tryCatch (W.item (j + 1) s _ _ jlt st fun v h' tk hP st' hk' => ?_))
    have gS' := hk' S _ hSw gSlot
    have kp' : Kp h0 I S h' := fun b o b1 b2 e => hk' b o (by simpa using b1) (kp b o b1 b2 e)
    show wpAny _ A.in1 (tryCatch (holding [v, v] (richCompare .Lt v vb >>= _)) _ >>= _) _ _ { s with heap := h', toks := tk }
    refine wpAny_bind (wpAny_tryCatch (wpAny_holding (wpAny_bind (cmp (j + 1) (argBest bt j) v vb _ _ _ kp' hP pb ?_))))
    refine wpAny_bind (wpAny_holding (wpAny_truthy_bool (wpAny_bind (wpAny_letGo (wpAny_pure ?_)))))
    cases hbt : bt (j + 1) (argBest bt j) with
    | true =>
      simp only [if_true]
      refine wpAny_bind (wpAny_updateSeq gS' rfl (wpAny_bind (wpAny_letGo ?_)))
      rw [min_word]
      have kp2 : Kp h0 I S (h'.update S (Obj.mapSeq fun _ => #[v, v])) := fun b o b1 b2 e => (Heap.get?_update_other _ _ (Ne.symm b2)).trans (kp' b o b1 b2 e)
      refine wpAny_pure ⟨plainId_quiet F.plain_min_loop _, ih (j + 1) _ v _ (by omega) jlt kp2 (W.frame _ _ _ st' fun b hbf o e => ?_) (by simp only [argBest, hbt, if_true]; exact hP) (Heap.get?_update_self _ gS' rfl) fun v' h'' tk'' hP' hk'' => fin v' h'' tk'' hP' hk''⟩
      have nb : S ≠ b := fun q => by
        have q2 : b = I ∨ b = l := by simpa using hbf
        rcases q2 with z | z
        · exact hSI (q.trans z)
        · exact hSl (q.trans z)
      exact (Heap.get?_update_other _ _ nb).trans e
    | false =>
      simp only [if_false, Bool.false_eq_true]
      refine wpAny_bind (wpAny_letGo (Eq.mpr (by rw [min_word]) ?_))
      exact wpAny_pure ⟨plainId_quiet F.plain_min_loop _, ih (j + 1) _ vb c (by omega) jlt kp' st' (by simp only [argBest, hbt, Bool.false_eq_true, if_false]; exact pb) gS' fun v' h'' tk'' hP' hk'' => fin v' h'' tk'' hP' hk''⟩
theorem min_call {s : Shared} {Q : Value → Shared → Prop} (hh : A.handled = none) (hl : s.heap.IsList l items) (hn : 0 < items.size) (bt : Nat → Nat → Bool)
    (cmp : ∀ i j u v (s' : Shared) (Q : Value → Shared → Prop) (E : Value → Shared → Prop), (∀ b o, s.heap.get? b = some o → s'.heap.get? b = some o) → items[i]? = some u → items[j]? = some v → Q (.bool (bt i j)) s' → wpAny (model prog w) A.in1 (richCompare .Lt u v) Q E s')
    (fin : ∀ v h' tk, items[argBest bt (items.size - 1)]? = some v → (∀ b o, s.heap.get? b = some o → h'.get? b = some o) → Q v { s with heap := h', toks := tk }) :
    (wpAny (model prog w) A (call (.builtin "min") [.ref l]) Q E s) := by
  have hll : l < s.heap.objs.size := by obtain ⟨_, e, _⟩ := hl; exact Heap.lt_size e
  refine call_function_tree (args := [.ref l]) F.kind_min F.plain_min F.entry_min (F.args_min1 _) ?_
  show wpAny _ A.in1 (Builtin.Builtins.bindParams "min" ["key", "default"] 0 ⟨[], []⟩ >>= _) _ _ _
  refine wpAny_bind (wpAny_of_eq (a := [none, none]) rfl (wpAny_bind (wpAny_pure ?_)))
  refine wpAny_bind (wpAny_pyIter_list hl (wpAny_bind (wpAny_newObj_type ?_)))
  rw [min_word]
  generalize eI : s.heap.objs.size = I0 at *
  have e1 : (s.heap.push { cls := .type "list_iterator", data := .fields #[.ref l, .int 0 0] }).objs.size = I0 + 1 := by rw [Heap.size_push, eI]
  have gI : (s.heap.push { cls := .type "list_iterator", data := .fields #[.ref l, .int 0 0] }).get? I0 = some { cls := .type "list_iterator", data := .fields #[.ref l, .int 0 0] } := by rw [← eI]; exact Heap.get?_push_size _ rfl
  have gold : ∀ b o, s.heap.get? b = some o → (s.heap.push { cls := .type "list_iterator", data := .fields #[.ref l, .int 0 0] }).get? b = some o := fun b o e => Heap.get?_push_of_some _ e
  have old : ∀ b o, s.heap.get? b = some o → b ≠ I0 ∧ b ≠ I0 + 1 := fun b o e => by
    have := Heap.lt_size e
    exact ⟨Nat.ne_of_lt (by rw [← eI]; exact this), Nat.ne_of_lt (Nat.lt_succ_of_lt (by rw [← eI]; exact this))⟩
  generalize eh : s.heap.push { cls := .type "list_iterator", data := .fields #[.ref l, .int 0 0] } = h1 at *
  rw [e1]
  have gI2 : (h1.push { cls := .type "list", data := .seq #[] 0 }).get? I0 = some { cls := .type "list_iterator", data := .fields #[.ref l, .int 0 0] } := Heap.get?_push_of_some _ gI
  have gS2 : (h1.push { cls := .type "list", data := .seq #[] 0 }).get? (I0 + 1) = some { cls := .type "list", data := .seq #[] 0 } := by rw [← e1]; exact Heap.get?_push_size _ rfl
  have gold2 : ∀ b o, s.heap.get? b = some o → (h1.push { cls := .type "list", data := .seq #[] 0 }).get? b = some o := fun b o e => Heap.get?_push_of_some _ (gold b o e)
  generalize (h1.push { cls := .type "list", data := .seq #[] 0 }) = h2 at *
  have hl2 : h2.IsList l items := hl.at fun o e => gold2 l o e
  have hSI : I0 + 1 ≠ I0 := Nat.succ_ne_self _
  have hlI : l ≠ I0 := Nat.ne_of_lt hll
  have hSl : I0 + 1 ≠ l := Nat.ne_of_gt (Nat.lt_succ_of_lt hll)
  have W := Walks.list (prog := prog) (w := w) (A := A.in1) hh I0 l hlI items
  have kp0 : Kp s.heap I0 (I0 + 1) h2 := fun b o _ _ e => gold2 b o e
  have un : ∀ h', Kp s.heap I0 (I0 + 1) h' → ∀ b o, s.heap.get? b = some o → h'.get? b = some o := fun h' k b o e => k b o (old b o e).1 (old b o e).2 e
  refine wpAny_pure ⟨plainId_quiet F.plain_min_loop _, codeAny_builtin F.entry_min_loop (Eq.mpr (by rw [Around.under_plainId F.plain_min_loop _]) ?_)⟩
  refine wpAny_bind (m := seqItems? (.ref (I0 + 1))) (wpAny_seqItems gS2 rfl ?_)
  refine wpAny_bind (m := tryCatch (pyNext (.ref I0)) _) (wpAny_tryCatch (W.item 0 _ _ _ hn ⟨⟨_, gI2, rfl, rfl⟩, hl2⟩ fun v h' tk hP st' hk' => ?_))
  have gS3 := hk' (I0 + 1) _ (by simpa using hSI) gS2
  refine wpAny_bind (m := updateSeq (I0 + 1) (fun _ => #[v, v])) (wpAny_updateSeq gS3 rfl ?_)
  rw [min_word]
  have kp3 : Kp s.heap I0 (I0 + 1) (h'.update (I0 + 1) (Obj.mapSeq fun _ => #[v, v])) := fun b o b1 b2 e => (Heap.get?_update_other _ _ (Ne.symm b2)).trans (hk' b o (by simpa using b1) (kp0 b o b1 b2 e))
  refine wpAny_pure ⟨plainId_quiet F.plain_min_loop _, min_go hh hlI hSI hSl bt (fun i j u v s' Q' E' k1 => cmp i j u v s' Q' E' (un _ k1)) _ 0 _ v _ rfl hn kp3 (W.frame _ _ _ st' fun b hbf o e => ?_) hP (Heap.get?_update_self _ gS3 rfl) fun v' h'' tk'' hP' k2 => fin v' h'' tk'' hP' (un _ k2)⟩
  have nb : I0 + 1 ≠ b := fun q => by
    have q2 : b = I0 ∨ b = l := by simpa using hbf
    rcases q2 with z | z
    · exact hSI (q.trans z)
    · exact hSl (q.trans z)
  exact (Heap.get?_update_other _ _ nb).trans e
end

def less2 (p q : Int × Int) : Bool := HT.lexLt [p.1, p.2] [q.1, q.2]
theorem less2_iff (p q : Int × Int) : less2 p q = true ↔ p.1 < q.1 ∨ (p.1 = q.1 ∧ p.2 < q.2) := by
  have e : less2 p q = if p.1 = q.1 then (if p.2 = q.2 then false else decide (p.2 < q.2)) else decide (p.1 < q.1) := rfl
  rw [e]
  by_cases h1 : p.1 = q.1
  · rw [if_pos h1]
    by_cases h2 : p.2 = q.2
    · rw [if_pos h2]
      constructor
      · intro h
        cases h
      · intro h
        omega
    · rw [if_neg h2, decide_eq_true_eq]
      omega
  · rw [if_neg h1, decide_eq_true_eq]
    omega
theorem less2_no (p q : Int × Int) : less2 p q = false ↔ ¬ (p.1 < q.1 ∨ (p.1 = q.1 ∧ p.2 < q.2)) := by
  rw [← less2_iff, Bool.not_eq_true]
theorem argBest_lex (f : Nat → Int × Int) : ∀ k, argBest (fun i j => less2 (f i) (f j)) k ≤ k ∧ ∀ j, j ≤ k → less2 (f j) (f (argBest (fun i j => less2 (f i) (f j)) k)) = false
  | 0 => ⟨Nat.le_refl _, fun j hj => by
      have e : j = 0 := by omega
      subst e
      exact (less2_no _ _).mpr (by show ¬ ((f 0).1 < (f 0).1 ∨ ((f 0).1 = (f 0).1 ∧ (f 0).2 < (f 0).2)); omega)⟩
  | k + 1 => by
    obtain ⟨h1, h2⟩ := argBest_lex f k
    have e : argBest (fun i j => less2 (f i) (f j)) (k + 1) = if less2 (f (k + 1)) (f (argBest (fun i j => less2 (f i) (f j)) k)) = true then k + 1 else argBest (fun i j => less2 (f i) (f j)) k := rfl
    rw [e]
    by_cases hc : less2 (f (k + 1)) (f (argBest (fun i j => less2 (f i) (f j)) k)) = true
    · rw [if_pos hc]
      rw [less2_iff] at hc
      refine ⟨Nat.le_refl (k + 1), fun j hj => ?_⟩
      rcases Nat.lt_or_ge j (k + 1) with jlt | jge
      · have h3 := (less2_no _ _).mp (h2 j (by omega))
        rw [less2_no]
        omega
      · have ej : j = k + 1 := by omega
        subst ej
        rw [less2_no]
        omega
    · rw [if_neg hc]
      refine ⟨Nat.le_succ_of_le h1, fun j hj => ?_⟩
      rcases Nat.lt_or_ge j (k + 1) with jlt | jge
      · exact h2 j (by omega)
      · have ej : j = k + 1 := by omega
        subst ej
        exact Bool.eq_false_iff.mpr hc
theorem paired_get {α β : Type} {F : α → β → Prop} : ∀ {as : List α} {bs : List β}, Paired F as bs → ∀ {i : Nat} {a : α}, as[i]? = some a → ∃ b, bs[i]? = some b ∧ F a b
  | _, _, .nil, i, a, h => by simp at h
  | _, _, .cons r t, 0, a, h => by
    have e := Option.some.inj h
    subst e
    exact ⟨_, rfl, r⟩
  | _, _, .cons r t, i + 1, a, h => paired_get t (i := i) (a := a) h
theorem paired_get2 {α β : Type} {F : α → β → Prop} : ∀ {as : List α} {bs : List β}, Paired F as bs → ∀ {i : Nat} {b : β}, bs[i]? = some b → ∃ a, as[i]? = some a ∧ F a b
  | _, _, .nil, i, a, h => by simp at h
  | _, _, .cons r t, 0, a, h => by
    have e := Option.some.inj h
    subst e
    exact ⟨_, rfl, r⟩
  | _, _, .cons r t, i + 1, a, h => paired_get2 t (i := i) (b := a) h
section
variable {X : Cx}
def rMinP (K : PySem.W.Frag) : List V → Hp → VK → Prop := fun vs H Q => ∃ (a : Addr) (as : List Addr) (ps : List (Int × Int)), vs = [V.ref a] ∧ SqL K H a (as.map V.ref) ∧ Paired (PrAt K H) as ps ∧ 0 < ps.length ∧
  ∀ (j : Nat) (b : Addr) (p : Int × Int), as[j]? = some b → ps[j]? = some p → (∀ q ∈ ps, less2 q p = false) → Q (.ref b) H
theorem cr_minP (hc : X.calm = true) (hu : X.A.units + 65 < cLine) : CallR X (.builtin "min") (rMinP X.K) := by
  intro pz s σ H vs us Q I r h
  obtain ⟨a, as, ps, rfl, hs, pr, hne, q⟩ := h
  obtain ⟨vals, rvl, hl, _⟩ := I.list hs
  rw [Vals.ref1 r]
  have hlen : as.length = ps.length := Paired.length pr
  have hlen2 : as.length = vals.length := by
    have := rvl.length
    rw [List.length_map] at this
    exact this
  have hat : ∀ (i : Nat) (u : Value), vals.toArray[i]? = some u → ∃ (b : Addr) (p : Int × Int), u = Value.ref b ∧ as[i]? = some b ∧ ps[i]? = some p ∧ PrAt X.K H b p := fun i u hu' => by
    have hu2 : vals[i]? = some u := by simpa using hu'
    have hi : i < as.length := by rw [hlen2]; exact (List.getElem?_eq_some_iff.mp hu2).1
    have e1 : as[i]? = some as[i] := List.getElem?_eq_getElem hi
    obtain ⟨p, hp, ha⟩ := paired_get pr e1
    obtain ⟨u', e2, ru⟩ := rvl.get (i := i) (x := V.ref as[i]) (by rw [List.getElem?_map, e1]; rfl)
    rw [hu2] at e2
    cases e2
    exact ⟨as[i], p, ru, e1, hp, ha⟩
  have hsz : vals.toArray.size = ps.length := by rw [List.size_toArray]; omega
  refine min_call (I.ok.hd hc) hl.isList (by omega) (fun i j => less2 (ps.getD i (0, 0)) (ps.getD j (0, 0))) (fun i j u v s' Q' E' kp hi hj hq => ?_) fun v h' tk hv kp => ?_
  · obtain ⟨b, p, rfl, _, hp, hb⟩ := hat i u hi
    obtain ⟨b2, p2, rfl, _, hp2, hb2⟩ := hat j v hj
    obtain ⟨i1, r1, ⟨o1, e1, t1⟩, _⟩ := I.tuple (xs := [p.1, p.2].map V.int) hb
    obtain ⟨i2, r2, ⟨o2, e2, t2⟩, _⟩ := I.tuple (xs := [p2.1, p2.2].map V.int) hb2
    have x1 : ps.getD i (0, 0) = p := by rw [List.getD_eq_getElem?_getD, hp]; rfl
    have x2 : ps.getD j (0, 0) = p2 := by rw [List.getD_eq_getElem?_getD, hp2]; rfl
    rw [x1, x2] at hq
    exact HT.lt_tupInts (ns := [p.1, p.2]) (ms := [p2.1, p2.2]) ⟨o1, kp _ _ e1, t1⟩ ⟨o2, kp _ _ e2, t2⟩ (intsAre_of r1) (intsAre_of r2) (by show X.A.units + 1 < cLine; omega) hq
  · obtain ⟨b, p, rfl, hb, hp, _⟩ := hat _ v hv
    obtain ⟨_, g2⟩ := argBest_lex (fun i => ps.getD i (0, 0)) (vals.toArray.size - 1)
    refine ⟨.ref b, H, I.kept kp, rfl, q _ b p hb hp fun z hz => ?_⟩
    obtain ⟨i, hi, e⟩ := List.mem_iff_getElem.mp hz
    have g3 := g2 i (by omega)
    have x1 : ps.getD i (0, 0) = z := by rw [List.getD_eq_getElem?_getD, List.getElem?_eq_getElem hi, e]; rfl
    have x2 : ps.getD (argBest (fun i j => less2 (ps.getD i (0, 0)) (ps.getD j (0, 0))) (vals.toArray.size - 1)) (0, 0) = p := by rw [List.getD_eq_getElem?_getD, hp]; rfl
    rw [← x1, ← x2]
    exact g3
end
end Hr

end
section
set_option maxRecDepth 100000
set_option maxHeartbeats 2000000
/-! The defs of the program, one theorem each: the objects; points, places, heights. -/
namespace Hd
open PySem PySem.Spec PyProof.Rows L2 Hr
open Uw38 (Line)
/-! ### the text by places -/
def top (i : Nat) : Stmt := PySem.Challenge.pw_ropeline_s01_answers.main.body.getD i (.Pass ⟨0, 0, 0, 0⟩)
abbrev sLInit : Stmt := inClass (top 15) 0
abbrev sRInit : Stmt := inClass (top 16) 0
abbrev sMore : Stmt := inClass (top 16) 1
abbrev sNum : Stmt := inClass (top 16) 2
abbrev sRow : Stmt := inClass (top 16) 3
abbrev sLast : Stmt := top 17
abbrev sSta : Stmt := top 18
abbrev sPla : Stmt := top 19
abbrev sHei : Stmt := top 20
abbrev sIsLow : Stmt := top 21
abbrev sLow : Stmt := top 22
abbrev sLift : Stmt := top 23
abbrev sRight : Stmt := top 24
abbrev sGrown : Stmt := top 25
abbrev sPlans : Stmt := top 26
abbrev sCost : Stmt := top 27
abbrev sLeast : Stmt := top 28
abbrev sTerms : Stmt := top 29
abbrev sRopeH : Stmt := top 30
abbrev sFits : Stmt := top 31
abbrev sGround : Stmt := top 32
abbrev sBegins : Stmt := top 33
abbrev sBest : Stmt := top 34
abbrev sCheck : Stmt := top 35
abbrev sTall : Stmt := top 36
abbrev sRope : Stmt := top 37
abbrev sCall : Stmt := top 38
abbrev sAns : Stmt := top 39
/-! ### the data -/
abbrev nv (n : Nat) : V := V.int (n : Int)
def lfs (L : Line) (g : Addr) : List (Str × V) := [("clearance", nv L.clear), ("tall", nv L.tall), ("each", nv L.base), ("unit", nv L.unit), ("ground", .ref g)]
theorem lf_clear (L : Line) (g : Addr) : (lfs L g).lookup ("clearance" : Str) = some (nv L.clear) := by rfl
theorem lf_tall (L : Line) (g : Addr) : (lfs L g).lookup ("tall" : Str) = some (nv L.tall) := by rfl
theorem lf_each (L : Line) (g : Addr) : (lfs L g).lookup ("each" : Str) = some (nv L.base) := by rfl
theorem lf_unit (L : Line) (g : Addr) : (lfs L g).lookup ("unit" : Str) = some (nv L.unit) := by rfl
theorem lf_ground (L : Line) (g : Addr) : (lfs L g).lookup ("ground" : Str) = some (.ref g) := by rfl
def rfs (a : Addr) (n : Nat) : List (Str × V) := [("numbers", .ref a), ("at", nv n)]
theorem rf_numbers (a : Addr) (n : Nat) : (rfs a n).lookup ("numbers" : Str) = some (.ref a) := by rfl
theorem rf_at (a : Addr) (n : Nat) : (rfs a n).lookup ("at" : Str) = some (nv n) := by rfl
theorem rf_more (a : Addr) (n : Nat) : (rfs a n).lookup ("more" : Str) = none := by rfl
theorem rf_number (a : Addr) (n : Nat) : (rfs a n).lookup ("number" : Str) = none := by rfl
theorem rf_row (a : Addr) (n : Nat) : (rfs a n).lookup ("row" : Str) = none := by rfl
/-- the line L stands at a, its ground at g -/
def LineG (C : Addr) (H : Hp) (a g : Addr) (L : Line) : Prop := ∃ dx, H a = some (.ins C dx (lfs L g)) ∧ H g = some (.lst (L.ground.map nv))
def LineAt (C : Addr) (H : Hp) (a : Addr) (L : Line) : Prop := ∃ g, LineG C H a g L
/-- a reader of the list a stands at r, before its n-th number -/
def RdAt (C : Addr) (H : Hp) (r a : Addr) (n : Nat) : Prop := ∃ dx, H r = some (.ins C dx (rfs a n))
def PtAt (H : Hp) (b : Addr) (p : Nat × Nat) : Prop := H b = some (.tup [nv p.1, nv p.2])
structure Good (L : Line) : Prop where
  p2 : 2 ≤ L.points
  p8 : L.points ≤ 8
  g9 : ∀ x ∈ L.ground, x ≤ 9
  c4 : L.clear ≤ 4
  t4 : L.tall ≤ 4
  b100 : L.base ≤ 100
  u100 : L.unit ≤ 100
theorem Good.at_le {L : Line} (G : Good L) (x : Nat) : L.at_ x ≤ 9 := by
  rw [Uw38.Line.at_, List.getD_eq_getElem?_getD]
  cases h : L.ground[x]? with
  | none => exact Nat.zero_le _
  | some v => exact G.g9 v (List.mem_of_getElem? h)
theorem Good.least_le {L : Line} (G : Good L) (x : Nat) : L.least x ≤ 13 := by
  have h1 := G.at_le x
  have h2 := G.c4
  unfold Uw38.Line.least
  omega
theorem LineAt.same {C : Addr} {H H' : Hp} {a : Addr} {L : Line} (h : LineAt C H a L) (s : Same H H') : LineAt C H' a L := by
  obtain ⟨g, dx, h1, h2⟩ := h
  exact ⟨g, dx, s _ _ h1, s _ _ h2⟩
theorem PtAt.same {H H' : Hp} {b : Addr} {p : Nat × Nat} (h : PtAt H b p) (s : Same H H') : PtAt H' b p := s _ _ h
theorem same_new {H : Hp} {p : Addr} {o : HO} (h : H p = none) : Same H (upd H p o) := fun b u e => by
  rw [upd_ne (ne_of_none e h)]
  exact e
theorem sqt {K : PySem.W.Frag} {H : Hp} {b : Addr} {p : Nat × Nat} (h : PtAt H b p) : SqT K H b [nv p.1, nv p.2] := SqT.of h
theorem ground_at {L : Line} {x : Nat} (h : x < L.points) : (L.ground.map nv)[x]? = some (nv (L.at_ x)) := by
  unfold Uw38.Line.at_
  rw [List.getElem?_map, List.getD_eq_getElem?_getD]
  have e : L.ground[x]? = some L.ground[x] := List.getElem?_eq_getElem h
  rw [e]
  rfl
/-- a constant of the module -/
def Cst (mg : Str → Option Value) (x : Str) (i : Int) : Prop := ∃ t, mg x = some (.int i t)
theorem pe_cst {X : Cx} {x : Str} {i : Int} {pos : Pos} (hg : Gl X x) (h : Cst X.mg x i) (hd : (x == ("__debug__" : Str)) = false := by decide) : PE X (.Name x pos) (tC (.int i)) := by
  obtain ⟨t, eC⟩ := h
  exact pe_glob hg eC ⟨t, rfl⟩ hd
/-- what the top has left -/
structure Txt (K : PySem.W.Frag) (mg : Str → Option Value) (CL CR : Addr) : Prop where
  cL : Cls K CL
  cR : Cls K CR
  nc : NoAttr K CL "clearance"
  nt : NoAttr K CL "tall"
  ne : NoAttr K CL "each"
  nu : NoAttr K CL "unit"
  ng : NoAttr K CL "ground"
  nn : NoAttr K CR "numbers"
  na : NoAttr K CR "at"
  len : mg "len" = none
  range : mg "range" = none
  enumerate : mg "enumerate" = none
  sum : mg "sum" = none
  all : mg "all" = none
  min : mg "min" = none
  begins : Cst mg "BEGINS" 0
  best : Cst mg "BEST" 1
  check : Cst mg "CHECK" 2
  tallest : Cst mg "TALLEST" 3
  not : Cst mg "NOT_AS_TOLD" (-1)
  low : Cst mg "TOO_LOW" (-6)
  noright : Cst mg "NO_RIGHT_PLAN" (-6)
  lifts : Cst mg "LIFTS" (-7)
  few : Cst mg "FEWEST_POINTS" 2
  most : Cst mg "MOST_POINTS" 8
  mclear : Cst mg "MOST_CLEAR" 4
  mtall : Cst mg "MOST_TALL" 4
  mcost : Cst mg "MOST_COST" 100
  mground : Cst mg "MOST_GROUND" 9
/-- a def of the module that keeps its promise -/
def Dk (P : Program) (w : World) (K : PySem.W.Frag) (mg : Str → Option Value) (base : Heap) (x : Str) (k : Nat) (ps : List Str) (sp : Sp) : Prop :=
  ∃ (f : Addr) (fd : FuncData), FnOk P w K mg base CX0 k f fd ps sp ∧ mg x = some (.ref f) ∧ PySem.W.keepIn K (.ref f) = true ∧ Binds K fd ps []
/-- a method that keeps its promise -/
def Mtd (P : Program) (w : World) (K : PySem.W.Frag) (mg : Str → Option Value) (base : Heap) (C : Addr) (x : Str) (k : Nat) (ps : List Str) (sp : Sp) : Prop :=
  ∃ (f : Addr) (fd : FuncData), FnOk P w K mg base CX0 k f fd ps sp ∧ Meth K C x f ∧ Binds K fd ps []
/-! ### promises -/
/-- all but a stands as it did -/
def But (H H' : Hp) (a : Addr) : Prop := ∀ b o, H b = some o → b ≠ a → H' b = some o
def spLInit (C : Addr) : Sp := fun vs H Q _ => ∃ (p dx : Addr), vs = [.ref p] ∧ H p = some (.ins C dx []) ∧ ∀ H' : Hp, LineAt C H' p Uw38.init → But H H' p → Q .non H'
def spRInit (C : Addr) : Sp := fun vs H Q _ => ∃ (p dx a : Addr), vs = [.ref p, .ref a] ∧ H p = some (.ins C dx []) ∧ ∀ H' : Hp, RdAt C H' p a 0 → But H H' p → Q .non H'
def spMore (K : PySem.W.Frag) (C : Addr) : Sp := fun vs H Q _ => ∃ (r a : Addr) (n : Nat) (ns : List Int), vs = [.ref r] ∧ RdAt C H r a n ∧ SqL K H a (ns.map V.int) ∧ Q (.bl (decide (n < ns.length))) H
def spNum (K : PySem.W.Frag) (C : Addr) : Sp := fun vs H Q _ => ∃ (r a : Addr) (n : Nat) (ns : List Int) (z : Int), vs = [.ref r] ∧ RdAt C H r a n ∧ SqL K H a (ns.map V.int) ∧ ns[n]? = some z ∧ ∀ H' : Hp, RdAt C H' r a (n + 1) → But H H' r → Q (.int z) H'
def spRow (K : PySem.W.Frag) (C : Addr) : Sp := fun vs H Q _ => ∃ (r a : Addr) (n m : Nat) (ns : List Int), vs = [.ref r] ∧ RdAt C H r a n ∧ SqL K H a (ns.map V.int) ∧ ns[n]? = some (m : Int) ∧ n + 1 + m ≤ ns.length ∧
  ∀ (H' : Hp) (q : Addr), RdAt C H' r a (n + 1 + m) → But H H' r → H q = none → H' q = some (.lst (((ns.drop (n + 1)).take m).map V.int)) → Q (.ref q) H'
def spLast (C : Addr) : Sp := fun vs H Q _ => ∃ (a : Addr) (L : Line), vs = [.ref a] ∧ LineAt C H a L ∧ 2 ≤ L.points ∧ Q (nv (L.points - 1)) H
def spSta (C : Addr) : Sp := fun vs H Q _ => ∃ (a : Addr) (L : Line) (x : Nat), vs = [.ref a, nv x] ∧ LineAt C H a L ∧ x < L.points ∧ ∀ p, H p = none → Q (.ref p) (upd H p (.tup [nv x, nv (L.least x)]))
def spHei : Sp := fun vs H Q _ => ∃ (b c : Addr) (p q : Nat × Nat) (x : Nat), vs = [.ref b, .ref c, nv x] ∧ PtAt H b p ∧ PtAt H c q ∧ p.1 ≤ x ∧ x ≤ q.1 ∧ p.2 < 1000 ∧ q.2 < 1000 ∧
  ∀ t, H t = none → Q (.ref t) (upd H t (.tup [nv (Uw38.height p q x), nv (q.1 - p.1)]))
def spIsLow (C : Addr) : Sp := fun vs H Q _ => ∃ (a b c : Addr) (L : Line) (p q : Nat × Nat) (x : Nat), vs = [.ref a, .ref b, .ref c, nv x] ∧ LineAt C H a L ∧ Good L ∧ PtAt H b p ∧ PtAt H c q ∧ p.1 ≤ x ∧ x ≤ q.1 ∧ p.2 < 1000 ∧ q.2 < 1000 ∧ x < L.points ∧
  ∀ H' : Hp, Same H H' → Q (.bl (Hm.tooLow L p q x)) H'
section
variable {P : Program} {w : World} {K : PySem.W.Frag} {mg : Str → Option Value} {base : Heap} {CL CR : Addr}
/-! ### Line, Reader -/
theorem scLI : FnScope ["self"] ["self"] (defScope sLInit) := ⟨rfl, rfl, rfl, by decide +kernel, rfl, by decide +kernel, by decide +kernel⟩
theorem ok_linit {f : Addr} {fd : FuncData} (F : Fun K "__init__" "Line.__init__" sLInit f fd) (T : Txt K mg CL CR) : FnOk P w K mg base CX0 1 f fd ["self"] (spLInit CL) := by
  refine F.ok scLI (fun vs H Q E h => ?_) (fun cdv A outer s H vs Q E hr h => ?_)
  · obtain ⟨p, dx, rfl, _⟩ := h
    rfl
  · obtain ⟨p, dx, rfl, hp, k⟩ := h
    refine ⟨_, pss_cons (ps_fld (pv 0) pe_int rfl) (pss_cons (ps_fld (pv 0) pe_int rfl) (pss_cons (ps_fld (pv 0) pe_int rfl) (pss_cons (ps_fld (pv 0) pe_int rfl)
      (pss_one (ps_fld (pv 0) (pe_lst (pa_cons pe_int (pa_cons pe_int pa_nil))) rfl))))), ?_⟩
    refine ⟨_, rfl, p, CL, dx, _, rfl, hp, T.cL, T.nc, (by show 0 < 1000; decide), ?_⟩
    refine ⟨_, rfl, p, CL, dx, _, rfl, upd_same, T.cL, T.nt, (by show 1 < 1000; decide), ?_⟩
    refine ⟨_, rfl, p, CL, dx, _, rfl, upd_same, T.cL, T.ne, (by show 2 < 1000; decide), ?_⟩
    refine ⟨_, rfl, p, CL, dx, _, rfl, upd_same, T.cL, T.nu, (by show 3 < 1000; decide), ?_⟩
    refine ⟨(by show 2 ≤ sizeLine; decide), fun g hg => ?_⟩
    have gp : g ≠ p := fun e => by
      rw [e, upd_same] at hg
      cases hg
    refine ⟨_, rfl, p, CL, dx, _, rfl, (by rw [upd_ne (Ne.symm gp)]; exact upd_same), T.cL, T.ng, (by show 4 < 1000; decide), ?_⟩
    rw [upd_upd, upd_upd, upd_upd] at hg ⊢
    rw [upd_ne gp] at hg
    refine k _ ⟨g, dx, upd_same, ?_⟩ fun b o e hb => ?_
    · rw [upd_ne gp, upd_same]
      rfl
    · rw [upd_ne hb, upd_ne (ne_of_none e hg), upd_ne hb]
      exact e

theorem But.seq {H H' : Hp} {r a C dx : Addr} {fs : List (Str × V)} {xs : List V} (k : But H H' r) (hr : H r = some (.ins C dx fs)) (h : SqL K H a xs) : SqL K H' a xs := by
  rcases h with (h1 | ⟨o, h1⟩) | h1
  · exact .inl (.inl (k _ _ h1 (ne_of h1 hr (by intro q; cases q))))
  · exact .inl (.inr ⟨o, k _ _ h1 (ne_of h1 hr (by intro q; cases q))⟩)
  · exact .inr h1
theorem scRI : FnScope ["self", "numbers"] ["self", "numbers"] (defScope sRInit) := ⟨rfl, rfl, rfl, by decide +kernel, rfl, by decide +kernel, by decide +kernel⟩
theorem ok_rinit {f : Addr} {fd : FuncData} (F : Fun K "__init__" "Reader.__init__" sRInit f fd) (T : Txt K mg CL CR) : FnOk P w K mg base CX0 1 f fd ["self", "numbers"] (spRInit CR) := by
  refine F.ok scRI (fun vs H Q E h => ?_) (fun cdv A outer s H vs Q E hr h => ?_)
  · obtain ⟨p, dx, a, rfl, _⟩ := h
    rfl
  · obtain ⟨p, dx, a, rfl, hp, k⟩ := h
    refine ⟨_, pss_cons (ps_fld (pv 0) (pv 1) rfl) (pss_one (ps_fld (pv 0) pe_int rfl)), ?_⟩
    refine ⟨_, rfl, _, rfl, p, CR, dx, _, rfl, hp, T.cR, T.nn, (by show 0 < 1000; decide), ?_⟩
    refine ⟨_, rfl, p, CR, dx, _, rfl, upd_same, T.cR, T.na, (by show 1 < 1000; decide), ?_⟩
    rw [upd_upd]
    refine k _ ⟨dx, upd_same⟩ fun b o e hb => ?_
    rw [upd_ne hb]
    exact e
theorem scMo : FnScope ["self"] ["self"] (defScope sMore) := ⟨rfl, rfl, rfl, by decide +kernel, rfl, by decide +kernel, by decide +kernel⟩
theorem ok_more {f : Addr} {fd : FuncData} (F : Fun K "more" "Reader.more" sMore f fd) (T : Txt K mg CL CR) : FnOk P w K mg base CX0 1 f fd ["self"] (spMore K CR) := by
  refine F.ok scMo (fun vs H Q E h => ?_) (fun cdv A outer s H vs Q E hr h => ?_)
  · obtain ⟨r, a, n, ns, rfl, _⟩ := h
    rfl
  · obtain ⟨r, a, n, ns, rfl, ⟨dx, hR⟩, hS, k⟩ := h
    refine ⟨_, pss_one (ps_ret (pe_cmpR op_lt (pe_fld (pv 0) rfl) (pe_callB call_len_seq (by rfl) T.len PySem.boot_len (pa_cons (pe_fld (pv 0) rfl) pa_nil)) (nomark _))), ?_⟩
    refine ⟨_, rfl, r, CR, dx, _, _, rfl, hR, T.cR, T.na, rf_at _ _, _, rfl, r, CR, dx, _, _, rfl, hR, T.cR, T.nn, rf_numbers _ _, a, _, rfl, .inl hS, _, _, rfl, rfl, ?_⟩
    have e : decide ((n : Int) < (((ns.map V.int).length : Nat) : Int)) = decide (n < ns.length) := by
      rw [List.length_map]
      exact decide_eq_decide.mpr Int.ofNat_lt
    dsimp only
    rw [e]
    exact k
theorem scNu : FnScope ["self", "value"] ["self"] (defScope sNum) := ⟨rfl, rfl, rfl, by decide +kernel, rfl, by decide +kernel, by decide +kernel⟩
theorem ok_num {f : Addr} {fd : FuncData} (F : Fun K "number" "Reader.number" sNum f fd) (T : Txt K mg CL CR) : FnOk P w K mg base CX0 1 f fd ["self"] (spNum K CR) := by
  refine F.ok scNu (fun vs H Q E h => ?_) (fun cdv A outer s H vs Q E hr h => ?_)
  · obtain ⟨r, a, n, ns, z, rfl, _⟩ := h
    rfl
  · obtain ⟨r, a, n, ns, z, rfl, ⟨dx, hR⟩, hS, hz, k⟩ := h
    refine ⟨_, pss_cons (ps_set (i := 1) scNu.nd rfl (Or.inl rfl) (pe_ix ix_list (pe_fld (pv 0) rfl) (pe_fld (pv 0) rfl) (fun _ _ => rfl)))
      (pss_cons (ps_fld (pv 0) (pe_op op_add (pe_fld (pv 0) rfl) pe_int) rfl) (pss_one (ps_ret (pv 1)))), ?_⟩
    refine ⟨_, rfl, r, CR, dx, _, _, rfl, hR, T.cR, T.nn, rf_numbers _ _, _, rfl, r, CR, dx, _, _, rfl, hR, T.cR, T.na, rf_at _ _, a, _, _, .int z, rfl, rfl, hS, at_of rfl (by rw [List.getElem?_map, hz]; rfl), ?_⟩
    refine ⟨_, rfl, r, CR, dx, _, _, rfl, hR, T.cR, T.na, rf_at _ _, _, _, rfl, rfl, _, rfl, r, CR, dx, _, rfl, hR, T.cR, T.na, (by show 2 < 1000; decide), ?_⟩
    refine ⟨_, rfl, ?_⟩
    refine k _ ⟨dx, upd_same⟩ fun b o e hb => ?_
    rw [upd_ne hb]
    exact e
theorem cut_nat (xs : List V) {i j : Nat} (hi : i ≤ xs.length) (hj : j ≤ xs.length) : cutV xs (some (i : Int)) (some (j : Int)) = (xs.drop i).take (j - i) := by
  unfold cutV
  rw [HT.sIx_nat, HT.sIx_nat, Nat.min_eq_left hi, Nat.min_eq_left hj]
theorem scRo : FnScope ["self", "size", "taken"] ["self"] (defScope sRow) := ⟨rfl, rfl, rfl, by decide +kernel, rfl, by decide +kernel, by decide +kernel⟩
theorem ok_row {f : Addr} {fd : FuncData} (F : Fun K "row" "Reader.row" sRow f fd) (T : Txt K mg CL CR) (DN : Mtd P w K mg base CR "number" 1 ["self"] (spNum K CR)) : FnOk P w K mg base CX0 2 f fd ["self"] (spRow K CR) := by
  obtain ⟨fN, fdN, GN, mN, bN⟩ := DN
  refine F.ok scRo (fun vs H Q E h => ?_) (fun cdv A outer s H vs Q E hr h => ?_)
  · obtain ⟨r, a, n, m, ns, rfl, _⟩ := h
    rfl
  · obtain ⟨r, a, n, m, ns, rfl, ⟨dx, hR⟩, hS, hz, hle, k⟩ := h
    refine ⟨_, pss_cons (ps_set (i := 1) scRo.nd rfl (Or.inl rfl) (pe_meth0 (pv 0) T.cR mN GN hr bN .nil pass0))
      (pss_cons (ps_set (i := 2) scRo.nd rfl (Or.inl rfl) (pe_slice sl_list (pe_fld (pv 0) rfl) (po_some (pe_fld (pv 0) rfl)) (po_some (pe_op op_add (pe_fld (pv 0) rfl) (pv 1)))))
      (pss_cons (ps_fld (pv 0) (pe_op op_add (pe_fld (pv 0) rfl) (pv 1)) rfl) (pss_one (ps_ret (pv 2))))), ?_⟩
    refine ⟨_, rfl, r, dx, _, rfl, hR, rf_number _ _, r, a, n, ns, (m : Int), rfl, ⟨dx, hR⟩, hS, hz, fun H1 ⟨d1, hR1⟩ k1 => ?_⟩
    have hS1 : SqL K H1 a (ns.map V.int) := k1.seq hR hS
    refine ⟨_, rfl, r, CR, d1, _, _, rfl, hR1, T.cR, T.nn, rf_numbers _ _, _, rfl, r, CR, d1, _, _, rfl, hR1, T.cR, T.na, rf_at _ _, _, rfl, _, rfl, r, CR, d1, _, _, rfl, hR1, T.cR, T.na, rf_at _ _, _, rfl, _, _, rfl, rfl, _, rfl, a, _, rfl, hS1, fun q hq => ?_⟩
    have nrq : r ≠ q := ne_of_none hR1 hq
    have hR2 : ∀ o, upd H1 q o r = some (.ins CR d1 (rfs a (n + 1))) := fun o => by
      rw [upd_ne nrq]
      exact hR1
    refine ⟨_, rfl, r, CR, d1, _, _, rfl, hR2 _, T.cR, T.na, rf_at _ _, _, rfl, _, _, rfl, rfl, _, rfl, r, CR, d1, _, rfl, hR2 _, T.cR, T.na, (by show 2 < 1000; decide), ?_⟩
    refine ⟨_, rfl, ?_⟩
    have hq0 : H q = none := by
      cases e : H q with
      | none => rfl
      | some o =>
        have := k1 q o e (Ne.symm nrq)
        rw [this] at hq
        cases hq
    refine k _ q ⟨d1, ?_⟩ (fun b o e hb => ?_) hq0 ?_
    · rw [upd_same]
      rfl
    · rw [upd_ne hb, upd_ne (ne_of_none e hq0)]
      exact k1 b o e hb
    · rw [upd_ne (Ne.symm nrq), upd_same]
      have e2 : cutV (ns.map V.int) (some ((n + 1 : Nat) : Int)) (some (((n + 1 : Nat) : Int) + (m : Int))) = (((ns.drop (n + 1)).take m).map V.int) := by
        have e3 : (((n + 1 : Nat) : Int) + (m : Int)) = ((n + 1 + m : Nat) : Int) := by omega
        rw [e3, cut_nat _ (by rw [List.length_map]; omega) (by rw [List.length_map]; omega), ← List.map_drop, ← List.map_take]
        congr 2
        omega
      rw [e2]
/-! ### points and heights -/
theorem scLP : FnScope ["line"] ["line"] (defScope sLast) := ⟨rfl, rfl, rfl, by decide +kernel, rfl, by decide +kernel, by decide +kernel⟩
theorem ok_last {f : Addr} {fd : FuncData} (F : Fun K "last_point" "last_point" sLast f fd) (T : Txt K mg CL CR) : FnOk P w K mg base CX0 1 f fd ["line"] (spLast CL) := by
  refine F.ok scLP (fun vs H Q E h => ?_) (fun cdv A outer s H vs Q E hr h => ?_)
  · obtain ⟨a, L, rfl, _⟩ := h
    rfl
  · obtain ⟨a, L, rfl, ⟨g, dx, ha, hg⟩, h2, k⟩ := h
    refine ⟨_, pss_one (ps_ret (pe_op op_sub (pe_callB call_len_seq (by rfl) T.len PySem.boot_len (pa_cons (pe_fld (pv 0) rfl) pa_nil)) pe_int)), ?_⟩
    refine ⟨_, rfl, a, CL, dx, _, _, rfl, ha, T.cL, T.ng, lf_ground _ _, g, _, rfl, .inl (SqL.of hg), _, _, rfl, rfl, ?_⟩
    have e : (((L.ground.map nv).length : Nat) : Int) - 1 = ((L.points - 1 : Nat) : Int) := by
      rw [List.length_map]
      show (L.points : Int) - 1 = _
      omega
    dsimp only
    rw [e]
    exact k
theorem scSt : FnScope ["line", "point"] ["line", "point"] (defScope sSta) := ⟨rfl, rfl, rfl, by decide +kernel, rfl, by decide +kernel, by decide +kernel⟩
theorem ok_sta {f : Addr} {fd : FuncData} (F : Fun K "station" "station" sSta f fd) (T : Txt K mg CL CR) : FnOk P w K mg base CX0 1 f fd ["line", "point"] (spSta CL) := by
  refine F.ok scSt (fun vs H Q E h => ?_) (fun cdv A outer s H vs Q E hr h => ?_)
  · obtain ⟨a, L, x, rfl, _⟩ := h
    rfl
  · obtain ⟨a, L, x, rfl, ⟨g, dx, ha, hg⟩, hx, k⟩ := h
    refine ⟨_, pss_one (ps_ret (pe_tup (pa_cons (pv 1) (pa_cons (pe_op op_add (pe_ix ix_list (pe_fld (pv 0) rfl) (pv 1) (fun _ _ => rfl)) (pe_fld (pv 0) rfl)) pa_nil)))), ?_⟩
    refine ⟨_, rfl, _, rfl, a, CL, dx, _, _, rfl, ha, T.cL, T.ng, lf_ground _ _, _, rfl, g, _, _, _, rfl, rfl, SqL.of hg, atI_nat (ground_at hx), _, rfl, a, CL, dx, _, _, rfl, ha, T.cL, T.nc, lf_clear _ _, _, _, rfl, rfl, (by show 2 ≤ sizeLine; decide), fun p hp => ?_⟩
    exact k p hp
theorem height_cast (p q : Nat × Nat) (x : Nat) (h1 : p.1 ≤ x) (h2 : x ≤ q.1) : (p.2 : Int) * ((q.1 : Int) - (x : Int)) + (q.2 : Int) * ((x : Int) - (p.1 : Int)) = ((Uw38.height p q x : Nat) : Int) := by
  unfold Uw38.height
  rw [← Int.ofNat_sub h1, ← Int.ofNat_sub h2]
  simp
theorem scHe : FnScope ["before", "behind", "point", "below", "above"] ["before", "behind", "point"] (defScope sHei) := ⟨rfl, rfl, rfl, by decide +kernel, rfl, by decide +kernel, by decide +kernel⟩
theorem ok_hei {f : Addr} {fd : FuncData} (F : Fun K "height_between" "height_between" sHei f fd) (T : Txt K mg CL CR) : FnOk P w K mg base CX0 1 f fd ["before", "behind", "point"] spHei := by
  refine F.ok scHe (fun vs H Q E h => ?_) (fun cdv A outer s H vs Q E hr h => ?_)
  · obtain ⟨b, c, p, q, x, rfl, _⟩ := h
    rfl
  · obtain ⟨b, c, p, q, x, rfl, hb, hc, h1, h2, z1, z2, k⟩ := h
    refine ⟨_, pss_cons (ps_set (i := 3) scHe.nd rfl (Or.inl rfl) (pe_op op_sub (pe_ix ix_tup (pv 1) pe_int (fun _ _ => rfl)) (pe_ix ix_tup (pv 0) pe_int (fun _ _ => rfl))))
      (pss_cons (ps_set (i := 4) scHe.nd rfl (Or.inl rfl) (pe_op op_add (pe_op op_mul (pe_ix ix_tup (pv 0) pe_int (fun _ _ => rfl)) (pe_op op_sub (pe_ix ix_tup (pv 1) pe_int (fun _ _ => rfl)) (pv 2)))
        (pe_op op_mul (pe_ix ix_tup (pv 1) pe_int (fun _ _ => rfl)) (pe_op op_sub (pv 2) (pe_ix ix_tup (pv 0) pe_int (fun _ _ => rfl))))))
      (pss_one (ps_ret (pe_tup (pa_cons (pv 4) (pa_cons (pv 3) pa_nil)))))), ?_⟩
    refine ⟨_, rfl, c, _, _, _, rfl, rfl, sqt hc, at_of (j := 0) rfl rfl, _, rfl, b, _, _, _, rfl, rfl, sqt hb, at_of (j := 0) rfl rfl, _, _, rfl, rfl, ?_⟩
    refine ⟨_, rfl, b, _, _, _, rfl, rfl, sqt hb, at_of (j := 1) rfl rfl, _, rfl, c, _, _, _, rfl, rfl, sqt hc, at_of (j := 0) rfl rfl, _, rfl, _, _, rfl, rfl, _, _, rfl, rfl, .inl ⟨by omega, by omega⟩, ?_⟩
    refine ⟨_, rfl, c, _, _, _, rfl, rfl, sqt hc, at_of (j := 1) rfl rfl, _, rfl, _, rfl, b, _, _, _, rfl, rfl, sqt hb, at_of (j := 0) rfl rfl, _, _, rfl, rfl, _, _, rfl, rfl, .inl ⟨by omega, by omega⟩, _, _, rfl, rfl, ?_⟩
    refine ⟨_, rfl, _, rfl, (by show 2 ≤ sizeLine; decide), fun t ht => ?_⟩
    have e2 : (q.1 : Int) - (p.1 : Int) = ((q.1 - p.1 : Nat) : Int) := by omega
    dsimp only
    rw [height_cast p q x h1 h2, e2]
    exact k t ht
theorem scIL : FnScope ["line", "before", "behind", "point", "height"] ["line", "before", "behind", "point"] (defScope sIsLow) := ⟨rfl, rfl, rfl, by decide +kernel, rfl, by decide +kernel, by decide +kernel⟩
theorem ok_islow {f : Addr} {fd : FuncData} (F : Fun K "is_too_low" "is_too_low" sIsLow f fd) (T : Txt K mg CL CR) (DH : Dk P w K mg base "height_between" 1 ["before", "behind", "point"] spHei) : FnOk P w K mg base CX0 2 f fd ["line", "before", "behind", "point"] (spIsLow CL) := by
  obtain ⟨fH, fdH, GH, mH, kH, bH⟩ := DH
  refine F.ok scIL (fun vs H Q E h => ?_) (fun cdv A outer s H vs Q E hr h => ?_)
  · obtain ⟨a, b, c, L, p, q, x, rfl, _⟩ := h
    rfl
  · obtain ⟨a, b, c, L, p, q, x, rfl, hL, G, hb, hc, h1, h2, z1, z2, hx, k⟩ := h
    refine ⟨_, pss_cons (ps_set (i := 4) scIL.nd rfl (Or.inl rfl) (pe_call GH hr rfl mH kH bH .nil pass0 (pa_cons (pv 1) (pa_cons (pv 2) (pa_cons (pv 3) pa_nil)))))
      (pss_one (ps_ret (pe_cmpR op_lt (pe_ix ix_tup (pv 4) pe_int (fun _ _ => rfl)) (pe_op op_mul (pe_op op_add (pe_ix ix_list (pe_fld (pv 0) rfl) (pv 3) (fun _ _ => rfl)) (pe_fld (pv 0) rfl)) (pe_ix ix_tup (pv 4) pe_int (fun _ _ => rfl))) (nomark _)))), ?_⟩
    refine ⟨_, rfl, _, rfl, _, rfl, b, c, p, q, x, rfl, hb, hc, h1, h2, z1, z2, fun t ht => ?_⟩
    have sm : Same H (upd H t (.tup [nv (Uw38.height p q x), nv (q.1 - p.1)])) := same_new ht
    have hT : PtAt (upd H t (.tup [nv (Uw38.height p q x), nv (q.1 - p.1)])) t (Uw38.height p q x, q.1 - p.1) := upd_same
    obtain ⟨g, dx, ha, hg⟩ := hL.same sm
    have l9 := G.least_le x
    refine ⟨_, rfl, t, _, _, _, rfl, rfl, sqt hT, at_of (j := 0) rfl rfl, _, rfl, a, CL, dx, _, _, rfl, ha, T.cL, T.ng, lf_ground _ _, _, rfl, g, _, _, _, rfl, rfl, SqL.of hg, atI_nat (ground_at hx), _, rfl, a, CL, dx, _, _, rfl, ha, T.cL, T.nc, lf_clear _ _, _, _, rfl, rfl, ?_⟩
    have a9 := G.at_le x
    have c4 := G.c4
    refine ⟨_, rfl, t, _, _, _, rfl, rfl, sqt hT, at_of (j := 1) rfl rfl, _, _, rfl, rfl, .inl ⟨by omega, by omega⟩, _, _, rfl, rfl, ?_⟩
    have e : decide (((Uw38.height p q x : Nat) : Int) < ((L.at_ x : Int) + (L.clear : Int)) * ((q.1 - p.1 : Nat) : Int)) = Hm.tooLow L p q x := by
      unfold Hm.tooLow Uw38.Line.least
      refine decide_eq_decide.mpr ?_
      have e3 : ((L.at_ x : Int) + (L.clear : Int)) * ((q.1 - p.1 : Nat) : Int) = (((L.at_ x + L.clear) * (q.1 - p.1) : Nat) : Int) := by simp
      rw [e3]
      exact Int.ofNat_lt
    dsimp only
    rw [e]
    exact k _ sm
end
end Hd

end
section
set_option maxRecDepth 100000
set_option maxHeartbeats 2000000
/-! The defs of the program: places, too low, lifting, right. -/
namespace Hd
open PySem PySem.Spec PyProof.Rows L2 Hr
open Uw38 (Line)
/-! ### heaps -/
theorem paired_map {α β : Type} {F G : α → β → Prop} (h : ∀ a b, F a b → G a b) : ∀ {as : List α} {bs : List β}, Paired F as bs → Paired G as bs
  | _, _, .nil => .nil
  | _, _, .cons r t => .cons (h _ _ r) (paired_map h t)
theorem paired_snoc {α β : Type} {F : α → β → Prop} {a : α} {b : β} (r : F a b) : ∀ {as : List α} {bs : List β}, Paired F as bs → Paired F (as ++ [a]) (bs ++ [b])
  | _, _, .nil => .cons r .nil
  | _, _, .cons q t => .cons q (paired_snoc r t)
def PsAt (H : Hp) (l : Addr) (ps : List (Nat × Nat)) : Prop := ∃ as : List Addr, H l = some (.lst (as.map V.ref)) ∧ Paired (PtAt H) as ps
theorem PsAt.same {H H' : Hp} {l : Addr} {ps : List (Nat × Nat)} (h : PsAt H l ps) (s : Same H H') : PsAt H' l ps := by
  obtain ⟨as, h1, h2⟩ := h
  exact ⟨as, s _ _ h1, paired_map (fun _ _ q => q.same s) h2⟩
theorem same_at {H0 H : Hp} {l : Addr} {o : HO} (s : Same H0 H) (n : H0 l = none) : Same H0 (upd H l o) := fun b u e => by
  rw [upd_ne (ne_of_none e n)]
  exact s b u e
theorem PsAt.push {H : Hp} {l t : Addr} {as : List Addr} {ps : List (Nat × Nat)} {pt : Nat × Nat} (h1 : H l = some (.lst (as.map V.ref))) (h2 : Paired (PtAt H) as ps) (ht : PtAt H t pt) : PsAt (upd H l (.lst (as.map V.ref ++ [.ref t]))) l (ps ++ [pt]) := by
  have k : ∀ c p, PtAt H c p → PtAt (upd H l (.lst (as.map V.ref ++ [.ref t]))) c p := fun c p q => by
    unfold PtAt at q ⊢
    rw [upd_ne (ne_of q h1 (by intro z; cases z))]
    exact q
  refine ⟨as ++ [t], ?_, paired_snoc (k t pt ht) (paired_map k h2)⟩
  rw [upd_same, List.map_append]
  rfl
theorem PsAt.get {K : PySem.W.Frag} {H : Hp} {l : Addr} {ps : List (Nat × Nat)} (h : PsAt H l ps) {i : Nat} {p : Nat × Nat} (hi : ps[i]? = some p) : ∃ (as : List Addr) (c : Addr), SqL K H l (as.map V.ref) ∧ (as.map V.ref)[i]? = some (.ref c) ∧ PtAt H c p := by
  obtain ⟨as, h1, h2⟩ := h
  obtain ⟨c, hc, q⟩ := paired_get2 h2 hi
  exact ⟨as, c, SqL.of h1, by rw [List.getElem?_map, hc]; rfl, q⟩
theorem PsAt.len {K : PySem.W.Frag} {H : Hp} {l : Addr} {ps : List (Nat × Nat)} (h : PsAt H l ps) : ∃ as : List Addr, SqL K H l (as.map V.ref) ∧ (as.map V.ref).length = ps.length := by
  obtain ⟨as, h1, h2⟩ := h
  exact ⟨as, SqL.of h1, by rw [List.length_map]; exact Paired.length h2⟩
/-! ### a loop over enumerate with a start -/
theorem for_start {K : PySem.W.Frag} {a : Addr} {c : Int} {xs : List V} {g : TG} {tb : TS} {D : Ends} {σ : L2.St} {H : Hp} (Pv : Nat → L2.St → Hp → Prop) (h0 : Pv 0 σ H) (hl : ∀ i σ H, i ≤ xs.length → Pv i σ H → SqL K H a xs)
    (hs : ∀ (i : Nat) (x : V) (T : Addr) (σ : L2.St) (H : Hp), xs[i]? = some x → Pv i σ H → H T = none → g (.ref T) σ (upd H T (.tup [.int (c + (i : Nat)), x])) fun σ2 H2 => tb { D with nx := Pv (i + 1), ct := Pv (i + 1), bk := D.nx } σ2 H2)
    (hd : ∀ σ H, Pv xs.length σ H → D.nx σ H) : ∃ W : Nat → Nat → L2.St → Hp → Prop, (∃ m, W 0 m σ H) ∧ ∀ i m σ H, W i m σ H → ((ItS K a c).stop i H ∧ D.nx σ H) ∨ ((ItS K a c).go i H ∧ ∃ N : L2.St → Hp → Prop,
      (∀ σ' H', N σ' H' → ∃ m', m' < m ∧ W (i + 1) m' σ' H') ∧ ∀ x H', (ItS K a c).yld i H x H' → g x σ H' fun σ2 H2 => tb { D with nx := N, bk := D.nx, ct := N } σ2 H2) := by
  refine ⟨fun i m σ' H' => m = xs.length - i ∧ i ≤ xs.length ∧ Pv i σ' H', ⟨xs.length, (Nat.sub_zero _).symm, Nat.zero_le _, h0⟩, ?_⟩
  rintro i m σ H ⟨rfl, hi, p⟩
  have q := hl i σ H hi p
  by_cases hlt : i < xs.length
  · refine .inr ⟨⟨xs, xs[i], q, List.getElem?_eq_getElem hlt⟩, Pv (i + 1), fun σ' H' p' => ⟨xs.length - (i + 1), by omega, rfl, hlt, p'⟩, fun x H' y => ?_⟩
    obtain ⟨T, z, rfl, hT, rfl, y⟩ := y
    exact hs i z T σ H (y xs q) p hT
  · have e : xs.length = i := by omega
    refine .inl ⟨⟨xs, q, e⟩, hd σ H ?_⟩
    rw [e]
    exact p
theorem take_snoc {α : Type} : ∀ {l : List α} {i : Nat} {x : α}, l[i]? = some x → l.take (i + 1) = l.take i ++ [x]
  | [], i, x, h => by simp at h
  | a :: l, 0, x, h => by
    have e : a = x := Option.some.inj h
    subst e
    rfl
  | a :: l, i + 1, x, h => by
    have ih := take_snoc (l := l) (i := i) (x := x) h
    show a :: l.take (i + 1) = a :: l.take i ++ [x]
    rw [ih]
    rfl
theorem map_get {α : Type} {f : α → V} {l : List α} {i : Nat} {y : V} (h : (l.map f)[i]? = some y) : ∃ z, l[i]? = some z ∧ y = f z := by
  rw [List.getElem?_map] at h
  cases e : l[i]? with
  | none =>
    rw [e] at h
    cases h
  | some z =>
    rw [e] at h
    exact ⟨z, rfl, (Option.some.inj h).symm⟩
theorem sup_len (L : Line) : ∀ (x : Nat) (p : List Nat), (Hm.sup L x p).length ≤ p.length
  | _, [] => Nat.le_refl _
  | x, h :: r => by
    have := sup_len L (x + 1) r
    show (if h = 0 then Hm.sup L (x + 1) r else (x, L.at_ x + h) :: Hm.sup L (x + 1) r).length ≤ r.length + 1
    split
    · omega
    · rw [List.length_cons]
      omega
theorem places_small {L : Line} (G : Good L) {p : List Nat} (hp : ∀ h ∈ p, h ≤ 4) : ∀ z ∈ Hm.places L p, z.2 < 1000 := by
  have gen : ∀ (q : List Nat) (x : Nat), (∀ h ∈ q, h ≤ 4) → ∀ z ∈ Hm.sup L x q, z.2 < 1000 := by
    intro q
    induction q with
    | nil =>
      intro x _ z hz
      cases hz
    | cons h r ih =>
      intro x hq z hz
      have hz2 : z ∈ (if h = 0 then Hm.sup L (x + 1) r else (x, L.at_ x + h) :: Hm.sup L (x + 1) r) := hz
      have hr := fun y hy => hq y (List.mem_cons_of_mem _ hy)
      split at hz2
      · exact ih (x + 1) hr z hz2
      · rcases List.mem_cons.mp hz2 with e | e
        · subst e
          have h1 := G.at_le x
          have h2 := hq h List.mem_cons_self
          show L.at_ x + h < 1000
          omega
        · exact ih (x + 1) hr z e
  intro z hz
  unfold Hm.places at hz
  rcases List.mem_cons.mp hz with e | e
  · subst e
    have := G.least_le 0
    show L.least 0 < 1000
    omega
  · rcases List.mem_append.mp e with e | e
    · exact gen p 1 hp z e
    · unfold Hm.endP at e
      split at e
      · have e2 := List.mem_singleton.mp e
        subst e2
        have := G.least_le (L.points - 1)
        show L.least (L.points - 1) < 1000
        omega
      · cases e
/-! ### promises -/
def spPla (C : Addr) : Sp := fun vs H Q _ => ∃ (a b : Addr) (L : Line) (p : List Nat), vs = [.ref a, .ref b] ∧ LineAt C H a L ∧ Good L ∧ H b = some (.lst (p.map nv)) ∧ p.length + 2 ≤ L.points ∧
  ∀ (H' : Hp) (q : Addr), Same H H' → PsAt H' q (Hm.places L p) → Q (.ref q) H'
section
variable {P : Program} {w : World} {K : PySem.W.Frag} {mg : Str → Option Value} {base : Heap} {CL CR : Addr}
theorem scPl : FnScope ["line", "plan", "places", "point", "height"] ["line", "plan"] (defScope sPla) := ⟨rfl, rfl, rfl, by decide +kernel, rfl, by decide +kernel, by decide +kernel⟩
theorem ok_pla {f : Addr} {fd : FuncData} (F : Fun K "places_of" "places_of" sPla f fd) (T : Txt K mg CL CR) (DL : Dk P w K mg base "last_point" 1 ["line"] (spLast CL)) (DS : Dk P w K mg base "station" 1 ["line", "point"] (spSta CL)) : FnOk P w K mg base CX0 2 f fd ["line", "plan"] (spPla CL) := by
  obtain ⟨fL, fdL, GL, mL, kL, bL⟩ := DL
  obtain ⟨fS, fdS, GS, mS, kS, bS⟩ := DS
  refine F.ok scPl (fun vs H Q E h => ?_) (fun cdv A outer s H vs Q E hr h => ?_)
  · obtain ⟨a, b, L, p, rfl, _⟩ := h
    rfl
  · obtain ⟨a, b, L, p, rfl, hL, G, hb, hp, k⟩ := h
    refine ⟨_, pss_cons (ps_set (i := 2) scPl.nd rfl (Or.inl rfl) (pe_lst (pa_cons (pe_call GS hr rfl mS kS bS .nil pass0 (pa_cons (pv 0) (pa_cons pe_int pa_nil))) pa_nil)))
      (pss_cons (ps_for PassesOwn.never rfl (pi_start rfl T.enumerate (pa_cons (pv 1) pa_nil) (pk_cons pe_int pk_nil)) (pg_tup rfl (pgs_cons (pg_name (i := 3) scPl.nd rfl (Or.inl rfl)) (pgs_cons (pg_name (i := 4) scPl.nd rfl (Or.inl rfl)) pgs_nil)))
        (pss_one (ps_if (pt_cmpR op_gt (pv 4) pe_int (nomark _))
          (pss_one (ps_expr (pe_bm PySem.F.plainAttrs_list PySem.F.slot_list_append PySem.F.type_list_append mt_append (pv 2) (pa_cons (pe_tup (pa_cons (pv 3) (pa_cons (pe_op op_add (pe_ix ix_list (pe_fld (pv 0) rfl) (pv 3) (fun _ _ => rfl)) (pv 4)) pa_nil))) pa_nil)))) pss_nil)))
      (pss_cons (ps_if (pt_cmpR op_eq (pe_op op_add (pe_callB call_len_seq (by rfl) T.len PySem.boot_len (pa_cons (pv 1) pa_nil)) pe_int) (pe_call GL hr rfl mL kL bL .nil pass0 (pa_cons (pv 0) pa_nil)) (nomark _))
        (pss_one (ps_expr (pe_bm PySem.F.plainAttrs_list PySem.F.slot_list_append PySem.F.type_list_append mt_append (pv 2) (pa_cons (pe_call GS hr rfl mS kS bS .nil pass0 (pa_cons (pv 0) (pa_cons (pe_call GL hr rfl mL kL bL .nil pass0 (pa_cons (pv 0) pa_nil)) pa_nil))) pa_nil)))) pss_nil)
      (pss_one (ps_ret (pv 2))))), ?_⟩
    have hp2 := G.p2
    have hp8 := G.p8
    refine ⟨_, rfl, a, L, 0, rfl, hL, by omega, fun t0 ht0 => ⟨(by show 1 ≤ sizeLine; decide), fun q hq => ?_⟩⟩
    have s1 : Same H (upd H t0 (.tup [nv 0, nv (L.least 0)])) := same_new ht0
    have s2 : Same (upd H t0 (.tup [nv 0, nv (L.least 0)])) (upd (upd H t0 (.tup [nv 0, nv (L.least 0)])) q (.lst [.ref t0])) := same_new hq
    have hq0 : H q = none := s1.free hq
    have P0 : PsAt (upd (upd H t0 (.tup [nv 0, nv (L.least 0)])) q (.lst [.ref t0])) q ((0, L.least 0) :: Hm.sup L 1 (p.take 0)) := ⟨[t0], upd_same, .cons (s2 _ _ upd_same) .nil⟩
    refine ⟨_, rfl, b, p.map nv, 1, rfl, rfl, SqL.of (s2 _ _ (s1 _ _ hb)), by decide, by decide, for_start (K := K) (a := b) (c := 1) (xs := p.map nv)
      (fun i σ H' => ∃ v3 v4 : Option V, σ = [some (.ref a), some (.ref b), some (.ref q), v3, v4] ∧ Same H H' ∧ PsAt H' q ((0, L.least 0) :: Hm.sup L 1 (p.take i))) ⟨none, none, rfl, s1.trans s2, P0⟩ (fun i σ H' _ ⟨_, _, _, s3, _⟩ => SqL.of (s3 _ _ hb)) ?_ ?_⟩
    · rintro i y T' σ H' hi ⟨v3, v4, rfl, s3, as, hq1, pr⟩ hT'
      obtain ⟨z, hz, rfl⟩ := map_get hi
      have hiz : i < p.length := (List.getElem?_eq_some_iff.mp hz).1
      have s4 : Same H' (upd H' T' (.tup [.int (1 + ((i : Nat) : Int)), nv z])) := same_new hT'
      have pr4 := paired_map (fun _ _ (h : PtAt H' _ _) => h.same s4) pr
      have hq4 := s4 _ _ hq1
      refine ⟨T', _, rfl, SqT.of upd_same, rfl, ?_⟩
      refine ⟨_, _, rfl, _, _, rfl, rfl, ?_⟩
      refine ⟨_, rfl, _, _, rfl, rfl, _, rfl, ite2 (fun hc => ?_) (fun hc => ?_)⟩
      · obtain ⟨g, dx, ha, hg⟩ := (hL.same s3).same s4
        refine ⟨_, rfl, .inl ⟨rfl, _, SqL.of hq4⟩, _, rfl, _, rfl, a, CL, dx, _, _, rfl, ha, T.cL, T.ng, lf_ground _ _, _, rfl, g, _, _, _, rfl, rfl, SqL.of hg, at_of (j := 1 + i) (by omega) (ground_at (by omega)), _, rfl, _, _, rfl, rfl, (by show 2 ≤ sizeLine; decide), fun t ht => ?_⟩
        have s5 := same_new (o := .tup [.int (1 + ((i : Nat) : Int)), .int (((L.at_ (1 + i) : Nat) : Int) + ((z : Nat) : Int))]) ht
        have hlen : as.length < sizeLine := by
          have e1 := Paired.length pr
          have e2 := sup_len L 1 (p.take i)
          rw [List.length_cons] at e1
          rw [List.length_take] at e2
          have e3 : 16 < sizeLine := by decide
          omega
        refine ⟨q, _, _, rfl, rfl, s5 _ _ hq4, by rw [List.length_map]; exact hlen, ?_⟩
        refine ⟨_, _, rfl, same_at ((s3.trans s4).trans s5) hq0, ?_⟩
        have hz0 : ¬ z = 0 := by
          have := of_decide_eq_true hc
          omega
        have e5 : Hm.sup L 1 (p.take (i + 1)) = Hm.sup L 1 (p.take i) ++ [(1 + i, L.at_ (1 + i) + z)] := by
          rw [take_snoc hz, Hm.sup_snoc, if_neg hz0, List.length_take, Nat.min_eq_left (Nat.le_of_lt hiz)]
        rw [e5]
        exact PsAt.push (ps := (0, L.least 0) :: Hm.sup L 1 (p.take i)) (pt := (1 + i, L.at_ (1 + i) + z)) (s5 _ _ hq4) (paired_map (fun _ _ (h : PtAt _ _ _) => h.same s5) pr4) (by
          unfold PtAt
          rw [upd_same]
          simp)
      · have hz0 : z = 0 := by
          have : ¬ (0 : Int) < (z : Int) := fun h => hc (decide_eq_true h)
          omega
        have e5 : Hm.sup L 1 (p.take (i + 1)) = Hm.sup L 1 (p.take i) := by
          rw [take_snoc hz, Hm.sup_snoc, if_pos hz0, List.append_nil]
        refine ⟨_, _, rfl, s3.trans s4, ?_⟩
        rw [e5]
        exact ⟨as, hq4, pr4⟩
    · rintro σ H' ⟨v3, v4, rfl, s3, as, hq1, pr⟩
      rw [List.length_map, List.take_length] at pr
      have hL3 := hL.same s3
      refine ⟨_, rfl, b, _, rfl, .inl (SqL.of (s3 _ _ hb)), _, _, rfl, rfl, _, rfl, a, L, rfl, hL3, hp2, rfl, _, rfl, ite2 (fun hc => ?_) (fun hc => ?_)⟩
      · refine ⟨_, rfl, .inl ⟨rfl, _, SqL.of hq1⟩, _, rfl, _, rfl, a, L, rfl, hL3, hp2, a, L, _, rfl, hL3, by omega, fun t ht => ?_⟩
        have s5 := same_new (o := .tup [nv (L.points - 1), nv (L.least (L.points - 1))]) ht
        have hlen : as.length < sizeLine := by
          have e1 := Paired.length pr
          have e2 := sup_len L 1 p
          rw [List.length_cons] at e1
          have e3 : 16 < sizeLine := by decide
          omega
        refine ⟨q, _, _, rfl, rfl, s5 _ _ hq1, by rw [List.length_map]; exact hlen, ?_⟩
        refine ⟨_, rfl, ?_⟩
        refine k _ q (same_at (s3.trans s5) hq0) ?_
        have he : p.length + 1 = L.points - 1 := by
          have h2 := V.int.inj (of_decide_eq_true hc)
          rw [List.length_map] at h2
          omega
        have e5 : Hm.places L p = ((0, L.least 0) :: Hm.sup L 1 p) ++ [(L.points - 1, L.least (L.points - 1))] := by
          unfold Hm.places Hm.endP
          rw [if_pos he]
          rfl
        rw [e5]
        exact PsAt.push (s5 _ _ hq1) (paired_map (fun _ _ (h : PtAt _ _ _) => h.same s5) pr) upd_same
      · refine ⟨_, rfl, ?_⟩
        have he : ¬ p.length + 1 = L.points - 1 := fun h => hc (decide_eq_true (show V.int (((p.map nv).length : Int) + 1) = nv (L.points - 1) by rw [List.length_map, ← h]; rfl))
        have e5 : Hm.places L p = (0, L.least 0) :: Hm.sup L 1 p := by
          unfold Hm.places Hm.endP
          rw [if_neg he, List.append_nil]
        refine k _ q s3 ?_
        rw [e5]
        exact ⟨as, hq1, pr⟩

/-! ### too low -/
theorem lowIn_hit {L : Line} {p q : Nat × Nat} {j : Nat} (hj : p.1 + j ≤ q.1) (h : Hm.tooLow L p q (p.1 + j) = true) (hn : ∀ m, m < j → Hm.tooLow L p q (p.1 + m) = false) : Hm.lowIn L p q = some (p.1 + j) := by
  unfold Hm.lowIn
  refine Hm.find_at (i := j) (by rw [List.getElem?_range' (by omega)]; simp) h fun m z hm hz => ?_
  rw [List.getElem?_range' (by omega)] at hz
  have e := Option.some.inj hz
  rw [Nat.one_mul] at e
  rw [← e]
  exact hn m hm
theorem lowIn_miss {L : Line} {p q : Nat × Nat} (hn : ∀ m, m < q.1 + 1 - p.1 → Hm.tooLow L p q (p.1 + m) = false) : Hm.lowIn L p q = none := by
  unfold Hm.lowIn
  refine Hm.find_no fun m z hz => ?_
  have hm : m < q.1 + 1 - p.1 := by
    have := (List.getElem?_eq_some_iff.mp hz).1
    rw [List.length_range'] at this
    exact this
  rw [List.getElem?_range' hm] at hz
  have e := Option.some.inj hz
  rw [Nat.one_mul] at e
  rw [← e]
  exact hn m hm
def oV : Option Nat → V
  | none => .non
  | some x => nv x
theorem inc_get {ps : List (Nat × Nat)} (h : ps.Pairwise fun a b => a.1 < b.1) {i j : Nat} {a b : Nat × Nat} (hij : i < j) (ha : ps[i]? = some a) (hb : ps[j]? = some b) : a.1 < b.1 := by
  obtain ⟨h1, e1⟩ := List.getElem?_eq_some_iff.mp ha
  obtain ⟨h2, e2⟩ := List.getElem?_eq_some_iff.mp hb
  rw [← e1, ← e2]
  exact List.pairwise_iff_getElem.mp h i j h1 h2 hij
def spLow (C : Addr) : Sp := fun vs H Q _ => ∃ (a l : Addr) (L : Line) (ps : List (Nat × Nat)), vs = [.ref a, .ref l] ∧ LineAt C H a L ∧ Good L ∧ PsAt H l ps ∧ ps.Pairwise (fun a b => a.1 < b.1) ∧ (∀ z ∈ ps, z.1 < L.points ∧ z.2 < 1000) ∧ ps.length ≤ 100 ∧
  ∀ H' : Hp, Same H H' → Q (oV (Hm.firstLow L ps)) H'
theorem scLo : FnScope ["line", "places", "k", "before", "behind", "point"] ["line", "places"] (defScope sLow) := ⟨rfl, rfl, rfl, by decide +kernel, rfl, by decide +kernel, by decide +kernel⟩
theorem ok_low {f : Addr} {fd : FuncData} (F : Fun K "first_too_low" "first_too_low" sLow f fd) (T : Txt K mg CL CR) (DI : Dk P w K mg base "is_too_low" 2 ["line", "before", "behind", "point"] (spIsLow CL)) : FnOk P w K mg base CX0 3 f fd ["line", "places"] (spLow CL) := by
  obtain ⟨fI, fdI, GI, mI, kI, bI⟩ := DI
  refine F.ok scLo (fun vs H Q E h => ?_) (fun cdv A outer s H vs Q E hr h => ?_)
  · obtain ⟨a, l, L, ps, rfl, _⟩ := h
    rfl
  · obtain ⟨a, l, L, ps, rfl, hL, G, hP, inc, bd, hlen, k⟩ := h
    refine ⟨_, pss_cons (ps_for PassesOwn.never rfl (pi_range2 (by rfl) T.range (pa_cons pe_int (pa_cons (pe_callB call_len_seq (by rfl) T.len PySem.boot_len (pa_cons (pv 1) pa_nil)) pa_nil))) (pg_name (i := 2) scLo.nd rfl (Or.inl rfl))
        (pss_cons (ps_set (i := 3) scLo.nd rfl (Or.inl rfl) (pe_ix ix_list (pv 1) (pe_op op_sub (pv 2) pe_int) (fun _ _ => rfl)))
        (pss_cons (ps_set (i := 4) scLo.nd rfl (Or.inl rfl) (pe_ix ix_list (pv 1) (pv 2) (fun _ _ => rfl)))
        (pss_one (ps_for PassesOwn.never rfl (pi_range2 (by rfl) T.range (pa_cons (pe_ix ix_tup (pv 3) pe_int (fun _ _ => rfl)) (pa_cons (pe_op op_add (pe_ix ix_tup (pv 4) pe_int (fun _ _ => rfl)) pe_int) pa_nil))) (pg_name (i := 5) scLo.nd rfl (Or.inl rfl))
          (pss_one (ps_if (pt_val (pe_call GI hr rfl mI kI bI .nil pass0 (pa_cons (pv 0) (pa_cons (pv 3) (pa_cons (pv 4) (pa_cons (pv 5) pa_nil)))))) (pss_one (ps_ret (pv 5))) pss_nil)))))))
      (pss_one (ps_ret pe_non)), ?_⟩
    obtain ⟨as0, hq0, hl0⟩ := hP.len (K := K)
    refine ⟨_, rfl, l, _, rfl, .inl hq0, 1, _, rfl, ⟨by decide, by decide, by omega, by omega⟩, for_range (lo := 1) (n := (((as0.map V.ref).length : Int) - 1).toNat)
      (fun i σ H' => ∃ v2 v3 v4 v5 : Option V, σ = [some (.ref a), some (.ref l), v2, v3, v4, v5] ∧ Same H H' ∧ ∀ (j : Nat) z, j < i → (Uw38.pairs ps)[j]? = some z → Hm.lowIn L z.1 z.2 = none) ⟨none, none, none, none, rfl, Same.refl H, fun j z hj => absurd hj (Nat.not_lt_zero _)⟩ ?_ ?_⟩
    · rintro i σ H' hi ⟨v2, v3, v4, v5, rfl, s1, hno⟩
      rw [hl0] at hi
      have hi1 : i + 1 < ps.length := by omega
      have ep : ps[i]? = some ps[i] := List.getElem?_eq_getElem (by omega)
      have eq : ps[i + 1]? = some ps[i + 1] := List.getElem?_eq_getElem hi1
      generalize ps[i] = p at ep
      generalize ps[i + 1] = q at eq
      have hpq := inc_get inc (Nat.lt_succ_self i) ep eq
      have bp := bd p (List.mem_of_getElem? ep)
      have bq := bd q (List.mem_of_getElem? eq)
      obtain ⟨as1, c1, hs1, hg1, hc1⟩ := (hP.same s1).get (K := K) ep
      obtain ⟨as2, c2, hs2, hg2, hc2⟩ := (hP.same s1).get (K := K) eq
      refine ⟨_, rfl, _, rfl, _, _, rfl, rfl, l, _, _, _, rfl, rfl, hs1, at_of (j := i) (by omega) hg1, ?_⟩
      refine ⟨_, rfl, _, rfl, l, _, _, _, rfl, rfl, hs2, at_of (j := i + 1) (by omega) hg2, ?_⟩
      refine ⟨_, rfl, c1, _, _, _, rfl, rfl, sqt hc1, at_of (j := 0) rfl rfl, _, rfl, c2, _, _, _, rfl, rfl, sqt hc2, at_of (j := 0) rfl rfl, _, _, rfl, rfl, (p.1 : Int), (q.1 : Int) + 1, rfl, ?_⟩
      have hp8 := G.p8
      refine ⟨⟨by omega, by omega, by omega, by omega⟩, for_range (lo := (p.1 : Int)) (n := (((q.1 : Int) + 1) - (p.1 : Int)).toNat)
        (fun j σ H'' => ∃ v5 : Option V, σ = [some (.ref a), some (.ref l), some (.int (1 + (i : Nat))), some (.ref c1), some (.ref c2), v5] ∧ Same H' H'' ∧ ∀ m, m < j → Hm.tooLow L p q (p.1 + m) = false) ⟨v5, rfl, Same.refl H', fun m hm => absurd hm (Nat.not_lt_zero _)⟩ ?_ ?_⟩
      · rintro j σ H'' hj ⟨v6, rfl, s2, hno2⟩
        have hjq : p.1 + j ≤ q.1 := by omega
        refine ⟨_, rfl, _, rfl, _, rfl, _, rfl, a, c1, c2, L, p, q, p.1 + j, rfl, (hL.same s1).same s2, G, hc1.same s2, hc2.same s2, by omega, hjq, bp.2, bq.2, by omega, fun H3 s3 => ⟨_, rfl, ite2 (fun hc => ?_) (fun hc => ?_)⟩⟩
        · refine ⟨_, rfl, ?_⟩
          have e : Hm.firstLow L ps = some (p.1 + j) := Hm.findSome_at (Hm.pairs_get ep eq) (lowIn_hit hjq hc hno2) fun m z hm hz => hno m z hm hz
          have kk := k H3 ((s1.trans s2).trans s3)
          rw [e] at kk
          exact kk
        · refine ⟨_, rfl, s2.trans s3, fun m hm => ?_⟩
          rcases Nat.lt_or_ge m j with h1 | h1
          · exact hno2 m h1
          · have em : m = j := by omega
            subst em
            exact Bool.eq_false_iff.mpr hc
      · rintro σ H'' ⟨v6, rfl, s2, hno2⟩
        refine ⟨_, _, _, _, rfl, s1.trans s2, fun j z hj hz => ?_⟩
        rcases Nat.lt_or_ge j i with h1 | h1
        · exact hno j z h1 hz
        · have ej : j = i := by omega
          subst ej
          obtain ⟨g1, g2⟩ := Hm.pairs_of hz
          rw [ep] at g1
          rw [eq] at g2
          have e1 := Option.some.inj g1
          have e2 := Option.some.inj g2
          rw [← e1, ← e2]
          exact lowIn_miss fun m hm => hno2 m (by omega)
    · rintro σ H' ⟨v2, v3, v4, v5, rfl, s1, hno⟩
      rw [hl0] at hno
      have e : Hm.firstLow L ps = none := Hm.findSome_no fun j z hz => hno j z (by
        have := (List.getElem?_eq_some_iff.mp (Hm.pairs_of hz).2).1
        omega) hz
      have kk := k H' s1
      rw [e] at kk
      exact kk
/-! ### lifting -/
def spLift : Sp := fun vs H Q _ => ∃ (l : Addr) (ps : List (Nat × Nat)), vs = [.ref l] ∧ PsAt H l ps ∧ ps.Pairwise (fun a b => a.1 < b.1) ∧ (∀ z ∈ ps, z.2 < 1000) ∧ ps.length ≤ 100 ∧ ∀ H' : Hp, Same H H' → Q (oV (Hm.firstLift ps)) H'
theorem scLf : FnScope ["places", "k", "point", "height"] ["places"] (defScope sLift) := ⟨rfl, rfl, rfl, by decide +kernel, rfl, by decide +kernel, by decide +kernel⟩
theorem ok_lift {f : Addr} {fd : FuncData} (F : Fun K "first_lifting" "first_lifting" sLift f fd) (T : Txt K mg CL CR) (DH : Dk P w K mg base "height_between" 1 ["before", "behind", "point"] spHei) : FnOk P w K mg base CX0 2 f fd ["places"] spLift := by
  obtain ⟨fH, fdH, GH, mH, kH, bH⟩ := DH
  refine F.ok scLf (fun vs H Q E h => ?_) (fun cdv A outer s H vs Q E hr h => ?_)
  · obtain ⟨l, ps, rfl, _⟩ := h
    rfl
  · obtain ⟨l, ps, rfl, hP, inc, bd, hlen, k⟩ := h
    refine ⟨_, pss_cons (ps_for PassesOwn.never rfl (pi_range2 (by rfl) T.range (pa_cons pe_int (pa_cons (pe_op op_sub (pe_callB call_len_seq (by rfl) T.len PySem.boot_len (pa_cons (pv 0) pa_nil)) pe_int) pa_nil))) (pg_name (i := 1) scLf.nd rfl (Or.inl rfl))
        (pss_cons (ps_set (i := 2) scLf.nd rfl (Or.inl rfl) (pe_ix ix_tup (pe_ix ix_list (pv 0) (pv 1) (fun _ _ => rfl)) pe_int (fun _ _ => rfl)))
        (pss_cons (ps_set (i := 3) scLf.nd rfl (Or.inl rfl) (pe_call GH hr rfl mH kH bH .nil pass0 (pa_cons (pe_ix ix_list (pv 0) (pe_op op_sub (pv 1) pe_int) (fun _ _ => rfl)) (pa_cons (pe_ix ix_list (pv 0) (pe_op op_add (pv 1) pe_int) (fun _ _ => rfl)) (pa_cons (pv 2) pa_nil)))))
        (pss_one (ps_if (pt_cmpR op_gt (pe_ix ix_tup (pv 3) pe_int (fun _ _ => rfl)) (pe_op op_mul (pe_ix ix_tup (pe_ix ix_list (pv 0) (pv 1) (fun _ _ => rfl)) pe_int (fun _ _ => rfl)) (pe_ix ix_tup (pv 3) pe_int (fun _ _ => rfl))) (nomark _)) (pss_one (ps_ret (pv 2))) pss_nil)))))
      (pss_one (ps_ret pe_non)), ?_⟩
    obtain ⟨as0, hq0, hl0⟩ := hP.len (K := K)
    refine ⟨_, rfl, l, _, rfl, .inl hq0, _, _, rfl, rfl, 1, _, rfl, ⟨by decide, by decide, by omega, by omega⟩, for_range (lo := 1) (n := ((((as0.map V.ref).length : Int) - 1) - 1).toNat)
      (fun i σ H' => ∃ v1 v2 v3 : Option V, σ = [some (.ref l), v1, v2, v3] ∧ Same H H' ∧ ∀ (j : Nat) z, j < i → (Uw38.triples ps)[j]? = some z → Hm.lift3 z = false) ⟨none, none, none, rfl, Same.refl H, fun j z hj => absurd hj (Nat.not_lt_zero _)⟩ ?_ ?_⟩
    · rintro i σ H' hi ⟨v1, v2, v3, rfl, s1, hno⟩
      rw [hl0] at hi
      have hi2 : i + 2 < ps.length := by omega
      have e0 : ps[i]? = some ps[i] := List.getElem?_eq_getElem (by omega)
      have e1 : ps[i + 1]? = some ps[i + 1] := List.getElem?_eq_getElem (by omega)
      have e2 : ps[i + 2]? = some ps[i + 2] := List.getElem?_eq_getElem hi2
      generalize ps[i] = p0 at e0
      generalize ps[i + 1] = p1 at e1
      generalize ps[i + 2] = p2 at e2
      have h01 := inc_get inc (Nat.lt_succ_self i) e0 e1
      have h12 := inc_get inc (Nat.lt_succ_self (i + 1)) e1 e2
      have b0 := bd p0 (List.mem_of_getElem? e0)
      have b1 := bd p1 (List.mem_of_getElem? e1)
      have b2 := bd p2 (List.mem_of_getElem? e2)
      obtain ⟨as1, c0, hs0, hg0, hc0⟩ := (hP.same s1).get (K := K) e0
      obtain ⟨as2, c1, hs1, hg1, hc1⟩ := (hP.same s1).get (K := K) e1
      obtain ⟨as3, c2, hs2, hg2, hc2⟩ := (hP.same s1).get (K := K) e2
      refine ⟨_, rfl, _, rfl, l, _, _, _, rfl, rfl, hs1, at_of (j := i + 1) (by omega) hg1, c1, _, _, _, rfl, rfl, sqt hc1, at_of (j := 0) rfl rfl, ?_⟩
      refine ⟨_, rfl, _, rfl, _, _, rfl, rfl, l, _, _, _, rfl, rfl, hs0, at_of (j := i) (by omega) hg0, _, rfl, _, rfl, _, _, rfl, rfl, l, _, _, _, rfl, rfl, hs2, at_of (j := i + 2) (by omega) hg2, _, rfl, c0, c2, p0, p2, p1.1, rfl, hc0, hc2, by omega, by omega, b0, b2, fun t ht => ?_⟩
      have s2 := same_new (o := .tup [nv (Uw38.height p0 p2 p1.1), nv (p2.1 - p0.1)]) ht
      have hT : PtAt (upd H' t (.tup [nv (Uw38.height p0 p2 p1.1), nv (p2.1 - p0.1)])) t (Uw38.height p0 p2 p1.1, p2.1 - p0.1) := upd_same
      obtain ⟨as4, c4, hs4, hg4, hc4⟩ := ((hP.same s1).same s2).get (K := K) e1
      refine ⟨_, rfl, t, _, _, _, rfl, rfl, sqt hT, at_of (j := 0) rfl rfl, _, rfl, _, rfl, l, _, _, _, rfl, rfl, hs4, at_of (j := i + 1) (by omega) hg4, c4, _, _, _, rfl, rfl, sqt hc4, at_of (j := 1) rfl rfl, ?_⟩
      refine ⟨_, rfl, t, _, _, _, rfl, rfl, sqt hT, at_of (j := 1) rfl rfl, _, _, rfl, rfl, .inl ⟨by omega, by omega⟩, _, _, rfl, rfl, _, rfl, ?_⟩
      have e : decide ((p1.2 : Int) * ((p2.1 - p0.1 : Nat) : Int) < ((Uw38.height p0 p2 p1.1 : Nat) : Int)) = Hm.lift3 (p0, p1, p2) := by
        unfold Hm.lift3
        refine decide_eq_decide.mpr ?_
        have e3 : (p1.2 : Int) * ((p2.1 - p0.1 : Nat) : Int) = ((p1.2 * (p2.1 - p0.1) : Nat) : Int) := by simp
        rw [e3]
        exact Int.ofNat_lt
      dsimp only
      rw [e]
      refine ite2 (fun hc => ?_) (fun hc => ?_)
      · refine ⟨_, rfl, ?_⟩
        have ef : Hm.firstLift ps = some p1.1 := by
          unfold Hm.firstLift
          rw [Hm.find_at (Hm.triples_get e0 e1 e2) hc fun j z hj hz => hno j z hj hz]
          rfl
        have kk := k _ (s1.trans s2)
        rw [ef] at kk
        exact kk
      · refine ⟨_, _, _, rfl, s1.trans s2, fun j z hj hz => ?_⟩
        rcases Nat.lt_or_ge j i with h1 | h1
        · exact hno j z h1 hz
        · have ej : j = i := by omega
          subst ej
          rw [Hm.triples_get e0 e1 e2] at hz
          have ez := Option.some.inj hz
          rw [← ez]
          exact Bool.eq_false_iff.mpr hc
    · rintro σ H' ⟨v1, v2, v3, rfl, s1, hno⟩
      rw [hl0] at hno
      have ef : Hm.firstLift ps = none := by
        unfold Hm.firstLift
        rw [Hm.find_no fun j z hz => hno j z (by
          have := (List.getElem?_eq_some_iff.mp (Hm.triples_of hz).2.2).1
          omega) hz]
        rfl
      have kk := k H' s1
      rw [ef] at kk
      exact kk
/-! ### right -/
theorem places_len (L : Line) (p : List Nat) : (Hm.places L p).length ≤ p.length + 2 := by
  have h1 := sup_len L 1 p
  unfold Hm.places Hm.endP
  rw [List.length_cons, List.length_append]
  split
  · rw [List.length_singleton]
    omega
  · rw [List.length_nil]
    omega
def spRight (C : Addr) : Sp := fun vs H Q _ => ∃ (a b : Addr) (L : Line) (p : List Nat), vs = [.ref a, .ref b] ∧ LineAt C H a L ∧ Good L ∧ H b = some (.lst (p.map nv)) ∧ p.length + 2 ≤ L.points ∧ (∀ h ∈ p, h ≤ 4) ∧
  ∀ H' : Hp, Same H H' → Q (.bl (Hm.isRight L p)) H'
theorem scRt : FnScope ["line", "plan", "places"] ["line", "plan"] (defScope sRight) := ⟨rfl, rfl, rfl, by decide +kernel, rfl, by decide +kernel, by decide +kernel⟩
theorem ok_right {f : Addr} {fd : FuncData} (F : Fun K "is_right" "is_right" sRight f fd) (T : Txt K mg CL CR) (DP : Dk P w K mg base "places_of" 2 ["line", "plan"] (spPla CL)) (DL : Dk P w K mg base "first_too_low" 3 ["line", "places"] (spLow CL))
    (DF : Dk P w K mg base "first_lifting" 2 ["places"] spLift) : FnOk P w K mg base CX0 4 f fd ["line", "plan"] (spRight CL) := by
  obtain ⟨fP, fdP, GP, mP, kP, bP⟩ := DP
  obtain ⟨fL, fdL, GL, mL, kL, bL⟩ := DL
  obtain ⟨fF, fdF, GF, mF, kF, bF⟩ := DF
  refine F.ok scRt (fun vs H Q E h => ?_) (fun cdv A outer s H vs Q E hr h => ?_)
  · obtain ⟨a, b, L, p, rfl, _⟩ := h
    rfl
  · obtain ⟨a, b, L, p, rfl, hL, G, hb, hp, h4, k⟩ := h
    have hr2 := hr.mono (show 2 ≤ 3 by decide)
    refine ⟨_, pss_cons (ps_set (i := 2) scRt.nd rfl (Or.inl rfl) (pe_call GP hr2 rfl mP kP bP .nil pass0 (pa_cons (pv 0) (pa_cons (pv 1) pa_nil))))
      (pss_one (ps_ret (pe_and (pe_cmp (pc_isN (pe_call GL hr rfl mL kL bL .nil pass0 (pa_cons (pv 0) (pa_cons (pv 2) pa_nil)))) rfl) (pe_one (pe_cmp (pc_isN (pe_call GF hr2 rfl mF kF bF .nil pass0 (pa_cons (pv 2) pa_nil))) rfl))))), ?_⟩
    have hp8 := G.p8
    have hln := places_len L p
    have sml := places_small G h4
    have hlt := Hm.places_lt L p hp
    have inc := Hm.places_inc L p hp
    refine ⟨_, rfl, _, rfl, a, b, L, p, rfl, hL, G, hb, hp, fun H1 q s1 hP => ?_⟩
    refine ⟨_, rfl, _, rfl, a, q, L, Hm.places L p, rfl, hL.same s1, G, hP, inc, fun z hz => ⟨hlt z hz, sml z hz⟩, by omega, fun H2 s2 => ⟨_, rfl, ite2 (fun hc => ?_) (fun hc => ?_)⟩⟩
    · refine ⟨_, rfl, q, Hm.places L p, rfl, hP.same s2, inc, sml, by omega, fun H3 s3 => ?_⟩
      have kk := k H3 ((s1.trans s2).trans s3)
      have e : Hm.isRight L p = decide (oV (Hm.firstLift (Hm.places L p)) = .non) := by
        unfold Hm.isRight
        have h0 := of_decide_eq_true hc
        cases e1 : Hm.firstLow L (Hm.places L p) with
        | some x =>
          rw [e1] at h0
          cases h0
        | none =>
          cases Hm.firstLift (Hm.places L p) with
          | none => rfl
          | some y =>
            rw [decide_eq_false (by intro z; cases z)]
            rfl
      rw [e] at kk
      exact kk
    · have kk := k H2 (s1.trans s2)
      have e : Hm.isRight L p = false := by
        unfold Hm.isRight
        cases e1 : Hm.firstLow L (Hm.places L p) with
        | some x => rfl
        | none =>
          rw [e1] at hc
          exact absurd (decide_eq_true rfl) hc
      rw [e] at kk
      exact kk
end
end Hd

end
section
set_option maxRecDepth 100000
set_option maxHeartbeats 2000000
/-! The defs of the program: the right plans, what they cost, how tall. -/
namespace Hd
open PySem PySem.Spec PyProof.Rows L2 Hr
open Uw38 (Line)
def RowAt (H : Hp) (b : Addr) (p : List Nat) : Prop := H b = some (.lst (p.map nv))
def PlAt (H : Hp) (l : Addr) (plans : List (List Nat)) : Prop := ∃ as : List Addr, H l = some (.lst (as.map V.ref)) ∧ Paired (RowAt H) as plans
theorem PlAt.same {H H' : Hp} {l : Addr} {ps : List (List Nat)} (h : PlAt H l ps) (s : Same H H') : PlAt H' l ps := by
  obtain ⟨as, h1, h2⟩ := h
  exact ⟨as, s _ _ h1, paired_map (fun _ _ q => s _ _ q) h2⟩
/-- the plans that a plan and the heights below j give -/
def part (L : Line) (p : List Nat) (j : Nat) : List (List Nat) := ((List.range j).map fun h => p ++ [h]).filter (Hm.isRight L)
theorem part_succ (L : Line) (p : List Nat) (j : Nat) : part L p (j + 1) = part L p j ++ (if Hm.isRight L (p ++ [j]) = true then [p ++ [j]] else []) := by
  unfold part
  rw [List.range_succ, List.map_append, List.filter_append, List.map_cons, List.map_nil, List.filter_cons, List.filter_nil]
theorem part_len (L : Line) (p : List Nat) (j : Nat) : (part L p j).length ≤ j := by
  unfold part
  refine Nat.le_trans (List.length_filter_le _ _) ?_
  rw [List.length_map, List.length_range (n := j)]
  exact Nat.le_refl _
theorem grown_snoc (L : Line) (t : Nat) (ps : List (List Nat)) (p : List Nat) : Hm.grown L t (ps ++ [p]) = Hm.grown L t ps ++ part L p (t + 1) := by
  unfold Hm.grown part
  rw [List.flatMap_append, List.flatMap_cons, List.flatMap_nil, List.append_nil]
theorem grown_len (L : Line) (t : Nat) : ∀ ps : List (List Nat), (Hm.grown L t ps).length ≤ ps.length * (t + 1)
  | [] => Nat.zero_le _
  | p :: ps => by
    have h1 := grown_len L t ps
    have h2 := part_len L p (t + 1)
    have e : Hm.grown L t (p :: ps) = part L p (t + 1) ++ Hm.grown L t ps := rfl
    rw [e, List.length_append, List.length_cons, Nat.add_mul, Nat.one_mul]
    omega
def spGrown (C : Addr) : Sp := fun vs H Q _ => ∃ (a l : Addr) (L : Line) (t n : Nat) (plans : List (List Nat)), vs = [.ref a, .ref l, nv t] ∧ LineAt C H a L ∧ Good L ∧ PlAt H l plans ∧ t ≤ 4 ∧ (∀ p ∈ plans, p.length = n ∧ ∀ h ∈ p, h ≤ 4) ∧ n + 3 ≤ L.points ∧ plans.length ≤ 20000 ∧
  ∀ (H' : Hp) (q : Addr), Same H H' → PlAt H' q (Hm.grown L t plans) → Q (.ref q) H'
section
variable {P : Program} {w : World} {K : PySem.W.Frag} {mg : Str → Option Value} {base : Heap} {CL CR : Addr}
theorem scGr : FnScope ["line", "plans", "tall", "longer", "plan", "height", "candidate"] ["line", "plans", "tall"] (defScope sGrown) := ⟨rfl, rfl, rfl, by decide +kernel, rfl, by decide +kernel, by decide +kernel⟩
/-- what the list at q holds: rows, none of them q itself -/
def Grow (H : Hp) (q : Addr) (out : List (List Nat)) : Prop := ∃ bs : List Addr, H q = some (.lst (bs.map V.ref)) ∧ Paired (fun b p => b ≠ q ∧ RowAt H b p) bs out
theorem Grow.same {H H' : Hp} {q : Addr} {out : List (List Nat)} (h : Grow H q out) (s : Same H H') : Grow H' q out := by
  obtain ⟨as, h1, h2⟩ := h
  exact ⟨as, s _ _ h1, paired_map (fun _ _ z => ⟨z.1, s _ _ z.2⟩) h2⟩
theorem Grow.push {H : Hp} {q c : Addr} {bs : List Addr} {out : List (List Nat)} {p : List Nat} (h1 : H q = some (.lst (bs.map V.ref))) (h2 : Paired (fun b p => b ≠ q ∧ RowAt H b p) bs out) (nc : c ≠ q) (hc : RowAt H c p) :
    Grow (upd H q (.lst (bs.map V.ref ++ [.ref c]))) q (out ++ [p]) := by
  have k : ∀ b r, (b ≠ q ∧ RowAt H b r) → (b ≠ q ∧ RowAt (upd H q (.lst (bs.map V.ref ++ [.ref c]))) b r) := fun b r z => ⟨z.1, by
    unfold RowAt
    rw [upd_ne z.1]
    exact z.2⟩
  refine ⟨bs ++ [c], ?_, paired_snoc (F := fun b p => b ≠ q ∧ RowAt (upd H q (.lst (bs.map V.ref ++ [.ref c]))) b p) (k c p ⟨nc, hc⟩) (paired_map k h2)⟩
  rw [upd_same, List.map_append]
  rfl
theorem ok_grown {f : Addr} {fd : FuncData} (F : Fun K "grown" "grown" sGrown f fd) (T : Txt K mg CL CR) (DR : Dk P w K mg base "is_right" 4 ["line", "plan"] (spRight CL)) : FnOk P w K mg base CX0 5 f fd ["line", "plans", "tall"] (spGrown CL) := by
  obtain ⟨fR, fdR, GR, mR, kR, bR⟩ := DR
  refine F.ok scGr (fun vs H Q E h => ?_) (fun cdv A outer s H vs Q E hr h => ?_)
  · obtain ⟨a, l, L, t, n, plans, rfl, _⟩ := h
    rfl
  · obtain ⟨a, l, L, t, n, plans, rfl, hL, G, ⟨as, hl, pr⟩, ht, hpl, hn, hsz, k⟩ := h
    refine ⟨_, pss_cons (ps_set (i := 3) scGr.nd rfl (Or.inl rfl) (pe_lst pa_nil))
      (pss_cons (ps_for PassesOwn.never rfl (pi_list (pv 1)) (pg_name (i := 4) scGr.nd rfl (Or.inl rfl))
        (pss_one (ps_for PassesOwn.never rfl (pi_range1 (by rfl) T.range (pa_cons (pe_op op_add (pv 2) pe_int) pa_nil)) (pg_name (i := 5) scGr.nd rfl (Or.inl rfl))
          (pss_cons (ps_set (i := 6) scGr.nd rfl (Or.inl rfl) (pe_op op_cat (pv 4) (pe_lst (pa_cons (pv 5) pa_nil))))
          (pss_one (ps_if (pt_val (pe_call GR hr rfl mR kR bR .nil pass0 (pa_cons (pv 0) (pa_cons (pv 6) pa_nil))))
            (pss_one (ps_expr (pe_bm PySem.F.plainAttrs_list PySem.F.slot_list_append PySem.F.type_list_append mt_append (pv 3) (pa_cons (pv 6) pa_nil)))) pss_nil))))))
      (pss_one (ps_ret (pv 3)))), ?_⟩
    have hp8 := G.p8
    have big : 200000 < sizeLine := by decide
    have hlen : as.length = plans.length := Paired.length pr
    refine ⟨Nat.zero_le _, fun q hq => ?_⟩
    have s1 : Same H (upd H q (.lst [])) := same_new hq
    refine ⟨_, rfl, l, rfl, ⟨_, SqL.of (s1 _ _ hl)⟩, for_list (K := K) (a := l) (xs := as.map V.ref)
      (fun i σ H' => ∃ v4 v5 v6 : Option V, σ = [some (.ref a), some (.ref l), some (nv t), some (.ref q), v4, v5, v6] ∧ Same H H' ∧ Grow H' q (Hm.grown L t (plans.take i)))
      ⟨none, none, none, rfl, s1, [], upd_same, .nil⟩ (fun i σ H' _ ⟨_, _, _, _, s2, _⟩ => SqL.of (s2 _ _ hl)) ?_ ?_⟩
    · rintro i y σ H' hi ⟨v4, v5, v6, rfl, s2, gr⟩
      obtain ⟨c, hc, rfl⟩ := map_get hi
      obtain ⟨p, hp, hcp⟩ := Hr.paired_get pr hc
      obtain ⟨hpn, hp4⟩ := hpl p (List.mem_of_getElem? hp)
      have hil : i < plans.length := (List.getElem?_eq_some_iff.mp hp).1
      refine ⟨_, rfl, _, _, rfl, rfl, _, rfl, by omega, by omega, for_range (lo := 0) (n := ((t : Int) + 1).toNat)
        (fun j σ H'' => ∃ v5 v6 : Option V, σ = [some (.ref a), some (.ref l), some (nv t), some (.ref q), some (.ref c), v5, v6] ∧ Same H H'' ∧ Grow H'' q (Hm.grown L t (plans.take i) ++ part L p j))
        ⟨v5, v6, rfl, s2, by
          have e : part L p 0 = [] := rfl
          rw [e, List.append_nil]
          exact gr⟩ ?_ ?_⟩
      · rintro j σ H'' hj ⟨w5, w6, rfl, s3, gr3⟩
        have hjt : j ≤ t := by omega
        refine ⟨_, rfl, _, rfl, (by show 1 ≤ sizeLine; decide), fun e he => ?_⟩
        have s4 := same_new (o := .lst [.int (0 + (j : Nat))]) he
        have hcp4 : upd H'' e (.lst [.int (0 + (j : Nat))]) c = some (.lst (p.map nv)) := s4 _ _ (s3 _ _ hcp)
        refine ⟨c, e, _, _, rfl, rfl, hcp4, upd_same, by rw [List.length_map]; show p.length + 1 ≤ sizeLine; omega, fun d hd => ?_⟩
        have s5 := same_new (o := .lst (p.map nv ++ [.int (0 + (j : Nat))])) hd
        have hdr : RowAt (upd (upd H'' e (.lst [.int (0 + (j : Nat))])) d (.lst (p.map nv ++ [.int (0 + (j : Nat))]))) d (p ++ [j]) := by
          unfold RowAt
          rw [upd_same, List.map_append, Int.zero_add]
          rfl
        have hb4 : ∀ h ∈ p ++ [j], h ≤ 4 := fun h hh => by
          rcases List.mem_append.mp hh with z | z
          · exact hp4 h z
          · have := List.mem_singleton.mp z
            omega
        refine ⟨_, rfl, _, rfl, a, d, L, p ++ [j], rfl, ((hL.same s3).same s4).same s5, G, hdr, by rw [List.length_append, hpn]; show n + 1 + 2 ≤ _; omega, hb4, fun H3 s6 => ⟨_, rfl, ite2 (fun hc1 => ?_) (fun hc1 => ?_)⟩⟩
        · obtain ⟨bs, hq3, pr3⟩ := ((gr3.same s4).same s5).same s6
          have ndq : d ≠ q := fun z => by
            obtain ⟨_, hq4, _⟩ := gr3.same s4
            rw [z, hq4] at hd
            cases hd
          have hbs : bs.length < sizeLine := by
            have e1 := Paired.length pr3
            have e2 := grown_len L t (plans.take i)
            have e3 := part_len L p j
            rw [List.length_append] at e1
            rw [List.length_take] at e2
            have e4 : min i plans.length * (t + 1) ≤ 20000 * 5 := Nat.mul_le_mul (by omega) (by omega)
            omega
          refine ⟨_, rfl, .inl ⟨rfl, _, SqL.of hq3⟩, _, rfl, q, _, _, rfl, rfl, hq3, by rw [List.length_map]; exact hbs, ?_⟩
          refine ⟨_, _, rfl, same_at (((s3.trans s4).trans s5).trans s6) hq, ?_⟩
          rw [part_succ, if_pos hc1, ← List.append_assoc]
          exact Grow.push hq3 pr3 ndq (s6 _ _ hdr)
        · refine ⟨_, _, rfl, ((s3.trans s4).trans s5).trans s6, ?_⟩
          rw [part_succ, if_neg hc1, List.append_nil]
          exact ((gr3.same s4).same s5).same s6
      · rintro σ H'' ⟨w5, w6, rfl, s3, gr3⟩
        refine ⟨_, _, _, rfl, s3, ?_⟩
        have e : ((t : Int) + 1).toNat = t + 1 := by omega
        rw [take_snoc hp, grown_snoc, ← e]
        exact gr3
    · rintro σ H' ⟨v4, v5, v6, rfl, s2, bs, hq2, pr2⟩
      rw [List.length_map, hlen, List.take_length] at pr2
      refine ⟨_, rfl, k H' q s2 ⟨bs, hq2, paired_map (fun _ _ z => z.2) pr2⟩⟩
/-! ### right_plans -/
def spPlans (C : Addr) : Sp := fun vs H Q _ => ∃ (a : Addr) (L : Line) (t : Nat), vs = [.ref a, nv t] ∧ LineAt C H a L ∧ Good L ∧ t ≤ 4 ∧ ∀ (H' : Hp) (q : Addr), Same H H' → PlAt H' q (Hm.rightPlans L t (L.points - 2)) → Q (.ref q) H'
theorem scPs : FnScope ["line", "tall", "plans", "point"] ["line", "tall"] (defScope sPlans) := ⟨rfl, rfl, rfl, by decide +kernel, rfl, by decide +kernel, by decide +kernel⟩
theorem plans_mem {L : Line} (G : Good L) {t n : Nat} (ht : t ≤ 4) (hn : n + 2 ≤ L.points) : ∀ p ∈ Hm.rightPlans L t n, p.length = n ∧ ∀ h ∈ p, h ≤ 4 := fun p hp => by
  rw [Hm.rightPlans_eq L t G.p2 n hn] at hp
  obtain ⟨h1, h2⟩ := Hm.rows_mem t n p (List.mem_filter.mp hp).1
  exact ⟨h1, fun h hh => Nat.le_trans (h2 h hh) ht⟩
theorem plans_len {L : Line} (G : Good L) {t n : Nat} (ht : t ≤ 4) (hn : n + 2 ≤ L.points) : (Hm.rightPlans L t n).length ≤ 15625 := by
  have h1 := Hm.rightPlans_len L t n G.p2 hn
  have h2 : (t + 1) ^ n ≤ 5 ^ n := Nat.pow_le_pow_left (by omega) n
  have h3 : 5 ^ n ≤ 5 ^ 6 := Nat.pow_le_pow_right (by decide) (by have := G.p8; omega)
  have h4 : 5 ^ 6 = 15625 := by decide
  omega
theorem ok_plans {f : Addr} {fd : FuncData} (F : Fun K "right_plans" "right_plans" sPlans f fd) (T : Txt K mg CL CR) (DL : Dk P w K mg base "last_point" 1 ["line"] (spLast CL)) (DG : Dk P w K mg base "grown" 5 ["line", "plans", "tall"] (spGrown CL)) : FnOk P w K mg base CX0 6 f fd ["line", "tall"] (spPlans CL) := by
  obtain ⟨fL, fdL, GL, mL, kL, bL⟩ := DL
  obtain ⟨fG, fdG, GG, mG, kG, bG⟩ := DG
  refine F.ok scPs (fun vs H Q E h => ?_) (fun cdv A outer s H vs Q E hr h => ?_)
  · obtain ⟨a, L, t, rfl, _⟩ := h
    rfl
  · obtain ⟨a, L, t, rfl, hL, G, ht, k⟩ := h
    have hr1 := hr.mono (show 1 ≤ 5 by decide)
    refine ⟨_, pss_cons (ps_set (i := 2) scPs.nd rfl (Or.inl rfl) (pe_lst (pa_cons (pe_lst pa_nil) pa_nil)))
      (pss_cons (ps_for PassesOwn.never rfl (pi_range2 (by rfl) T.range (pa_cons pe_int (pa_cons (pe_call GL hr1 rfl mL kL bL .nil pass0 (pa_cons (pv 0) pa_nil)) pa_nil))) (pg_name (i := 3) scPs.nd rfl (Or.inl rfl))
        (pss_one (ps_set (i := 2) scPs.nd rfl (Or.inl rfl) (pe_call GG hr rfl mG kG bG .nil pass0 (pa_cons (pv 0) (pa_cons (pv 2) (pa_cons (pv 1) pa_nil)))))))
      (pss_one (ps_ret (pv 2)))), ?_⟩
    have hp2 := G.p2
    have hp8 := G.p8
    refine ⟨Nat.zero_le _, fun e he => ⟨(by show 1 ≤ sizeLine; decide), fun q hq => ?_⟩⟩
    have s1 : Same H (upd H e (.lst [])) := same_new he
    have s2 : Same (upd H e (.lst [])) (upd (upd H e (.lst [])) q (.lst [.ref e])) := same_new hq
    refine ⟨_, rfl, a, L, rfl, (hL.same s1).same s2, hp2, 1, _, rfl, ⟨by decide, by decide, by omega, by omega⟩, for_range (lo := 1) (n := (((L.points - 1 : Nat) : Int) - 1).toNat)
      (fun i σ H' => ∃ (q' : Addr) (v3 : Option V), σ = [some (.ref a), some (nv t), some (.ref q'), v3] ∧ Same H H' ∧ PlAt H' q' (Hm.rightPlans L t i))
      ⟨q, none, rfl, s1.trans s2, [e], upd_same, .cons (s2 _ _ upd_same) .nil⟩ ?_ ?_⟩
    · rintro i σ H' hi ⟨q', v3, rfl, s3, pl⟩
      have hin : i + 2 ≤ L.points := by omega
      have hlen := plans_len G ht hin
      refine ⟨_, rfl, _, rfl, _, rfl, a, q', L, t, i, Hm.rightPlans L t i, rfl, hL.same s3, G, pl, ht, plans_mem G ht hin, by omega, by omega, fun H4 q4 s4 pl4 => ?_⟩
      exact ⟨q4, _, rfl, s3.trans s4, pl4⟩
    · rintro σ H' ⟨q', v3, rfl, s3, pl⟩
      have en : (((L.points - 1 : Nat) : Int) - 1).toNat = L.points - 2 := by omega
      rw [en] at pl
      exact ⟨_, rfl, k H' q' s3 pl⟩
end
end Hd

end
section
set_option maxRecDepth 100000
set_option maxHeartbeats 2000000
/-! The defs of the program: what a plan costs, how tall, lowest terms, the rope's height, what fits. -/
namespace Hd
open PySem PySem.Spec PyProof.Rows L2 Hr
open Uw38 (Line)
section
variable {P : Program} {w : World} {K : PySem.W.Frag} {mg : Str → Option Value} {base : Heap} {CL CR : Addr}
/-! ### cost_and_supports -/
theorem map_nv (l : List Nat) : l.map nv = (l.map fun (n : Nat) => (n : Int)).map V.int := by
  rw [List.map_map]
  rfl
theorem sum_cast : ∀ l : List Nat, (l.map fun (n : Nat) => (n : Int)).sum = ((l.sum : Nat) : Int)
  | [] => rfl
  | x :: l => by
    rw [List.map_cons, List.sum_cons, List.sum_cons, sum_cast l]
    omega
def pos (l : List Nat) : List Nat := l.filter fun h => decide (h > 0)
theorem pos_snoc (l : List Nat) (z : Nat) : pos (l ++ [z]) = pos l ++ (if z > 0 then [z] else []) := by
  unfold pos
  rw [List.filter_append, List.filter_cons, List.filter_nil]
  by_cases h : z > 0
  · rw [if_pos h, if_pos (decide_eq_true h)]
  · rw [if_neg h, if_neg (by simpa using h)]
def spCost (C : Addr) : Sp := fun vs H Q _ => ∃ (a b : Addr) (L : Line) (p : List Nat), vs = [.ref a, .ref b] ∧ LineAt C H a L ∧ Good L ∧ RowAt H b p ∧ p.length ≤ 1000 ∧
  ∀ (H' : Hp) (t : Addr), Same H H' → H' t = some (.tup [nv (L.cost p), nv (Uw38.supports p)]) → Q (.ref t) H'
theorem scCo : FnScope ["line", "plan", "supports", "height"] ["line", "plan"] (defScope sCost) := ⟨rfl, rfl, rfl, by decide +kernel, rfl, by decide +kernel, by decide +kernel⟩
theorem ok_cost {f : Addr} {fd : FuncData} (F : Fun K "cost_and_supports" "cost_and_supports" sCost f fd) (T : Txt K mg CL CR) : FnOk P w K mg base CX0 1 f fd ["line", "plan"] (spCost CL) := by
  refine F.ok scCo (fun vs H Q E h => ?_) (fun cdv A outer s H vs Q E hr h => ?_)
  · obtain ⟨a, b, L, p, rfl, _⟩ := h
    rfl
  · obtain ⟨a, b, L, p, rfl, hL, G, hb, hlen, k⟩ := h
    refine ⟨_, pss_cons (ps_setLc (i := 2) (own := [("height", 3)]) (g := gName 3) (by rfl) scCo.nd rfl rfl (sw_true rfl rfl rfl (by decide +kernel)) (pi_list (pv 1)) (blkOk_by (own := [("height", 3)]) (N := ["line", "plan", "supports", "height"]) (sc := defScope sCost) (by decide +kernel))
        (fun _ _ _ _ _ => pg_name (i := 3) scCo.nd rfl (Or.inl rfl)) (fun _ _ _ _ _ => pts_one (pt_cmpR op_gt (pv 3) pe_int (nomark _))) (fun _ _ _ _ _ => pv 3))
      (pss_one (ps_ret (pe_tup (pa_cons (pe_op op_add (pe_op op_mul (pe_fld (pv 0) rfl) (pe_callB call_len_seq (by rfl) T.len PySem.boot_len (pa_cons (pv 2) pa_nil))) (pe_op op_mul (pe_fld (pv 0) rfl) (pe_callB (cr_sum rfl) (by rfl) T.sum (by decide +kernel) (pa_cons (pv 2) pa_nil))))
        (pa_cons (pe_callB call_len_seq (by rfl) T.len PySem.boot_len (pa_cons (pv 2) pa_nil)) pa_nil))))), ?_⟩
    have big : 1000 < sizeLine := by decide
    refine ⟨_, rfl, b, rfl, ⟨_, SqL.of hb⟩, fun D hD => lc_list (K := K) (a := b) (xs := p.map nv) (fun i H' => Same H H' ∧ RowAt H' D (pos (p.take i))) ⟨same_new hD, upd_same⟩ (fun i H' _ ⟨s1, _⟩ => SqL.of (s1 _ _ hb)) ?_ ?_⟩
    · rintro i y H' hi ⟨s1, hd⟩
      obtain ⟨z, hz, rfl⟩ := map_get hi
      refine ⟨rfl, _, rfl, _, _, rfl, rfl, _, rfl, ite2 (fun hc => ?_) (fun hc => ?_)⟩
      · have hz0 : z > 0 := by
          have := of_decide_eq_true hc
          omega
        have hl : (pos (p.take i)).length ≤ 1000 := by
          have h1 : (pos (p.take i)).length ≤ (p.take i).length := List.length_filter_le _ _
          rw [List.length_take] at h1
          omega
        refine ⟨_, rfl, _, hd, by rw [List.length_map]; omega, same_at s1 hD, ?_⟩
        unfold RowAt
        rw [upd_same, take_snoc hz, pos_snoc, if_pos hz0, List.map_append]
        rfl
      · have hz0 : ¬ z > 0 := fun h => hc (decide_eq_true (by omega))
        refine ⟨s1, ?_⟩
        rw [take_snoc hz, pos_snoc, if_neg hz0, List.append_nil]
        exact hd
    · rintro H' ⟨s1, hd⟩
      rw [List.length_map, List.take_length] at hd
      obtain ⟨g, dx, ha, hg⟩ := hL.same s1
      have b1 := G.b100
      have u1 := G.u100
      refine ⟨_, rfl, a, CL, dx, _, _, rfl, ha, T.cL, T.ne, lf_each _ _, _, rfl, D, _, rfl, .inl (SqL.of hd), _, _, rfl, rfl, .inl ⟨by omega, by omega⟩, ?_⟩
      refine ⟨_, rfl, a, CL, dx, _, _, rfl, ha, T.cL, T.nu, lf_unit _ _, _, rfl, D, (pos p).map (fun (n : Nat) => (n : Int)), rfl, ?_, _, _, rfl, rfl, .inl ⟨by omega, by omega⟩, _, _, rfl, rfl, ?_⟩
      · rw [← map_nv]
        exact SqL.of hd
      refine ⟨_, rfl, D, _, rfl, .inl (SqL.of hd), (by show 2 ≤ sizeLine; decide), fun t ht => ?_⟩
      refine k _ t (s1.trans (same_new ht)) ?_
      rw [upd_same]
      dsimp only
      rw [sum_cast, List.length_map, Hm.cost_eq, Hm.supports_eq]
      show some (HO.tup [V.int ((L.base : Int) * ((pos p).length : Int) + (L.unit : Int) * ((pos p).sum : Int)), V.int ((pos p).length : Int)]) = some (HO.tup [V.int ((L.base * (pos p).length + L.unit * (pos p).sum : Nat) : Int), V.int ((pos p).length : Int)])
      have e : ((L.base * (pos p).length + L.unit * (pos p).sum : Nat) : Int) = (L.base : Int) * ((pos p).length : Int) + (L.unit : Int) * ((pos p).sum : Int) := by simp
      rw [e]
/-! ### least_tall -/
def tV : Option Nat → V
  | none => .int (-6)
  | some t => nv t
def spLeast (C : Addr) : Sp := fun vs H Q _ => ∃ (a : Addr) (L : Line), vs = [.ref a, .int 4] ∧ LineAt C H a L ∧ Good L ∧ ∀ H' : Hp, Same H H' → Q (tV (Hm.leastTall L)) H'
theorem scLe : FnScope ["line", "most", "tall"] ["line", "most"] (defScope sLeast) := ⟨rfl, rfl, rfl, by decide +kernel, rfl, by decide +kernel, by decide +kernel⟩
theorem ok_least {f : Addr} {fd : FuncData} (F : Fun K "least_tall" "least_tall" sLeast f fd) (T : Txt K mg CL CR) (DP : Dk P w K mg base "right_plans" 6 ["line", "tall"] (spPlans CL)) : FnOk P w K mg base CX0 7 f fd ["line", "most"] (spLeast CL) := by
  obtain ⟨fP, fdP, GP, mP, kP, bP⟩ := DP
  refine F.ok scLe (fun vs H Q E h => ?_) (fun cdv A outer s H vs Q E hr h => ?_)
  · obtain ⟨a, L, rfl, _⟩ := h
    rfl
  · obtain ⟨a, L, rfl, hL, G, k⟩ := h
    refine ⟨_, pss_cons (ps_for PassesOwn.never rfl (pi_range1 (by rfl) T.range (pa_cons (pe_op op_add (pv 1) pe_int) pa_nil)) (pg_name (i := 2) scLe.nd rfl (Or.inl rfl))
        (pss_one (ps_if (pt_cmpR op_gt (pe_callB call_len_seq (by rfl) T.len PySem.boot_len (pa_cons (pe_call GP hr rfl mP kP bP .nil pass0 (pa_cons (pv 0) (pa_cons (pv 2) pa_nil))) pa_nil)) pe_int (nomark _)) (pss_one (ps_ret (pv 2))) pss_nil)))
      (pss_one (ps_ret (pe_cst rfl T.noright))), ?_⟩
    refine ⟨_, rfl, _, _, rfl, rfl, _, rfl, by decide, by decide, for_range (lo := 0) (n := 5)
      (fun i σ H' => ∃ v2 : Option V, σ = [some (.ref a), some (.int 4), v2] ∧ Same H H' ∧ ∀ t, t < i → decide (0 < (Hm.rightPlans L t (L.points - 2)).length) = false) ⟨none, rfl, Same.refl H, fun t ht => absurd ht (Nat.not_lt_zero _)⟩ ?_ ?_⟩
    · rintro i σ H' hi ⟨v2, rfl, s1, hno⟩
      refine ⟨_, rfl, _, rfl, a, L, i, ?_, hL.same s1, G, by omega, fun H1 q s2 ⟨as, hq, pr⟩ => ?_⟩
      · show [V.ref a, V.int (0 + (i : Int))] = _
        rw [Int.zero_add]
      have hl : (as.map V.ref).length = (Hm.rightPlans L i (L.points - 2)).length := by
        rw [List.length_map]
        exact Paired.length pr
      refine ⟨q, _, rfl, .inl (SqL.of hq), _, _, rfl, rfl, _, rfl, ?_⟩
      have e : decide ((0 : Int) < (((as.map V.ref).length : Nat) : Int)) = decide (0 < (Hm.rightPlans L i (L.points - 2)).length) := by
        rw [hl]
        refine decide_eq_decide.mpr ?_
        omega
      dsimp only
      rw [e]
      refine ite2 (fun hc => ?_) (fun hc => ?_)
      · refine ⟨_, rfl, ?_⟩
        have ef : Hm.leastTall L = some i := by
          unfold Hm.leastTall
          refine Hm.find_at (i := i) (List.getElem?_range hi) hc fun j z hj hz => ?_
          rw [List.getElem?_range (by omega)] at hz
          have := Option.some.inj hz
          subst this
          exact hno j hj
        have kk := k H1 (s1.trans s2)
        rw [ef] at kk
        have e0 : (V.int (0 + (i : Int))) = nv i := by rw [Int.zero_add]
        rw [e0]
        exact kk
      · refine ⟨_, rfl, s1.trans s2, fun t ht => ?_⟩
        rcases Nat.lt_or_ge t i with h1 | h1
        · exact hno t h1
        · have et : t = i := by omega
          subst et
          exact Bool.eq_false_iff.mpr hc
    · rintro σ H' ⟨v2, rfl, s1, hno⟩
      have ef : Hm.leastTall L = none := by
        unfold Hm.leastTall
        refine Hm.find_no fun j z hz => ?_
        have hj : j < 5 := by
          have := (List.getElem?_eq_some_iff.mp hz).1
          rw [List.length_range] at this
          exact this
        rw [List.getElem?_range hj] at hz
        have := Option.some.inj hz
        subst this
        exact hno j hj
      have kk := k H' s1
      rw [ef] at kk
      exact kk
/-! ### lowest_terms -/
def mu3 (σ : L2.St) : Nat := match σ[3]? with
  | some (some (V.int y)) => y.toNat
  | _ => 0
def spTerms : Sp := fun vs H Q _ => ∃ m d : Nat, vs = [nv m, nv d] ∧ 0 < d ∧ m < 1000000 ∧ d < 1000000 ∧ ∀ p, H p = none → Q (.ref p) (upd H p (.lst [nv (m / Nat.gcd m d), nv (d / Nat.gcd m d)]))
theorem scTe : FnScope ["above", "below", "divisor", "rest", "remainder"] ["above", "below"] (defScope sTerms) := ⟨rfl, rfl, rfl, by decide +kernel, rfl, by decide +kernel, by decide +kernel⟩
theorem ok_terms {f : Addr} {fd : FuncData} (F : Fun K "lowest_terms" "lowest_terms" sTerms f fd) (T : Txt K mg CL CR) : FnOk P w K mg base CX0 1 f fd ["above", "below"] spTerms := by
  refine F.ok scTe (fun vs H Q E h => ?_) (fun cdv A outer s H vs Q E hr h => ?_)
  · obtain ⟨m, d, rfl, _⟩ := h
    rfl
  · obtain ⟨m, d, rfl, hd, hm, hd2, k⟩ := h
    refine ⟨_, pss_cons (ps_set (i := 2) scTe.nd rfl (Or.inl rfl) (pv 0)) (pss_cons (ps_set (i := 3) scTe.nd rfl (Or.inl rfl) (pv 1))
      (pss_cons (ps_while PassesOwn.never (pt_cmpR op_gt (pv 3) pe_int (nomark _))
        (pss_cons (ps_set (i := 4) scTe.nd rfl (Or.inl rfl) (pe_op op_mod (pv 2) (pv 3))) (pss_cons (ps_set (i := 2) scTe.nd rfl (Or.inl rfl) (pv 3)) (pss_one (ps_set (i := 3) scTe.nd rfl (Or.inl rfl) (pv 4))))))
      (pss_one (ps_ret (pe_lst (pa_cons (pe_op op_fdiv (pv 0) (pv 2)) (pa_cons (pe_op op_fdiv (pv 1) (pv 2)) pa_nil))))))), ?_⟩
    refine ⟨_, rfl, _, rfl, while_by (fun σ H' => H' = H ∧ ∃ (x y : Nat) (v4 : Option V), σ = [some (nv m), some (nv d), some (nv x), some (nv y), v4] ∧ Nat.gcd x y = Nat.gcd m d ∧ x < 1000000 ∧ y < 1000000)
      (fun σ _ => mu3 σ) ⟨rfl, m, d, none, rfl, rfl, hm, hd2⟩ ?_ (fun σ H' Q1 Q2 hq ⟨v, e, i, j, e1, e2, b, e3, q⟩ => ⟨v, e, i, j, e1, e2, b, e3, hq _ _ q⟩)⟩
    rintro σ H' ⟨rfl, x, y, v4, rfl, hg, hx, hy9⟩
    refine ⟨_, rfl, _, _, rfl, rfl, _, rfl, ite2 (fun hc => ?_) (fun hc => ?_)⟩
    · have hy : 0 < y := by
        have := of_decide_eq_true hc
        omega
      refine ⟨_, rfl, _, rfl, _, _, rfl, rfl, by show (0 : Int) < (y : Int); omega, ?_⟩
      have hlt := Nat.mod_lt x hy
      refine ⟨_, rfl, _, rfl, ⟨rfl, y, x % y, some (nv (x % y)), ?_, ?_, hy9, by omega⟩, ?_⟩
      · rfl
      · rw [← hg, Nat.gcd_comm y, ← Nat.gcd_rec, Nat.gcd_comm]
      · show ((x : Int) % (y : Int)).toNat < (y : Int).toNat
        have := Nat.mod_lt x hy
        omega
    · have hy : y = 0 := by
        have : ¬ (0 : Int) < (y : Int) := fun h => hc (decide_eq_true h)
        omega
      subst hy
      rw [Nat.gcd_zero_right] at hg
      subst hg
      have hg0 : 0 < Nat.gcd m d := Nat.gcd_pos_of_pos_right m hd
      refine ⟨_, rfl, _, rfl, _, _, rfl, rfl, ⟨?_, ?_⟩, _, rfl, _, rfl, _, _, rfl, rfl, ⟨?_, ?_⟩, (by show 2 ≤ sizeLine; decide), fun p hp => ?_⟩
      · show (0 : Int) < ((Nat.gcd m d : Nat) : Int)
        omega
      · show ((Nat.gcd m d : Nat) : Int) < 1073741824
        omega
      · show (0 : Int) < ((Nat.gcd m d : Nat) : Int)
        omega
      · show ((Nat.gcd m d : Nat) : Int) < 1073741824
        omega
      · exact k p hp

/-! ### rope_height -/
def mu2 (n : Nat) (σ : L2.St) : Nat := match σ[2]? with
  | some (some (V.int y)) => n - y.toNat
  | _ => 0
def spRopeH : Sp := fun vs H Q _ => ∃ (l : Addr) (x a : Nat) (ps : List (Nat × Nat)) (z : Nat × Nat), vs = [.ref l, nv x] ∧ PsAt H l ps ∧ ps.Pairwise (fun a b => a.1 < b.1) ∧ (∀ z ∈ ps, z.2 < 1000) ∧ 2 ≤ ps.length ∧ ps[0]? = some (0, a) ∧ ps[ps.length - 1]? = some z ∧ x ≤ z.1 ∧
  ∀ (y : (Nat × Nat) × (Nat × Nat)) (t : Addr), ((Uw38.pairs ps).find? fun y => decide (y.1.1 ≤ x) && decide (x ≤ y.2.1)) = some y → y ∈ Uw38.pairs ps → y.1.1 < y.2.1 → H t = none → Q (.ref t) (upd H t (.tup [nv (Uw38.height y.1 y.2 x), nv (y.2.1 - y.1.1)]))
theorem scRH : FnScope ["places", "point", "k"] ["places", "point"] (defScope sRopeH) := ⟨rfl, rfl, rfl, by decide +kernel, rfl, by decide +kernel, by decide +kernel⟩
theorem ok_ropeh {f : Addr} {fd : FuncData} (F : Fun K "rope_height" "rope_height" sRopeH f fd) (T : Txt K mg CL CR) (DH : Dk P w K mg base "height_between" 1 ["before", "behind", "point"] spHei) : FnOk P w K mg base CX0 2 f fd ["places", "point"] spRopeH := by
  obtain ⟨fH, fdH, GH, mH, kH, bH⟩ := DH
  refine F.ok scRH (fun vs H Q E h => ?_) (fun cdv A outer s H vs Q E hr h => ?_)
  · obtain ⟨l, x, a, ps, z, rfl, _⟩ := h
    rfl
  · obtain ⟨l, x, a, ps, z, rfl, hP, inc, bd, hlen, h0, hz, hxz, k⟩ := h
    refine ⟨_, pss_cons (ps_set (i := 2) scRH.nd rfl (Or.inl rfl) pe_int)
      (pss_cons (ps_while PassesOwn.never (pt_cmpR op_lt (pe_ix ix_tup (pe_ix ix_list (pv 0) (pv 2) (fun _ _ => rfl)) pe_int (fun _ _ => rfl)) (pv 1) (nomark _)) (pss_one (ps_set (i := 2) scRH.nd rfl (Or.inl rfl) (pe_op op_add (pv 2) pe_int))))
      (pss_one (ps_ret (pe_call GH hr rfl mH kH bH .nil pass0 (pa_cons (pe_ix ix_list (pv 0) (pe_op op_sub (pv 2) pe_int) (fun _ _ => rfl)) (pa_cons (pe_ix ix_list (pv 0) (pv 2) (fun _ _ => rfl)) (pa_cons (pv 1) pa_nil))))))), ?_⟩
    refine while_by (fun σ H' => H' = H ∧ ∃ j : Nat, σ = [some (.ref l), some (nv x), some (nv (j + 1))] ∧ j + 1 < ps.length ∧ ∀ (i : Nat) z, i < j → ps[i + 1]? = some z → z.1 < x)
      (fun σ _ => mu2 ps.length σ) ⟨rfl, 0, rfl, by omega, fun i z hi => absurd hi (Nat.not_lt_zero _)⟩ ?_ ?_
    · rintro σ H' ⟨rfl, j, rfl, hj, hno⟩
      have e1 : ps[j + 1]? = some ps[j + 1] := List.getElem?_eq_getElem hj
      have e0 : ps[j]? = some ps[j] := List.getElem?_eq_getElem (by omega)
      generalize ps[j + 1] = q at e1
      generalize ps[j] = p at e0
      obtain ⟨as1, c1, hs1, hg1, hc1⟩ := hP.get (K := K) e1
      obtain ⟨as0, c0, hs0, hg0, hc0⟩ := hP.get (K := K) e0
      refine ⟨_, rfl, _, rfl, l, _, _, _, rfl, rfl, hs1, at_of (j := j + 1) rfl hg1, c1, _, _, _, rfl, rfl, sqt hc1, at_of (j := 0) rfl rfl, _, rfl, _, _, rfl, rfl, _, rfl, ite2 (fun hc => ?_) (fun hc => ?_)⟩
      · have hlt : q.1 < x := by
          have := of_decide_eq_true hc
          omega
        have hj2 : j + 2 < ps.length := by
          rcases Nat.lt_or_ge (j + 2) ps.length with h1 | h1
          · exact h1
          · have ej : j + 1 = ps.length - 1 := by omega
            rw [ej, hz] at e1
            have := Option.some.inj e1
            subst this
            omega
        refine ⟨_, rfl, _, _, rfl, rfl, ⟨rfl, j + 1, rfl, hj2, fun i y hi hy => ?_⟩, ?_⟩
        · rcases Nat.lt_or_ge i j with h1 | h1
          · exact hno i y h1 hy
          · have ei : i = j := by omega
            subst ei
            rw [e1] at hy
            have := Option.some.inj hy
            subst this
            exact hlt
        · show ps.length - (((j + 1 : Nat) : Int) + 1).toNat < ps.length - (((j + 1 : Nat) : Int)).toNat
          omega
      · have hle : x ≤ q.1 := by
          have : ¬ (q.1 : Int) < (x : Int) := fun h => hc (decide_eq_true h)
          omega
        have hpq := Hm.pairs_get e0 e1
        obtain ⟨f1, f2⟩ := Hm.rope_pair ps x j (p, q) a h0 hpq hle hno
        refine ⟨_, rfl, _, rfl, _, _, rfl, rfl, l, _, _, _, rfl, rfl, hs0, at_of (j := j) (by omega) hg0, _, rfl, _, rfl, l, _, _, _, rfl, rfl, hs1, at_of (j := j + 1) rfl hg1, _, rfl, c0, c1, p, q, x, rfl, hc0, hc1, f2, hle, bd p (List.mem_of_getElem? e0), bd q (List.mem_of_getElem? e1), fun t ht => ?_⟩
        exact k (p, q) t f1 (List.mem_of_getElem? hpq) (inc_get inc (Nat.lt_succ_self j) e0 e1) ht
    · rintro σ H' Q1 Q2 hq ⟨v, e, v2, e2, l2, xs2, i2, w2, g1, g2, g3, g4, c, xs3, i3, w3, g5, g6, g7, g8, v3, e3, i, j, e4, e5, b, e6, q⟩
      exact ⟨v, e, v2, e2, l2, xs2, i2, w2, g1, g2, g3, g4, c, xs3, i3, w3, g5, g6, g7, g8, v3, e3, i, j, e4, e5, b, e6, hq _ _ q⟩
/-! ### fits_line, ground_as_told -/
def spFits (C : Addr) : Sp := fun vs H Q _ => ∃ (a b : Addr) (L : Line) (p : List Nat), vs = [.ref a, .ref b] ∧ LineAt C H a L ∧ Good L ∧ RowAt H b p ∧ p.length ≤ 1000 ∧ ∀ H' : Hp, Same H H' → Q (.bl (L.told p)) H'
theorem scFi : FnScope ["line", "plan", "height"] ["line", "plan"] (defScope sFits) := ⟨rfl, rfl, rfl, by decide +kernel, rfl, by decide +kernel, by decide +kernel⟩
def BlAt (H : Hp) (b : Addr) (bs : List Bool) : Prop := H b = some (.lst (bs.map V.bl))
theorem ok_fits {f : Addr} {fd : FuncData} (F : Fun K "fits_line" "fits_line" sFits f fd) (T : Txt K mg CL CR) (DL : Dk P w K mg base "last_point" 1 ["line"] (spLast CL)) : FnOk P w K mg base CX0 2 f fd ["line", "plan"] (spFits CL) := by
  obtain ⟨fL, fdL, GL, mL, kL, bL⟩ := DL
  refine F.ok scFi (fun vs H Q E h => ?_) (fun cdv A outer s H vs Q E hr h => ?_)
  · obtain ⟨a, b, L, p, rfl, _⟩ := h
    rfl
  · obtain ⟨a, b, L, p, rfl, hL, G, hb, hlen, k⟩ := h
    refine ⟨_, pss_cons (ps_if (pt_cmpR op_ne (pe_op op_add (pe_callB call_len_seq (by rfl) T.len PySem.boot_len (pa_cons (pv 1) pa_nil)) pe_int) (pe_call GL hr rfl mL kL bL .nil pass0 (pa_cons (pv 0) pa_nil)) (nomark _)) (pss_one (ps_ret pe_bl)) pss_nil)
      (pss_one (ps_ret (pe_callB (cr_all rfl) (by rfl) T.all (by decide +kernel) (pa_cons (pe_lc (own := [("height", 2)]) (g := gName 2) (tt := tYes) (te := tOp (rI0 fun i j => .bl (decide (i ≤ j))) (tVar 2) (tFld K (tVar 0) "tall")) rfl scFi.nd (pi_list (pv 1)) (blkOk_by (own := [("height", 2)]) (N := ["line", "plan", "height"]) (sc := defScope sFits) (by decide +kernel))
        (fun _ _ _ _ _ => pg_name (i := 2) scFi.nd rfl (Or.inl rfl)) (fun _ _ _ _ _ => pts_nil) (fun _ _ _ _ _ => pe_cmpR op_le (pv 2) (pe_fld (pv 0) rfl) (nomark _))) pa_nil)))), ?_⟩
    have big : 1000 < sizeLine := by decide
    have hp2 := G.p2
    refine ⟨_, rfl, b, _, rfl, .inl (SqL.of hb), _, _, rfl, rfl, _, rfl, a, L, rfl, hL, hp2, rfl, _, rfl, ite2 (fun hc => ?_) (fun hc => ?_)⟩
    · have kk := k H (Same.refl H)
      have e : L.told p = false := by
        unfold Uw38.Line.told
        have : ¬ p.length = L.points - 2 := fun h => by
          have h3 : V.int (((p.map nv).length : Int) + 1) = nv (L.points - 1) := by
            rw [List.length_map, h]
            have e : ((L.points - 2 : Nat) : Int) + 1 = ((L.points - 1 : Nat) : Int) := by omega
            rw [e]
          rw [decide_eq_true h3] at hc
          cases hc
        rw [beq_eq_false_iff_ne.mpr this]
        rfl
      rw [e] at kk
      exact kk
    · have hpl : p.length = L.points - 2 := by
        have h3 : V.int (((p.map nv).length : Int) + 1) = nv (L.points - 1) := by
          have h4 : decide (V.int (((p.map nv).length : Int) + 1) = nv (L.points - 1)) = true := by
            cases e : decide (V.int (((p.map nv).length : Int) + 1) = nv (L.points - 1)) with
            | true => rfl
            | false =>
              exact absurd (show (!decide (V.int (((p.map nv).length : Int) + 1) = nv (L.points - 1))) = true by rw [e]; rfl) hc
          exact of_decide_eq_true h4
        have h5 := V.int.inj h3
        rw [List.length_map] at h5
        omega
      refine ⟨_, rfl, b, rfl, ⟨_, SqL.of hb⟩, fun D hD => lc_list (K := K) (a := b) (xs := p.map nv) (fun i H' => Same H H' ∧ BlAt H' D ((p.take i).map fun h => decide (h ≤ L.tall))) ⟨same_new hD, upd_same⟩ (fun i H' _ ⟨s1, _⟩ => SqL.of (s1 _ _ hb)) ?_ ?_⟩
      · rintro i y H' hi ⟨s1, hd⟩
        obtain ⟨z, hz, rfl⟩ := map_get hi
        obtain ⟨g, dx, ha, hg⟩ := hL.same s1
        refine ⟨rfl, _, rfl, _, rfl, a, CL, dx, _, _, rfl, ha, T.cL, T.nt, lf_tall _ _, _, _, rfl, rfl, _, hd, ?_, same_at s1 hD, ?_⟩
        · rw [List.length_map, List.length_map, List.length_take]
          omega
        · unfold BlAt
          rw [upd_same, take_snoc hz, List.map_append, List.map_append]
          have e : decide ((z : Int) ≤ (L.tall : Int)) = decide (z ≤ L.tall) := decide_eq_decide.mpr (by omega)
          dsimp only
          rw [e]
          rfl
      · rintro H' ⟨s1, hd⟩
        rw [List.length_map, List.take_length] at hd
        refine ⟨D, _, rfl, SqL.of hd, ?_⟩
        have kk := k H' s1
        have e : L.told p = (p.map fun h => decide (h ≤ L.tall)).all id := by
          unfold Uw38.Line.told
          rw [beq_iff_eq.mpr hpl, Bool.true_and, List.all_map]
          rfl
        rw [e] at kk
        exact kk
def gOk (g : List Nat) : Bool := decide (2 ≤ g.length) && (decide (g.length ≤ 8) && g.all fun n => decide (n ≤ 9))
def spGround : Sp := fun vs H Q _ => ∃ (b : Addr) (g : List Nat), vs = [.ref b] ∧ RowAt H b g ∧ g.length ≤ 1000 ∧ ∀ H' : Hp, Same H H' → Q (.bl (gOk g)) H'
theorem scGd : FnScope ["ground", "height"] ["ground"] (defScope sGround) := ⟨rfl, rfl, rfl, by decide +kernel, rfl, by decide +kernel, by decide +kernel⟩
theorem ok_ground {f : Addr} {fd : FuncData} (F : Fun K "ground_as_told" "ground_as_told" sGround f fd) (T : Txt K mg CL CR) : FnOk P w K mg base CX0 1 f fd ["ground"] spGround := by
  refine F.ok scGd (fun vs H Q E h => ?_) (fun cdv A outer s H vs Q E hr h => ?_)
  · obtain ⟨b, g, rfl, _⟩ := h
    rfl
  · obtain ⟨b, g, rfl, hb, hlen, k⟩ := h
    refine ⟨_, pss_cons (ps_if (PW.pt (pw_or (pt_cmpR op_lt (pe_callB call_len_seq (by rfl) T.len PySem.boot_len (pa_cons (pv 0) pa_nil)) (pe_cst rfl T.few) (nomark _)) (pw_or1 (pt_cmpR op_gt (pe_callB call_len_seq (by rfl) T.len PySem.boot_len (pa_cons (pv 0) pa_nil)) (pe_cst rfl T.most) (nomark _))))) (pss_one (ps_ret pe_bl)) pss_nil)
      (pss_one (ps_ret (pe_callB (cr_all rfl) (by rfl) T.all (by decide +kernel) (pa_cons (pe_lc (own := [("height", 1)]) (g := gName 1) (tt := tYes) rfl scGd.nd (pi_list (pv 0)) (blkOk_by (own := [("height", 1)]) (N := ["ground", "height"]) (sc := defScope sGround) (by decide +kernel))
        (fun _ _ _ _ _ => pg_name (i := 1) scGd.nd rfl (Or.inl rfl)) (fun _ _ _ _ _ => pts_nil) (fun _ _ _ _ _ => pe_cmpR op_le (pv 1) (pe_cst rfl T.mground) (nomark _))) pa_nil)))), ?_⟩
    have big : 1000 < sizeLine := by decide
    refine ⟨_, rfl, b, _, rfl, .inl (SqL.of hb), _, _, rfl, rfl, _, rfl, ite2 (fun hc => ?_) (fun hc => ?_)⟩
    · have kk := k H (Same.refl H)
      have e : gOk g = false := by
        unfold gOk
        have hShort := of_decide_eq_true hc
        rw [List.length_map] at hShort
        rw [decide_eq_false (p := 2 ≤ g.length) (by omega)]
        rfl
      rw [e] at kk
      exact kk
    · refine ⟨_, rfl, b, _, rfl, .inl (SqL.of hb), _, _, rfl, rfl, _, rfl, ite2 (fun hc2 => ?_) (fun hc2 => ?_)⟩
      · have kk := k H (Same.refl H)
        have e : gOk g = false := by
          unfold gOk
          have h1 := of_decide_eq_true hc2
          rw [List.length_map] at h1
          rw [decide_eq_false (p := g.length ≤ 8) (by omega), Bool.false_and, Bool.and_false]
        rw [e] at kk
        exact kk
      · have h2 : 2 ≤ g.length := by
          have h1 : ¬ (((g.map nv).length : Nat) : Int) < 2 := fun h => hc (decide_eq_true h)
          rw [List.length_map] at h1
          omega
        have h8 : g.length ≤ 8 := by
          have h1 : ¬ (8 : Int) < (((g.map nv).length : Nat) : Int) := fun h => hc2 (decide_eq_true h)
          rw [List.length_map] at h1
          omega
        refine ⟨_, rfl, b, rfl, ⟨_, SqL.of hb⟩, fun D hD => lc_list (K := K) (a := b) (xs := g.map nv) (fun i H' => Same H H' ∧ BlAt H' D ((g.take i).map fun h => decide (h ≤ 9))) ⟨same_new hD, upd_same⟩ (fun i H' _ ⟨s1, _⟩ => SqL.of (s1 _ _ hb)) ?_ ?_⟩
        · rintro i y H' hi ⟨s1, hd⟩
          obtain ⟨z, hz, rfl⟩ := map_get hi
          refine ⟨rfl, _, rfl, _, _, rfl, rfl, _, hd, ?_, same_at s1 hD, ?_⟩
          · rw [List.length_map, List.length_map, List.length_take]
            omega
          · unfold BlAt
            rw [upd_same, take_snoc hz, List.map_append, List.map_append]
            have e : decide ((z : Int) ≤ 9) = decide (z ≤ 9) := decide_eq_decide.mpr (by omega)
            dsimp only
            rw [e]
            rfl
        · rintro H' ⟨s1, hd⟩
          rw [List.length_map, List.take_length] at hd
          refine ⟨D, _, rfl, SqL.of hd, ?_⟩
          have kk := k H' s1
          have e : gOk g = (g.map fun h => decide (h ≤ 9)).all id := by
            unfold gOk
            rw [decide_eq_true h2, decide_eq_true h8, Bool.true_and, Bool.true_and, List.all_map]
            rfl
          rw [e] at kk
          exact kk
end
end Hd

end
section
set_option maxRecDepth 100000
set_option maxHeartbeats 2000000
/-! The defs of the program: tallest, best. -/
namespace Hd
open PySem PySem.Spec PyProof.Rows L2 Hr
open Uw38 (Line)
/-! ### what is answered -/
theorem ans_tallest (L : Line) (h : 2 ≤ L.points) : (Hm.ans L .tallest).map V.int = [tV (Hm.leastTall L)] := by
  have e : Hm.ans L .tallest = Uw38Neutral.out (match L.tallest with | none => Uw38.ok (-6) | some t => Uw38.ok (t : Nat)) := rfl
  rw [e, Hm.tallest_eq L h]
  cases Hm.leastTall L <;> rfl
section
variable {P : Program} {w : World} {K : PySem.W.Frag} {mg : Str → Option Value} {base : Heap} {CL CR : Addr}
def spTall (C : Addr) : Sp := fun vs H Q _ => ∃ (a : Addr) (L : Line), vs = [.ref a] ∧ LineAt C H a L ∧ Good L ∧ ∀ (H' : Hp) (q : Addr), Same H H' → H q = none → H' q = some (.lst ((Hm.ans L .tallest).map V.int)) → (Hm.ans L .tallest).length ≤ 20 → Q (.ref q) H'
theorem scTa : FnScope ["line"] ["line"] (defScope sTall) := ⟨rfl, rfl, rfl, by decide +kernel, rfl, by decide +kernel, by decide +kernel⟩
theorem ok_tall {f : Addr} {fd : FuncData} (F : Fun K "answer_tallest" "answer_tallest" sTall f fd) (T : Txt K mg CL CR) (DT : Dk P w K mg base "least_tall" 7 ["line", "most"] (spLeast CL)) : FnOk P w K mg base CX0 8 f fd ["line"] (spTall CL) := by
  obtain ⟨fT, fdT, GT, mT, kT, bT⟩ := DT
  refine F.ok scTa (fun vs H Q E h => ?_) (fun cdv A outer s H vs Q E hr h => ?_)
  · obtain ⟨a, L, rfl, _⟩ := h
    rfl
  · obtain ⟨a, L, rfl, hL, G, k⟩ := h
    refine ⟨_, pss_one (ps_ret (pe_lst (pa_cons (pe_call GT hr rfl mT kT bT .nil pass0 (pa_cons (pv 0) (pa_cons (pe_cst rfl T.mtall) pa_nil))) pa_nil))), ?_⟩
    refine ⟨_, rfl, a, L, rfl, hL, G, fun H1 s1 => ⟨(by show 1 ≤ sizeLine; decide), fun q hq => ?_⟩⟩
    refine k _ q (s1.trans (same_new hq)) (s1.free hq) ?_ ?_
    · rw [upd_same, ans_tallest L G.p2]
    · have e := congrArg List.length (ans_tallest L G.p2)
      rw [List.length_map] at e
      rw [e]
      show 1 ≤ 20
      decide
/-! ### best -/
def ms (L : Line) (plans : List (List Nat)) : List (Int × Int) := plans.map fun p => ((L.cost p : Int), (Uw38.supports p : Int))
theorem ms_get {L : Line} {plans : List (List Nat)} {i : Nat} {z : Int × Int} (h : (ms L plans)[i]? = some z) : ∃ p, plans[i]? = some p ∧ z = ((L.cost p : Int), (Uw38.supports p : Int)) := by
  unfold ms at h
  rw [List.getElem?_map] at h
  cases e : plans[i]? with
  | none =>
    rw [e] at h
    cases h
  | some p =>
    rw [e] at h
    exact ⟨p, rfl, (Option.some.inj h).symm⟩
theorem first_of {α : Type} [BEq α] [LawfulBEq α] : ∀ {l : List α} {x : α}, x ∈ l → ∃ j : Nat, l[j]? = some x ∧ ∀ (i : Nat) (y : α), i < j → l[i]? = some y → y ≠ x
  | [], x, h => by cases h
  | a :: l, x, h => by
    cases e : (a == x) with
    | true => exact ⟨0, by rw [eq_of_beq e]; rfl, fun i y hi => absurd hi (Nat.not_lt_zero _)⟩
    | false =>
      have hx : x ∈ l := by
        rcases List.mem_cons.mp h with hz | hz
        · subst hz
          rw [beq_self_eq_true] at e
          cases e
        · exact hz
      obtain ⟨j, h1, h2⟩ := first_of hx
      refine ⟨j + 1, h1, fun i y hi hy => ?_⟩
      cases i with
      | zero =>
        have ea : a = y := Option.some.inj hy
        subst ea
        intro z
        subst z
        rw [beq_self_eq_true] at e
        cases e
      | succ i => exact h2 i y (by omega) hy
theorem ms_count (L : Line) (p : List Nat) : ∀ plans : List (List Nat), (ms L plans).countP (fun z => z == ((L.cost p : Int), (Uw38.supports p : Int))) = (plans.map (Hm.meas L)).count (Hm.meas L p)
  | [] => rfl
  | q :: plans => by
    have ih := ms_count L p plans
    show (((L.cost q : Int), (Uw38.supports q : Int)) :: ms L plans).countP _ = (Hm.meas L q :: plans.map (Hm.meas L)).count _
    rw [List.countP_cons, ih, List.count_cons]
    congr 1
    have e : ((((L.cost q : Int), (Uw38.supports q : Int)) : Int × Int) == ((L.cost p : Int), (Uw38.supports p : Int))) = (Hm.meas L q == Hm.meas L p) := by
      unfold Hm.meas
      rw [Bool.eq_iff_iff, beq_iff_eq (α := Int × Int), beq_iff_eq (α := Nat × Nat)]
      constructor
      · intro h
        have h1 := congrArg Prod.fst h
        have h2 := congrArg Prod.snd h
        exact Prod.ext (by have h1' : (L.cost q : Int) = (L.cost p : Int) := h1; show L.cost q = L.cost p; omega) (by have h2' : (Uw38.supports q : Int) = (Uw38.supports p : Int) := h2; show Uw38.supports q = Uw38.supports p; omega)
      · intro h
        have h1 : L.cost q = L.cost p := congrArg Prod.fst h
        have h2 : Uw38.supports q = Uw38.supports p := congrArg Prod.snd h
        rw [h1, h2]
    rw [e]
theorem ans_best_none (L : Line) (h : 2 ≤ L.points) (e : Hm.rightPlans L L.tall (L.points - 2) = []) : Hm.ans L .best = [-6] := by
  have e1 : Hm.ans L .best = Uw38Neutral.out (match L.best with | none => Uw38.ok (-6) | some b => ⟨(b.cost : Nat), b.supports :: b.many :: b.plan⟩) := rfl
  rw [e1, Hm.best_eq L h, e]
  rfl
theorem ans_best_some (L : Line) (h : 2 ≤ L.points) (j : Nat) (p : List Nat) (hj : (Hm.rightPlans L L.tall (L.points - 2))[j]? = some p)
    (hmin : ∀ z ∈ ms L (Hm.rightPlans L L.tall (L.points - 2)), less2 z ((L.cost p : Int), (Uw38.supports p : Int)) = false)
    (hf : ∀ (i : Nat) z, i < j → (ms L (Hm.rightPlans L L.tall (L.points - 2)))[i]? = some z → z ≠ ((L.cost p : Int), (Uw38.supports p : Int))) :
    (Hm.ans L .best).map V.int = [nv (L.cost p), nv (Uw38.supports p), nv (((Hm.rightPlans L L.tall (L.points - 2)).map (Hm.meas L)).count (Hm.meas L p))] ++ p.map nv := by
  have e1 : Hm.ans L .best = Uw38Neutral.out (match L.best with | none => Uw38.ok (-6) | some b => ⟨(b.cost : Nat), b.supports :: b.many :: b.plan⟩) := rfl
  have e2 := Hm.best_at L (Hm.rightPlans L L.tall (L.points - 2)) j p hj (fun q hq => ?_) (fun i q hi hq => ?_)
  · rw [e1, Hm.best_eq L h, e2]
    show V.int (L.cost p : Int) :: V.int (Uw38.supports p : Int) :: V.int _ :: (p.map fun (n : Nat) => (n : Int)).map V.int = _
    rw [← map_nv]
    rfl
  · have h1 := hmin ((L.cost q : Int), (Uw38.supports q : Int)) (List.mem_map.mpr ⟨q, hq, rfl⟩)
    have h2 := (less2_no _ _).mp h1
    unfold Hm.less Hm.meas
    refine decide_eq_false fun h3 => h2 ?_
    show (L.cost q : Int) < (L.cost p : Int) ∨ ((L.cost q : Int) = (L.cost p : Int) ∧ (Uw38.supports q : Int) < (Uw38.supports p : Int))
    have h4 : L.cost q < L.cost p ∨ (L.cost q = L.cost p ∧ Uw38.supports q < Uw38.supports p) := h3
    omega
  · intro he
    refine hf i ((L.cost q : Int), (Uw38.supports q : Int)) hi (by unfold ms; rw [List.getElem?_map, hq]; rfl) ?_
    have h1 : L.cost q = L.cost p := congrArg Prod.fst he
    have h2 : Uw38.supports q = Uw38.supports p := congrArg Prod.snd he
    rw [h1, h2]
def spBest (C : Addr) : Sp := fun vs H Q _ => ∃ (a : Addr) (L : Line), vs = [.ref a] ∧ LineAt C H a L ∧ Good L ∧ ∀ (H' : Hp) (q : Addr), Same H H' → H q = none → H' q = some (.lst ((Hm.ans L .best).map V.int)) → (Hm.ans L .best).length ≤ 20 → Q (.ref q) H'
theorem scBe : FnScope ["line", "plans", "measures", "least", "plan"] ["line"] (defScope sBest) := ⟨rfl, rfl, rfl, by decide +kernel, rfl, by decide +kernel, by decide +kernel⟩
/-- the list at l holds the measures -/
def MsAt (K : PySem.W.Frag) (H : Hp) (l : Addr) (zs : List (Int × Int)) : Prop := ∃ as : List Addr, H l = some (.lst (as.map V.ref)) ∧ Paired (fun b (z : Int × Int) => H b = some (.tup [.int z.1, .int z.2])) as zs
theorem ok_best {f : Addr} {fd : FuncData} (F : Fun K "answer_best" "answer_best" sBest f fd) (T : Txt K mg CL CR) (DP : Dk P w K mg base "right_plans" 6 ["line", "tall"] (spPlans CL)) (DC : Dk P w K mg base "cost_and_supports" 1 ["line", "plan"] (spCost CL)) : FnOk P w K mg base CX0 7 f fd ["line"] (spBest CL) := by
  obtain ⟨fP, fdP, GP, mP, kP, bP⟩ := DP
  obtain ⟨fC, fdC, GC, mC, kC, bC⟩ := DC
  refine F.ok scBe (fun vs H Q E h => ?_) (fun cdv A outer s H vs Q E hr h => ?_)
  · obtain ⟨a, L, rfl, _⟩ := h
    rfl
  · obtain ⟨a, L, rfl, hL, G, k⟩ := h
    have hr1 := hr.mono (show 1 ≤ 6 by decide)
    have hu : (A.deeper (envOfC (Str.ofString "answer_best") (defScope sBest) s.heap.objs.size f cdv)).units + 65 < cLine := by
      have := hr.un
      omega
    refine ⟨_, pss_cons (ps_set (i := 1) scBe.nd rfl (Or.inl rfl) (pe_call GP hr rfl mP kP bP .nil pass0 (pa_cons (pv 0) (pa_cons (pe_fld (pv 0) rfl) pa_nil))))
      (pss_cons (ps_if (pt_cmpR op_eq (pe_callB call_len_seq (by rfl) T.len PySem.boot_len (pa_cons (pv 1) pa_nil)) pe_int (nomark _)) (pss_one (ps_ret (pe_lst (pa_cons (pe_cst rfl T.noright) pa_nil)))) pss_nil)
      (pss_cons (ps_setLc (i := 2) (own := [("plan", 4)]) (g := gName 4) (by rfl) scBe.nd rfl rfl (sw_true rfl rfl rfl (by decide +kernel)) (pi_list (pv 1)) (blkOk_by (own := [("plan", 4)]) (N := ["line", "plans", "measures", "least", "plan"]) (sc := defScope sBest) (by decide +kernel))
        (fun _ _ _ _ _ => pg_name (i := 4) scBe.nd rfl (Or.inl rfl)) (fun _ _ _ _ _ => pts_nil) (fun _ _ _ _ _ => pe_call GC hr1 rfl mC kC bC .nil pass0 (pa_cons (pv 0) (pa_cons (pv 4) pa_nil))))
      (pss_cons (ps_set (i := 3) scBe.nd rfl (Or.inl rfl) (pe_callB (cr_minP rfl hu) (by rfl) T.min (by decide +kernel) (pa_cons (pv 2) pa_nil)))
      (pss_one (ps_ret (pe_op op_cat (pe_lst (pa_cons (pe_ix ix_tup (pv 3) pe_int (fun _ _ => rfl)) (pa_cons (pe_ix ix_tup (pv 3) pe_int (fun _ _ => rfl)) (pa_cons (pe_bm PySem.F.plainAttrs_list PySem.F.slot_list_count PySem.F.type_list_count (mt_countD hu) (pv 2) (pa_cons (pv 3) pa_nil)) pa_nil))))
        (pe_ix ix_list (pv 1) (pe_bm PySem.F.plainAttrs_list PySem.F.slot_list_index PySem.F.type_list_index (mt_indexD hu) (pv 2) (pa_cons (pv 3) pa_nil)) (fun _ _ => rfl)))))))), ?_⟩
    have hp2 := G.p2
    have hp8 := G.p8
    have hLk := hL
    obtain ⟨g, dx, ha, hg⟩ := hL
    refine ⟨_, rfl, _, rfl, a, CL, dx, _, _, rfl, ha, T.cL, T.nt, lf_tall _ _, a, L, L.tall, rfl, hLk, G, G.t4, fun H1 q1 s1 pl => ?_⟩
    obtain ⟨as, hq1, pr⟩ := pl
    have hlen : as.length = (Hm.rightPlans L L.tall (L.points - 2)).length := Paired.length pr
    have hmx := plans_len G G.t4 (show L.points - 2 + 2 ≤ L.points by omega)
    have hmem := plans_mem G G.t4 (show L.points - 2 + 2 ≤ L.points by omega)
    have big : 20000 < sizeLine := by decide
    refine ⟨_, rfl, q1, _, rfl, .inl (SqL.of hq1), rfl, _, rfl, ite2 (fun hc => ?_) (fun hc => ?_)⟩
    · refine ⟨(by show 1 ≤ sizeLine; decide), fun q hq => ?_⟩
      have h0 : Hm.rightPlans L L.tall (L.points - 2) = [] := by
        have h1 := V.int.inj (of_decide_eq_true hc)
        rw [List.length_map] at h1
        exact List.eq_nil_of_length_eq_zero (by omega)
      have e := ans_best_none L hp2 h0
      refine k _ q (s1.trans (same_new hq)) (s1.free hq) ?_ ?_
      · rw [upd_same, e]
        rfl
      · rw [e]
        show 1 ≤ 20
        decide
    · have hne : 0 < as.length := by
        rcases Nat.eq_zero_or_pos as.length with h1 | h1
        · exact absurd (decide_eq_true (show V.int (((as.map V.ref).length : Nat) : Int) = V.int 0 by rw [List.length_map, h1]; rfl)) hc
        · exact h1
      generalize hpn : Hm.rightPlans L L.tall (L.points - 2) = plans at *
      refine ⟨_, rfl, q1, rfl, ⟨_, SqL.of hq1⟩, fun D hD => lc_list (K := K) (a := q1) (xs := as.map V.ref) (fun i H' => Same H1 H' ∧ MsAt K H' D (ms L (plans.take i))) ⟨same_new hD, [], upd_same, .nil⟩ (fun i H' _ ⟨s2, _⟩ => SqL.of (s2 _ _ hq1)) ?_ ?_⟩
      · rintro i y H' hi ⟨s2, bs, hd, prb⟩
        obtain ⟨c, hcc, rfl⟩ := map_get hi
        obtain ⟨p, hp, hcp⟩ := Hr.paired_get pr hcc
        obtain ⟨pn, p4⟩ := hmem p (List.mem_of_getElem? hp)
        refine ⟨rfl, _, rfl, _, rfl, a, c, L, p, rfl, (hLk.same s1).same s2, G, s2 _ _ hcp, by omega, fun H2 t s3 ht => ⟨_, s3 _ _ hd, ?_, same_at (s2.trans s3) hD, ?_⟩⟩
        · rw [List.length_map, Paired.length prb]
          unfold ms
          rw [List.length_map, List.length_take]
          omega
        · have kp : ∀ b (z : Int × Int), H' b = some (.tup [.int z.1, .int z.2]) → upd H2 D (.lst (bs.map V.ref ++ [.ref t])) b = some (.tup [.int z.1, .int z.2]) := fun b z hb => by
            rw [upd_ne (ne_of hb hd (by intro q; cases q))]
            exact s3 _ _ hb
          refine ⟨bs ++ [t], by rw [upd_same, List.map_append]; rfl, ?_⟩
          have em : ms L (plans.take (i + 1)) = ms L (plans.take i) ++ [((L.cost p : Int), (Uw38.supports p : Int))] := by
            unfold ms
            rw [take_snoc hp, List.map_append]
            rfl
          rw [em]
          refine paired_snoc (F := fun b (z : Int × Int) => upd H2 D (.lst (bs.map V.ref ++ [.ref t])) b = some (.tup [.int z.1, .int z.2])) ?_ (paired_map kp prb)
          show upd H2 D (.lst (bs.map V.ref ++ [.ref t])) t = _
          rw [upd_ne (ne_of ht (s3 _ _ hd) (by intro q; cases q))]
          exact ht
      · rintro H3 ⟨s2, bs, hd, prb⟩
        rw [List.length_map, hlen, List.take_length] at prb
        have prP : Paired (PrAt K H3) bs (ms L plans) := paired_map (fun b z h => SqT.of h) prb
        refine ⟨_, rfl, D, bs, ms L plans, rfl, SqL.of hd, prP, by unfold ms; rw [List.length_map]; omega, fun j b z hb hz hmin => ?_⟩
        obtain ⟨j0, hj0, hfirst⟩ := first_of (List.mem_of_getElem? hz)
        obtain ⟨p0, hp0, ez⟩ := ms_get hj0
        subst ez
        have hbz : H3 b = some (.tup [nv (L.cost p0), nv (Uw38.supports p0)]) := by
          obtain ⟨b', hb', hbb⟩ := Hr.paired_get2 prb hz
          rw [hb] at hb'
          have := Option.some.inj hb'
          subst this
          exact hbb
        refine ⟨_, rfl, b, _, _, _, rfl, rfl, SqT.of hbz, at_of (j := 0) rfl rfl, _, rfl, b, _, _, _, rfl, rfl, SqT.of hbz, at_of (j := 1) rfl rfl, _, rfl, .inl ⟨rfl, _, SqL.of hd⟩, _, rfl, D, .ref b, pD ((L.cost p0 : Int), (Uw38.supports p0 : Int)), (ms L plans).map pD, rfl, rfl, .lst (SqL.of hd) (dp_all prP), dp_one (SqT.of hbz), pDs_shaped _, pD_shaped _, (by show 3 ≤ sizeLine; decide), fun e he => ?_⟩
        have s4 := same_new (o := .lst [nv (L.cost p0), nv (Uw38.supports p0), .int ((((ms L plans).map pD).countP fun z => PyData.eqv z (pD ((L.cost p0 : Int), (Uw38.supports p0 : Int))) : Nat) : Int)]) he
        have prP4 : Paired (PrAt K _) bs (ms L plans) := paired_map (fun b z h => SqT.of (s4 _ _ h)) prb
        have eqv0 : ∀ z : Int × Int, PyData.eqv (pD z) (pD ((L.cost p0 : Int), (Uw38.supports p0 : Int))) = (z == ((L.cost p0 : Int), (Uw38.supports p0 : Int))) := fun z => pD_eqv _ _
        obtain ⟨c0, hc0, hcr⟩ := Hr.paired_get2 pr hp0
        obtain ⟨pn, p4⟩ := hmem p0 (List.mem_of_getElem? hp0)
        refine ⟨_, rfl, _, rfl, .inl ⟨rfl, _, SqL.of (s4 _ _ hd)⟩, _, rfl, D, .ref b, pD ((L.cost p0 : Int), (Uw38.supports p0 : Int)), (ms L plans).map pD, j0, pD ((L.cost p0 : Int), (Uw38.supports p0 : Int)), rfl, rfl, .lst (SqL.of (s4 _ _ hd)) (dp_all prP4), dp_one (SqT.of (s4 _ _ hbz)), pDs_shaped _, pD_shaped _, ?_, ?_, ?_, ?_⟩
        · rw [List.getElem?_map, hj0]
          rfl
        · rw [eqv0]
          exact beq_self_eq_true _
        · intro m z' hm hz'
          rw [List.getElem?_map] at hz'
          cases ew : (ms L plans)[m]? with
          | none =>
            rw [ew] at hz'
            cases hz'
          | some z2 =>
            rw [ew] at hz'
            have e2 : pD z2 = z' := Option.some.inj hz'
            rw [← e2, eqv0]
            exact beq_eq_false_iff_ne.mpr (hfirst m z2 hm ew)
        · refine ⟨q1, _, _, .ref c0, rfl, rfl, SqL.of (s4 _ _ (s2 _ _ hq1)), at_of (j := j0) rfl (by rw [List.getElem?_map, hc0]; rfl), e, c0, _, _, rfl, rfl, upd_same, s4 _ _ (s2 _ _ hcr), ?_, fun q hq => ?_⟩
          · rw [List.length_map]
            show 3 + p0.length ≤ sizeLine
            omega
          · have sm := ((s1.trans s2).trans s4)
            have ea := ans_best_some L hp2 j0 p0 (by rw [hpn]; exact hp0) (by rw [hpn]; exact hmin) (by rw [hpn]; exact hfirst)
            rw [hpn] at ea
            refine k _ q (sm.trans (same_new hq)) (sm.free hq) ?_ ?_
            · rw [upd_same, ea, ← ms_count]
              have ec : ((ms L plans).map pD).countP (fun z => PyData.eqv z (pD ((L.cost p0 : Int), (Uw38.supports p0 : Int)))) = (ms L plans).countP (fun z => z == ((L.cost p0 : Int), (Uw38.supports p0 : Int))) := by
                rw [List.countP_map]
                congr 1
                funext z
                exact eqv0 z
              rw [ec]
            · have el := congrArg List.length ea
              rw [List.length_map, List.length_append, List.length_map] at el
              rw [el]
              show 3 + p0.length ≤ 20
              omega
end
end Hd

end
section
set_option maxRecDepth 100000
set_option maxHeartbeats 2000000
/-! The defs of the program: begins, check, rope, a call, all calls. -/
namespace Hd
open PySem PySem.Spec PyProof.Rows L2 Hr
open Uw38 (Line)
/-! ### heaps -/
/-- what is no ground of the line at a is not to be one -/
def Apart (CL : Addr) (H : Hp) (a g' : Addr) : Prop := ∀ x o, H x = some o → (∀ dx L0 g0, H a = some (.ins CL dx (lfs L0 g0)) → x ≠ g0) → x ≠ g'
def LineAp (CL : Addr) (H H' : Hp) (a : Addr) (L : Line) : Prop := ∃ g', LineG CL H' a g' L ∧ Apart CL H a g'
def Post (CL CR : Addr) (H : Hp) (a r m : Addr) (L : Line) (n : Nat) (out : List Int) (Q : VK) : Prop := ∀ (H' : Hp) (q : Addr), LineAp CL H H' a L → RdAt CR H' r m n → (∀ b o, H b = some o → b ≠ a → b ≠ r → H' b = some o) →
  H q = none → H' q = some (.lst (out.map V.int)) → out.length ≤ 20 → Q (.ref q) H'
theorem But.trans {H H1 H2 : Hp} {r : Addr} (k1 : But H H1 r) (k2 : But H1 H2 r) : But H H2 r := fun b o e hb => k2 b o (k1 b o e hb) hb
theorem But.same {H H1 H2 : Hp} {r : Addr} (k1 : But H H1 r) (s : Same H1 H2) : But H H2 r := fun b o e hb => s b o (k1 b o e hb)
theorem But.free {H H1 : Hp} {r q : Addr} {o : HO} (k : But H H1 r) (hr : H1 r = some o) (hq : H1 q = none) : H q = none := by
  cases e : H q with
  | none => rfl
  | some u =>
    have := k q u e (fun z => by rw [z, hr] at hq; cases hq)
    rw [this] at hq
    cases hq
theorem line_ne_rd {CL CR : Addr} {H : Hp} {a g r m dx dr : Addr} {L : Line} {n : Nat} (ha : H a = some (.ins CL dx (lfs L g))) (hr : H r = some (.ins CR dr (rfs m n))) : a ≠ r := ne_of ha hr (by
  intro q
  injection q with _ _ q3
  have q4 : (5 : Nat) = 2 := congrArg List.length q3
  exact absurd q4 (by decide))
theorem LineAt.but {CL CR : Addr} {H H' : Hp} {a r m : Addr} {L : Line} {n : Nat} (h : LineAt CL H a L) (hr : RdAt CR H r m n) (k : But H H' r) : LineAt CL H' a L := by
  obtain ⟨g, dx, h1, h2⟩ := h
  obtain ⟨dr, h3⟩ := hr
  exact ⟨g, dx, k _ _ h1 (line_ne_rd h1 h3), k _ _ h2 (ne_of h2 h3 (by intro q; cases q))⟩
theorem LineAt.ap {CL CR : Addr} {H H' : Hp} {a r m : Addr} {L : Line} {n : Nat} (h : LineAt CL H a L) (hr : RdAt CR H r m n) (k : But H H' r) : LineAp CL H H' a L := by
  obtain ⟨g, dx, h1, h2⟩ := h
  obtain ⟨dr, h3⟩ := hr
  exact ⟨g, ⟨dx, k _ _ h1 (line_ne_rd h1 h3), k _ _ h2 (ne_of h2 h3 (by intro q; cases q))⟩, fun x o e hx => hx dx L g h1⟩
theorem RdAt.same {C : Addr} {H H' : Hp} {r m : Addr} {n : Nat} (h : RdAt C H r m n) (s : Same H H') : RdAt C H' r m n := by
  obtain ⟨dx, h1⟩ := h
  exact ⟨dx, s _ _ h1⟩
theorem RdAt.seq {K : PySem.W.Frag} {C : Addr} {H H' : Hp} {r m b : Addr} {n : Nat} {xs : List V} (h : RdAt C H r m n) (k : But H H' r) (hs : SqL K H b xs) : SqL K H' b xs := by
  obtain ⟨dx, h1⟩ := h
  exact k.seq h1 hs
theorem row_of {ns : List Int} {n : Nat} {p : List Nat} {H : Hp} {q : Addr} (h : Hm.RowIn ns n p) (hq : H q = some (.lst (((ns.drop (n + 1)).take p.length).map V.int))) : RowAt H q p := by
  unfold RowAt
  rw [hq, h.2.2.1, map_nv]
section
variable {P : Program} {w : World} {K : PySem.W.Frag} {mg : Str → Option Value} {base : Heap} {CL CR : Addr}
/-! ### begins -/
theorem step_no {L : Line} {c t b u : Nat} {g : List Nat} (h : 4 < c ∨ 4 < t ∨ 100 < b ∨ 100 < u ∨ gOk g = false) : Uw38.step L (.begins c t b u g) = (L, Uw38.ok (-1)) := by
  show (if Uw38.CLEAR < c ∨ Uw38.TALL < t ∨ Uw38.PRICE < b ∨ Uw38.PRICE < u ∨ g.length < 2 ∨ Uw38.POINTS < g.length ∨ (g.all fun n => decide (n ≤ Uw38.HIGH)) = false then (L, Uw38.ok (-1)) else (⟨g, c, t, b, u⟩, Uw38.ok 0)) = _
  refine if_pos ?_
  rcases h with h | h | h | h | h
  · exact .inl h
  · exact .inr (.inl h)
  · exact .inr (.inr (.inl h))
  · exact .inr (.inr (.inr (.inl h)))
  · refine .inr (.inr (.inr (.inr ?_)))
    unfold gOk at h
    by_cases h1 : g.length < 2
    · exact .inl h1
    · by_cases h2 : 8 < g.length
      · exact .inr (.inl h2)
      · refine .inr (.inr ?_)
        rw [decide_eq_true (show 2 ≤ g.length by omega), decide_eq_true (show g.length ≤ 8 by omega), Bool.true_and, Bool.true_and] at h
        exact h
theorem step_yes {L : Line} {c t b u : Nat} {g : List Nat} (h1 : c ≤ 4) (h2 : t ≤ 4) (h3 : b ≤ 100) (h4 : u ≤ 100) (h5 : gOk g = true) : Uw38.step L (.begins c t b u g) = (⟨g, c, t, b, u⟩, Uw38.ok 0) ∧ Good ⟨g, c, t, b, u⟩ := by
  unfold gOk at h5
  rw [Bool.and_eq_true, Bool.and_eq_true] at h5
  have g2 := of_decide_eq_true h5.1
  have g8 := of_decide_eq_true h5.2.1
  have ga := h5.2.2
  refine ⟨?_, g2, g8, fun x hx => of_decide_eq_true (List.all_eq_true.mp ga x hx), h1, h2, h3, h4⟩
  show (if Uw38.CLEAR < c ∨ Uw38.TALL < t ∨ Uw38.PRICE < b ∨ Uw38.PRICE < u ∨ g.length < 2 ∨ Uw38.POINTS < g.length ∨ (g.all fun n => decide (n ≤ Uw38.HIGH)) = false then (L, Uw38.ok (-1)) else (⟨g, c, t, b, u⟩, Uw38.ok 0)) = _
  refine if_neg ?_
  have e1 : Uw38.CLEAR = 4 := rfl
  have e2 : Uw38.TALL = 4 := rfl
  have e3 : Uw38.PRICE = 100 := rfl
  have e4 : Uw38.POINTS = 8 := rfl
  have ga2 : (g.all fun n => decide (n ≤ Uw38.HIGH)) = true := ga
  rw [ga2, e1, e2, e3, e4]
  intro h
  rcases h with h | h | h | h | h | h | h
  · omega
  · omega
  · omega
  · omega
  · omega
  · omega
  · cases h
def spBegins (K : PySem.W.Frag) (CL CR : Addr) : Sp := fun vs H Q _ => ∃ (a r m : Addr) (L : Line) (n : Nat) (ns : List Int) (c t b u : Nat) (g : List Nat), vs = [.ref a, .ref r] ∧ LineAt CL H a L ∧ RdAt CR H r m n ∧ SqL K H m (ns.map V.int) ∧
  ns[n]? = some (c : Int) ∧ ns[n + 1]? = some (t : Int) ∧ ns[n + 2]? = some (b : Int) ∧ ns[n + 3]? = some (u : Int) ∧ Hm.RowIn ns (n + 4) g ∧ Post CL CR H a r m (Uw38.step L (.begins c t b u g)).1 (n + 5 + g.length) (Hm.ans L (.begins c t b u g)) Q
theorem scBg : FnScope ["line", "reader", "clearance", "tall", "each", "unit", "ground"] ["line", "reader"] (defScope sBegins) := ⟨rfl, rfl, rfl, by decide +kernel, rfl, by decide +kernel, by decide +kernel⟩
theorem ok_begins {f : Addr} {fd : FuncData} (F : Fun K "answer_begins" "answer_begins" sBegins f fd) (T : Txt K mg CL CR) (DN : Mtd P w K mg base CR "number" 1 ["self"] (spNum K CR)) (DR : Mtd P w K mg base CR "row" 2 ["self"] (spRow K CR))
    (DG : Dk P w K mg base "ground_as_told" 1 ["ground"] spGround) : FnOk P w K mg base CX0 3 f fd ["line", "reader"] (spBegins K CL CR) := by
  obtain ⟨fN, fdN, GN, mN, bN⟩ := DN
  obtain ⟨fR, fdR, GR, mR, bR⟩ := DR
  obtain ⟨fG, fdG, GG, mG, kG, bG⟩ := DG
  refine F.ok scBg (fun vs H Q E h => ?_) (fun cdv A outer s H vs Q E hr h => ?_)
  · obtain ⟨a, r, m, L, n, ns, c, t, b, u, g, rfl, _⟩ := h
    rfl
  · obtain ⟨a, r, m, L, n, ns, c, t, b, u, g, rfl, hL, ⟨d0, hR⟩, hS, z0, z1, z2, z3, zg, k⟩ := h
    have hr1 := hr.mono (show 1 ≤ 2 by decide)
    refine ⟨_, pss_cons (ps_set (i := 2) scBg.nd rfl (Or.inl rfl) (pe_meth0 (pv 1) T.cR mN GN hr1 bN .nil pass0)) (pss_cons (ps_set (i := 3) scBg.nd rfl (Or.inl rfl) (pe_meth0 (pv 1) T.cR mN GN hr1 bN .nil pass0))
      (pss_cons (ps_set (i := 4) scBg.nd rfl (Or.inl rfl) (pe_meth0 (pv 1) T.cR mN GN hr1 bN .nil pass0)) (pss_cons (ps_set (i := 5) scBg.nd rfl (Or.inl rfl) (pe_meth0 (pv 1) T.cR mN GN hr1 bN .nil pass0))
      (pss_cons (ps_set (i := 6) scBg.nd rfl (Or.inl rfl) (pe_meth0 (pv 1) T.cR mR GR hr bR .nil pass0))
      (pss_cons (ps_if (PW.pt (pw_or (pt_cmpR op_gt (pv 2) (pe_cst rfl T.mclear) (nomark _)) (pw_or (pt_cmpR op_gt (pv 3) (pe_cst rfl T.mtall) (nomark _)) (pw_or (pt_cmpR op_gt (pv 4) (pe_cst rfl T.mcost) (nomark _)) (pw_or1 (pt_cmpR op_gt (pv 5) (pe_cst rfl T.mcost) (nomark _)))))))
        (pss_one (ps_ret (pe_lst (pa_cons (pe_cst rfl T.not) pa_nil)))) pss_nil)
      (pss_cons (ps_if (pt_not (pt_val (pe_call GG hr1 rfl mG kG bG .nil pass0 (pa_cons (pv 6) pa_nil)))) (pss_one (ps_ret (pe_lst (pa_cons (pe_cst rfl T.not) pa_nil)))) pss_nil)
      (pss_cons (ps_fld (pv 0) (pv 2) rfl) (pss_cons (ps_fld (pv 0) (pv 3) rfl) (pss_cons (ps_fld (pv 0) (pv 4) rfl) (pss_cons (ps_fld (pv 0) (pv 5) rfl) (pss_cons (ps_fld (pv 0) (pv 6) rfl)
      (pss_one (ps_ret (pe_lst (pa_cons pe_int pa_nil))))))))))))))), ?_⟩
    refine ⟨_, rfl, r, d0, _, rfl, hR, rf_number _ _, r, m, n, ns, (c : Int), rfl, ⟨d0, hR⟩, hS, z0, fun H1 R1 k1 => ?_⟩
    have hS1 := k1.seq hR hS
    obtain ⟨d1, hR1⟩ := R1
    refine ⟨_, rfl, r, d1, _, rfl, hR1, rf_number _ _, r, m, n + 1, ns, (t : Int), rfl, ⟨d1, hR1⟩, hS1, z1, fun H2 R2 k2 => ?_⟩
    have hS2 := k2.seq hR1 hS1
    obtain ⟨d2, hR2⟩ := R2
    refine ⟨_, rfl, r, d2, _, rfl, hR2, rf_number _ _, r, m, n + 2, ns, (b : Int), rfl, ⟨d2, hR2⟩, hS2, z2, fun H3 R3 k3 => ?_⟩
    have hS3 := k3.seq hR2 hS2
    obtain ⟨d3, hR3⟩ := R3
    refine ⟨_, rfl, r, d3, _, rfl, hR3, rf_number _ _, r, m, n + 3, ns, (u : Int), rfl, ⟨d3, hR3⟩, hS3, z3, fun H4 R4 k4 => ?_⟩
    have hS4 := k4.seq hR3 hS3
    obtain ⟨d4, hR4⟩ := R4
    refine ⟨_, rfl, r, d4, _, rfl, hR4, rf_row _ _, r, m, n + 4, g.length, ns, rfl, ⟨d4, hR4⟩, hS4, zg.1, zg.2.1, fun H5 q R5 k5 nq hq => ?_⟩
    have hrow : RowAt H5 q g := row_of zg hq
    have k14 : But H H4 r := ((k1.trans k2).trans k3).trans k4
    have k15 : But H H5 r := k14.trans k5
    have hL5 : LineAt CL H5 a L := hL.but ⟨d0, hR⟩ k15
    have hglen := zg.2.2.2
    have en : n + 4 + 1 + g.length = n + 5 + g.length := by omega
    rw [en] at R5
    have refuse : ∀ H6 : Hp, Same H5 H6 → (4 < c ∨ 4 < t ∨ 100 < b ∨ 100 < u ∨ gOk g = false) → ∀ q2, H6 q2 = none → Q (.ref q2) (upd H6 q2 (.lst [.int (-1)])) := fun H6 s6 hc q2 hq2 => by
      have s7 := s6.trans (same_new (o := .lst [.int (-1)]) hq2)
      have e := step_no (L := L) hc
      have ea : Hm.ans L (.begins c t b u g) = [-1] := by
        unfold Hm.ans
        rw [e]
        rfl
      have kk := k
      rw [e, ea] at kk
      obtain ⟨d5, hR5⟩ := R5
      refine kk _ q2 (hL.ap ⟨d0, hR⟩ (k15.same s7)) ⟨d5, s7 _ _ hR5⟩ (fun x o e hx1 hx2 => s7 _ _ (k15 x o e hx2)) ?_ ?_ (by decide)
      · exact k15.free hR5 (s6.free hq2)
      · rw [upd_same]
        rfl
    refine ⟨_, rfl, _, _, rfl, rfl, _, rfl, ite2 (fun hc => ?_) (fun hc => ?_)⟩
    · exact ⟨(by show 1 ≤ sizeLine; decide), fun q2 hq2 => refuse H5 (Same.refl _) (.inl (by have := of_decide_eq_true hc; omega)) q2 hq2⟩
    refine ⟨_, rfl, _, _, rfl, rfl, _, rfl, ite2 (fun hc2 => ?_) (fun hc2 => ?_)⟩
    · exact ⟨(by show 1 ≤ sizeLine; decide), fun q2 hq2 => refuse H5 (Same.refl _) (.inr (.inl (by have := of_decide_eq_true hc2; omega))) q2 hq2⟩
    refine ⟨_, rfl, _, _, rfl, rfl, _, rfl, ite2 (fun hc3 => ?_) (fun hc3 => ?_)⟩
    · exact ⟨(by show 1 ≤ sizeLine; decide), fun q2 hq2 => refuse H5 (Same.refl _) (.inr (.inr (.inl (by have := of_decide_eq_true hc3; omega)))) q2 hq2⟩
    refine ⟨_, rfl, _, _, rfl, rfl, _, rfl, ite2 (fun hc4 => ?_) (fun hc4 => ?_)⟩
    · exact ⟨(by show 1 ≤ sizeLine; decide), fun q2 hq2 => refuse H5 (Same.refl _) (.inr (.inr (.inr (.inl (by have := of_decide_eq_true hc4; omega))))) q2 hq2⟩
    refine ⟨_, rfl, q, g, rfl, hrow, by omega, fun H6 s6 => ⟨_, rfl, ite2 (fun hc5 => ?_) (fun hc5 => ?_)⟩⟩
    · exact ⟨(by show 1 ≤ sizeLine; decide), fun q2 hq2 => refuse H6 s6 (.inr (.inr (.inr (.inr (by cases e : gOk g with | false => rfl | true => rw [e] at hc5; cases hc5))))) q2 hq2⟩
    have hg5 : gOk g = true := by
      cases e : gOk g with
      | true => rfl
      | false =>
        rw [e] at hc5
        exact absurd rfl hc5
    obtain ⟨g0, dx, ha, hg⟩ := hL5.same s6
    refine ⟨_, rfl, _, rfl, a, CL, dx, _, rfl, ha, T.cL, T.nc, (by show 5 < 1000; decide), ?_⟩
    refine ⟨_, rfl, _, rfl, a, CL, dx, _, rfl, upd_same, T.cL, T.nt, (by show 5 < 1000; decide), ?_⟩
    refine ⟨_, rfl, _, rfl, a, CL, dx, _, rfl, upd_same, T.cL, T.ne, (by show 5 < 1000; decide), ?_⟩
    refine ⟨_, rfl, _, rfl, a, CL, dx, _, rfl, upd_same, T.cL, T.nu, (by show 5 < 1000; decide), ?_⟩
    refine ⟨_, rfl, _, rfl, a, CL, dx, _, rfl, upd_same, T.cL, T.ng, (by show 5 < 1000; decide), ?_⟩
    refine ⟨(by show 1 ≤ sizeLine; decide), fun q2 hq2 => ?_⟩
    rw [upd_upd, upd_upd, upd_upd, upd_upd] at hq2 ⊢
    have b1 : c ≤ 4 := by
      have : ¬ (4 : Int) < (c : Int) := fun h => hc (decide_eq_true h)
      omega
    have b2 : t ≤ 4 := by
      have : ¬ (4 : Int) < (t : Int) := fun h => hc2 (decide_eq_true h)
      omega
    have b3 : b ≤ 100 := by
      have : ¬ (100 : Int) < (b : Int) := fun h => hc3 (decide_eq_true h)
      omega
    have b4 : u ≤ 100 := by
      have : ¬ (100 : Int) < (u : Int) := fun h => hc4 (decide_eq_true h)
      omega
    obtain ⟨e, _⟩ := step_yes (L := L) b1 b2 b3 b4 hg5
    have ea : Hm.ans L (.begins c t b u g) = [0] := by
      unfold Hm.ans
      rw [e]
      rfl
    have kk := k
    rw [e, ea] at kk
    have nq2a : q2 ≠ a := fun z => by
      rw [z, upd_same] at hq2
      cases hq2
    have hq2' : H6 q2 = none := by
      rw [upd_ne nq2a] at hq2
      exact hq2
    obtain ⟨d5, hR5⟩ := R5
    have hR6 := s6 _ _ hR5
    have nar := line_ne_rd ha hR6
    have hq6 := s6 _ _ hrow
    have nqa : q ≠ a := ne_of hq6 ha (by intro z; cases z)
    have nqH : H q = none := k14.free hR4 nq
    refine kk _ q2 ⟨q, ⟨dx, ?_, ?_⟩, fun x o e _ => ne_of_none e nqH⟩ ⟨d5, ?_⟩ (fun x o e hx1 hx2 => ?_) (k15.free hR5 (s6.free hq2')) (by rw [upd_same]; rfl) (by decide)
    · rw [upd_ne (Ne.symm nq2a), upd_same]
      rfl
    · rw [upd_ne (ne_of_none hq6 hq2'), upd_ne nqa]
      exact hq6
    · rw [upd_ne (ne_of_none hR6 hq2'), upd_ne (Ne.symm nar)]
      exact hR6
    · have h6 := s6 _ _ (k15 x o e hx2)
      rw [upd_ne (ne_of_none h6 hq2'), upd_ne hx1]
      exact h6
/-! ### check -/
theorem told_len {L : Line} {p : List Nat} (h : 2 ≤ L.points) (ht : L.told p = true) : p.length + 2 = L.points ∧ ∀ x ∈ p, x ≤ L.tall := by
  unfold Uw38.Line.told at ht
  rw [Bool.and_eq_true] at ht
  have h1 := eq_of_beq ht.1
  exact ⟨by omega, fun x hx => of_decide_eq_true (List.all_eq_true.mp ht.2 x hx)⟩
theorem ans_check (L : Line) (p : List Nat) : Hm.ans L (.check p) = if L.told p = false then [-1] else match L.low p with
    | some x => [-6, (x : Int)]
    | none => match L.lifts p with
      | some x => [-7, (x : Int)]
      | none => [(L.cost p : Int), (Uw38.supports p : Int)] := by
  have e : Hm.ans L (.check p) = Uw38Neutral.out (if L.told p = false then (L, Uw38.ok (-1)) else (L, match L.low p with | some x => ⟨-6, [x]⟩ | none => match L.lifts p with | some x => ⟨-7, [x]⟩ | none => ⟨(L.cost p : Nat), [Uw38.supports p]⟩)).2 := rfl
  rw [e]
  by_cases h : L.told p = false
  · rw [if_pos h, if_pos h]
    rfl
  · rw [if_neg h, if_neg h]
    cases L.low p with
    | some x => rfl
    | none => cases L.lifts p <;> rfl
theorem step_check (L : Line) (p : List Nat) : (Uw38.step L (.check p)).1 = L := by
  show (if L.told p = false then (L, Uw38.ok (-1)) else (L, _)).1 = L
  split <;> rfl
def spCheck (K : PySem.W.Frag) (CL CR : Addr) : Sp := fun vs H Q _ => ∃ (a r m : Addr) (L : Line) (n : Nat) (ns : List Int) (p : List Nat), vs = [.ref a, .ref r] ∧ LineAt CL H a L ∧ Good L ∧ RdAt CR H r m n ∧ SqL K H m (ns.map V.int) ∧
  Hm.RowIn ns n p ∧ Post CL CR H a r m L (n + 1 + p.length) (Hm.ans L (.check p)) Q
theorem scCh : FnScope ["line", "reader", "plan", "places", "low", "lifting", "measure"] ["line", "reader"] (defScope sCheck) := ⟨rfl, rfl, rfl, by decide +kernel, rfl, by decide +kernel, by decide +kernel⟩
theorem ok_check {f : Addr} {fd : FuncData} (F : Fun K "answer_check" "answer_check" sCheck f fd) (T : Txt K mg CL CR) (DR : Mtd P w K mg base CR "row" 2 ["self"] (spRow K CR)) (DF : Dk P w K mg base "fits_line" 2 ["line", "plan"] (spFits CL)) (DP : Dk P w K mg base "places_of" 2 ["line", "plan"] (spPla CL))
    (DL : Dk P w K mg base "first_too_low" 3 ["line", "places"] (spLow CL)) (DI : Dk P w K mg base "first_lifting" 2 ["places"] spLift) (DC : Dk P w K mg base "cost_and_supports" 1 ["line", "plan"] (spCost CL)) : FnOk P w K mg base CX0 4 f fd ["line", "reader"] (spCheck K CL CR) := by
  obtain ⟨fR, fdR, GR, mR, bR⟩ := DR
  obtain ⟨fF, fdF, GF, mF, kF, bF⟩ := DF
  obtain ⟨fP, fdP, GP, mP, kP, bP⟩ := DP
  obtain ⟨fL, fdL, GL, mL, kL, bL⟩ := DL
  obtain ⟨fI, fdI, GI, mI, kI, bI⟩ := DI
  obtain ⟨fC, fdC, GC, mC, kC, bC⟩ := DC
  refine F.ok scCh (fun vs H Q E h => ?_) (fun cdv A outer s H vs Q E hr h => ?_)
  · obtain ⟨a, r, m, L, n, ns, p, rfl, _⟩ := h
    rfl
  · obtain ⟨a, r, m, L, n, ns, p, rfl, hL, G, ⟨d0, hR⟩, hS, zp, k⟩ := h
    have hr1 := hr.mono (show 1 ≤ 3 by decide)
    have hr2 := hr.mono (show 2 ≤ 3 by decide)
    refine ⟨_, pss_cons (ps_set (i := 2) scCh.nd rfl (Or.inl rfl) (pe_meth0 (pv 1) T.cR mR GR hr2 bR .nil pass0))
      (pss_cons (ps_if (pt_not (pt_val (pe_call GF hr2 rfl mF kF bF .nil pass0 (pa_cons (pv 0) (pa_cons (pv 2) pa_nil))))) (pss_one (ps_ret (pe_lst (pa_cons (pe_cst rfl T.not) pa_nil)))) pss_nil)
      (pss_cons (ps_set (i := 3) scCh.nd rfl (Or.inl rfl) (pe_call GP hr2 rfl mP kP bP .nil pass0 (pa_cons (pv 0) (pa_cons (pv 2) pa_nil))))
      (pss_cons (ps_set (i := 4) scCh.nd rfl (Or.inl rfl) (pe_call GL hr rfl mL kL bL .nil pass0 (pa_cons (pv 0) (pa_cons (pv 3) pa_nil))))
      (pss_cons (ps_if (pt_cmpR op_notN (pv 4) pe_non (nomark _)) (pss_one (ps_ret (pe_lst (pa_cons (pe_cst rfl T.low) (pa_cons (pv 4) pa_nil))))) pss_nil)
      (pss_cons (ps_set (i := 5) scCh.nd rfl (Or.inl rfl) (pe_call GI hr2 rfl mI kI bI .nil pass0 (pa_cons (pv 3) pa_nil)))
      (pss_cons (ps_if (pt_cmpR op_notN (pv 5) pe_non (nomark _)) (pss_one (ps_ret (pe_lst (pa_cons (pe_cst rfl T.lifts) (pa_cons (pv 5) pa_nil))))) pss_nil)
      (pss_cons (ps_set (i := 6) scCh.nd rfl (Or.inl rfl) (pe_call GC hr1 rfl mC kC bC .nil pass0 (pa_cons (pv 0) (pa_cons (pv 2) pa_nil))))
      (pss_one (ps_ret (pe_lst (pa_cons (pe_ix ix_tup (pv 6) pe_int (fun _ _ => rfl)) (pa_cons (pe_ix ix_tup (pv 6) pe_int (fun _ _ => rfl)) pa_nil)))))))))))), ?_⟩
    refine ⟨_, rfl, r, d0, _, rfl, hR, rf_row _ _, r, m, n, p.length, ns, rfl, ⟨d0, hR⟩, hS, zp.1, zp.2.1, fun H1 q ⟨d1, hR1⟩ k1 nq hq => ?_⟩
    have hrow : RowAt H1 q p := row_of zp hq
    have hL1 : LineAt CL H1 a L := hL.but ⟨d0, hR⟩ k1
    have hplen := zp.2.2.2
    have hp2 := G.p2
    have hp8 := G.p8
    have fin : ∀ H6 : Hp, Same H1 H6 → ∀ (out : List Int), Hm.ans L (.check p) = out → out.length ≤ 20 → ∀ q2, H6 q2 = none → Q (.ref q2) (upd H6 q2 (.lst (out.map V.int))) := fun H6 s6 out ea hl q2 hq2 => by
      have s7 := s6.trans (same_new (o := .lst (out.map V.int)) hq2)
      have kk := k
      rw [ea] at kk
      exact kk _ q2 (hL.ap ⟨d0, hR⟩ (k1.same s7)) ⟨d1, s7 _ _ hR1⟩ (fun x o e hx1 hx2 => s7 _ _ (k1 x o e hx2)) (k1.free hR1 (s6.free hq2)) upd_same hl
    refine ⟨_, rfl, _, rfl, a, q, L, p, rfl, hL1, G, hrow, by omega, fun H2 s2 => ⟨_, rfl, ite2 (fun hc => ?_) (fun hc => ?_)⟩⟩
    · have ht : L.told p = false := by
        cases e : L.told p with
        | false => rfl
        | true =>
          rw [e] at hc
          cases hc
      exact ⟨(by show 1 ≤ sizeLine; decide), fun q2 hq2 => fin H2 s2 [-1] (by rw [ans_check, if_pos ht]) (by decide) q2 hq2⟩
    have ht : L.told p = true := by
      cases e : L.told p with
      | true => rfl
      | false =>
        rw [e] at hc
        exact absurd rfl hc
    obtain ⟨hpl, hpt⟩ := told_len hp2 ht
    have h4 : ∀ h ∈ p, h ≤ 4 := fun h hh => Nat.le_trans (hpt h hh) G.t4
    have hln := places_len L p
    have sml := places_small G h4
    have hlt := Hm.places_lt L p (by omega)
    have inc := Hm.places_inc L p (by omega)
    refine ⟨_, rfl, _, rfl, a, q, L, p, rfl, hL1.same s2, G, s2 _ _ hrow, by omega, fun H3 l s3 hP => ?_⟩
    refine ⟨_, rfl, _, rfl, a, l, L, Hm.places L p, rfl, (hL1.same s2).same s3, G, hP, inc, fun z hz => ⟨hlt z hz, sml z hz⟩, by omega, fun H4 s4 => ?_⟩
    have s14 := (s2.trans s3).trans s4
    have elow := Hm.low_eq L p hpl
    have elift := Hm.lifts_eq L p hpl
    refine ⟨_, rfl, rfl, _, rfl, ite2 (fun hc2 => ?_) (fun hc2 => ?_)⟩
    · refine ⟨_, rfl, (by show 2 ≤ sizeLine; decide), fun q2 hq2 => ?_⟩
      cases ex : Hm.firstLow L (Hm.places L p) with
      | none =>
        rw [ex] at hc2
        exact absurd (show (!decide (V.non = V.non)) = true from hc2) (by decide)
      | some x =>
        refine fin H4 s14 [-6, (x : Int)] ?_ (by show 2 ≤ 20; decide) q2 hq2
        rw [ans_check, if_neg (by rw [ht]; decide), elow, ex]
    have ex : Hm.firstLow L (Hm.places L p) = none := by
      cases ex : Hm.firstLow L (Hm.places L p) with
      | none => rfl
      | some x =>
        rw [ex] at hc2
        refine absurd ?_ hc2
        show (!decide (nv x = V.non)) = true
        rw [decide_eq_false (by intro z; cases z)]
        rfl
    refine ⟨_, rfl, l, Hm.places L p, rfl, hP.same s4, inc, sml, by omega, fun H5 s5 => ?_⟩
    have s15 := s14.trans s5
    refine ⟨_, rfl, rfl, _, rfl, ite2 (fun hc3 => ?_) (fun hc3 => ?_)⟩
    · refine ⟨_, rfl, (by show 2 ≤ sizeLine; decide), fun q2 hq2 => ?_⟩
      cases ey : Hm.firstLift (Hm.places L p) with
      | none =>
        rw [ey] at hc3
        exact absurd (show (!decide (V.non = V.non)) = true from hc3) (by decide)
      | some x =>
        refine fin H5 s15 [-7, (x : Int)] ?_ (by show 2 ≤ 20; decide) q2 hq2
        rw [ans_check, if_neg (by rw [ht]; decide), elow, ex, elift, ey]
    have ey : Hm.firstLift (Hm.places L p) = none := by
      cases ey : Hm.firstLift (Hm.places L p) with
      | none => rfl
      | some x =>
        rw [ey] at hc3
        refine absurd ?_ hc3
        show (!decide (nv x = V.non)) = true
        rw [decide_eq_false (by intro z; cases z)]
        rfl
    refine ⟨_, rfl, _, rfl, a, q, L, p, rfl, hL1.same s15, G, s15 _ _ hrow, by omega, fun H6 t s6 htt => ?_⟩
    refine ⟨_, rfl, t, _, _, _, rfl, rfl, SqT.of htt, at_of (j := 0) rfl rfl, _, rfl, t, _, _, _, rfl, rfl, SqT.of htt, at_of (j := 1) rfl rfl, (by show 2 ≤ sizeLine; decide), fun q2 hq2 => ?_⟩
    refine fin H6 (s15.trans s6) [(L.cost p : Int), (Uw38.supports p : Int)] ?_ (by show 2 ≤ 20; decide) q2 hq2
    rw [ans_check, if_neg (by rw [ht]; decide), elow, ex, elift, ey]

/-! ### rope -/
theorem ans_rope (L : Line) (p : List Nat) (x : Nat) : Hm.ans L (.rope p x) = if L.told p = false ∨ L.points ≤ x then [-1] else [((L.ropeAt p x).1 : Int), ((L.ropeAt p x).2 : Int)] := by
  have e : Hm.ans L (.rope p x) = Uw38Neutral.out (if L.told p = false ∨ L.points ≤ x then (L, Uw38.ok (-1)) else (L, ⟨((L.ropeAt p x).1 : Nat), [(L.ropeAt p x).2]⟩)).2 := rfl
  rw [e]
  by_cases h : L.told p = false ∨ L.points ≤ x
  · rw [if_pos h, if_pos h]
    rfl
  · rw [if_neg h, if_neg h]
    rfl
theorem step_rope (L : Line) (p : List Nat) (x : Nat) : (Uw38.step L (.rope p x)).1 = L := by
  show (if L.told p = false ∨ L.points ≤ x then (L, Uw38.ok (-1)) else (L, _)).1 = L
  split <;> rfl
theorem places_full (L : Line) (p : List Nat) (hp : p.length + 2 = L.points) : Hm.places L p = ((0, L.least 0) :: Hm.sup L 1 p) ++ [(L.points - 1, L.least (L.points - 1))] := by
  unfold Hm.places Hm.endP
  rw [if_pos (by omega)]
  rfl
theorem rope_at (L : Line) (p : List Nat) (x : Nat) (hp : p.length + 2 = L.points) (y : (Nat × Nat) × (Nat × Nat)) (hy : ((Uw38.pairs (Hm.places L p)).find? fun y => decide (y.1.1 ≤ x) && decide (x ≤ y.2.1)) = some y) (hd : y.1.1 < y.2.1) :
    L.ropeAt p x = (Uw38.height y.1 y.2 x / Nat.gcd (Uw38.height y.1 y.2 x) (y.2.1 - y.1.1), (y.2.1 - y.1.1) / Nat.gcd (Uw38.height y.1 y.2 x) (y.2.1 - y.1.1)) := by
  unfold Uw38.Line.ropeAt
  rw [Hm.knots_eq L p hp, hy]
  show (if Nat.gcd (Uw38.height y.1 y.2 x) (y.2.1 - y.1.1) = 0 then (0, 1) else _) = _
  have h0 : 0 < Nat.gcd (Uw38.height y.1 y.2 x) (y.2.1 - y.1.1) := Nat.gcd_pos_of_pos_right _ (by omega)
  rw [if_neg (by omega)]
def spRope (K : PySem.W.Frag) (CL CR : Addr) : Sp := fun vs H Q _ => ∃ (a r m : Addr) (L : Line) (n : Nat) (ns : List Int) (p : List Nat) (x : Nat), vs = [.ref a, .ref r] ∧ LineAt CL H a L ∧ Good L ∧ RdAt CR H r m n ∧ SqL K H m (ns.map V.int) ∧
  ns[n]? = some (x : Int) ∧ Hm.RowIn ns (n + 1) p ∧ Post CL CR H a r m L (n + 2 + p.length) (Hm.ans L (.rope p x)) Q
theorem scRp : FnScope ["line", "reader", "point", "plan", "height"] ["line", "reader"] (defScope sRope) := ⟨rfl, rfl, rfl, by decide +kernel, rfl, by decide +kernel, by decide +kernel⟩
theorem ok_rope {f : Addr} {fd : FuncData} (F : Fun K "answer_rope" "answer_rope" sRope f fd) (T : Txt K mg CL CR) (DN : Mtd P w K mg base CR "number" 1 ["self"] (spNum K CR)) (DR : Mtd P w K mg base CR "row" 2 ["self"] (spRow K CR)) (DF : Dk P w K mg base "fits_line" 2 ["line", "plan"] (spFits CL))
    (DL : Dk P w K mg base "last_point" 1 ["line"] (spLast CL)) (DP : Dk P w K mg base "places_of" 2 ["line", "plan"] (spPla CL)) (DH : Dk P w K mg base "rope_height" 2 ["places", "point"] spRopeH) (DT : Dk P w K mg base "lowest_terms" 1 ["above", "below"] spTerms) : FnOk P w K mg base CX0 3 f fd ["line", "reader"] (spRope K CL CR) := by
  obtain ⟨fN, fdN, GN, mN, bN⟩ := DN
  obtain ⟨fR, fdR, GR, mR, bR⟩ := DR
  obtain ⟨fF, fdF, GF, mF, kF, bF⟩ := DF
  obtain ⟨fL, fdL, GL, mL, kL, bL⟩ := DL
  obtain ⟨fP, fdP, GP, mP, kP, bP⟩ := DP
  obtain ⟨fH, fdH, GH, mH, kH, bH⟩ := DH
  obtain ⟨fT, fdT, GT, mT, kT, bT⟩ := DT
  refine F.ok scRp (fun vs H Q E h => ?_) (fun cdv A outer s H vs Q E hr h => ?_)
  · obtain ⟨a, r, m, L, n, ns, p, x, rfl, _⟩ := h
    rfl
  · obtain ⟨a, r, m, L, n, ns, p, x, rfl, hL, G, ⟨d0, hR⟩, hS, z0, zp, k⟩ := h
    have hr1 := hr.mono (show 1 ≤ 2 by decide)
    refine ⟨_, pss_cons (ps_set (i := 2) scRp.nd rfl (Or.inl rfl) (pe_meth0 (pv 1) T.cR mN GN hr1 bN .nil pass0)) (pss_cons (ps_set (i := 3) scRp.nd rfl (Or.inl rfl) (pe_meth0 (pv 1) T.cR mR GR hr bR .nil pass0))
      (pss_cons (ps_if (PW.pt (pw_or (pt_not (pt_val (pe_call GF hr rfl mF kF bF .nil pass0 (pa_cons (pv 0) (pa_cons (pv 3) pa_nil))))) (pw_or1 (pt_cmpR op_gt (pv 2) (pe_call GL hr1 rfl mL kL bL .nil pass0 (pa_cons (pv 0) pa_nil)) (nomark _)))))
        (pss_one (ps_ret (pe_lst (pa_cons (pe_cst rfl T.not) pa_nil)))) pss_nil)
      (pss_cons (ps_set (i := 4) scRp.nd rfl (Or.inl rfl) (pe_call GH hr rfl mH kH bH .nil pass0 (pa_cons (pe_call GP hr rfl mP kP bP .nil pass0 (pa_cons (pv 0) (pa_cons (pv 3) pa_nil))) (pa_cons (pv 2) pa_nil))))
      (pss_one (ps_ret (pe_call GT hr1 rfl mT kT bT .nil pass0 (pa_cons (pe_ix ix_tup (pv 4) pe_int (fun _ _ => rfl)) (pa_cons (pe_ix ix_tup (pv 4) pe_int (fun _ _ => rfl)) pa_nil)))))))), ?_⟩
    refine ⟨_, rfl, r, d0, _, rfl, hR, rf_number _ _, r, m, n, ns, (x : Int), rfl, ⟨d0, hR⟩, hS, z0, fun H0 R0 k0 => ?_⟩
    have hS0 := k0.seq hR hS
    obtain ⟨d1, hR0⟩ := R0
    refine ⟨_, rfl, r, d1, _, rfl, hR0, rf_row _ _, r, m, n + 1, p.length, ns, rfl, ⟨d1, hR0⟩, hS0, zp.1, zp.2.1, fun H1 q ⟨d2, hR1⟩ k01 nq hq => ?_⟩
    have hrow : RowAt H1 q p := row_of zp hq
    have k1 : But H H1 r := k0.trans k01
    have hL1 : LineAt CL H1 a L := hL.but ⟨d0, hR⟩ k1
    have hplen := zp.2.2.2
    have hp2 := G.p2
    have hp8 := G.p8
    have en : n + 1 + 1 + p.length = n + 2 + p.length := by omega
    rw [en] at hR1
    have fin : ∀ H6 : Hp, Same H1 H6 → ∀ (out : List Int), Hm.ans L (.rope p x) = out → out.length ≤ 20 → ∀ q2, H6 q2 = none → Q (.ref q2) (upd H6 q2 (.lst (out.map V.int))) := fun H6 s6 out ea hl q2 hq2 => by
      have s7 := s6.trans (same_new (o := .lst (out.map V.int)) hq2)
      have kk := k
      rw [ea] at kk
      exact kk _ q2 (hL.ap ⟨d0, hR⟩ (k1.same s7)) ⟨d2, s7 _ _ hR1⟩ (fun x o e hx1 hx2 => s7 _ _ (k1 x o e hx2)) (k1.free hR1 (s6.free hq2)) upd_same hl
    refine ⟨_, rfl, _, rfl, a, q, L, p, rfl, hL1, G, hrow, by omega, fun H2 s2 => ⟨_, rfl, ite2 (fun hc => ?_) (fun hc => ?_)⟩⟩
    · have ht : L.told p = false := by
        cases e : L.told p with
        | false => rfl
        | true =>
          rw [e] at hc
          cases hc
      exact ⟨(by show 1 ≤ sizeLine; decide), fun q2 hq2 => fin H2 s2 [-1] (by rw [ans_rope, if_pos (.inl ht)]) (by decide) q2 hq2⟩
    have ht : L.told p = true := by
      cases e : L.told p with
      | true => rfl
      | false =>
        rw [e] at hc
        exact absurd rfl hc
    have hL2 := hL1.same s2
    refine ⟨_, rfl, _, rfl, a, L, rfl, hL2, hp2, _, _, rfl, rfl, _, rfl, ite2 (fun hc2 => ?_) (fun hc2 => ?_)⟩
    · have hx : L.points ≤ x := by
        have := of_decide_eq_true hc2
        omega
      exact ⟨(by show 1 ≤ sizeLine; decide), fun q2 hq2 => fin H2 s2 [-1] (by rw [ans_rope, if_pos (.inr hx)]) (by decide) q2 hq2⟩
    have hx : x < L.points := by
      have : ¬ ((L.points - 1 : Nat) : Int) < (x : Int) := fun h => hc2 (decide_eq_true h)
      omega
    obtain ⟨hpl, hpt⟩ := told_len hp2 ht
    have h4 : ∀ h ∈ p, h ≤ 4 := fun h hh => Nat.le_trans (hpt h hh) G.t4
    have sml := places_small G h4
    have hlt := Hm.places_lt L p (by omega)
    have inc := Hm.places_inc L p (by omega)
    have efull := places_full L p hpl
    have hlast : (Hm.places L p)[(Hm.places L p).length - 1]? = some (L.points - 1, L.least (L.points - 1)) := by
      rw [efull, List.length_append, List.length_singleton, Nat.add_sub_cancel, List.getElem?_append_right (Nat.le_refl _), Nat.sub_self]
      rfl
    have hlen2 : 2 ≤ (Hm.places L p).length := by
      rw [efull, List.length_append, List.length_cons, List.length_singleton]
      omega
    refine ⟨_, rfl, _, rfl, a, q, L, p, rfl, hL2, G, s2 _ _ hrow, by omega, fun H3 l s3 hP => ?_⟩
    refine ⟨_, rfl, l, x, L.least 0, Hm.places L p, (L.points - 1, L.least (L.points - 1)), rfl, hP, inc, sml, hlen2, rfl, hlast, by show x ≤ L.points - 1; omega, fun y t hy hmem hd ht0 => ?_⟩
    have hT : PtAt (upd H3 t (.tup [nv (Uw38.height y.1 y.2 x), nv (y.2.1 - y.1.1)])) t (Uw38.height y.1 y.2 x, y.2.1 - y.1.1) := upd_same
    have m1 := Hm.pairs_mem_fst hmem
    have m2 := Hm.pairs_mem_snd hmem
    have l1 := hlt _ m1
    have l2 := hlt _ m2
    have v1 := sml _ m1
    have v2 := sml _ m2
    have hh : Uw38.height y.1 y.2 x < 1000000 := by
      unfold Uw38.height
      have a1 : y.1.2 * (y.2.1 - x) ≤ 1000 * 8 := Nat.mul_le_mul (by omega) (by omega)
      have a2 : y.2.2 * (x - y.1.1) ≤ 1000 * 8 := Nat.mul_le_mul (by omega) (by omega)
      omega
    refine ⟨_, rfl, t, _, _, _, rfl, rfl, sqt hT, at_of (j := 0) rfl rfl, _, rfl, t, _, _, _, rfl, rfl, sqt hT, at_of (j := 1) rfl rfl, Uw38.height y.1 y.2 x, y.2.1 - y.1.1, rfl, by omega, hh, by omega, fun q2 hq2 => ?_⟩
    have e1 := rope_at L p x hpl y hy hd
    refine fin _ ((s2.trans s3).trans (same_new ht0)) [((Uw38.height y.1 y.2 x / Nat.gcd (Uw38.height y.1 y.2 x) (y.2.1 - y.1.1) : Nat) : Int), (((y.2.1 - y.1.1) / Nat.gcd (Uw38.height y.1 y.2 x) (y.2.1 - y.1.1) : Nat) : Int)] ?_ (by show 2 ≤ 20; decide) q2 hq2
    have hno : ¬ (L.told p = false ∨ L.points ≤ x) := fun h => by
      rcases h with h | h
      · rw [ht] at h
        cases h
      · omega
    rw [ans_rope, if_neg hno, e1]
end
end Hd

end
section
set_option maxRecDepth 100000
set_option maxHeartbeats 2000000
/-! The defs of the program: a call, all calls. -/
namespace Hd
open PySem PySem.Spec PyProof.Rows L2 Hr
open Uw38 (Line)
theorem good_step {L : Line} (G : Good L) (c : Uw38.Call) : Good (Uw38.step L c).1 := by
  cases c with
  | begins c t b u g =>
    by_cases h : 4 < c ∨ 4 < t ∨ 100 < b ∨ 100 < u ∨ gOk g = false
    · rw [step_no h]
      exact G
    · have h5 : gOk g = true := by
        cases e : gOk g with
        | true => rfl
        | false => exact absurd (.inr (.inr (.inr (.inr e)))) h
      have h1 : ¬ 4 < c := fun z => h (.inl z)
      have h2 : ¬ 4 < t := fun z => h (.inr (.inl z))
      have h3 : ¬ 100 < b := fun z => h (.inr (.inr (.inl z)))
      have h4 : ¬ 100 < u := fun z => h (.inr (.inr (.inr (.inl z))))
      obtain ⟨e, G'⟩ := step_yes (L := L) (show c ≤ 4 by omega) (show t ≤ 4 by omega) (show b ≤ 100 by omega) (show u ≤ 100 by omega) h5
      rw [e]
      exact G'
  | best => exact G
  | check p =>
    rw [step_check]
    exact G
  | tallest => exact G
  | rope p x =>
    rw [step_rope]
    exact G
theorem good_init : Good Uw38.init := ⟨by decide, by decide, by decide, by decide, by decide, by decide, by decide⟩
section
variable {P : Program} {w : World} {K : PySem.W.Frag} {mg : Str → Option Value} {base : Heap} {CL CR : Addr}
def spCall (K : PySem.W.Frag) (CL CR : Addr) : Sp := fun vs H Q _ => ∃ (a r m : Addr) (L : Line) (n n' : Nat) (ns : List Int) (c : Uw38.Call), vs = [.ref a, .ref r] ∧ LineAt CL H a L ∧ Good L ∧ RdAt CR H r m n ∧ SqL K H m (ns.map V.int) ∧
  Hm.Reads ns n c n' ∧ Post CL CR H a r m (Uw38.step L c).1 n' (Hm.ans L c) Q
theorem Post.but {H H1 : Hp} {a r m : Addr} {L L0 : Line} {n n0 : Nat} {out : List Int} {Q : VK} (k : Post CL CR H a r m L n out Q) (hL : LineAt CL H a L0) (h0 : RdAt CR H r m n0) {o : HO} (hr : H1 r = some o) (k1 : But H H1 r) : Post CL CR H1 a r m L n out Q := by
  intro H' q h1 h2 h3 h4 h5 h6
  refine k H' q ?_ h2 (fun b o e ha hb => h3 b o (k1 b o e hb) ha hb) (k1.free hr h4) h5 h6
  obtain ⟨g', hg, ap⟩ := h1
  refine ⟨g', hg, fun x o e hx => ?_⟩
  obtain ⟨g0, dx, ha, _⟩ := hL
  obtain ⟨d0, hr0⟩ := h0
  obtain ⟨d2, hr2⟩ := h2
  obtain ⟨dg, _, hg2⟩ := hg
  by_cases hxr : x = r
  · subst hxr
    exact ne_of hr2 hg2 (by intro z; cases z)
  · have ha1 := k1 _ _ ha (line_ne_rd ha hr0)
    exact ap x o (k1 x o e hxr) fun dx' L1 g1 e1 => hx dx' L1 g1 (by rw [ha, ← ha1]; exact e1)
theorem scCa : FnScope ["line", "reader", "call"] ["line", "reader"] (defScope sCall) := ⟨rfl, rfl, rfl, by decide +kernel, rfl, by decide +kernel, by decide +kernel⟩
theorem no_int {i j : Int} (h : i ≠ j) (hc : decide (V.int i = V.int j) = true) : False := h (V.int.inj (of_decide_eq_true hc))
theorem ok_call {f : Addr} {fd : FuncData} (F : Fun K "answer_call" "answer_call" sCall f fd) (T : Txt K mg CL CR) (DN : Mtd P w K mg base CR "number" 1 ["self"] (spNum K CR)) (DB : Dk P w K mg base "answer_begins" 3 ["line", "reader"] (spBegins K CL CR)) (DE : Dk P w K mg base "answer_best" 7 ["line"] (spBest CL))
    (DC : Dk P w K mg base "answer_check" 4 ["line", "reader"] (spCheck K CL CR)) (DT : Dk P w K mg base "answer_tallest" 8 ["line"] (spTall CL)) (DR : Dk P w K mg base "answer_rope" 3 ["line", "reader"] (spRope K CL CR)) : FnOk P w K mg base CX0 9 f fd ["line", "reader"] (spCall K CL CR) := by
  obtain ⟨fN, fdN, GN, mN, bN⟩ := DN
  obtain ⟨fB, fdB, GB, mB, kB, bB⟩ := DB
  obtain ⟨fE, fdE, GE, mE, kE, bE⟩ := DE
  obtain ⟨fC, fdC, GC, mC, kC, bC⟩ := DC
  obtain ⟨fT, fdT, GT, mT, kT, bT⟩ := DT
  obtain ⟨fR, fdR, GR, mR, kR, bR⟩ := DR
  refine F.ok scCa (fun vs H Q E h => ?_) (fun cdv A outer s H vs Q E hr h => ?_)
  · obtain ⟨a, r, m, L, n, n', ns, c, rfl, _⟩ := h
    rfl
  · obtain ⟨a, r, m, L, n, n', ns, c, rfl, hL, G, ⟨d0, hR⟩, hS, rd, k⟩ := h
    have hr1 := hr.mono (show 1 ≤ 8 by decide)
    have hr3 := hr.mono (show 3 ≤ 8 by decide)
    have hr4 := hr.mono (show 4 ≤ 8 by decide)
    have hr7 := hr.mono (show 7 ≤ 8 by decide)
    refine ⟨_, pss_cons (ps_set (i := 2) scCa.nd rfl (Or.inl rfl) (pe_meth0 (pv 1) T.cR mN GN hr1 bN .nil pass0))
      (pss_cons (ps_if (pt_cmpR op_eq (pv 2) (pe_cst rfl T.begins) (nomark _)) (pss_one (ps_ret (pe_call GB hr3 rfl mB kB bB .nil pass0 (pa_cons (pv 0) (pa_cons (pv 1) pa_nil))))) pss_nil)
      (pss_cons (ps_if (pt_cmpR op_eq (pv 2) (pe_cst rfl T.best) (nomark _)) (pss_one (ps_ret (pe_call GE hr7 rfl mE kE bE .nil pass0 (pa_cons (pv 0) pa_nil)))) pss_nil)
      (pss_cons (ps_if (pt_cmpR op_eq (pv 2) (pe_cst rfl T.check) (nomark _)) (pss_one (ps_ret (pe_call GC hr4 rfl mC kC bC .nil pass0 (pa_cons (pv 0) (pa_cons (pv 1) pa_nil))))) pss_nil)
      (pss_cons (ps_if (pt_cmpR op_eq (pv 2) (pe_cst rfl T.tallest) (nomark _)) (pss_one (ps_ret (pe_call GT hr rfl mT kT bT .nil pass0 (pa_cons (pv 0) pa_nil)))) pss_nil)
      (pss_one (ps_ret (pe_call GR hr3 rfl mR kR bR .nil pass0 (pa_cons (pv 0) (pa_cons (pv 1) pa_nil))))))))), ?_⟩
    have line_rd : ∀ H1, LineAt CL H1 a L → RdAt CR H1 r m (n + 1) → But H H1 r → ∀ out, Post CL CR H a r m L (n + 1) out Q → ∀ (H' : Hp) (q : Addr), Same H1 H' → H1 q = none → H' q = some (.lst (out.map V.int)) → out.length ≤ 20 → Q (.ref q) H' := fun H1 hL1 R1 k1 out kk H' q s1 nq hq hl => by
      obtain ⟨d1, hR1⟩ := R1
      exact kk H' q (hL.ap ⟨d0, hR⟩ (k1.same s1)) ⟨d1, s1 _ _ hR1⟩ (fun b o e _ hb => s1 _ _ (k1 b o e hb)) (k1.free hR1 nq) hq hl
    cases c with
    | begins c t b u g =>
      obtain ⟨z, z0, z1, z2, z3, zg, rfl⟩ := rd
      refine ⟨_, rfl, r, d0, _, rfl, hR, rf_number _ _, r, m, n, ns, 0, rfl, ⟨d0, hR⟩, hS, z, fun H1 R1 k1 => ?_⟩
      have hL1 := hL.but ⟨d0, hR⟩ k1
      have hS1 := k1.seq hR hS
      refine ⟨_, rfl, rfl, _, rfl, ite2 (fun hc => ?_) (fun hc => absurd (decide_eq_true rfl) hc)⟩
      have e6 : n + 1 + 5 + g.length = n + 6 + g.length := by omega
      obtain ⟨d1, hR1⟩ := R1
      have kp := k.but hL ⟨d0, hR⟩ hR1 k1
      rw [← e6] at kp
      exact ⟨_, rfl, _, rfl, a, r, m, L, n + 1, ns, c, t, b, u, g, rfl, hL1, ⟨d1, hR1⟩, hS1, z0, z1, z2, z3, zg, kp⟩
    | best =>
      obtain ⟨z, rfl⟩ := rd
      refine ⟨_, rfl, r, d0, _, rfl, hR, rf_number _ _, r, m, n, ns, 1, rfl, ⟨d0, hR⟩, hS, z, fun H1 R1 k1 => ?_⟩
      have hL1 := hL.but ⟨d0, hR⟩ k1
      have hS1 := k1.seq hR hS
      refine ⟨_, rfl, rfl, _, rfl, ite2 (fun hc => (no_int (by decide) hc).elim) (fun hc => ?_)⟩
      refine ⟨_, rfl, rfl, _, rfl, ite2 (fun hc => ?_) (fun hc => absurd (decide_eq_true rfl) hc)⟩
      exact ⟨_, rfl, a, L, rfl, hL1, G, line_rd H1 hL1 R1 k1 _ k⟩
    | check p =>
      obtain ⟨z, zp, rfl⟩ := rd
      rw [step_check] at k
      refine ⟨_, rfl, r, d0, _, rfl, hR, rf_number _ _, r, m, n, ns, 2, rfl, ⟨d0, hR⟩, hS, z, fun H1 R1 k1 => ?_⟩
      have hL1 := hL.but ⟨d0, hR⟩ k1
      have hS1 := k1.seq hR hS
      refine ⟨_, rfl, rfl, _, rfl, ite2 (fun hc => (no_int (by decide) hc).elim) (fun hc => ?_)⟩
      refine ⟨_, rfl, rfl, _, rfl, ite2 (fun hc => (no_int (by decide) hc).elim) (fun hc => ?_)⟩
      refine ⟨_, rfl, rfl, _, rfl, ite2 (fun hc => ?_) (fun hc => absurd (decide_eq_true rfl) hc)⟩
      have e6 : n + 1 + 1 + p.length = n + 2 + p.length := by omega
      obtain ⟨d1, hR1⟩ := R1
      have kp := k.but hL ⟨d0, hR⟩ hR1 k1
      rw [← e6] at kp
      exact ⟨_, rfl, _, rfl, a, r, m, L, n + 1, ns, p, rfl, hL1, G, ⟨d1, hR1⟩, hS1, zp, kp⟩
    | tallest =>
      obtain ⟨z, rfl⟩ := rd
      refine ⟨_, rfl, r, d0, _, rfl, hR, rf_number _ _, r, m, n, ns, 3, rfl, ⟨d0, hR⟩, hS, z, fun H1 R1 k1 => ?_⟩
      have hL1 := hL.but ⟨d0, hR⟩ k1
      have hS1 := k1.seq hR hS
      refine ⟨_, rfl, rfl, _, rfl, ite2 (fun hc => (no_int (by decide) hc).elim) (fun hc => ?_)⟩
      refine ⟨_, rfl, rfl, _, rfl, ite2 (fun hc => (no_int (by decide) hc).elim) (fun hc => ?_)⟩
      refine ⟨_, rfl, rfl, _, rfl, ite2 (fun hc => (no_int (by decide) hc).elim) (fun hc => ?_)⟩
      refine ⟨_, rfl, rfl, _, rfl, ite2 (fun hc => ?_) (fun hc => absurd (decide_eq_true rfl) hc)⟩
      exact ⟨_, rfl, a, L, rfl, hL1, G, line_rd H1 hL1 R1 k1 _ k⟩
    | rope p x =>
      obtain ⟨z, zx, zp, rfl⟩ := rd
      rw [step_rope] at k
      refine ⟨_, rfl, r, d0, _, rfl, hR, rf_number _ _, r, m, n, ns, 4, rfl, ⟨d0, hR⟩, hS, z, fun H1 R1 k1 => ?_⟩
      have hL1 := hL.but ⟨d0, hR⟩ k1
      have hS1 := k1.seq hR hS
      refine ⟨_, rfl, rfl, _, rfl, ite2 (fun hc => (no_int (by decide) hc).elim) (fun hc => ?_)⟩
      refine ⟨_, rfl, rfl, _, rfl, ite2 (fun hc => (no_int (by decide) hc).elim) (fun hc => ?_)⟩
      refine ⟨_, rfl, rfl, _, rfl, ite2 (fun hc => (no_int (by decide) hc).elim) (fun hc => ?_)⟩
      refine ⟨_, rfl, rfl, _, rfl, ite2 (fun hc => (no_int (by decide) hc).elim) (fun hc => ?_)⟩
      have e6 : n + 1 + 2 + p.length = n + 3 + p.length := by omega
      obtain ⟨d1, hR1⟩ := R1
      have kp := k.but hL ⟨d0, hR⟩ hR1 k1
      rw [← e6] at kp
      exact ⟨_, rfl, _, rfl, a, r, m, L, n + 1, ns, p, x, rfl, hL1, G, ⟨d1, hR1⟩, hS1, zx, zp, kp⟩
/-! ### answers -/
def spAns (K : PySem.W.Frag) : Sp := fun vs H Q _ => ∃ (m : Addr) (ns : List Int), vs = [.ref m] ∧ SqL K H m (ns.map V.int) ∧ ns.length ≤ 720 ∧ PyUw38.answers_asked ns = true ∧ ∀ (H' : Hp) (p : Addr), H' p = some (.lst ((PyUw38.answers ns).map V.int)) → Q (.ref p) H'
def muR (r : Addr) (N : Nat) (H : Hp) : Nat := match H r with
  | some (.ins _ _ [_, (_, .int z)]) => N - z.toNat
  | _ => 0
theorem muR_at {C r m dx : Addr} {N n : Nat} {H : Hp} (h : H r = some (.ins C dx (rfs m n))) : muR r N H = N - n := by
  unfold muR
  rw [h]
  rfl
theorem scAn : FnScope ["calls", "line", "reader", "answered", "answer"] ["calls"] (defScope sAns) := ⟨rfl, rfl, rfl, by decide +kernel, rfl, by decide +kernel, by decide +kernel⟩
theorem ok_ans {f fLI fRI : Addr} {fd fdLI fdRI : FuncData} (F : Fun K "answers" "answers" sAns f fd) (T : Txt K mg CL CR) (ML : Mk K CL fLI) (GLI : FnOk P w K mg base CX0 1 fLI fdLI ["self"] (spLInit CL)) (bLI : Binds K fdLI ["self"] []) (mgL : mg "Line" = some (.ref CL))
    (MR : Mk K CR fRI) (GRI : FnOk P w K mg base CX0 1 fRI fdRI ["self", "numbers"] (spRInit CR)) (bRI : Binds K fdRI ["self", "numbers"] []) (mgR : mg "Reader" = some (.ref CR))
    (DM : Mtd P w K mg base CR "more" 1 ["self"] (spMore K CR)) (DC : Dk P w K mg base "answer_call" 9 ["line", "reader"] (spCall K CL CR)) : FnOk P w K mg base CX0 10 f fd ["calls"] (spAns K) := by
  obtain ⟨fM, fdM, GM, mM, bM⟩ := DM
  obtain ⟨fC, fdC, GC, mC, kC, bC⟩ := DC
  refine F.ok scAn (fun vs H Q E h => ?_) (fun cdv A outer s H vs Q E hr h => ?_)
  · obtain ⟨m, ns, rfl, _⟩ := h
    rfl
  · obtain ⟨m, ns, rfl, hS, hlen, asked, k⟩ := h
    have hr1 := hr.mono (show 1 ≤ 9 by decide)
    have hr2 := hr.mono (show 2 ≤ 9 by decide)
    refine ⟨_, pss_cons (ps_set (i := 1) scAn.nd rfl (Or.inl rfl) (pe_make0 ML GLI hr2 rfl mgL bLI .nil pass0)) (pss_cons (ps_set (i := 2) scAn.nd rfl (Or.inl rfl) (pe_make MR GRI hr2 rfl mgR bRI .nil pass0 (pa_cons (pv 0) pa_nil)))
      (pss_cons (ps_set (i := 3) scAn.nd rfl (Or.inl rfl) (pe_lst pa_nil))
      (pss_cons (ps_while PassesOwn.never (pt_val (pe_meth0 (pv 2) T.cR mM GM hr1 bM .nil pass0))
        (pss_cons (ps_set (i := 4) scAn.nd rfl (Or.inl rfl) (pe_call GC hr rfl mC kC bC .nil pass0 (pa_cons (pv 1) (pa_cons (pv 2) pa_nil))))
        (pss_cons (ps_expr (pe_bm PySem.F.plainAttrs_list PySem.F.slot_list_append PySem.F.type_list_append mt_append (pv 3) (pa_cons (pe_callB call_len_seq (by rfl) T.len PySem.boot_len (pa_cons (pv 4) pa_nil)) pa_nil)))
        (pss_one (ps_expr (pe_bm PySem.F.plainAttrs_list PySem.F.slot_list_extend PySem.F.type_list_extend mt_extend (pv 3) (pa_cons (pv 4) pa_nil)))))))
      (pss_one (ps_ret (pv 3)))))), ?_⟩
    intro a da na nda neda
    refine ⟨a, da, rfl, upd_same, fun H1 hL1 k1 => ⟨rfl, ?_⟩⟩
    have s1 : Same H H1 := Same.made na nda k1
    refine ⟨_, rfl, ?_⟩
    intro r dr nr ndr nedr
    refine ⟨r, dr, m, rfl, upd_same, fun H2 hR2 k2 => ⟨rfl, ?_⟩⟩
    have s2 : Same H1 H2 := Same.made nr ndr k2
    have nr0 : H r = none := s1.free nr
    refine ⟨Nat.zero_le _, fun q hq => ?_⟩
    have s3 : Same H2 (upd H2 q (.lst [])) := same_new hq
    have nq0 : H q = none := (s1.trans s2).free hq
    have big : 100000 < sizeLine := by decide
    have s13 := (s1.trans s2).trans s3
    refine while_by (fun σ H' => ∃ (n : Nat) (L : Line) (out : List Int) (v4 : Option V) (g : Addr), σ = [some (.ref m), some (.ref a), some (.ref r), some (.ref q), v4] ∧ Same H H' ∧ LineG CL H' a g L ∧ q ≠ g ∧ Good L ∧ RdAt CR H' r m n ∧ H' q = some (.lst (out.map V.int)) ∧ n ≤ ns.length ∧ out.length ≤ 21 * n ∧ Hm.Rest ns n L out)
      (fun _ H' => muR r ns.length H') ?_ ?_ ?_
    · obtain ⟨g, dx, h1, h2⟩ := hL1.same s2
      obtain ⟨dr2, hR3⟩ := hR2
      exact ⟨0, Uw38.init, [], none, g, rfl, s13, ⟨dx, s3 _ _ h1, s3 _ _ h2⟩, (fun z => by rw [z, h2] at hq; cases hq), good_init, ⟨dr2, s3 _ _ hR3⟩, upd_same, Nat.zero_le _, Nat.zero_le _, Hm.rest_start asked⟩
    · rintro σ H' ⟨n, L, out, v4, g, rfl, sH, ⟨dx, ha, hg⟩, nqg, G, ⟨d1, hR⟩, hq', hn, hout, rest⟩
      have hS' := sH.seq hS
      refine ⟨_, rfl, r, d1, _, rfl, hR, rf_more _ _, r, m, n, ns, rfl, ⟨d1, hR⟩, hS', _, rfl, ite2 (fun hc => ?_) (fun hc => ?_)⟩
      · obtain ⟨c, n', rd, hlt, hle, rest'⟩ := Hm.rest_step rest (of_decide_eq_true hc)
        refine ⟨_, rfl, _, rfl, a, r, m, L, n, n', ns, c, rfl, ⟨g, dx, ha, hg⟩, G, ⟨d1, hR⟩, hS', rd, fun H5 e hL5 R5 k5 ne he hel => ?_⟩
        obtain ⟨g5, ⟨dx5, ha5, hg5⟩, ap5⟩ := hL5
        obtain ⟨d5, hR5⟩ := R5
        have nqa : q ≠ a := ne_of hq' ha (by intro z; cases z)
        have nqr : q ≠ r := ne_of hq' hR (by intro z; cases z)
        have hq5 := k5 _ _ hq' nqa nqr
        have neq : e ≠ q := fun z => by
          rw [z, hq'] at ne
          cases ne
        have nqg5 : q ≠ g5 := ap5 q _ hq' fun dx' L1 g1 e1 => by
          rw [ha] at e1
          have e2 := HO.ins.inj (Option.some.inj e1)
          have e3 : lfs L g = lfs L1 g1 := e2.2.2
          have e4 : (lfs L g).lookup ("ground" : Str) = (lfs L1 g1).lookup ("ground" : Str) := by rw [e3]
          rw [lf_ground, lf_ground] at e4
          have e5 := V.ref.inj (Option.some.inj e4)
          rw [← e5]
          exact nqg
        have hbd : out.length ≤ 21 * 720 := Nat.le_trans hout (Nat.mul_le_mul (Nat.le_refl _) (by omega))
        refine ⟨_, rfl, .inl ⟨rfl, _, SqL.of hq5⟩, _, rfl, e, _, rfl, .inl (SqL.of he), q, _, _, rfl, rfl, hq5, by rw [List.length_map]; omega, ?_⟩
        refine ⟨_, rfl, .inl ⟨rfl, _, SqL.of upd_same⟩, _, rfl, q, e, _, _, rfl, rfl, upd_same, (by rw [upd_ne neq]; exact he), ?_, ?_⟩
        · rw [List.length_append, List.length_map, List.length_map]
          show out.length + 1 + (Hm.ans L c).length ≤ sizeLine
          omega
        · rw [upd_upd]
          have sH5 : Same H H5 := fun b o eb => k5 b o (sH b o eb) (fun z => by rw [z, na] at eb; cases eb) (fun z => by rw [z, nr0] at eb; cases eb)
          refine ⟨⟨n', (Uw38.step L c).1, out ++ ((Hm.ans L c).length : Int) :: Hm.ans L c, _, g5, rfl, same_at sH5 nq0, ⟨dx5, ?_, ?_⟩, nqg5, good_step G c, ⟨d5, ?_⟩, ?_, hle, ?_, rest'⟩, ?_⟩
          · rw [upd_ne (ne_of ha5 hq5 (by intro z; cases z))]
            exact ha5
          · rw [upd_ne (Ne.symm nqg5)]
            exact hg5
          · rw [upd_ne (ne_of hR5 hq5 (by intro z; cases z))]
            exact hR5
          · rw [upd_same, List.length_map, List.append_assoc, List.map_append]
            rfl
          · rw [List.length_append, List.length_cons]
            omega
          · have e1 : upd H5 q (.lst (out.map V.int ++ [.int (((Hm.ans L c).map V.int).length : Nat)] ++ (Hm.ans L c).map V.int)) r = some (.ins CR d5 (rfs m n')) := by
              rw [upd_ne (ne_of hR5 hq5 (by intro z; cases z))]
              exact hR5
            show muR r ns.length (upd H5 q (.lst (out.map V.int ++ [.int (((Hm.ans L c).map V.int).length : Nat)] ++ (Hm.ans L c).map V.int))) < muR r ns.length H'
            rw [muR_at e1, muR_at hR]
            omega
      · have en : n = ns.length := by
          have : ¬ n < ns.length := fun h => hc (decide_eq_true h)
          omega
        subst en
        refine ⟨_, rfl, k H' q ?_⟩
        rw [Hm.rest_end rest]
        exact hq'
    · rintro σ H' Q1 Q2 hQ ⟨v, e, a1, dx1, fs1, e1, e2, e3, r1, a2, n1, ns1, e4, e5, e6, b, e7, q7⟩
      exact ⟨v, e, a1, dx1, fs1, e1, e2, e3, r1, a2, n1, ns1, e4, e5, e6, b, e7, hQ _ _ q7⟩
end
end Hd

end
section
set_option maxRecDepth 100000
set_option maxHeartbeats 2000000
/-! What the top has written, and the row's head. -/
namespace Hd
open PySem PySem.Spec PyProof.Rows L2 Hr
open PySem.W (Codec)
theorem all_mk {P : Program} {w : World} {K : PySem.W.Frag} {h : Heap} {mg : Str → Option Value} {fa CL CR fLI fRI fMO fNU fRO fLP fST fPL fHE fIL fLO fLF fRT fGR fPS fCO fLE fTE fRH fFI fGD fBG fBE fCH fTA fRP fCA fAN : Addr} (X : K.In h) (G : h.Ns mainGlobals mg) (hfa : mg "answers" = some (.ref fa))
    {odLI anLI odRI anRI odMO anMO odNU anNU odRO anRO odLP anLP odST anST odPL anPL odHE anHE odIL anIL odLO anLO odLF anLF odRT anRT odGR anGR odPS anPS odCO anCO odLE anLE odTE anTE odRH anRH odFI anFI odGD anGD odBG anBG odBE anBE odCH anCH odTA anTA odRP anRP odCA anCA odAN anAN : Option Addr} {slLI slRI slMO slNU slRO slLP slST slPL slHE slIL slLO slLF slRT slGR slPS slCO slLE slTE slRH slFI slGD slBG slBE slCH slTA slRP slCA slAN : Array (Option Value)}
    {ocLI kVLI dcLI pmLI cdLI ctLI ocRI kVRI dcRI pmRI cdRI ctRI ocMO kVMO dcMO pmMO cdMO ctMO ocNU kVNU dcNU pmNU cdNU ctNU ocRO kVRO dcRO pmRO cdRO ctRO ocLP kVLP dcLP pmLP cdLP ctLP ocST kVST dcST pmST cdST ctST ocPL kVPL dcPL pmPL cdPL ctPL ocHE kVHE dcHE pmHE cdHE ctHE ocIL kVIL dcIL pmIL cdIL ctIL ocLO kVLO dcLO pmLO cdLO ctLO ocLF kVLF dcLF pmLF cdLF ctLF ocRT kVRT dcRT pmRT cdRT ctRT ocGR kVGR dcGR pmGR cdGR ctGR ocPS kVPS dcPS pmPS cdPS ctPS ocCO kVCO dcCO pmCO cdCO ctCO ocLE kVLE dcLE pmLE cdLE ctLE ocTE kVTE dcTE pmTE cdTE ctTE ocRH kVRH dcRH pmRH cdRH ctRH ocFI kVFI dcFI pmFI cdFI ctFI ocGD kVGD dcGD pmGD cdGD ctGD ocBG kVBG dcBG pmBG cdBG ctBG ocBE kVBE dcBE pmBE cdBE ctBE ocCH kVCH dcCH pmCH cdCH ctCH ocTA kVTA dcTA pmTA cdTA ctTA ocRP kVRP dcRP pmRP cdRP ctRP ocCA kVCA dcCA pmCA cdCA ctCA ocAN kVAN dcAN pmAN cdAN ctAN : Value}
    {t_BEGINS t_BEST t_CHECK t_TALLEST t_NOT_AS_TOLD t_TOO_LOW t_NO_RIGHT_PLAN t_LIFTS t_FEWEST_POINTS t_MOST_POINTS t_MOST_CLEAR t_MOST_TALL t_MOST_COST t_MOST_GROUND : Tok}
    (aCL : PySem.W.nsIn K mainGlobals "Line" = some (some (.ref CL)))
    (aCR : PySem.W.nsIn K mainGlobals "Reader" = some (some (.ref CR)))
    (aLI : PySem.W.findIn K (.ref CL) "__init__" = some (some (.ref fLI)))
    (iLI : PySem.W.isFn K (.ref fLI) = true)
    (lLI : K.lookup fLI = some ⟨ocLI, odLI, .func (PySem.W.fnOf "__init__" "Line.__init__" (defArgs sLInit) (defBody sLInit) (defScope sLInit) .none kVLI dcLI pmLI anLI cdLI ctLI), slLI⟩)
    (cLI : PySem.W.codeIn K cdLI "Line.__init__" = true)
    (kLI : PySem.W.keepIn K (.ref fLI) = true)
    (aRI : PySem.W.findIn K (.ref CR) "__init__" = some (some (.ref fRI)))
    (iRI : PySem.W.isFn K (.ref fRI) = true)
    (lRI : K.lookup fRI = some ⟨ocRI, odRI, .func (PySem.W.fnOf "__init__" "Reader.__init__" (defArgs sRInit) (defBody sRInit) (defScope sRInit) .none kVRI dcRI pmRI anRI cdRI ctRI), slRI⟩)
    (cRI : PySem.W.codeIn K cdRI "Reader.__init__" = true)
    (kRI : PySem.W.keepIn K (.ref fRI) = true)
    (aMO : PySem.W.findIn K (.ref CR) "more" = some (some (.ref fMO)))
    (iMO : PySem.W.isFn K (.ref fMO) = true)
    (lMO : K.lookup fMO = some ⟨ocMO, odMO, .func (PySem.W.fnOf "more" "Reader.more" (defArgs sMore) (defBody sMore) (defScope sMore) .none kVMO dcMO pmMO anMO cdMO ctMO), slMO⟩)
    (cMO : PySem.W.codeIn K cdMO "Reader.more" = true)
    (kMO : PySem.W.keepIn K (.ref fMO) = true)
    (aNU : PySem.W.findIn K (.ref CR) "number" = some (some (.ref fNU)))
    (iNU : PySem.W.isFn K (.ref fNU) = true)
    (lNU : K.lookup fNU = some ⟨ocNU, odNU, .func (PySem.W.fnOf "number" "Reader.number" (defArgs sNum) (defBody sNum) (defScope sNum) .none kVNU dcNU pmNU anNU cdNU ctNU), slNU⟩)
    (cNU : PySem.W.codeIn K cdNU "Reader.number" = true)
    (kNU : PySem.W.keepIn K (.ref fNU) = true)
    (aRO : PySem.W.findIn K (.ref CR) "row" = some (some (.ref fRO)))
    (iRO : PySem.W.isFn K (.ref fRO) = true)
    (lRO : K.lookup fRO = some ⟨ocRO, odRO, .func (PySem.W.fnOf "row" "Reader.row" (defArgs sRow) (defBody sRow) (defScope sRow) .none kVRO dcRO pmRO anRO cdRO ctRO), slRO⟩)
    (cRO : PySem.W.codeIn K cdRO "Reader.row" = true)
    (kRO : PySem.W.keepIn K (.ref fRO) = true)
    (aLP : PySem.W.nsIn K mainGlobals "last_point" = some (some (.ref fLP)))
    (lLP : K.lookup fLP = some ⟨ocLP, odLP, .func (PySem.W.fnOf "last_point" "last_point" (defArgs sLast) (defBody sLast) (defScope sLast) .none kVLP dcLP pmLP anLP cdLP ctLP), slLP⟩)
    (cLP : PySem.W.codeIn K cdLP "last_point" = true)
    (kLP : PySem.W.keepIn K (.ref fLP) = true)
    (aST : PySem.W.nsIn K mainGlobals "station" = some (some (.ref fST)))
    (lST : K.lookup fST = some ⟨ocST, odST, .func (PySem.W.fnOf "station" "station" (defArgs sSta) (defBody sSta) (defScope sSta) .none kVST dcST pmST anST cdST ctST), slST⟩)
    (cST : PySem.W.codeIn K cdST "station" = true)
    (kST : PySem.W.keepIn K (.ref fST) = true)
    (aPL : PySem.W.nsIn K mainGlobals "places_of" = some (some (.ref fPL)))
    (lPL : K.lookup fPL = some ⟨ocPL, odPL, .func (PySem.W.fnOf "places_of" "places_of" (defArgs sPla) (defBody sPla) (defScope sPla) .none kVPL dcPL pmPL anPL cdPL ctPL), slPL⟩)
    (cPL : PySem.W.codeIn K cdPL "places_of" = true)
    (kPL : PySem.W.keepIn K (.ref fPL) = true)
    (aHE : PySem.W.nsIn K mainGlobals "height_between" = some (some (.ref fHE)))
    (lHE : K.lookup fHE = some ⟨ocHE, odHE, .func (PySem.W.fnOf "height_between" "height_between" (defArgs sHei) (defBody sHei) (defScope sHei) .none kVHE dcHE pmHE anHE cdHE ctHE), slHE⟩)
    (cHE : PySem.W.codeIn K cdHE "height_between" = true)
    (kHE : PySem.W.keepIn K (.ref fHE) = true)
    (aIL : PySem.W.nsIn K mainGlobals "is_too_low" = some (some (.ref fIL)))
    (lIL : K.lookup fIL = some ⟨ocIL, odIL, .func (PySem.W.fnOf "is_too_low" "is_too_low" (defArgs sIsLow) (defBody sIsLow) (defScope sIsLow) .none kVIL dcIL pmIL anIL cdIL ctIL), slIL⟩)
    (cIL : PySem.W.codeIn K cdIL "is_too_low" = true)
    (kIL : PySem.W.keepIn K (.ref fIL) = true)
    (aLO : PySem.W.nsIn K mainGlobals "first_too_low" = some (some (.ref fLO)))
    (lLO : K.lookup fLO = some ⟨ocLO, odLO, .func (PySem.W.fnOf "first_too_low" "first_too_low" (defArgs sLow) (defBody sLow) (defScope sLow) .none kVLO dcLO pmLO anLO cdLO ctLO), slLO⟩)
    (cLO : PySem.W.codeIn K cdLO "first_too_low" = true)
    (kLO : PySem.W.keepIn K (.ref fLO) = true)
    (aLF : PySem.W.nsIn K mainGlobals "first_lifting" = some (some (.ref fLF)))
    (lLF : K.lookup fLF = some ⟨ocLF, odLF, .func (PySem.W.fnOf "first_lifting" "first_lifting" (defArgs sLift) (defBody sLift) (defScope sLift) .none kVLF dcLF pmLF anLF cdLF ctLF), slLF⟩)
    (cLF : PySem.W.codeIn K cdLF "first_lifting" = true)
    (kLF : PySem.W.keepIn K (.ref fLF) = true)
    (aRT : PySem.W.nsIn K mainGlobals "is_right" = some (some (.ref fRT)))
    (lRT : K.lookup fRT = some ⟨ocRT, odRT, .func (PySem.W.fnOf "is_right" "is_right" (defArgs sRight) (defBody sRight) (defScope sRight) .none kVRT dcRT pmRT anRT cdRT ctRT), slRT⟩)
    (cRT : PySem.W.codeIn K cdRT "is_right" = true)
    (kRT : PySem.W.keepIn K (.ref fRT) = true)
    (aGR : PySem.W.nsIn K mainGlobals "grown" = some (some (.ref fGR)))
    (lGR : K.lookup fGR = some ⟨ocGR, odGR, .func (PySem.W.fnOf "grown" "grown" (defArgs sGrown) (defBody sGrown) (defScope sGrown) .none kVGR dcGR pmGR anGR cdGR ctGR), slGR⟩)
    (cGR : PySem.W.codeIn K cdGR "grown" = true)
    (kGR : PySem.W.keepIn K (.ref fGR) = true)
    (aPS : PySem.W.nsIn K mainGlobals "right_plans" = some (some (.ref fPS)))
    (lPS : K.lookup fPS = some ⟨ocPS, odPS, .func (PySem.W.fnOf "right_plans" "right_plans" (defArgs sPlans) (defBody sPlans) (defScope sPlans) .none kVPS dcPS pmPS anPS cdPS ctPS), slPS⟩)
    (cPS : PySem.W.codeIn K cdPS "right_plans" = true)
    (kPS : PySem.W.keepIn K (.ref fPS) = true)
    (aCO : PySem.W.nsIn K mainGlobals "cost_and_supports" = some (some (.ref fCO)))
    (lCO : K.lookup fCO = some ⟨ocCO, odCO, .func (PySem.W.fnOf "cost_and_supports" "cost_and_supports" (defArgs sCost) (defBody sCost) (defScope sCost) .none kVCO dcCO pmCO anCO cdCO ctCO), slCO⟩)
    (cCO : PySem.W.codeIn K cdCO "cost_and_supports" = true)
    (kCO : PySem.W.keepIn K (.ref fCO) = true)
    (aLE : PySem.W.nsIn K mainGlobals "least_tall" = some (some (.ref fLE)))
    (lLE : K.lookup fLE = some ⟨ocLE, odLE, .func (PySem.W.fnOf "least_tall" "least_tall" (defArgs sLeast) (defBody sLeast) (defScope sLeast) .none kVLE dcLE pmLE anLE cdLE ctLE), slLE⟩)
    (cLE : PySem.W.codeIn K cdLE "least_tall" = true)
    (kLE : PySem.W.keepIn K (.ref fLE) = true)
    (aTE : PySem.W.nsIn K mainGlobals "lowest_terms" = some (some (.ref fTE)))
    (lTE : K.lookup fTE = some ⟨ocTE, odTE, .func (PySem.W.fnOf "lowest_terms" "lowest_terms" (defArgs sTerms) (defBody sTerms) (defScope sTerms) .none kVTE dcTE pmTE anTE cdTE ctTE), slTE⟩)
    (cTE : PySem.W.codeIn K cdTE "lowest_terms" = true)
    (kTE : PySem.W.keepIn K (.ref fTE) = true)
    (aRH : PySem.W.nsIn K mainGlobals "rope_height" = some (some (.ref fRH)))
    (lRH : K.lookup fRH = some ⟨ocRH, odRH, .func (PySem.W.fnOf "rope_height" "rope_height" (defArgs sRopeH) (defBody sRopeH) (defScope sRopeH) .none kVRH dcRH pmRH anRH cdRH ctRH), slRH⟩)
    (cRH : PySem.W.codeIn K cdRH "rope_height" = true)
    (kRH : PySem.W.keepIn K (.ref fRH) = true)
    (aFI : PySem.W.nsIn K mainGlobals "fits_line" = some (some (.ref fFI)))
    (lFI : K.lookup fFI = some ⟨ocFI, odFI, .func (PySem.W.fnOf "fits_line" "fits_line" (defArgs sFits) (defBody sFits) (defScope sFits) .none kVFI dcFI pmFI anFI cdFI ctFI), slFI⟩)
    (cFI : PySem.W.codeIn K cdFI "fits_line" = true)
    (kFI : PySem.W.keepIn K (.ref fFI) = true)
    (aGD : PySem.W.nsIn K mainGlobals "ground_as_told" = some (some (.ref fGD)))
    (lGD : K.lookup fGD = some ⟨ocGD, odGD, .func (PySem.W.fnOf "ground_as_told" "ground_as_told" (defArgs sGround) (defBody sGround) (defScope sGround) .none kVGD dcGD pmGD anGD cdGD ctGD), slGD⟩)
    (cGD : PySem.W.codeIn K cdGD "ground_as_told" = true)
    (kGD : PySem.W.keepIn K (.ref fGD) = true)
    (aBG : PySem.W.nsIn K mainGlobals "answer_begins" = some (some (.ref fBG)))
    (lBG : K.lookup fBG = some ⟨ocBG, odBG, .func (PySem.W.fnOf "answer_begins" "answer_begins" (defArgs sBegins) (defBody sBegins) (defScope sBegins) .none kVBG dcBG pmBG anBG cdBG ctBG), slBG⟩)
    (cBG : PySem.W.codeIn K cdBG "answer_begins" = true)
    (kBG : PySem.W.keepIn K (.ref fBG) = true)
    (aBE : PySem.W.nsIn K mainGlobals "answer_best" = some (some (.ref fBE)))
    (lBE : K.lookup fBE = some ⟨ocBE, odBE, .func (PySem.W.fnOf "answer_best" "answer_best" (defArgs sBest) (defBody sBest) (defScope sBest) .none kVBE dcBE pmBE anBE cdBE ctBE), slBE⟩)
    (cBE : PySem.W.codeIn K cdBE "answer_best" = true)
    (kBE : PySem.W.keepIn K (.ref fBE) = true)
    (aCH : PySem.W.nsIn K mainGlobals "answer_check" = some (some (.ref fCH)))
    (lCH : K.lookup fCH = some ⟨ocCH, odCH, .func (PySem.W.fnOf "answer_check" "answer_check" (defArgs sCheck) (defBody sCheck) (defScope sCheck) .none kVCH dcCH pmCH anCH cdCH ctCH), slCH⟩)
    (cCH : PySem.W.codeIn K cdCH "answer_check" = true)
    (kCH : PySem.W.keepIn K (.ref fCH) = true)
    (aTA : PySem.W.nsIn K mainGlobals "answer_tallest" = some (some (.ref fTA)))
    (lTA : K.lookup fTA = some ⟨ocTA, odTA, .func (PySem.W.fnOf "answer_tallest" "answer_tallest" (defArgs sTall) (defBody sTall) (defScope sTall) .none kVTA dcTA pmTA anTA cdTA ctTA), slTA⟩)
    (cTA : PySem.W.codeIn K cdTA "answer_tallest" = true)
    (kTA : PySem.W.keepIn K (.ref fTA) = true)
    (aRP : PySem.W.nsIn K mainGlobals "answer_rope" = some (some (.ref fRP)))
    (lRP : K.lookup fRP = some ⟨ocRP, odRP, .func (PySem.W.fnOf "answer_rope" "answer_rope" (defArgs sRope) (defBody sRope) (defScope sRope) .none kVRP dcRP pmRP anRP cdRP ctRP), slRP⟩)
    (cRP : PySem.W.codeIn K cdRP "answer_rope" = true)
    (kRP : PySem.W.keepIn K (.ref fRP) = true)
    (aCA : PySem.W.nsIn K mainGlobals "answer_call" = some (some (.ref fCA)))
    (lCA : K.lookup fCA = some ⟨ocCA, odCA, .func (PySem.W.fnOf "answer_call" "answer_call" (defArgs sCall) (defBody sCall) (defScope sCall) .none kVCA dcCA pmCA anCA cdCA ctCA), slCA⟩)
    (cCA : PySem.W.codeIn K cdCA "answer_call" = true)
    (kCA : PySem.W.keepIn K (.ref fCA) = true)
    (aAN : PySem.W.nsIn K mainGlobals "answers" = some (some (.ref fAN)))
    (lAN : K.lookup fAN = some ⟨ocAN, odAN, .func (PySem.W.fnOf "answers" "answers" (defArgs sAns) (defBody sAns) (defScope sAns) .none kVAN dcAN pmAN anAN cdAN ctAN), slAN⟩)
    (cAN : PySem.W.codeIn K cdAN "answers" = true)
    (kAN : PySem.W.keepIn K (.ref fAN) = true)
    (pgCL : PySem.W.plainGet K CL Str.empty = true)
    (hdCL : PySem.W.hasDictIn K CL = true)
    (poCL : PySem.W.plainOver K CL = true)
    (saCL : PySem.W.findIn K (.ref CL) "__setattr__" = some (some (.builtin "object.__setattr__")))
    (mkCL : PySem.W.makesIn K CL = true)
    (kcCL : PySem.W.keepIn K (.ref CL) = true)
    (pgCR : PySem.W.plainGet K CR Str.empty = true)
    (hdCR : PySem.W.hasDictIn K CR = true)
    (poCR : PySem.W.plainOver K CR = true)
    (saCR : PySem.W.findIn K (.ref CR) "__setattr__" = some (some (.builtin "object.__setattr__")))
    (mkCR : PySem.W.makesIn K CR = true)
    (kcCR : PySem.W.keepIn K (.ref CR) = true)
    (nc : PySem.W.findIn K (.ref CL) "clearance" = some none)
    (nt : PySem.W.findIn K (.ref CL) "tall" = some none)
    (ne : PySem.W.findIn K (.ref CL) "each" = some none)
    (nu : PySem.W.findIn K (.ref CL) "unit" = some none)
    (ng : PySem.W.findIn K (.ref CL) "ground" = some none)
    (nn : PySem.W.findIn K (.ref CR) "numbers" = some none)
    (na : PySem.W.findIn K (.ref CR) "at" = some none)
    (z_len : PySem.W.nsIn K mainGlobals "len" = some none)
    (z_range : PySem.W.nsIn K mainGlobals "range" = some none)
    (z_enumerate : PySem.W.nsIn K mainGlobals "enumerate" = some none)
    (z_sum : PySem.W.nsIn K mainGlobals "sum" = some none)
    (z_all : PySem.W.nsIn K mainGlobals "all" = some none)
    (z_min : PySem.W.nsIn K mainGlobals "min" = some none)
    (v_BEGINS : PySem.W.nsIn K mainGlobals "BEGINS" = some (some (.int 0 t_BEGINS)))
    (v_BEST : PySem.W.nsIn K mainGlobals "BEST" = some (some (.int 1 t_BEST)))
    (v_CHECK : PySem.W.nsIn K mainGlobals "CHECK" = some (some (.int 2 t_CHECK)))
    (v_TALLEST : PySem.W.nsIn K mainGlobals "TALLEST" = some (some (.int 3 t_TALLEST)))
    (v_NOT_AS_TOLD : PySem.W.nsIn K mainGlobals "NOT_AS_TOLD" = some (some (.int (-1) t_NOT_AS_TOLD)))
    (v_TOO_LOW : PySem.W.nsIn K mainGlobals "TOO_LOW" = some (some (.int (-6) t_TOO_LOW)))
    (v_NO_RIGHT_PLAN : PySem.W.nsIn K mainGlobals "NO_RIGHT_PLAN" = some (some (.int (-6) t_NO_RIGHT_PLAN)))
    (v_LIFTS : PySem.W.nsIn K mainGlobals "LIFTS" = some (some (.int (-7) t_LIFTS)))
    (v_FEWEST_POINTS : PySem.W.nsIn K mainGlobals "FEWEST_POINTS" = some (some (.int 2 t_FEWEST_POINTS)))
    (v_MOST_POINTS : PySem.W.nsIn K mainGlobals "MOST_POINTS" = some (some (.int 8 t_MOST_POINTS)))
    (v_MOST_CLEAR : PySem.W.nsIn K mainGlobals "MOST_CLEAR" = some (some (.int 4 t_MOST_CLEAR)))
    (v_MOST_TALL : PySem.W.nsIn K mainGlobals "MOST_TALL" = some (some (.int 4 t_MOST_TALL)))
    (v_MOST_COST : PySem.W.nsIn K mainGlobals "MOST_COST" = some (some (.int 100 t_MOST_COST)))
    (v_MOST_GROUND : PySem.W.nsIn K mainGlobals "MOST_GROUND" = some (some (.int 9 t_MOST_GROUND))) :
    ∃ fd : FuncData, (∀ (s : Shared) (us : List Value), us.length = (["calls"] : List Str).length → BindsTo s fd ⟨us, []⟩ ((["calls"] : List Str).zip us)) ∧ ∀ base : Heap, K.In base → base.Ns mainGlobals mg → FnOk P w K mg base CX0 10 fa fd ["calls"] (spAns K) := by
  have e := hfa.symm.trans (PySem.W.mg_of X G aAN)
  cases e
  have T : Txt K mg CL CR := { cL := ⟨pgCL, hdCL, poCL, saCL⟩, cR := ⟨pgCR, hdCR, poCR, saCR⟩, nc := nc, nt := nt, ne := ne, nu := nu, ng := ng, nn := nn, na := na, len := PySem.W.mg_none_of X G z_len, range := PySem.W.mg_none_of X G z_range, enumerate := PySem.W.mg_none_of X G z_enumerate, sum := PySem.W.mg_none_of X G z_sum, all := PySem.W.mg_none_of X G z_all, min := PySem.W.mg_none_of X G z_min, begins := ⟨_, PySem.W.mg_of X G v_BEGINS⟩, best := ⟨_, PySem.W.mg_of X G v_BEST⟩, check := ⟨_, PySem.W.mg_of X G v_CHECK⟩, tallest := ⟨_, PySem.W.mg_of X G v_TALLEST⟩, not := ⟨_, PySem.W.mg_of X G v_NOT_AS_TOLD⟩, low := ⟨_, PySem.W.mg_of X G v_TOO_LOW⟩, noright := ⟨_, PySem.W.mg_of X G v_NO_RIGHT_PLAN⟩, lifts := ⟨_, PySem.W.mg_of X G v_LIFTS⟩, few := ⟨_, PySem.W.mg_of X G v_FEWEST_POINTS⟩, most := ⟨_, PySem.W.mg_of X G v_MOST_POINTS⟩, mclear := ⟨_, PySem.W.mg_of X G v_MOST_CLEAR⟩, mtall := ⟨_, PySem.W.mg_of X G v_MOST_TALL⟩, mcost := ⟨_, PySem.W.mg_of X G v_MOST_COST⟩, mground := ⟨_, PySem.W.mg_of X G v_MOST_GROUND⟩ }
  have FLI := fun_mk (st := sLInit) lLI cLI kLI
  have bLI := FLI.binds (ps := ["self"]) fun _ _ _ _ _ _ us hl => match us, hl with | [_], _ => rfl
  have FRI := fun_mk (st := sRInit) lRI cRI kRI
  have bRI := FRI.binds (ps := ["self", "numbers"]) fun _ _ _ _ _ _ us hl => match us, hl with | [_, _], _ => rfl
  have FMO := fun_mk (st := sMore) lMO cMO kMO
  have bMO := FMO.binds (ps := ["self"]) fun _ _ _ _ _ _ us hl => match us, hl with | [_], _ => rfl
  have FNU := fun_mk (st := sNum) lNU cNU kNU
  have bNU := FNU.binds (ps := ["self"]) fun _ _ _ _ _ _ us hl => match us, hl with | [_], _ => rfl
  have FRO := fun_mk (st := sRow) lRO cRO kRO
  have bRO := FRO.binds (ps := ["self"]) fun _ _ _ _ _ _ us hl => match us, hl with | [_], _ => rfl
  have FLP := fun_mk (st := sLast) lLP cLP kLP
  have bLP := FLP.binds (ps := ["line"]) fun _ _ _ _ _ _ us hl => match us, hl with | [_], _ => rfl
  have FST := fun_mk (st := sSta) lST cST kST
  have bST := FST.binds (ps := ["line", "point"]) fun _ _ _ _ _ _ us hl => match us, hl with | [_, _], _ => rfl
  have FPL := fun_mk (st := sPla) lPL cPL kPL
  have bPL := FPL.binds (ps := ["line", "plan"]) fun _ _ _ _ _ _ us hl => match us, hl with | [_, _], _ => rfl
  have FHE := fun_mk (st := sHei) lHE cHE kHE
  have bHE := FHE.binds (ps := ["before", "behind", "point"]) fun _ _ _ _ _ _ us hl => match us, hl with | [_, _, _], _ => rfl
  have FIL := fun_mk (st := sIsLow) lIL cIL kIL
  have bIL := FIL.binds (ps := ["line", "before", "behind", "point"]) fun _ _ _ _ _ _ us hl => match us, hl with | [_, _, _, _], _ => rfl
  have FLO := fun_mk (st := sLow) lLO cLO kLO
  have bLO := FLO.binds (ps := ["line", "places"]) fun _ _ _ _ _ _ us hl => match us, hl with | [_, _], _ => rfl
  have FLF := fun_mk (st := sLift) lLF cLF kLF
  have bLF := FLF.binds (ps := ["places"]) fun _ _ _ _ _ _ us hl => match us, hl with | [_], _ => rfl
  have FRT := fun_mk (st := sRight) lRT cRT kRT
  have bRT := FRT.binds (ps := ["line", "plan"]) fun _ _ _ _ _ _ us hl => match us, hl with | [_, _], _ => rfl
  have FGR := fun_mk (st := sGrown) lGR cGR kGR
  have bGR := FGR.binds (ps := ["line", "plans", "tall"]) fun _ _ _ _ _ _ us hl => match us, hl with | [_, _, _], _ => rfl
  have FPS := fun_mk (st := sPlans) lPS cPS kPS
  have bPS := FPS.binds (ps := ["line", "tall"]) fun _ _ _ _ _ _ us hl => match us, hl with | [_, _], _ => rfl
  have FCO := fun_mk (st := sCost) lCO cCO kCO
  have bCO := FCO.binds (ps := ["line", "plan"]) fun _ _ _ _ _ _ us hl => match us, hl with | [_, _], _ => rfl
  have FLE := fun_mk (st := sLeast) lLE cLE kLE
  have bLE := FLE.binds (ps := ["line", "most"]) fun _ _ _ _ _ _ us hl => match us, hl with | [_, _], _ => rfl
  have FTE := fun_mk (st := sTerms) lTE cTE kTE
  have bTE := FTE.binds (ps := ["above", "below"]) fun _ _ _ _ _ _ us hl => match us, hl with | [_, _], _ => rfl
  have FRH := fun_mk (st := sRopeH) lRH cRH kRH
  have bRH := FRH.binds (ps := ["places", "point"]) fun _ _ _ _ _ _ us hl => match us, hl with | [_, _], _ => rfl
  have FFI := fun_mk (st := sFits) lFI cFI kFI
  have bFI := FFI.binds (ps := ["line", "plan"]) fun _ _ _ _ _ _ us hl => match us, hl with | [_, _], _ => rfl
  have FGD := fun_mk (st := sGround) lGD cGD kGD
  have bGD := FGD.binds (ps := ["ground"]) fun _ _ _ _ _ _ us hl => match us, hl with | [_], _ => rfl
  have FBG := fun_mk (st := sBegins) lBG cBG kBG
  have bBG := FBG.binds (ps := ["line", "reader"]) fun _ _ _ _ _ _ us hl => match us, hl with | [_, _], _ => rfl
  have FBE := fun_mk (st := sBest) lBE cBE kBE
  have bBE := FBE.binds (ps := ["line"]) fun _ _ _ _ _ _ us hl => match us, hl with | [_], _ => rfl
  have FCH := fun_mk (st := sCheck) lCH cCH kCH
  have bCH := FCH.binds (ps := ["line", "reader"]) fun _ _ _ _ _ _ us hl => match us, hl with | [_, _], _ => rfl
  have FTA := fun_mk (st := sTall) lTA cTA kTA
  have bTA := FTA.binds (ps := ["line"]) fun _ _ _ _ _ _ us hl => match us, hl with | [_], _ => rfl
  have FRP := fun_mk (st := sRope) lRP cRP kRP
  have bRP := FRP.binds (ps := ["line", "reader"]) fun _ _ _ _ _ _ us hl => match us, hl with | [_, _], _ => rfl
  have FCA := fun_mk (st := sCall) lCA cCA kCA
  have bCA := FCA.binds (ps := ["line", "reader"]) fun _ _ _ _ _ _ us hl => match us, hl with | [_, _], _ => rfl
  have FAN := fun_mk (st := sAns) lAN cAN kAN
  refine ⟨PySem.W.fnOf "answers" "answers" (defArgs sAns) (defBody sAns) (defScope sAns) .none kVAN dcAN pmAN anAN cdAN ctAN, fun s us hu => match us, hu with | [_], _ => .of_eq rfl, fun base _ _ => ?_⟩
  have DMO : Mtd P w K mg base CR "more" 1 ["self"] (spMore K CR) := ⟨fMO, _, ok_more FMO T, ⟨aMO, iMO, kMO⟩, bMO⟩
  have DNU : Mtd P w K mg base CR "number" 1 ["self"] (spNum K CR) := ⟨fNU, _, ok_num FNU T, ⟨aNU, iNU, kNU⟩, bNU⟩
  have DRO : Mtd P w K mg base CR "row" 2 ["self"] (spRow K CR) := ⟨fRO, _, ok_row FRO T DNU, ⟨aRO, iRO, kRO⟩, bRO⟩
  have DLP : Dk P w K mg base "last_point" 1 ["line"] (spLast CL) := ⟨fLP, _, ok_last FLP T, PySem.W.mg_of X G aLP, kLP, bLP⟩
  have DST : Dk P w K mg base "station" 1 ["line", "point"] (spSta CL) := ⟨fST, _, ok_sta FST T, PySem.W.mg_of X G aST, kST, bST⟩
  have DPL : Dk P w K mg base "places_of" 2 ["line", "plan"] (spPla CL) := ⟨fPL, _, ok_pla FPL T DLP DST, PySem.W.mg_of X G aPL, kPL, bPL⟩
  have DHE : Dk P w K mg base "height_between" 1 ["before", "behind", "point"] spHei := ⟨fHE, _, ok_hei FHE T, PySem.W.mg_of X G aHE, kHE, bHE⟩
  have DIL : Dk P w K mg base "is_too_low" 2 ["line", "before", "behind", "point"] (spIsLow CL) := ⟨fIL, _, ok_islow FIL T DHE, PySem.W.mg_of X G aIL, kIL, bIL⟩
  have DLO : Dk P w K mg base "first_too_low" 3 ["line", "places"] (spLow CL) := ⟨fLO, _, ok_low FLO T DIL, PySem.W.mg_of X G aLO, kLO, bLO⟩
  have DLF : Dk P w K mg base "first_lifting" 2 ["places"] spLift := ⟨fLF, _, ok_lift FLF T DHE, PySem.W.mg_of X G aLF, kLF, bLF⟩
  have DRT : Dk P w K mg base "is_right" 4 ["line", "plan"] (spRight CL) := ⟨fRT, _, ok_right FRT T DPL DLO DLF, PySem.W.mg_of X G aRT, kRT, bRT⟩
  have DGR : Dk P w K mg base "grown" 5 ["line", "plans", "tall"] (spGrown CL) := ⟨fGR, _, ok_grown FGR T DRT, PySem.W.mg_of X G aGR, kGR, bGR⟩
  have DPS : Dk P w K mg base "right_plans" 6 ["line", "tall"] (spPlans CL) := ⟨fPS, _, ok_plans FPS T DLP DGR, PySem.W.mg_of X G aPS, kPS, bPS⟩
  have DCO : Dk P w K mg base "cost_and_supports" 1 ["line", "plan"] (spCost CL) := ⟨fCO, _, ok_cost FCO T, PySem.W.mg_of X G aCO, kCO, bCO⟩
  have DLE : Dk P w K mg base "least_tall" 7 ["line", "most"] (spLeast CL) := ⟨fLE, _, ok_least FLE T DPS, PySem.W.mg_of X G aLE, kLE, bLE⟩
  have DTE : Dk P w K mg base "lowest_terms" 1 ["above", "below"] spTerms := ⟨fTE, _, ok_terms FTE T, PySem.W.mg_of X G aTE, kTE, bTE⟩
  have DRH : Dk P w K mg base "rope_height" 2 ["places", "point"] spRopeH := ⟨fRH, _, ok_ropeh FRH T DHE, PySem.W.mg_of X G aRH, kRH, bRH⟩
  have DFI : Dk P w K mg base "fits_line" 2 ["line", "plan"] (spFits CL) := ⟨fFI, _, ok_fits FFI T DLP, PySem.W.mg_of X G aFI, kFI, bFI⟩
  have DGD : Dk P w K mg base "ground_as_told" 1 ["ground"] spGround := ⟨fGD, _, ok_ground FGD T, PySem.W.mg_of X G aGD, kGD, bGD⟩
  have DBG : Dk P w K mg base "answer_begins" 3 ["line", "reader"] (spBegins K CL CR) := ⟨fBG, _, ok_begins FBG T DNU DRO DGD, PySem.W.mg_of X G aBG, kBG, bBG⟩
  have DBE : Dk P w K mg base "answer_best" 7 ["line"] (spBest CL) := ⟨fBE, _, ok_best FBE T DPS DCO, PySem.W.mg_of X G aBE, kBE, bBE⟩
  have DCH : Dk P w K mg base "answer_check" 4 ["line", "reader"] (spCheck K CL CR) := ⟨fCH, _, ok_check FCH T DRO DFI DPL DLO DLF DCO, PySem.W.mg_of X G aCH, kCH, bCH⟩
  have DTA : Dk P w K mg base "answer_tallest" 8 ["line"] (spTall CL) := ⟨fTA, _, ok_tall FTA T DLE, PySem.W.mg_of X G aTA, kTA, bTA⟩
  have DRP : Dk P w K mg base "answer_rope" 3 ["line", "reader"] (spRope K CL CR) := ⟨fRP, _, ok_rope FRP T DNU DRO DFI DLP DPL DRH DTE, PySem.W.mg_of X G aRP, kRP, bRP⟩
  have DCA : Dk P w K mg base "answer_call" 9 ["line", "reader"] (spCall K CL CR) := ⟨fCA, _, ok_call FCA T DNU DBG DBE DCH DTA DRP, PySem.W.mg_of X G aCA, kCA, bCA⟩
  exact ok_ans FAN T ⟨mkCL, aLI, iLI, kcCL⟩ (ok_linit FLI T) bLI (PySem.W.mg_of X G aCL) ⟨mkCR, aRI, iRI, kcCR⟩ (ok_rinit FRI T) bRI (PySem.W.mg_of X G aCR) DMO DCA
end Hd

end
open PySem PySem.W PyProof.Rows
set_option maxRecDepth 100000 in
set_option maxHeartbeats 0 in
theorem PySem.Challenge.cw_ropeline_s01_answers_holds : PySem.Challenge.rw_ropeline_s01_answers.Holds := by
  w_on; k_headS; (case hw => exact ⟨[.list [.int 1]], by decide +kernel, by decide +kernel⟩)
  k_fillS
  refine L2.walk_specK (r := PySem.Challenge.rw_ropeline_s01_answers) (k := 10) (CX := L2.CX0) (ps := ["calls"]) (sp := Hd.spAns) (by decide +kernel) rfl rfl ⟨rfl, by decide, by decide⟩ (fun w h Y => PySem.W.kIn_of Y) ?F ?S (fun _ _ _ _ z => z)
  case F =>
    intro w mg fa h Y KX G hmg
    refine' Hd.all_mk KX G hmg ?aCL ?aCR ?aLI ?iLI ?lLI ?cLI ?kLI ?aRI ?iRI ?lRI ?cRI ?kRI ?aMO ?iMO ?lMO ?cMO ?kMO ?aNU ?iNU ?lNU ?cNU ?kNU ?aRO ?iRO ?lRO ?cRO ?kRO ?aLP ?lLP ?cLP ?kLP ?aST ?lST ?cST ?kST ?aPL ?lPL ?cPL ?kPL ?aHE ?lHE ?cHE ?kHE ?aIL ?lIL ?cIL ?kIL ?aLO ?lLO ?cLO ?kLO ?aLF ?lLF ?cLF ?kLF ?aRT ?lRT ?cRT ?kRT ?aGR ?lGR ?cGR ?kGR ?aPS ?lPS ?cPS ?kPS ?aCO ?lCO ?cCO ?kCO ?aLE ?lLE ?cLE ?kLE ?aTE ?lTE ?cTE ?kTE ?aRH ?lRH ?cRH ?kRH ?aFI ?lFI ?cFI ?kFI ?aGD ?lGD ?cGD ?kGD ?aBG ?lBG ?cBG ?kBG ?aBE ?lBE ?cBE ?kBE ?aCH ?lCH ?cCH ?kCH ?aTA ?lTA ?cTA ?kTA ?aRP ?lRP ?cRP ?kRP ?aCA ?lCA ?cCA ?kCA ?aAN ?lAN ?cAN ?kAN ?pgCL ?hdCL ?poCL ?saCL ?mkCL ?kcCL ?pgCR ?hdCR ?poCR ?saCR ?mkCR ?kcCR ?nc ?nt ?ne ?nu ?ng ?nn ?na ?z_len ?z_range ?z_enumerate ?z_sum ?z_all ?z_min ?v_BEGINS ?v_BEST ?v_CHECK ?v_TALLEST ?v_NOT_AS_TOLD ?v_TOO_LOW ?v_NO_RIGHT_PLAN ?v_LIFTS ?v_FEWEST_POINTS ?v_MOST_POINTS ?v_MOST_CLEAR ?v_MOST_TALL ?v_MOST_COST ?v_MOST_GROUND
    (case aCL => k_is)
    (case aCR => k_is)
    (case aLI => k_is)
    (case iLI => k_is)
    (case lLI => k_is)
    (case cLI => k_is)
    (case kLI => k_is)
    (case aRI => k_is)
    (case iRI => k_is)
    (case lRI => k_is)
    (case cRI => k_is)
    (case kRI => k_is)
    (case aMO => k_is)
    (case iMO => k_is)
    (case lMO => k_is)
    (case cMO => k_is)
    (case kMO => k_is)
    (case aNU => k_is)
    (case iNU => k_is)
    (case lNU => k_is)
    (case cNU => k_is)
    (case kNU => k_is)
    (case aRO => k_is)
    (case iRO => k_is)
    (case lRO => k_is)
    (case cRO => k_is)
    (case kRO => k_is)
    (case aLP => k_is)
    (case lLP => k_is)
    (case cLP => k_is)
    (case kLP => k_is)
    (case aST => k_is)
    (case lST => k_is)
    (case cST => k_is)
    (case kST => k_is)
    (case aPL => k_is)
    (case lPL => k_is)
    (case cPL => k_is)
    (case kPL => k_is)
    (case aHE => k_is)
    (case lHE => k_is)
    (case cHE => k_is)
    (case kHE => k_is)
    (case aIL => k_is)
    (case lIL => k_is)
    (case cIL => k_is)
    (case kIL => k_is)
    (case aLO => k_is)
    (case lLO => k_is)
    (case cLO => k_is)
    (case kLO => k_is)
    (case aLF => k_is)
    (case lLF => k_is)
    (case cLF => k_is)
    (case kLF => k_is)
    (case aRT => k_is)
    (case lRT => k_is)
    (case cRT => k_is)
    (case kRT => k_is)
    (case aGR => k_is)
    (case lGR => k_is)
    (case cGR => k_is)
    (case kGR => k_is)
    (case aPS => k_is)
    (case lPS => k_is)
    (case cPS => k_is)
    (case kPS => k_is)
    (case aCO => k_is)
    (case lCO => k_is)
    (case cCO => k_is)
    (case kCO => k_is)
    (case aLE => k_is)
    (case lLE => k_is)
    (case cLE => k_is)
    (case kLE => k_is)
    (case aTE => k_is)
    (case lTE => k_is)
    (case cTE => k_is)
    (case kTE => k_is)
    (case aRH => k_is)
    (case lRH => k_is)
    (case cRH => k_is)
    (case kRH => k_is)
    (case aFI => k_is)
    (case lFI => k_is)
    (case cFI => k_is)
    (case kFI => k_is)
    (case aGD => k_is)
    (case lGD => k_is)
    (case cGD => k_is)
    (case kGD => k_is)
    (case aBG => k_is)
    (case lBG => k_is)
    (case cBG => k_is)
    (case kBG => k_is)
    (case aBE => k_is)
    (case lBE => k_is)
    (case cBE => k_is)
    (case kBE => k_is)
    (case aCH => k_is)
    (case lCH => k_is)
    (case cCH => k_is)
    (case kCH => k_is)
    (case aTA => k_is)
    (case lTA => k_is)
    (case cTA => k_is)
    (case kTA => k_is)
    (case aRP => k_is)
    (case lRP => k_is)
    (case cRP => k_is)
    (case kRP => k_is)
    (case aCA => k_is)
    (case lCA => k_is)
    (case cCA => k_is)
    (case kCA => k_is)
    (case aAN => k_is)
    (case lAN => k_is)
    (case cAN => k_is)
    (case kAN => k_is)
    (case pgCL => k_is)
    (case hdCL => k_is)
    (case poCL => k_is)
    (case saCL => k_is)
    (case mkCL => k_is)
    (case kcCL => k_is)
    (case pgCR => k_is)
    (case hdCR => k_is)
    (case poCR => k_is)
    (case saCR => k_is)
    (case mkCR => k_is)
    (case kcCR => k_is)
    (case nc => k_is)
    (case nt => k_is)
    (case ne => k_is)
    (case nu => k_is)
    (case ng => k_is)
    (case nn => k_is)
    (case na => k_is)
    (case z_len => k_is)
    (case z_range => k_is)
    (case z_enumerate => k_is)
    (case z_sum => k_is)
    (case z_all => k_is)
    (case z_min => k_is)
    (case v_BEGINS => k_is)
    (case v_BEST => k_is)
    (case v_CHECK => k_is)
    (case v_TALLEST => k_is)
    (case v_NOT_AS_TOLD => k_is)
    (case v_TOO_LOW => k_is)
    (case v_NO_RIGHT_PLAN => k_is)
    (case v_LIFTS => k_is)
    (case v_FEWEST_POINTS => k_is)
    (case v_MOST_POINTS => k_is)
    (case v_MOST_CLEAR => k_is)
    (case v_MOST_TALL => k_is)
    (case v_MOST_COST => k_is)
    (case v_MOST_GROUND => k_is)
  case S =>
    intro K H xs a hO hwi hask hx
    cases hx with
    | cons h1 h2 =>
      cases h2
      cases h1 with
      | lst hs ha =>
        have e := L2.ints_dw a.1 _ ha
        subst e
        have q : ((Codec.inLen 0 720 a.1 && a.1.all (Codec.inInt 0 4294967295)) && true) = true := hwi
        rw [Bool.and_eq_true, Bool.and_eq_true] at q
        exact ⟨_, a.1, rfl, hs, (Codec.inNat_iff.mp q.1.1).2, hask, fun H' p hp => .lst (L2.SqL.of hp) (L2.dw_ints _)⟩
#print axioms PySem.Challenge.cw_ropeline_s01_answers_holds

